import PyProof.Rows.All
import Wide.All
import OpenK.AllK
import Wide.FinOn
import HandS.ForMost
import HandS.Gcd
import HandS.Wide
import HandS.Flow
import HandS.IsInst
import HandS.Conv
import HandS.TupAny
import HandS.Steps
import HandS.RaiseMore
import HandS.TupMul
import HandS.Codes
import HandS.Style
import PyProof.Rows.IntBool
import PyProof.FactsAll.bool_2
import HandS.Deep
import KE.SortKeyed
import HandS.Walk
import PyProof.ReprLen
import PySem.Challenge.RW_twicecalls_k03_whole_fractions
set_option Elab.async false
set_option linter.all false
set_option maxRecDepth 100000
set_option maxHeartbeats 4000000
namespace Sim
open PySem L2

/-! ### values and the store of what may change -/
inductive D where
  | non | bl (b : Bool) | int (i : Int) | str (s : Str) | tup (xs : List D) | ref (n : Nat)
inductive O where
  | lst (xs : List D) | frz (xs : List D) | dct (kvs : List (Key × D))
abbrev Sto := List O
abbrev Rho := List Addr
abbrev Frg := PySem.W.Frag

mutual
inductive DR (K : Frg) (ρ : Rho) (H : Hp) : D → V → Prop
  | non : DR K ρ H .non .non
  | bl (b : Bool) : DR K ρ H (.bl b) (.bl b)
  | int (i : Int) : DR K ρ H (.int i) (.int i)
  | str (x : Str) : DR K ρ H (.str x) (.str x)
  | tup {a : Addr} {xs : List D} {vs : List V} : SqT K H a vs → DRs K ρ H xs vs → DR K ρ H (.tup xs) (.ref a)
  | ref {n : Nat} {a : Addr} : ρ[n]? = some a → DR K ρ H (.ref n) (.ref a)
inductive DRs (K : Frg) (ρ : Rho) (H : Hp) : List D → List V → Prop
  | nil : DRs K ρ H [] []
  | cons {d : D} {v : V} {ds : List D} {vs : List V} : DR K ρ H d v → DRs K ρ H ds vs → DRs K ρ H (d :: ds) (v :: vs)
end

/-- the heap grows: addresses stay, tuples stay -/
structure Gr (K : Frg) (ρ : Rho) (H : Hp) (ρ' : Rho) (H' : Hp) : Prop where
  rho : ∀ (n : Nat) (a : Addr), ρ[n]? = some a → ρ'[n]? = some a
  tup : ∀ (a : Addr) (vs : List V), SqT K H a vs → SqT K H' a vs
theorem Gr.refl (K : Frg) (ρ : Rho) (H : Hp) : Gr K ρ H ρ H := ⟨fun _ _ h => h, fun _ _ h => h⟩
theorem Gr.trans {K : Frg} {ρ ρ1 ρ2 : Rho} {H H1 H2 : Hp} (a : Gr K ρ H ρ1 H1) (b : Gr K ρ1 H1 ρ2 H2) : Gr K ρ H ρ2 H2 :=
  ⟨fun n x h => b.rho n x (a.rho n x h), fun n x h => b.tup n x (a.tup n x h)⟩

mutual
theorem DR.mono {K : Frg} {ρ ρ' : Rho} {H H' : Hp} (g : Gr K ρ H ρ' H') : ∀ {d : D} {v : V}, DR K ρ H d v → DR K ρ' H' d v
  | _, _, .non => .non
  | _, _, .bl b => .bl b
  | _, _, .int i => .int i
  | _, _, .str x => .str x
  | _, _, .tup s h => .tup (g.tup _ _ s) (DRs.mono g h)
  | _, _, .ref h => .ref (g.rho _ _ h)
theorem DRs.mono {K : Frg} {ρ ρ' : Rho} {H H' : Hp} (g : Gr K ρ H ρ' H') : ∀ {ds : List D} {vs : List V}, DRs K ρ H ds vs → DRs K ρ' H' ds vs
  | _, _, .nil => .nil
  | _, _, .cons h t => .cons (DR.mono g h) (DRs.mono g t)
end
section
variable {K : Frg} {ρ : Rho} {H : Hp}
theorem DRs.length : ∀ {ds : List D} {vs : List V}, DRs K ρ H ds vs → ds.length = vs.length
  | _, _, .nil => rfl
  | _, _, .cons _ t => congrArg Nat.succ (DRs.length t)
theorem DRs.app : ∀ {ds es : List D} {vs ws : List V}, DRs K ρ H ds vs → DRs K ρ H es ws → DRs K ρ H (ds ++ es) (vs ++ ws)
  | _, _, _, _, .nil, s => s
  | _, _, _, _, .cons h t, s => .cons h (DRs.app t s)
theorem DRs.get : ∀ {ds : List D} {vs : List V} {i : Nat} {d : D}, DRs K ρ H ds vs → ds[i]? = some d → ∃ v, vs[i]? = some v ∧ DR K ρ H d v
  | _, _, _, _, .nil, e => by simp at e
  | _, _, 0, _, .cons h _, e => by simp at e; subst e; exact ⟨_, rfl, h⟩
  | _, _, i + 1, _, .cons _ t, e => by
    obtain ⟨v, h1, h2⟩ := DRs.get (i := i) t (by simpa using e)
    exact ⟨v, by simpa using h1, h2⟩
theorem DRs.getV : ∀ {ds : List D} {vs : List V} {i : Nat} {v : V}, DRs K ρ H ds vs → vs[i]? = some v → ∃ d, ds[i]? = some d ∧ DR K ρ H d v
  | _, _, _, _, .nil, e => by simp at e
  | _, _, 0, _, .cons h _, e => by simp at e; subst e; exact ⟨_, rfl, h⟩
  | _, _, i + 1, _, .cons _ t, e => by
    obtain ⟨v, h1, h2⟩ := DRs.getV (i := i) t (by simpa using e)
    exact ⟨v, by simpa using h1, h2⟩
theorem DRs.drop : ∀ {ds : List D} {vs : List V} (n : Nat), DRs K ρ H ds vs → DRs K ρ H (ds.drop n) (vs.drop n)
  | _, _, 0, r => r
  | _, _, _ + 1, .nil => .nil
  | _, _, n + 1, .cons _ t => DRs.drop n t
theorem DRs.take : ∀ {ds : List D} {vs : List V} (n : Nat), DRs K ρ H ds vs → DRs K ρ H (ds.take n) (vs.take n)
  | _, _, 0, _ => .nil
  | _, _, _ + 1, .nil => .nil
  | _, _, n + 1, .cons r t => .cons r (DRs.take n t)
theorem DRs.set {x : D} {u : V} (r : DR K ρ H x u) : ∀ {ds : List D} {vs : List V} (i : Nat), DRs K ρ H ds vs → DRs K ρ H (ds.set i x) (vs.set i u)
  | _, _, _, .nil => .nil
  | _, _, 0, .cons _ t => .cons r t
  | _, _, i + 1, .cons q t => .cons q (DRs.set r i t)
theorem DRs.dropLast : ∀ {ds : List D} {vs : List V}, DRs K ρ H ds vs → DRs K ρ H ds.dropLast vs.dropLast
  | _, _, .nil => .nil
  | _, _, .cons _ .nil => .nil
  | _, _, .cons a (.cons b t) => .cons a (DRs.dropLast (.cons b t))
theorem DRs.reverse : ∀ {ds : List D} {vs : List V}, DRs K ρ H ds vs → DRs K ρ H ds.reverse vs.reverse
  | _, _, .nil => .nil
  | _, _, .cons h t => by
    rw [List.reverse_cons, List.reverse_cons]
    exact DRs.app (DRs.reverse t) (.cons h .nil)
theorem DRs.eraseIdx : ∀ {ds : List D} {vs : List V} (i : Nat), DRs K ρ H ds vs → DRs K ρ H (ds.eraseIdx i) (vs.eraseIdx i)
  | _, _, _, .nil => .nil
  | _, _, 0, .cons _ t => t
  | _, _, i + 1, .cons q t => .cons q (DRs.eraseIdx i t)
theorem DRs.ints : ∀ {ns : List Int} {vs : List V}, DRs K ρ H (ns.map D.int) vs → vs = ns.map V.int
  | [], _, h => by cases h; rfl
  | n :: ns, _, h => by
    cases h with
    | cons a t => cases a; rw [DRs.ints t]; rfl
end

/-! ### the store -/
def KSq (K : Frg) (a : Addr) (xs : List V) : Prop :=
  ∃ (o : Obj) (its : Array Value) (n : Nat), K.lookup a = some o ∧ o.cls = .type "list" ∧ o.dict = none ∧ o.data = .seq its n ∧ its.size ≤ sizeLine ∧ Vals xs its.toList
abbrev KDR (K : Frg) (ρ : Rho) (H : Hp) : List (Key × D) → List (Key × V) → Prop := Paired fun p q => p.1 = q.1 ∧ DR K ρ H p.2 q.2
def OR (K : Frg) (ρ : Rho) (H : Hp) : O → Addr → Prop
  | .lst xs, a => ∃ vs, H a = some (.lst vs) ∧ DRs K ρ H xs vs
  | .frz xs, a => ∃ vs, ((∃ o, H a = some (.frz o (.lst vs))) ∨ KSq K a vs) ∧ DRs K ρ H xs vs
  | .dct kvs, a => ∃ vs, H a = some (.dK vs) ∧ KDR K ρ H kvs vs
def O.mut : O → Bool
  | .frz _ => false
  | _ => true
structure SR (K : Frg) (ρ : Rho) (st : Sto) (H : Hp) : Prop where
  len : ρ.length = st.length
  at' : ∀ (n : Nat) (o : O) (a : Addr), st[n]? = some o → ρ[n]? = some a → OR K ρ H o a
  nd : ∀ (n m : Nat) (o o' : O) (a : Addr), st[n]? = some o → st[m]? = some o' → o.mut = true → o'.mut = true → ρ[n]? = some a → ρ[m]? = some a → n = m

theorem SR.addr {K : Frg} {ρ : Rho} {st : Sto} {H : Hp} (S : SR K ρ st H) {n : Nat} {o : O} (h : st[n]? = some o) : ∃ a, ρ[n]? = some a ∧ OR K ρ H o a := by
  have hl : n < ρ.length := by rw [S.len]; exact (List.getElem?_eq_some_iff.mp h).1
  exact ⟨ρ[n], List.getElem?_eq_getElem hl, S.at' n o _ h (List.getElem?_eq_getElem hl)⟩
theorem KDR.mono {K : Frg} {ρ ρ' : Rho} {H H' : Hp} (g : Gr K ρ H ρ' H') {l : List (Key × D)} {m : List (Key × V)} (h : KDR K ρ H l m) : KDR K ρ' H' l m :=
  Paired.mapP h fun _ _ z => ⟨z.1, z.2.mono g⟩

theorem sqT_new {K : Frg} {H : Hp} {p : Addr} {o : HO} (hp : H p = none) {a : Addr} {vs : List V} (h : SqT K H a vs) : SqT K (upd H p o) a vs := by
  rcases h with (h | ⟨u, h⟩) | h
  · exact .inl (.inl (by rw [upd_ne (ne_of_none h hp)]; exact h))
  · exact .inl (.inr ⟨u, by rw [upd_ne (ne_of_none h hp)]; exact h⟩)
  · exact .inr h
theorem Gr.new {K : Frg} {ρ : Rho} {H : Hp} {p : Addr} {o : HO} (hp : H p = none) : Gr K ρ H ρ (upd H p o) := ⟨fun _ _ h => h, fun _ _ h => sqT_new hp h⟩
/-- what may be stored at an address of the store -/
def isMu : HO → Bool
  | .lst _ => true
  | .dK _ => true
  | _ => false
theorem sqT_upd {K : Frg} {H : Hp} {p : Addr} {o u : HO} (hp : H p = some u) (hu : isMu u = true) {a : Addr} {vs : List V} (h : SqT K H a vs) : SqT K (upd H p o) a vs := by
  have ne : ∀ w, H a = some w → isMu w = false → a ≠ p := fun w hw hm e => by
    subst e; rw [hp] at hw; cases hw; rw [hu] at hm; cases hm
  rcases h with (h | ⟨w, h⟩) | h
  · exact .inl (.inl (by rw [upd_ne (ne _ h rfl)]; exact h))
  · exact .inl (.inr ⟨w, by rw [upd_ne (ne _ h rfl)]; exact h⟩)
  · exact .inr h
theorem Gr.upd {K : Frg} {ρ : Rho} {H : Hp} {p : Addr} {o u : HO} (hp : H p = some u) (hu : isMu u = true) : Gr K ρ H ρ (L2.upd H p o) := ⟨fun _ _ h => h, fun _ _ h => sqT_upd hp hu h⟩
theorem OR.new {K : Frg} {ρ : Rho} {H : Hp} {p : Addr} {u : HO} (hp : H p = none) {o : O} {a : Addr} (h : OR K ρ H o a) : OR K ρ (upd H p u) o a := by
  have g : Gr K ρ H ρ (upd H p u) := Gr.new hp
  cases o with
  | lst xs => obtain ⟨vs, e, r⟩ := h; exact ⟨vs, by rw [upd_ne (ne_of_none e hp)]; exact e, r.mono g⟩
  | frz xs =>
    obtain ⟨vs, e, r⟩ := h
    refine ⟨vs, ?_, r.mono g⟩
    rcases e with ⟨w, e⟩ | e
    · exact .inl ⟨w, by rw [upd_ne (ne_of_none e hp)]; exact e⟩
    · exact .inr e
  | dct kvs => obtain ⟨vs, e, r⟩ := h; exact ⟨vs, by rw [upd_ne (ne_of_none e hp)]; exact e, KDR.mono g r⟩
theorem OR.rho {K : Frg} {ρ ρ' : Rho} {H : Hp} (g : Gr K ρ H ρ' H) {o : O} {a : Addr} (h : OR K ρ H o a) : OR K ρ' H o a := by
  cases o with
  | lst xs => obtain ⟨vs, e, r⟩ := h; exact ⟨vs, e, r.mono g⟩
  | frz xs => obtain ⟨vs, e, r⟩ := h; exact ⟨vs, e, r.mono g⟩
  | dct kvs => obtain ⟨vs, e, r⟩ := h; exact ⟨vs, e, KDR.mono g r⟩
/-- a new immutable object -/
theorem SR.new {K : Frg} {ρ : Rho} {st : Sto} {H : Hp} (S : SR K ρ st H) {p : Addr} {u : HO} (hp : H p = none) : SR K ρ st (upd H p u) :=
  ⟨S.len, fun n o a h r => (S.at' n o a h r).new hp, S.nd⟩
theorem OR.some {K : Frg} {ρ : Rho} {H : Hp} {o : O} {a : Addr} (h : OR K ρ H o a) (m : o.mut = true) : ∃ u, H a = some u ∧ isMu u = true := by
  cases o with
  | lst xs => obtain ⟨vs, e, r⟩ := h; exact ⟨_, e, rfl⟩
  | frz xs => cases m
  | dct kvs => obtain ⟨vs, e, r⟩ := h; exact ⟨_, e, rfl⟩
theorem app_get {α : Type} {l : List α} {x y : α} {n : Nat} (h : (l ++ [x])[n]? = some y) : l[n]? = some y ∨ (n = l.length ∧ x = y) := by
  by_cases q : n < l.length
  · rw [List.getElem?_append_left q] at h; exact .inl h
  · rw [List.getElem?_append_right (by omega)] at h
    by_cases z : n = l.length
    · subst z; simp at h; exact .inr ⟨rfl, h⟩
    · have : n - l.length = (n - l.length - 1) + 1 := by omega
      rw [this] at h; simp at h
theorem get_app {α : Type} {l : List α} {x y : α} {n : Nat} (h : l[n]? = some y) : (l ++ [x])[n]? = some y := by
  rw [List.getElem?_append_left (List.getElem?_eq_some_iff.mp h).1]; exact h
/-- a new object of the store -/
theorem SR.alloc {K : Frg} {ρ : Rho} {st : Sto} {H : Hp} (S : SR K ρ st H) {p : Addr} {u : HO} {o : O} (hp : H p = none) (hu : isMu u = true)
    (ho : OR K (ρ ++ [p]) (upd H p u) o p) : SR K (ρ ++ [p]) (st ++ [o]) (upd H p u) ∧ Gr K ρ H (ρ ++ [p]) (upd H p u) := by
  have g : Gr K ρ H (ρ ++ [p]) (upd H p u) := ⟨fun n a h => get_app h, fun _ _ h => sqT_new hp h⟩
  refine ⟨⟨by rw [List.length_append, List.length_append, S.len]; rfl, fun n x a h r => ?_, fun n m x y a h1 h2 m1 m2 r1 r2 => ?_⟩, g⟩
  · rcases app_get h with h | ⟨rfl, rfl⟩
    · rcases app_get r with r | ⟨rfl, rfl⟩
      · exact ((S.at' n x a h r).new hp).rho ⟨fun n a h => get_app h, fun _ _ h => h⟩
      · have := (List.getElem?_eq_some_iff.mp h).1; rw [S.len] at this; omega
    · rcases app_get r with r | ⟨_, rfl⟩
      · have := (List.getElem?_eq_some_iff.mp r).1; rw [S.len] at this; omega
      · exact ho
  · rcases app_get h1 with h1 | ⟨rfl, rfl⟩ <;> rcases app_get h2 with h2 | ⟨rfl, rfl⟩
    · rcases app_get r1 with r1 | ⟨rfl, rfl⟩ <;> rcases app_get r2 with r2 | ⟨rfl, e⟩
      · exact S.nd n m x y a h1 h2 m1 m2 r1 r2
      · have := (List.getElem?_eq_some_iff.mp h2).1; rw [S.len] at this; omega
      · have := (List.getElem?_eq_some_iff.mp h1).1; rw [S.len] at this; omega
      · rfl
    · rcases app_get r1 with r1 | ⟨rfl, rfl⟩
      · obtain ⟨w, e, _⟩ := (S.at' n x a h1 r1).some m1
        rcases app_get r2 with r2 | ⟨_, rfl⟩
        · have := (List.getElem?_eq_some_iff.mp r2).1; rw [S.len] at this; omega
        · rw [hp] at e; cases e
      · have := (List.getElem?_eq_some_iff.mp h1).1; rw [S.len] at this; omega
    · rcases app_get r2 with r2 | ⟨rfl, rfl⟩
      · obtain ⟨w, e, _⟩ := (S.at' m y a h2 r2).some m2
        rcases app_get r1 with r1 | ⟨_, rfl⟩
        · have := (List.getElem?_eq_some_iff.mp r1).1; rw [S.len] at this; omega
        · rw [hp] at e; cases e
      · have := (List.getElem?_eq_some_iff.mp h2).1; rw [S.len] at this; omega
    · rfl
/-- an object of the store is changed -/
theorem SR.set {K : Frg} {ρ : Rho} {st : Sto} {H : Hp} (S : SR K ρ st H) {n : Nat} {a : Addr} {u : HO} {o o' : O} (ho : st[n]? = some o) (ha : ρ[n]? = some a) (hm : o.mut = true) (hm' : o'.mut = true)
    (h' : OR K ρ (upd H a u) o' a) : SR K ρ (st.set n o') (upd H a u) ∧ Gr K ρ H ρ (upd H a u) := by
  obtain ⟨w, ew, hw⟩ := (S.at' n o a ho ha).some hm
  have g : Gr K ρ H ρ (upd H a u) := Gr.upd ew hw
  have hn := (List.getElem?_eq_some_iff.mp ho).1
  refine ⟨⟨by rw [List.length_set]; exact S.len, fun m x b h r => ?_, fun m k x y b h1 h2 m1 m2 r1 r2 => ?_⟩, g⟩
  · by_cases e : n = m
    · subst e
      rw [List.getElem?_set_self hn] at h
      cases h
      rw [ha] at r; cases r
      exact h'
    · rw [List.getElem?_set_ne e] at h
      have q := S.at' m x b h r
      cases x with
      | lst xs =>
        obtain ⟨vs, e2, r2⟩ := q
        have : b ≠ a := fun z => e (S.nd n m o _ a ho h hm rfl ha (z ▸ r))
        exact ⟨vs, by rw [upd_ne this]; exact e2, r2.mono g⟩
      | dct xs =>
        obtain ⟨vs, e2, r2⟩ := q
        have : b ≠ a := fun z => e (S.nd n m o _ a ho h hm rfl ha (z ▸ r))
        exact ⟨vs, by rw [upd_ne this]; exact e2, KDR.mono g r2⟩
      | frz xs =>
        obtain ⟨vs, e2, r2⟩ := q
        refine ⟨vs, ?_, r2.mono g⟩
        rcases e2 with ⟨z, e2⟩ | e2
        · refine .inl ⟨z, ?_⟩
          rw [upd_ne (fun q => by subst q; rw [ew] at e2; cases e2; cases hw)]
          exact e2
        · exact .inr e2
  · have back : ∀ (k : Nat) (x : O), (st.set n o')[k]? = some x → x.mut = true → ∃ x', st[k]? = some x' ∧ x'.mut = true := fun k x h m => by
      by_cases e : n = k
      · subst e; exact ⟨o, ho, hm⟩
      · rw [List.getElem?_set_ne e] at h; exact ⟨x, h, m⟩
    obtain ⟨x', q1, q2⟩ := back m x h1 m1
    obtain ⟨y', q3, q4⟩ := back k y h2 m2
    exact S.nd m k x' y' b q1 q3 q2 q4 r1 r2
end Sim

namespace Sim
open PySem L2 PySem.Spec PyProof.Rows

/-! ### defs, called where no text is being made (repr asks that) -/
structure FnG (P : Program) (w : World) (K : Frg) (mg : Str → Option Value) (base : Heap) (CX : CXT) (k : Nat) (f : Addr) (fd : FuncData) (ps : List Str) (sp : Sp) : Prop where
  len : ∀ (vs : List V) (H : Hp) (Q : VK) (E : XK), sp vs H Q E → vs.length = ps.length
  run : ∀ (A : Around) (outer : List Env) (s : Shared) (H : Hp) (args : Args) (us : List Value) (vs : List V) (Q : VK) (E : XK), Room k A → A.guards = some [] →
    Env0 P w K mg base A outer s H → BindsTo s fd args (ps.zip us) → Vals vs us → sp vs H Q E → codeAny (model P w) A (.call (.ref f) args) (CR CX outer P w H s Q E) s

section
variable {CX : CXT} {P : Program} {w : World} {K : Frg} {mg : Str → Option Value} {base : Heap}
theorem Fun.okG {x qual : Str} {st : Stmt} {f : Addr} {fd : FuncData} {N ps : List Str} {k : Nat} {sp : Sp} (F : Fun K x qual st f fd) (S : FnScope N ps (defScope st))
    (len : ∀ (vs : List V) (H : Hp) (Q : VK) (E : XK), sp vs H Q E → vs.length = ps.length)
    (hbody : ∀ (cdv : Value) (A : Around) (outer : List Env) (s : Shared) (H : Hp) (vs : List V) (Q : VK) (E : XK), A.guards = some [] → Room k (A.deeper (envOfC qual (defScope st) s.heap.objs.size f cdv)) → sp vs H Q E →
      ∃ t, PSs (cxOf CX P w K mg base N qual (defScope st) f cdv A outer s H E) (defBody st) t ∧ t { nx := fun _ H' => Q .non H', rt := Q } (start N vs) H) :
    FnG P w K mg base CX (k + 1) f fd ps sp := by
  obtain ⟨oc, od, kV, doc, pm, an, cdv, ct, osl, rfl, look, code⟩ := F.ex
  constructor
  · exact len
  intro A outer s H args us vs Q E room gu e0 bind rel hsp
  have ll := len vs H Q E hsp
  have keptK : ∀ b o, base.get? b = some o → s.heap.get? b = some o := fun b o e => (e0.bs b o e).1
  have KX := e0.mod.kin.keeps keptK
  have lim := e0.mod.nolimit.keeps keptK
  have kinds : ∀ y ∈ ps.zip us, (defScope st).names.lookup y.1 = some .local ∨
      ((defScope st).names.lookup y.1 = some .cell ∧ ((cellsFrom (s.heap.objs.size + 1) (defScope st).names []).lookup y.1).isSome = true) := by
    rintro ⟨n, v⟩ hy
    cases S.par n (List.of_mem_zip hy).1 with
    | inl q => exact Or.inl q
    | inr q => exact Or.inr ⟨q, PySem.W.cellsFrom_some _ _ _ (Or.inl q)⟩
  apply codeAny_call_function room.depth (KX _ _ look) rfl S.co S.gen rfl (PySem.W.codeRec_of KX code)
  apply bind
  apply wpAny_newFunctionEnv_cells S.kind kinds
  rintro env rfl s1 x
  constructor
  · exact lim.keeps x.toInCall.keep
  apply codeAny_func
  obtain ⟨t, ht, hq⟩ := hbody cdv A outer s H vs Q E gu (room.deeper _) hsp
  have I := inv_start (CX := CX) (E := E) S room.hd e0 ll rel x
  apply wpAny_mono (ht.run [] s1 (start N vs) H _ I hq)
  · intro fl s' hs
    cases fl with
    | ret u =>
      obtain ⟨v, σ', H', J, rv, q⟩ := hs
      exact ⟨v, H', J.os, J.bare, J.base, J.hok, rv, q⟩
    | next =>
      obtain ⟨σ', H', J, q⟩ := hs
      exact ⟨V.non, H', J.os, J.bare, J.base, J.hok, rfl, q⟩
    | brk => exact hs.elim fun _ z => z.elim fun _ z => z.2.elim
    | cont => exact hs.elim fun _ z => z.elim fun _ z => z.2.elim
  · intro e s' hs
    exact hs
end

section
variable {X : Cx} {CX : CXT} {k : Nat} {f : Addr} {fd : FuncData} {ps : List Str} {sp : Sp} {dvs : List V} {ds : List Value} {E : XK}
theorem runG {pins : List (Addr × Obj)} {σ : L2.St} {H : Hp} {s : Shared} {Q : VK} {us : List Value} {vs : List V} (F : FnG X.prog X.w X.K X.mg X.base CX k f fd ps sp) (room : Room k X.A) (gu : X.A.guards = some [])
    (bind : Binds X.K fd ps ds) (hd : Vals dvs ds) (pass : Passes CX X E) (I : Inv X pins σ H s) (rel : Vals vs us) (h : sp (vs ++ dvs) H Q E) : wpAny (model X.prog X.w) X.A (call (.ref f) us) (EP X pins σ Q) X.xe s := by
  have both := rel.append hd
  have le : (us ++ ds).length = ps.length := both.length.symm.trans (F.len _ _ _ _ h)
  apply wpAny_call
  apply codeAny_mono (F.run X.A X.stack s H ⟨us, []⟩ (us ++ ds) (vs ++ dvs) Q E room gu I.env0 (bind s us I.kIn le) both h)
  rintro (e | fl) s' hq
  · exact pass pins σ H s e s' I hq
  · cases fl with
    | ret u => exact I.after hq
    | next => cases hq
    | brk => cases hq
    | cont => cases hq
theorem pe_callG {x : Str} {p pos : Pos} {e : Expr} {es : List Expr} {t : TA} (F : FnG X.prog X.w X.K X.mg X.base CX k f fd ps sp) (room : Room k X.A) (gu : X.A.guards = some []) (glob : Gl X x) (at' : X.mg x = some (.ref f)) (keep : PySem.W.keepIn X.K (.ref f) = true)
    (bind : Binds X.K fd ps ds) (hd : Vals dvs ds) (pass : Passes CX X E) (ha : PA X (e :: es) t) (nodeb : (x == ("__debug__" : Str)) = false) (st : starEach (e :: es) X.env = (false, eval e X.env) :: starEach es X.env)
    (pl : (backTo pos (starEach es X.env)).any (·.1) = false) : PE X (.Call (.Name x p) (e :: es) [] pos) (tCall sp dvs E t) := by
  constructor
  intro pins s σ H Q I h
  apply wpAny_Call_Name_kw (ld_glob I glob at' ?_ nodeb)
  apply PySem.W.callWith_K (h₀ := X.base) I.ok.mod.kin keep ?_ st pl
  apply thn (ha.run pos pins s σ H _ I h)
  rintro us s1 ⟨vs, H1, I1, r, q⟩
  exact ⟨I1.kIn, runG F room gu bind hd pass I1 r q⟩
theorem pe_callG0 {x : Str} {p pos : Pos} (F : FnG X.prog X.w X.K X.mg X.base CX k f fd ps sp) (room : Room k X.A) (gu : X.A.guards = some []) (glob : Gl X x) (at' : X.mg x = some (.ref f)) (keep : PySem.W.keepIn X.K (.ref f) = true)
    (bind : Binds X.K fd ps ds) (hd : Vals dvs ds) (pass : Passes CX X E) (nodeb : (x == ("__debug__" : Str)) = false) : PE X (.Call (.Name x p) [] [] pos) (tCall sp dvs E tNil) := by
  constructor
  intro pins s σ H Q I h
  apply wpAny_Call_Name_kw (ld_glob I glob at' ?_ nodeb)
  apply PySem.W.callWith_K0 I.kIn keep
  exact runG (us := []) F room gu bind hd pass I .nil h
end

/-! ### the law's end -/
theorem lawG {P : Program} {w : World} {K : Frg} {mg mb : Str → Option Value} {s₁ : Shared} {fa a : Addr} {fd : FuncData} {x : Str} {vs : List Value} {ns : List Int} {k : Nat} {CX : CXT} {sp : Sp} (KX : K.In s₁.heap)
    (hns : s₁.heap.Ns mainGlobals mg) (hb : s₁.heap.Ns builtinsNs mb) (hbb : ∀ x : Str, x ≠ "__name__" → mb x = bootBuiltins x) (lim : s₁.heap.NoLimit) (hg : s₁.gens = #[])
    (ha : s₁.heap.get? a = some { cls := .type "list", data := .seq vs.toArray }) (hi : IntsAre vs ns) (hl : ns.length ≤ sizeLine) (room : Room k callerA)
    (F : ∀ b : Heap, K.In b → b.Ns mainGlobals mg → FnG P w K mg b CX k fa fd [x] sp) (bind : ∀ (s : Shared) (u : Value), BindsTo s fd ⟨[u], []⟩ [(x, u)])
    (hsp : ∀ H : Hp, Only H → SqL K H a (ns.map V.int) → sp [.ref a] H (fun v _ => v = .bl true) fun _ _ _ => False) (hCX : ∀ (H : Hp) (e : Value) (s' : Shared), CX [] H s₁ (fun _ _ _ => False) e s' → False) :
    codeAny (model P w) callerA (.call (.ref fa) ⟨[.ref a], []⟩) (fun r s' => r = .ok (.ret (.bool true)) ∧ OldK s₁.heap s'.heap ∧ s'.os = s₁.os ∧ AllBare s'.gens) s₁ := by
  have rv : Vals (ns.map V.int) vs := vals_of_ints hi
  have lv : vs.length = ns.length := by rw [← rv.length, List.length_map]
  -- whatever heap of known things: the script alone, frozen, or nothing
  suffices core : ∀ H : Hp, Only H → SqL K H a (ns.map V.int) → HOk P w H s₁.heap → (∀ b, H b ≠ none → b = a) → ((∃ b, H b ≠ none) → K.lookup a = none) →
      codeAny (model P w) callerA (.call (.ref fa) ⟨[.ref a], []⟩) (fun r s' => r = .ok (.ret (.bool true)) ∧ OldK s₁.heap s'.heap ∧ s'.os = s₁.os ∧ AllBare s'.gens) s₁ by
    cases q : K.lookup a with
    | some o =>
      have e := (KX a o q).symm.trans ha
      cases e
      exact core (fun _ => none) (fun _ => Or.inl rfl) (Or.inr ⟨_, vs.toArray, _, q, rfl, rfl, rfl, by rw [List.size_toArray, lv]; exact hl, by rw [List.toList_toArray]; exact rv⟩) (fun b u z => by cases z) (fun b z => (z rfl).elim)
        (fun z => z.elim fun _ z => (z rfl).elim)
    | none =>
      let H : Hp := L2.upd (fun _ => none) a (.frz { cls := .type "list", data := .seq vs.toArray } (.lst (ns.map V.int)))
      have H1 : H a = some (.frz { cls := .type "list", data := .seq vs.toArray } (.lst (ns.map V.int))) := upd_same
      have H2 : ∀ b, b ≠ a → H b = none := fun b hb => upd_ne hb
      refine core H (fun b => ?_) (Or.inl (Or.inr ⟨_, H1⟩)) (fun b u z => ?_) (fun b z => Classical.byContradiction fun hb => z (H2 b hb)) fun _ => q
      · by_cases hb : b = a
        · rw [hb]; exact Or.inr ⟨_, _, H1⟩
        · exact Or.inl (H2 b hb)
      · by_cases hb : b = a
        · subst hb
          rw [H1] at z
          cases z
          exact ⟨ha, by rw [List.length_map]; exact hl, vs, _, rv, ha⟩
        · rw [H2 b hb] at z
          cases z
  intro H hO hS hok hA hK
  have thin : ∀ (b : Addr) (o : Obj), s₁.heap.get? b = some o → H b = none → (hidT s₁.heap H).get? b = some o := fun b o e n => hidT_get e n
  have dictFree : ∀ (b : Addr) (o : Obj) (es : Array DictEntry) (ep : Nat), s₁.heap.get? b = some o → o.data = .dict es ep → H b = none := by
    intro b o es ep e d
    refine Classical.byContradiction fun q => ?_
    rw [hA b q, ha] at e
    cases e
    cases d
  have names : ∀ (b : Addr) (m : Str → Option Value), s₁.heap.Ns b m → (hidT s₁.heap H).Ns b m := by
    rintro b m ⟨o, es, ep, e, d, r⟩
    exact ⟨o, es, ep, thin b o e (dictFree b o es ep e d), d, r⟩
  have KB : K.In (hidT s₁.heap H) := by
    intro b o e
    refine thin b o (KX b o e) (Classical.byContradiction fun q => ?_)
    rw [hA b q, hK ⟨b, q⟩] at e
    cases e
  have M : Mod K mg (hidT s₁.heap H) := by
    refine ⟨KB, names _ _ hns, ⟨mb, names _ _ hb, hbb⟩, ?_⟩
    obtain ⟨mc, z1, z2⟩ := lim
    exact ⟨mc, names _ _ z1, z2⟩
  have e0 : Env0 P w K mg (hidT s₁.heap H) callerA [] s₁ H :=
    { frames := rfl, mod := M, bs := fun b o e => of_hidT e, bsz := Nat.le_of_eq (hidT_size _ _), funs := trivial, frf := (fun b z => absurd (show b ∈ ([] : List Addr) from z) (by simp)), hok := hok, bare := AllBare.of_eq hg }
  apply codeAny_mono ((F _ KB (names _ _ hns)).run callerA [] s₁ H ⟨[.ref a], []⟩ [.ref a] [.ref a] _ _ room rfl e0 (bind s₁ (.ref a)) (.cons rfl .nil) (hsp H hO hS))
  rintro (e | fl) s' h
  · exact (hCX H e s' h).elim
  cases fl with
  | next => cases h
  | brk => cases h
  | cont => cases h
  | ret u =>
    obtain ⟨v, H', os, bare, un, hok', r', q⟩ := h
    cases (show v = .bl true from q)
    cases (show u = Value.bool true from r')
    refine ⟨rfl, OldK.of_keep fun b o e => ?_, os, bare⟩
    cases hO b with
    | inl q => exact un.keep b o e q (fun z => by cases z) (fun z => by cases z)
    | inr q =>
      obtain ⟨ob, xs, z⟩ := q
      have f1 := (hok b _ z).1
      have f2 := (hok' b _ (un.frzs b ob _ z)).1
      rw [e] at f1
      cases f1
      exact f2

theorem walkG {l : PySem.W.OpenLaw} {n k : Nat} {q : Program} {loose : List Str} {XP : (Str → Option Value) → Heap → Prop} {YP : World → Heap → Prop} {d : DefRec} {K : Params → Frg} {CX : World → CXT} {sp : World → Sp} {x : Str}
    (hn : l.most = some n) (hn2 : n ≤ sizeLine) (hdf : d.params.defaults = []) (room : Room k callerA) (hY : ∀ (w : World) (h : Heap), YP w h → (K w.params).In h)
    (F : ∀ (w : World) (mg : Str → Option Value) (fa : Addr) (h : Heap), (K w.params).In h → h.Ns mainGlobals mg → mg d.name = some (.ref fa) →
      ∃ fd : FuncData, (∀ (s : Shared) (u : Value), BindsTo s fd ⟨[u], []⟩ [(x, u)]) ∧ ∀ b : Heap, (K w.params).In b → b.Ns mainGlobals mg → FnG l.prog w (K w.params) mg b (CX w) k fa fd [x] (sp w))
    (hsp : ∀ (w : World) (H : Hp) (a : Addr) (ns : List Int), ns.length ≤ n → Only H → SqL (K w.params) H a (ns.map V.int) → sp w [.ref a] H (fun v _ => v = .bl true) fun _ _ _ => False)
    (hCX : ∀ (w : World) (H : Hp) (s : Shared) (e : Value) (s' : Shared), CX w [] H s (fun _ _ _ => False) e s' → False) : PySem.W.WalkO q loose XP YP l.row.toRowW d [] (fun f vs => PySem.call f vs) := by
  apply Att.attach_call hn hdf
  intro w s₀ s₁ mg mb fa o pm cd doc a vs ns G Y ho hd hcd hmg hobj hints hlen hg
  obtain ⟨fd, bind, FF⟩ := F w mg fa _ (hY w _ Y) G.T.g hmg
  exact lawG (hY w _ Y) G.T.g G.T.b G.T.builtins G.T.nolimit hg hobj hints (Nat.le_trans hlen hn2) room FF bind (fun H => hsp w H a ns hlen) fun H => hCX w H s₁
end Sim

namespace Sim
open PySem L2

abbrev LocD := List (Option D)
abbrev R := Option (D × Sto)
abbrev SemE := LocD → Sto → R
abbrev SemA := LocD → Sto → Option (List D × Sto)
abbrev SemT := LocD → Sto → Option (Bool × Sto)
abbrev CallF := Str → List D → Sto → R
def most : Nat := 100000
theorem most_line {n : Nat} (h : n ≤ most) : n ≤ sizeLine := Nat.le_trans h (by decide)
theorem most_lt {n : Nat} (h : n < most) : n < sizeLine := Nat.lt_of_lt_of_le h (by decide)

/-! ### what the operations do -/
def mapO {α β : Type} (f : α → Option β) : List α → Option (List β)
  | [] => some []
  | x :: xs => (f x).bind fun y => (mapO f xs).map fun ys => y :: ys
/-- a value as data -/
def toP (st : Sto) : Nat → D → Option PyData
  | 0, _ => none
  | _ + 1, .non => some .none
  | _ + 1, .bl b => some (.bool b)
  | _ + 1, .int i => some (.int i)
  | _ + 1, .str s => some (.str s)
  | n + 1, .tup xs => (mapO (fun x => toP st n x) xs).map .tuple
  | n + 1, .ref k => match st[k]? with
    | some (.lst xs) => (mapO (fun x => toP st n x) xs).map .list
    | some (.frz xs) => (mapO (fun x => toP st n x) xs).map .list
    | _ => none
def eqSS : D → D → Option Bool
  | .str a, .str b => some (a == b)
  | _, _ => none
def eqP (x y : D) (st : Sto) : Option Bool :=
  (toP st 40 x).bind fun d => (toP st 40 y).bind fun e => if SeqAt.shaped d && SeqAt.shaped e then some (PyData.eqv d e) else none
def eqD (x y : D) (st : Sto) : Option Bool :=
  match eqSS x y with
  | some b => some b
  | none => eqP x y st
/-- a list's items, a tuple's -/
def items (x : D) (st : Sto) : Option (List D) :=
  match x with
  | .tup xs => some xs
  | .ref n => match st[n]? with
    | some (.lst xs) => some xs
    | some (.frz xs) => some xs
    | _ => none
  | _ => none
def truth (x : D) (st : Sto) : Option Bool :=
  match x with
  | .non => some false
  | .bl b => some b
  | .int i => some (i != 0)
  | .str s => if s.length ≤ most then some ((s.length : Int) != 0) else none
  | .tup xs => some (!xs.isEmpty)
  | .ref n => match st[n]? with
    | some (.lst xs) => some (!xs.isEmpty)
    | some (.frz xs) => some (!xs.isEmpty)
    | some (.dct kvs) => some (!kvs.isEmpty)
    | none => none
def alloc (o : O) (st : Sto) : R := some (.ref st.length, st ++ [o])

def opAdd (x y : D) (st : Sto) : R :=
  match x, y with
  | .int i, .int j => some (.int (i + j), st)
  | .bl a, .int j => some (.int ((if a = true then (1 : Int) else 0) + j), st)
  | .tup xs, .tup ys => if xs.length + ys.length ≤ most then some (.tup (xs ++ ys), st) else none
  | .str a, .str b => if a.length + b.length ≤ most then some (.str (a ++ b), st) else none
  | .ref n, .ref m => match st[n]?, st[m]? with
    | some (.lst xs), some (.lst ys) => if xs.length + ys.length ≤ most then alloc (.lst (xs ++ ys)) st else none
    | _, _ => none
  | _, _ => none
def opI (g : Int → Int → Option Int) (x y : D) (st : Sto) : R :=
  match x, y with
  | .int i, .int j => (g i j).map fun k => (.int k, st)
  | _, _ => none
def gMul (i j : Int) : Option Int := if i.natAbs.log2 + j.natAbs.log2 < 1000000 then some (i * j) else none
def gMod (i j : Int) : Option Int := if 0 < j then some (i % j) else none
def gDiv (i j : Int) : Option Int := if 0 < j ∧ j.natAbs.log2 < 9000 then some (i / j) else none
def gPow (i j : Int) : Option Int := if 0 ≤ j ∧ j ≤ 1000000 ∧ i.natAbs < 2 ^ 64 then some (i ^ j.toNat) else none
def opSub (x y : D) (st : Sto) : R :=
  match x, y with
  | .int i, .int j => some (.int (i - j), st)
  | .bl a, .int j => some (.int ((if a = true then (1 : Int) else 0) - j), st)
  | _, _ => none
/-- a tuple so many times -/
def repT (xs : List D) (k : Int) (st : Sto) : R :=
  if xs ≠ [] ∧ -1000 ≤ k ∧ k ≤ 1000 ∧ xs.length ≤ 1000 then some (.tup (List.replicate k.toNat xs).flatten, st) else none
def opMul (x y : D) (st : Sto) : R :=
  match x, y with
  | .int i, .int j => (gMul i j).map fun k => (.int k, st)
  | .tup xs, .int k => repT xs k st
  | _, _ => none
def binop (op : Operator) (x y : D) (st : Sto) : R :=
  match op with
  | .Add => opAdd x y st
  | .Sub => opSub x y st
  | .Mult => opMul x y st
  | .Mod => opI gMod x y st
  | .FloorDiv => opI gDiv x y st
  | .Pow => opI gPow x y st
  | _ => none
def cmpI (p : Int → Int → Bool) (x y : D) : Option Bool :=
  match x, y with
  | .int i, .int j => some (p i j)
  | _, _ => none
def isD (x y : D) : Option Bool :=
  match y with
  | .non => some (match x with | .non => true | _ => false)
  | .bl b => match x with
    | .bl a => some (decide (a = b))
    | _ => none
  | _ => none
def flatD : D → Bool
  | .non | .bl _ | .int _ | .str _ => true
  | _ => false
def eqF : D → D → Bool
  | .non, .non => true
  | .bl a, .bl b => a == b
  | .bl a, .int b => (if a then 1 else 0) == b
  | .int a, .bl b => a == (if b then 1 else 0)
  | .int a, .int b => a == b
  | .str a, .str b => a == b
  | _, _ => false
/-- a key of a dict -/
def keyD : D → Option Key
  | .int i => some (.inl i)
  | .str s => some (.inr s)
  | _ => none
/-- the dict that a value refers to -/
def dctOf (x : D) (st : Sto) : Option (List (Key × D)) :=
  match x with
  | .ref n => match st[n]? with
    | some (.dct kvs) => some kvs
    | _ => none
  | _ => none
def getK (kvs : List (Key × D)) (k : Key) : Option D := (kvs.find? fun kv => decide (kv.1 = k)).map (·.2)
/-- among data of any depth -/
def inDeep (x y : D) (st : Sto) : Option Bool :=
  (toP st 40 x).bind fun d => (toP st 40 y).bind fun e => match e with
    | .list ds => if SeqAt.shaped d && SeqAt.shaped (.list ds) then some (ds.any fun z => PyData.eqv z d) else none
    | .tuple ds => if SeqAt.shaped d && SeqAt.shaped (.list ds) then some (ds.any fun z => PyData.eqv z d) else none
    | _ => none
def inS (x y : D) (st : Sto) : Option Bool :=
  match y with
  | .str z => match x with
    | .str s => match s.cps.toList with
      | [c] => some (decide (c ∈ z.cps.toList))
      | _ => none
    | _ => none
  | _ => (items y st).bind fun xs => if flatD x && xs.all flatD then some (xs.any fun z => eqF z x) else inDeep x y st
def dinD (x y : D) (st : Sto) : Option Bool := (dctOf y st).bind fun kvs => (keyD x).map fun k => (getK kvs k).isSome
def inD (x y : D) (st : Sto) : Option Bool :=
  match inS x y st with
  | some b => some b
  | none => dinD x y st
theorem in_of {x y : D} {b : Bool} {st : Sto} (h : inS x y st = some b) : inD x y st = some b := by
  unfold inD; rw [h]
def cmpop (op : CmpOp) (x y : D) (st : Sto) : Option Bool :=
  match op with
  | .Eq => eqD x y st
  | .NotEq => (eqD x y st).map (!·)
  | .Lt => cmpI (fun i j => decide (i < j)) x y
  | .LtE => cmpI (fun i j => decide (i ≤ j)) x y
  | .Gt => cmpI (fun i j => decide (j < i)) x y
  | .GtE => cmpI (fun i j => decide (j ≤ i)) x y
  | .Is => isD x y
  | .IsNot => (isD x y).map (!·)
  | .In => inD x y st
  | .NotIn => (inD x y st).map (!·)
def ixS (x y : D) (st : Sto) : Option D :=
  match x, y with
  | .str z, .int i => if z.length ≤ most then (atI z.cps.toList i).map fun c => .str ⟨#[c]⟩ else none
  | _, .int i => (items x st).bind fun xs => atI xs i
  | _, _ => none
def dgetD (x y : D) (st : Sto) : Option D := (dctOf x st).bind fun kvs => (keyD y).bind fun k => getK kvs k
def ix (x y : D) (st : Sto) : Option D :=
  match ixS x y st with
  | some d => some d
  | none => dgetD x y st
theorem ix_of {x y d : D} {st : Sto} (h : ixS x y st = some d) : ix x y st = some d := by
  unfold ix; rw [h]
def cutD (xs : List D) (lo hi : Option Int) : List D := (xs.drop (HT.sIx xs.length 0 lo)).take (HT.sIx xs.length xs.length hi - HT.sIx xs.length 0 lo)
def slD (x : D) (lo hi : Option Int) (st : Sto) : R :=
  match x with
  | .str z => if z.length ≤ most then some (.str (Txt.slice z lo hi), st) else none
  | .tup xs => some (.tup (cutD xs lo hi), st)
  | .ref n => match st[n]? with
    | some (.lst xs) => alloc (.lst (cutD xs lo hi)) st
    | some (.frz xs) => alloc (.lst (cutD xs lo hi)) st
    | _ => none
  | _ => none

/-- x[::-1] -/
def revD (x : D) (st : Sto) : R :=
  match x with
  | .tup xs => some (.tup xs.reverse, st)
  | .ref n => match st[n]? with
    | some (.lst xs) => alloc (.lst xs.reverse) st
    | some (.frz xs) => alloc (.lst xs.reverse) st
    | _ => none
  | _ => none
/-! ### the combinators -/
def fC (d : D) : SemE := fun _ st => some (d, st)
def fVar (i : Nat) : SemE := fun η st => match η[i]? with
  | some (some d) => some (d, st)
  | _ => none
def fBin (op : Operator) (fa fb : SemE) : SemE := fun η st => (fa η st).bind fun p => (fb η p.2).bind fun q => binop op p.1 q.1 q.2
def fCmp (op : CmpOp) (fa fb : SemE) : SemE := fun η st => (fa η st).bind fun p => (fb η p.2).bind fun q => (cmpop op p.1 q.1 q.2).map fun b => (.bl b, q.2)
def fIx (fa fb : SemE) : SemE := fun η st => (fa η st).bind fun p => (fb η p.2).bind fun q => (ix p.1 q.1 q.2).map fun d => (d, q.2)
def fNil : SemA := fun _ st => some ([], st)
def fCons (fa : SemE) (fr : SemA) : SemA := fun η st => (fa η st).bind fun p => (fr η p.2).map fun q => (p.1 :: q.1, q.2)
def fTup (fs : SemA) : SemE := fun η st => (fs η st).bind fun p => if p.1.length ≤ most then some (.tup p.1, p.2) else none
def fLst (fs : SemA) : SemE := fun η st => (fs η st).bind fun p => if p.1.length ≤ most then alloc (.lst p.1) p.2 else none
def fCall (cf : CallF) (x : Str) (fs : SemA) : SemE := fun η st => (fs η st).bind fun p => cf x p.1 p.2
def fBlt (g : List D → Sto → R) (fs : SemA) : SemE := fun η st => (fs η st).bind fun p => g p.1 p.2
def fNeg (fa : SemE) : SemE := fun η st => (fa η st).bind fun p => match p.1 with
  | .int i => some (.int (-i), p.2)
  | .bl b => some (.int (-(if b = true then (1 : Int) else 0)), p.2)
  | _ => none
def fRev (fa : SemE) : SemE := fun η st => (fa η st).bind fun p => revD p.1 p.2
/-- nothing is said of it: where it is reached, nothing is told -/
def fStuck : SemE := fun _ _ => none
def fIf (ft : SemT) (fa fb : SemE) : SemE := fun η st => (ft η st).bind fun p => if p.1 = true then fa η p.2 else fb η p.2
def fNotV (fa : SemE) : SemE := fun η st => (fa η st).bind fun p => (truth p.1 p.2).map fun b => (.bl (!b), p.2)
def fAndV (fa fb : SemE) : SemE := fun η st => (fa η st).bind fun p => (truth p.1 p.2).bind fun b => if b = true then fb η p.2 else some p
def fOrV (fa fb : SemE) : SemE := fun η st => (fa η st).bind fun p => (truth p.1 p.2).bind fun b => if b = true then some p else fb η p.2
def gTru (fa : SemE) : SemT := fun η st => (fa η st).bind fun p => (truth p.1 p.2).map fun b => (b, p.2)
def gNot (ft : SemT) : SemT := fun η st => (ft η st).map fun p => (!p.1, p.2)
def gAnd (ft fu : SemT) : SemT := fun η st => (ft η st).bind fun p => if p.1 = true then fu η p.2 else some (false, p.2)
def gOr (ft fu : SemT) : SemT := fun η st => (ft η st).bind fun p => if p.1 = true then some (true, p.2) else fu η p.2
def gCmp (op : CmpOp) (fa fb : SemE) : SemT := fun η st => (fa η st).bind fun p => (fb η p.2).bind fun q => (cmpop op p.1 q.1 q.2).map fun b => (b, q.2)
def gCh (o1 o2 : CmpOp) (fa fb fc : SemE) : SemT := fun η st => (fa η st).bind fun p => (fb η p.2).bind fun q => (cmpop o1 p.1 q.1 q.2).bind fun b =>
  if b = true then (fc η q.2).bind fun r => (cmpop o2 q.1 r.1 r.2).map fun c => (c, r.2) else some (false, q.2)
def fCh (o1 o2 : CmpOp) (fa fb fc : SemE) : SemE := fun η st => (gCh o1 o2 fa fb fc η st).map fun p => (.bl p.1, p.2)
abbrev SemO := LocD → Sto → Option (Option Int × Sto)
def oNone : SemO := fun _ st => some (none, st)
def oSome (fa : SemE) : SemO := fun η st => (fa η st).bind fun p => match p.1 with
  | .int i => some (some i, p.2)
  | _ => none
def fSl (fa : SemE) (fl fh : SemO) : SemE := fun η st => (fa η st).bind fun p => (fl η p.2).bind fun l => (fh η l.2).bind fun h => slD p.1 l.1 h.1 h.2

/-! ### readings -/
def ER (K : Frg) (ρ : Rho) (H : Hp) (η : LocD) (σ : L2.St) : Prop := σ.length = η.length ∧ ∀ (i : Nat) (d : D), η[i]? = some (some d) → ∃ v, σ[i]? = some (some v) ∧ DR K ρ H d v
theorem ER.mono {K : Frg} {ρ ρ' : Rho} {H H' : Hp} (g : Gr K ρ H ρ' H') {η : LocD} {σ : L2.St} (h : ER K ρ H η σ) : ER K ρ' H' η σ :=
  ⟨h.1, fun i d e => let ⟨v, a, b⟩ := h.2 i d e; ⟨v, a, b.mono g⟩⟩
/-- what is left to be wanted behind an evaluation -/
def Then (K : Frg) (ρ : Rho) (H : Hp) (d : D) (st : Sto) (Q : VK) : Prop := ∀ (ρ' : Rho) (H' : Hp) (v : V), Gr K ρ H ρ' H' → SR K ρ' st H' → DR K ρ' H' d v → Q v H'
def tEv (K : Frg) (f : SemE) : TE := fun σ H Q => ∃ ρ η st d st', ER K ρ H η σ ∧ SR K ρ st H ∧ f η st = some (d, st') ∧ Then K ρ H d st' Q
def tAv (K : Frg) (f : SemA) : TA := fun σ H Q => ∃ ρ η st ds st', ER K ρ H η σ ∧ SR K ρ st H ∧ f η st = some (ds, st') ∧
  ∀ (ρ' : Rho) (H' : Hp) (vs : List V), Gr K ρ H ρ' H' → SR K ρ' st' H' → DRs K ρ' H' ds vs → Q vs H'
def tTv (K : Frg) (f : SemT) : TT := fun σ H Q => ∃ ρ η st b st', ER K ρ H η σ ∧ SR K ρ st H ∧ f η st = some (b, st') ∧
  ∀ (ρ' : Rho) (H' : Hp), Gr K ρ H ρ' H' → SR K ρ' st' H' → Q b H'
def tOv (K : Frg) (f : SemO) : TO := fun σ H Q => ∃ ρ η st o st', ER K ρ H η σ ∧ SR K ρ st H ∧ f η st = some (o, st') ∧
  ∀ (ρ' : Rho) (H' : Hp), Gr K ρ H ρ' H' → SR K ρ' st' H' → Q o H'
/-- values in, a value out -/
def rB (K : Frg) (g : List D → Sto → R) : List V → Hp → VK → Prop := fun vs H Q => ∃ ρ st ds d st', SR K ρ st H ∧ DRs K ρ H ds vs ∧ g ds st = some (d, st') ∧ Then K ρ H d st' Q
def r2 (K : Frg) (g : D → D → Sto → R) : R2 := fun x y H Q => ∃ ρ st a b d st', SR K ρ st H ∧ DR K ρ H a x ∧ DR K ρ H b y ∧ g a b st = some (d, st') ∧ Then K ρ H d st' Q

theorem Then.now {K : Frg} {ρ : Rho} {H : Hp} {d : D} {st : Sto} {Q : VK} (h : Then K ρ H d st Q) (S : SR K ρ st H) {v : V} (r : DR K ρ H d v) : Q v H := h ρ H v (Gr.refl K ρ H) S r
theorem Then.pre {K : Frg} {ρ ρ' : Rho} {H H' : Hp} {d : D} {st : Sto} {Q : VK} (h : Then K ρ H d st Q) (g : Gr K ρ H ρ' H') : Then K ρ' H' d st Q := fun ρ2 H2 v g2 s r => h ρ2 H2 v (g.trans g2) s r
/-- a new tuple -/
theorem Then.tup {K : Frg} {ρ : Rho} {H : Hp} {ds : List D} {vs : List V} {st : Sto} {Q : VK} (h : Then K ρ H (.tup ds) st Q) (S : SR K ρ st H) (r : DRs K ρ H ds vs) : ∀ p, H p = none → Q (.ref p) (upd H p (.tup vs)) := fun p hp =>
  h ρ _ _ (Gr.new hp) (S.new hp) (.tup (.inl (.inl upd_same)) (r.mono (Gr.new hp)))
/-- a new list -/
theorem Then.lst {K : Frg} {ρ : Rho} {H : Hp} {ds : List D} {vs : List V} {st : Sto} {Q : VK} (h : Then K ρ H (.ref st.length) (st ++ [.lst ds]) Q) (S : SR K ρ st H) (r : DRs K ρ H ds vs) : ∀ p, H p = none → Q (.ref p) (upd H p (.lst vs)) := fun p hp => by
  have g : Gr K ρ H (ρ ++ [p]) (upd H p (.lst vs)) := ⟨fun n a h => get_app h, fun _ _ h => sqT_new hp h⟩
  obtain ⟨S', g'⟩ := S.alloc (o := .lst ds) hp (u := .lst vs) rfl ⟨vs, upd_same, r.mono g⟩
  exact h _ _ _ g S' (.ref (by rw [← S.len, List.getElem?_append_right (Nat.le_refl _)]; simp))

theorem PE.imp {X : Cx} {e : Expr} {t t' : TE} (h : PE X e t) (k : ∀ σ H Q, t' σ H Q → t σ H Q) : PE X e t' := ⟨fun pins s σ H Q I q => h.run pins s σ H Q I (k σ H Q q)⟩
theorem PT.imp {X : Cx} {e : Expr} {t t' : TT} (h : PT X e t) (k : ∀ σ H Q, t' σ H Q → t σ H Q) : PT X e t' := ⟨fun pins s σ H Q I q => h.run pins s σ H Q I (k σ H Q q)⟩
theorem PW.imp {X : Cx} {e : Expr} {t t' : TT} (h : PW X e t) (k : ∀ σ H Q, t' σ H Q → t σ H Q) : PW X e t' := ⟨fun wh pins s σ H Q I q => h.run wh pins s σ H Q I (k σ H Q q)⟩
theorem PA.imp {X : Cx} {es : List Expr} {t t' : TA} (h : PA X es t) (k : ∀ σ H Q, t' σ H Q → t σ H Q) : PA X es t' := ⟨fun pos pins s σ H Q I q => h.run pos pins s σ H Q I (k σ H Q q)⟩
theorem PO.imp {X : Cx} {e : Option Expr} {t t' : TO} (h : PO X e t) (k : ∀ σ H Q, t' σ H Q → t σ H Q) : PO X e t' := by
  cases h with
  | mk run => exact ⟨fun pins s σ H Q I q => run pins s σ H Q I (k σ H Q q)⟩

theorem bind_some {α β : Type} {o : Option α} {k : α → Option β} {b : β} (h : o.bind k = some b) : ∃ a, o = some a ∧ k a = some b := by
  cases o with
  | none => cases h
  | some a => exact ⟨a, rfl, h⟩
theorem map_some' {α β : Type} {o : Option α} {k : α → β} {b : β} (h : o.map k = some b) : ∃ a, o = some a ∧ k a = b := by
  cases o with
  | none => cases h
  | some a => exact ⟨a, rfl, Option.some.inj h⟩
theorem ite_some {α : Type} {c : Prop} [Decidable c] {x : Option α} {b : α} (h : (if c then x else none) = some b) : c ∧ x = some b := by
  by_cases q : c
  · rw [if_pos q] at h; exact ⟨q, h⟩
  · rw [if_neg q] at h; cases h

/-- two expressions, an operation on values -/
theorem two {K : Frg} {fa fb : SemE} {g : D → D → Sto → R} {σ : L2.St} {H : Hp} {Q : VK} {r : R2} (hr : ∀ x y H Q, r2 K g x y H Q → r x y H Q)
    (h : tEv K (fun η st => (fa η st).bind fun p => (fb η p.2).bind fun q => g p.1 q.1 q.2) σ H Q) : tOp r (tEv K fa) (tEv K fb) σ H Q := by
  obtain ⟨ρ, η, st, d, st', E, S, e, k⟩ := h
  obtain ⟨p, e1, e⟩ := bind_some e
  obtain ⟨q, e2, e⟩ := bind_some e
  refine ⟨ρ, η, st, p.1, p.2, E, S, e1, fun ρ1 H1 v1 g1 S1 r1 => ⟨ρ1, η, p.2, q.1, q.2, E.mono g1, S1, e2, fun ρ2 H2 v2 g2 S2 r2 => hr _ _ _ _ ?_⟩⟩
  exact ⟨ρ2, q.2, p.1, q.1, d, st', S2, r1.mono g2, r2, e, k.pre (g1.trans g2)⟩
end Sim

namespace Sim
open PySem L2 PySem.Spec PyProof.Rows HT

/-! ### rules that the hand layer lacks: truths in sums, tuples many times, tuples backwards -/
section
variable {prog : Program} {w : World} {A : Around} {E : Value → Shared → Prop} {s : Shared}
theorem neg_bool {a : Bool} {Q : Value → Shared → Prop} (h : Q (.int (-(if a = true then (1 : Int) else 0)) s.toks) { s with toks := s.toks + 1 }) : wpAny (model prog w) A (unaryOp .USub (.bool a)) Q E s := by
  unfold unaryOp
  refine wpAny_holding ?_
  refine wpAny_bind (m := callSpecial? (.bool a) (Str.ofString "__neg__")) (wpAny_callSpecial?_slot (name := Str.ofString "__neg__") rfl F.slot_bool_neg
    (wpAny_call_entry F.slot_bool_neg rfl F.entry_int_neg ?_ (F.args_int_neg_1 _)))
  show wpAny _ _ (do ret (← mkInt (-(if a = true then (1 : Int) else 0)))) _ _ s
  exact wpAny_ret_mkInt (wpAny_pure h)

theorem tuple_mulOne (l : Addr) (items : Array Value) (n : Nat) (dd : Option Addr) (sl : Array (Option Value)) (u : Tok) :
    Meets (Builtin.«tuple.__mul__» ⟨[.ref l, .int 1 u], []⟩) (fun _ R s => s.heap.get? l = some { cls := .type "tuple", dict := dd, data := .seq items n, slots := sl } ∧ R (.ok (.ret (Value.ref l))) s) :=
  .of_wp fun prog w A R s h => by
    obtain ⟨hp, g, d, tk, os⟩ := s
    obtain ⟨hl, h⟩ := h
    have f1 := AutoSeq1.idx_int
    have c0 : (decide ((1 : Int) < -(2 ^ 63)) || decide ((1 : Int) ≥ 2 ^ 63)) = false := by decide
    have c1 : (items.isEmpty || (1 : Int) == 1) = true := by cases items.isEmpty <;> rfl
    wp_walk using wpAny_loadPart' hl
    repeat (first
      | (refine wpAny_ite_false (decide_eq_false (by rw [c0]; exact Bool.false_ne_true)) ?_; wp_walk using wpAny_loadPart' hl)
      | (refine wpAny_ite_true (decide_eq_true c1) ?_; wp_walk using wpAny_loadPart' hl))
    exact ⟨_, rfl, h⟩
theorem tuple_mulNone (l : Addr) (items : Array Value) (n : Nat) (dd : Option Addr) (sl : Array (Option Value)) (x : Int) (u : Tok) (hx : x ≤ 0) (hx2 : -(2 ^ 63) ≤ x) (hi : items.isEmpty = false) :
    Meets (Builtin.«tuple.__mul__» ⟨[.ref l, .int x u], []⟩) (fun _ R s => s.heap.get? l = some { cls := .type "tuple", dict := dd, data := .seq items n, slots := sl } ∧
      R (.ok (.ret (Value.ref s.heap.objs.size))) { s with heap := s.heap.push { cls := Value.type "tuple", data := Data.seq #[] }, toks := s.toks }) :=
  .of_wp fun prog w A R s h => by
    obtain ⟨hp, g, d, tk, os⟩ := s
    obtain ⟨hl, h⟩ := h
    have f1 := AutoSeq1.idx_int
    have c0 : (decide (x < -(2 ^ 63)) || decide (x ≥ 2 ^ 63)) = false := by
      rw [decide_eq_false (by omega), decide_eq_false (by omega)] <;> rfl
    have c1 : (items.isEmpty || x == 1) = false := by
      rw [hi, Bool.false_or]
      exact beq_eq_false_iff_ne.mpr (by omega)
    have c2 : (decide (x ≤ 0) || items.isEmpty) = true := by
      rw [decide_eq_true hx] <;> rfl
    wp_walk using wpAny_loadPart' hl
    repeat (first
      | (refine wpAny_ite_false (decide_eq_false (by rw [c0]; exact Bool.false_ne_true)) ?_; wp_walk using wpAny_loadPart' hl)
      | (refine wpAny_ite_false (decide_eq_false (by rw [c1]; exact Bool.false_ne_true)) ?_; wp_walk using wpAny_loadPart' hl)
      | (refine wpAny_ite_true (decide_eq_true c2) ?_; wp_walk using wpAny_loadPart' hl))
    exact ⟨_, rfl, h⟩
end

section
variable {X : Cx}
def rRepA (K : PySem.W.Frag) : R2 := fun x y H Q => ∃ l k xs, x = .ref l ∧ y = .int k ∧ SqT K H l xs ∧ xs ≠ [] ∧ -1000 ≤ k ∧ k ≤ 1000 ∧ xs.length ≤ 1000 ∧
  (k ≤ 0 → ∀ p, H p = none → Q (.ref p) (upd H p (.tup []))) ∧ (k = 1 → Q (.ref l) H) ∧ (2 ≤ k → ∀ p, H p = none → Q (.ref p) (upd H p (.tup (List.replicate k.toNat xs).flatten)))
theorem op_repA : OpR X (binaryOp .Mult) (rRepA X.K) := by
  intro pins s σ H x y v u Q I rx ry h
  obtain ⟨l, k, xs, rfl, rfl, hT, hne, h0, h1, hz, q0, q1, q2⟩ := h
  by_cases k2 : 2 ≤ k
  · exact op_repT pins s σ H _ _ v u Q I rx ry ⟨l, k, xs, rfl, rfl, hT, hne, k2, h1, hz, q2 k2⟩
  cases rx
  obtain ⟨t, rfl⟩ := ry
  obtain ⟨its, r, ⟨⟨cls, dd, data, sl⟩, ho, hc, n, hd⟩, hs⟩ := I.tuple hT
  simp only at hc hd
  subst hc hd
  have hle : its.length = xs.length := r.length.symm
  have hn : its ≠ [] := fun e => hne (by
    rw [e] at hle
    exact List.eq_nil_of_length_eq_zero hle.symm)
  have hi : its.toArray.isEmpty = false := by
    cases its with
    | nil => exact absurd rfl hn
    | cons a b => rfl
  by_cases k1 : k = 1
  · subst k1
    refine wpAny_binaryOp_repeat_ref (T := "tuple") (U := "int") (by decide) ⟨_, ho, rfl⟩ (fun s' => typeIs_int s' 1 t) noFill_tuple_mul F.fills_int_mul F.slot_int_rmul repeat_tuple F.slot_int_index.lookup
      (call_meets F.slot_int_rmul (typeIs_int s 1 t) F.entry_int_rmul (F.args_int_rmul_2 _ _) (int_rmul_tuple 1 t l its.toArray n dd sl)
        ⟨ho, rfl, ⟨_, ho, rfl⟩, call_meets F.slot_tuple_mul ⟨_, ho, rfl⟩ F.entry_tuple_mul (F.args_tuple_mul_2 _ _) (tuple_mulOne l its.toArray n dd sl t) ⟨ho, ?_⟩⟩)
    exact ⟨.ref l, H, I, rfl, q1 rfl⟩
  · refine wpAny_binaryOp_repeat_ref (T := "tuple") (U := "int") (by decide) ⟨_, ho, rfl⟩ (fun s' => typeIs_int s' k t) noFill_tuple_mul F.fills_int_mul F.slot_int_rmul repeat_tuple F.slot_int_index.lookup
      (call_meets F.slot_int_rmul (typeIs_int s k t) F.entry_int_rmul (F.args_int_rmul_2 _ _) (int_rmul_tuple k t l its.toArray n dd sl)
        ⟨ho, rfl, ⟨_, ho, rfl⟩, call_meets F.slot_tuple_mul ⟨_, ho, rfl⟩ F.entry_tuple_mul (F.args_tuple_mul_2 _ _) (tuple_mulNone l its.toArray n dd sl k t (by omega) (by omega) hi) ⟨ho, ?_⟩⟩)
    refine ⟨.ref s.heap.objs.size, _, I.laid (t' := s.toks) (o := .tup []) (fun b ob q => Heap.get?_push_of_some _ q) (Nat.le_refl _) ?_, rfl, q0 (by omega) _ (I.hok.fresh (Nat.le_refl _))⟩
    exact ⟨by rw [List.length_nil]; exact Nat.zero_le _, [], .nil, IsTup.new _ _⟩
end

/-! ### t[::-1] -/
section
variable {prog : Program} {w : World} {A : Around} {E : Value → Shared → Prop} {s : Shared}
theorem places_rev (n : Nat) : Builtin.Slice.slicePlaces ((n : Int) - 1) (-1) (-1) = n := by
  unfold Builtin.Slice.slicePlaces
  rw [if_neg (by decide)]
  by_cases h : n = 0
  · subst h; rfl
  · rw [if_pos (by omega), show (-(-1 : Int)) = 1 by decide, Int.ediv_one]; omega
theorem sliceApplied_rev {sl : Addr} {vl vu vs : Value} {n : Nat} {Q : Int × Int × Nat → Shared → Prop} (hs : s.heap.IsSliceOf sl vl vu vs) (pl : IsPart vl none) (pu : IsPart vu none) (ps : IsPart vs (some (-1)))
    (h : Q ((n : Int) - 1, -1, n) s) : wpAny (model prog w) A (Builtin.Slice.sliceApplied (.ref sl) (pure (n : Int))) Q E s := by
  obtain ⟨os, hos, hcs, hds⟩ := id hs
  unfold Builtin.Slice.sliceApplied Builtin.Slice.sliceFields
  refine wpAny_bind (wpAny_bind (wpAny_field hos hds (x := vl) rfl (wpAny_bind (wpAny_field hos hds (x := vu) rfl (wpAny_bind (wpAny_field hos hds (x := vs) rfl (wpAny_pure ?_)))))))
  refine wpAny_bind (slicePart_ ps ?_)
  show wpAny _ _ (if ((-1 : Int) == 0) = true then _ else _) _ _ s
  rw [if_neg (by decide)]
  refine wpAny_bind (slicePart_ pl (wpAny_bind (slicePart_ pu (wpAny_bind (wpAny_pure ?_)))))
  show wpAny _ _ (pure ((n : Int) - 1, (-1 : Int), Builtin.Slice.slicePlaces ((n : Int) - 1) (-1) (-1))) _ _ s
  rw [places_rev]
  exact wpAny_pure h
theorem fm_congr {α β : Type} {f g : α → Option β} : ∀ {l : List α}, (∀ x ∈ l, f x = g x) → l.filterMap f = l.filterMap g
  | [], _ => rfl
  | x :: l, h => by
    rw [List.filterMap_cons, List.filterMap_cons, h x List.mem_cons_self, fm_congr fun y hy => h y (List.mem_cons_of_mem _ hy)]
theorem pick_rev (xs : Array Value) : ((List.range xs.size).filterMap fun (m : Nat) => xs[(((xs.size : Int) - 1) + (m : Int) * (-1)).toNat]?).toArray = xs.toList.reverse.toArray := by
  have e := PySem.W.krv_pick xs
  unfold slicePick at e
  rw [PySem.W.krv_bounds] at e
  have e : ((sliceRange ((xs.size : Int) - 1) (-1) (-1)).filterMap (xs[·]?)).toArray = xs.toList.reverse.toArray := e
  rw [PySem.W.krv_sliceRange, List.filterMap_map] at e
  rw [← e]
  congr 1
  refine fm_congr fun m hm => ?_
  have := List.mem_range.mp hm
  show xs[_]? = xs[xs.size - 1 - m]?
  congr 1
  omega
theorem getItem_tuple_rev {t sl : Addr} {items : Array Value} {vl vu vs : Value} {Q : Value → Shared → Prop} (ht : IsTup s.heap t items) (hs : s.heap.IsSliceOf sl vl vu vs) (pl : IsPart vl none) (pu : IsPart vu none) (ps : IsPart vs (some (-1)))
    (h : Q (.ref s.heap.objs.size) { s with heap := s.heap.push { cls := .type "tuple", data := .seq items.toList.reverse.toArray } })
    (hsz : items.size ≤ sizeLine) : wpAny (model prog w) A (getItem (.ref t) (.ref sl)) Q E s := by
  have htake : sizeOk (.seq items.toList.reverse.toArray) := by
    show items.toList.reverse.toArray.size ≤ sizeLine
    rw [List.size_toArray, List.length_reverse, Array.length_toList]
    exact hsz
  obtain ⟨os, hos, hcs, hds⟩ := id hs
  have hTs : s.TypeIs (.ref sl) "slice" := ⟨os, hos, hcs⟩
  unfold getItem
  try with_reducible refine wpAny_holding ?_
  first | refine wpAny_bind (wpAny_pure ?_) | skip
  refine wpAny_bind (wpAny_sequenceKey ht.typeIs (by decide) ?_)
  refine wpAny_bind (wpAny_callSpecial?_slot (name := Str.ofString "__getitem__") ht.typeIs PyProof.Rows.slot_tuple_getitem
    (wpAny_call_entry PyProof.Rows.slot_tuple_getitem ht.typeIs entry_tuple_getitem ?_ (args_tuple_getitem _ _)))
  show wpAny _ _ (Builtin.Tuple.tupleItemsOf (.ref t) >>= _) _ _ s
  refine wpAny_bind (tupleItemsOf_ ht ?_)
  refine wpAny_bind (wpAny_typeOf hTs ?_)
  rw [if_pos (by decide)]
  refine wpAny_bind (sliceApplied_rev hs pl pu ps ?_)
  have hno : ¬ (((((items.size : Nat) : Int) - 1) == 0 && (-1 : Int) == 1 && items.size == items.size) = true) := by
    intro q
    rw [Bool.and_eq_true, Bool.and_eq_true] at q
    exact absurd q.1.2 (by decide)
  show wpAny _ _ (if ((((items.size : Nat) : Int) - 1) == 0 && (-1 : Int) == 1 && items.size == items.size) = true then _ else _) _ _ s
  rw [if_neg hno, pick_rev]
  first
    | exact wpAny_bind (m := Builtin.Tuple.tupleExact _) (wpAny_newObj_type (wpAny_pure ⟨_, rfl, wpAny_pure h⟩) htake)
    | exact wpAny_bind (m := Builtin.Tuple.tupleExact _) (wpAny_newObj_type (wpAny_bind (wpAny_pure (wpAny_pure ⟨_, rfl, wpAny_pure h⟩))) htake)
    | exact wpAny_bind (wpAny_bind (m := Builtin.Tuple.tupleExact _) (wpAny_newObj_type (wpAny_pure (wpAny_pure ⟨_, rfl, wpAny_pure h⟩)) htake))
    | exact wpAny_bind (wpAny_bind (m := Builtin.Tuple.tupleExact _) (wpAny_newObj_type (wpAny_pure ⟨_, rfl, wpAny_pure h⟩) htake))
end
section
variable {X : Cx}
def tRevA (K : PySem.W.Frag) (te : TE) : TE := fun σ H Q => te σ H fun x H1 => ∃ a xs, x = .ref a ∧
  ((SqL K H1 a xs ∧ ∀ p, H1 p = none → Q (.ref p) (upd H1 p (.lst xs.reverse))) ∨ (SqT K H1 a xs ∧ ∀ p, H1 p = none → Q (.ref p) (upd H1 p (.tup xs.reverse))))
theorem pe_revA {e : Expr} {te : TE} {k : Nat} {p1 p2 p3 pos : Pos} (he : PE X e te) : PE X (.Subscript e (.Slice none none (some (.UnaryOp .USub (.Constant (.int 1) k p1) p2)) p3) pos) (tRevA X.K te) := by
  refine ⟨fun pins s σ H Q I h => ?_⟩
  refine Subscript_ (thn (he.run pins s σ H _ I h) fun v s1 ⟨x, H1, I1, r1, q1⟩ => ?_)
  obtain ⟨a, xs, ex, q⟩ := q1
  subst ex
  cases r1
  have hst : PO X (some (.UnaryOp .USub (.Constant (.int 1) k p1) p2)) (tPart (tUn (rU fun i => .int (-i)) (tC (.int 1)))) := po_some (pe_un un_neg pe_int)
  refine wpAny_Slice (thn (po_none.run pins s1 σ H1 (fun o H2 => o = none ∧ H2 = H1) I1 ⟨rfl, rfl⟩) fun vl s2 ⟨l, H2, I2, pl, el, e2⟩ => ?_)
  subst el e2
  refine thn (po_none.run pins s2 σ H2 (fun o H3 => o = none ∧ H3 = H2) I2 ⟨rfl, rfl⟩) fun vu s3 ⟨u, H3, I3, pu, eu, e3⟩ => ?_
  subst eu e3
  refine thn (hst.run pins s3 σ H3 (fun o H4 => o = some (-1) ∧ H4 = H3) I3 ⟨1, rfl, -1, rfl, rfl, rfl⟩) fun vs s4 ⟨o, H4, I4, ps, eo, e4⟩ => ?_
  subst eo e4
  have I5 : Inv X pins σ H4 { s4 with heap := s4.heap.push { cls := .type "slice", data := .fields #[vl, vu, vs] } } := I4.kept (t' := s4.toks) fun b ob q => Heap.get?_push_of_some _ q
  rcases q with ⟨hx, q⟩ | ⟨hx, q⟩
  · obtain ⟨its, r, ht, hz⟩ := I5.list hx
    have hlen := r.length
    show wpAny (model X.prog X.w) X.A (subscriptTail e (.Slice none none (some (.UnaryOp .USub (.Constant (.int 1) k p1) p2)) p3) (.ref a) (.ref s4.heap.objs.size)) (EP X pins σ Q) X.xe { s4 with heap := s4.heap.push { cls := .type "slice", data := .fields #[vl, vu, vs] } }
    refine tail_any (ops := [.ref a, .ref s4.heap.objs.size]) ht.isList.typeIs (PySem.slot_list_getitem.lookup) ?_ (by with_unfolding_all rfl)
    refine wpAny_getItem_list_slice ht.isList (Heap.IsSliceOf.new _ vl vu vs) pl pu ps (by decide) ?_ (by rw [List.size_toArray]; omega)
    rw [PySem.W.krv_pick]
    refine ⟨.ref _, _, I5.laid (t' := s4.toks) (o := .lst xs.reverse) (fun b ob q => Heap.get?_push_of_some _ q) (Nat.le_refl _) ?_, rfl, q _ (I5.hok.fresh (Nat.le_refl _))⟩
    exact ⟨by rw [List.length_reverse]; exact hz, _, 0, r.reverse, Heap.get?_push_size _ rfl⟩
  · obtain ⟨its, r, ht, hz⟩ := I5.tuple hx
    have hlen := r.length
    show wpAny (model X.prog X.w) X.A (subscriptTail e (.Slice none none (some (.UnaryOp .USub (.Constant (.int 1) k p1) p2)) p3) (.ref a) (.ref s4.heap.objs.size)) (EP X pins σ Q) X.xe { s4 with heap := s4.heap.push { cls := .type "slice", data := .fields #[vl, vu, vs] } }
    refine tail_any (ops := [.ref a, .ref s4.heap.objs.size]) ht.typeIs (PyProof.Rows.slot_tuple_getitem.lookup) ?_ (by with_unfolding_all rfl)
    refine getItem_tuple_rev ht (Heap.IsSliceOf.new _ vl vu vs) pl pu ps ?_ (by rw [List.size_toArray]; omega)
    refine ⟨.ref _, _, I5.laid (t' := s4.toks) (o := .tup xs.reverse) (fun b ob q => Heap.get?_push_of_some _ q) (Nat.le_refl _) ?_, rfl, q _ (I5.hok.fresh (Nat.le_refl _))⟩
    exact ⟨by rw [List.length_reverse]; exact hz, _, r.reverse, IsTup.new _ _⟩
end
end Sim

namespace Sim
open PySem L2

section
variable {K : Frg} {ρ : Rho} {st : Sto} {H : Hp}
theorem OR.sqL {xs : List D} {a : Addr} (h : OR K ρ H (.lst xs) a ∨ OR K ρ H (.frz xs) a) : ∃ vs, SqL K H a vs ∧ DRs K ρ H xs vs := by
  rcases h with ⟨vs, e, r⟩ | ⟨vs, e, r⟩
  · exact ⟨vs, .inl (.inl e), r⟩
  · rcases e with ⟨o, e⟩ | e
    · exact ⟨vs, .inl (.inr ⟨o, e⟩), r⟩
    · exact ⟨vs, .inr e, r⟩
theorem SR.seq (S : SR K ρ st H) {n : Nat} {a : Addr} {xs : List D} (h : st[n]? = some (.lst xs) ∨ st[n]? = some (.frz xs)) (ha : ρ[n]? = some a) : ∃ vs, SqL K H a vs ∧ DRs K ρ H xs vs := by
  rcases h with h | h
  · exact OR.sqL (.inl (S.at' n _ a h ha))
  · exact OR.sqL (.inr (S.at' n _ a h ha))
theorem items_ok (S : SR K ρ st H) {x : D} {v : V} {xs : List D} (r : DR K ρ H x v) (h : items x st = some xs) : ∃ a vs, v = .ref a ∧ (SqL K H a vs ∨ SqT K H a vs) ∧ DRs K ρ H xs vs := by
  cases r with
  | tup s t => cases h; exact ⟨_, _, rfl, .inr s, t⟩
  | @ref n a e =>
    unfold items at h
    cases q : st[n]? with
    | none => simp only [q] at h; cases h
    | some o =>
      cases o with
      | lst ys =>
        simp only [q] at h; cases h
        obtain ⟨vs, s, t⟩ := S.seq (.inl q) e
        exact ⟨a, vs, rfl, .inl s, t⟩
      | frz ys =>
        simp only [q] at h; cases h
        obtain ⟨vs, s, t⟩ := S.seq (.inr q) e
        exact ⟨a, vs, rfl, .inl s, t⟩
      | dct kvs => simp only [q] at h; cases h
  | _ => cases h
mutual
theorem toP_ok (S : SR K ρ st H) : ∀ (n : Nat) (x : D) (v : V) (p : PyData), toP st n x = some p → DR K ρ H x v → Dp K H v p
  | 0, _, _, _, h, _ => by cases h
  | n + 1, .non, _, _, h, r => by cases h; cases r; exact .non
  | n + 1, .bl b, _, _, h, r => by cases h; cases r; exact .bl b
  | n + 1, .int i, _, _, h, r => by cases h; cases r; exact .int i
  | n + 1, .str s, _, _, h, r => by cases h; cases r; exact .str s
  | n + 1, .tup xs, _, _, h, r => by
    cases r with
    | tup s t =>
      obtain ⟨ps, e, rfl⟩ := map_some' h
      exact .tup s (toPs_ok S n xs _ ps e t)
  | n + 1, .ref k, _, _, h, r => by
    cases r with
    | @ref k a e =>
      unfold toP at h
      cases q : st[k]? with
      | none => simp only [q] at h; cases h
      | some o =>
        cases o with
        | lst ys =>
          simp only [q] at h
          obtain ⟨vs, s, t⟩ := S.seq (.inl q) e
          obtain ⟨ps, e2, rfl⟩ := map_some' h
          exact .lst s (toPs_ok S n ys _ ps e2 t)
        | frz ys =>
          simp only [q] at h
          obtain ⟨vs, s, t⟩ := S.seq (.inr q) e
          obtain ⟨ps, e2, rfl⟩ := map_some' h
          exact .lst s (toPs_ok S n ys _ ps e2 t)
        | dct kvs => simp only [q] at h; cases h
theorem toPs_ok (S : SR K ρ st H) : ∀ (n : Nat) (xs : List D) (vs : List V) (ps : List PyData), mapO (fun x => toP st n x) xs = some ps → DRs K ρ H xs vs → DpAll K H vs ps
  | _, [], _, _, h, r => by cases h; cases r; exact .nil
  | n, x :: xs, _, _, h, r => by
    cases r with
    | cons r1 r2 =>
      unfold mapO at h
      obtain ⟨p, e1, h⟩ := bind_some h
      obtain ⟨ps, e2, rfl⟩ := map_some' h
      exact .cons (toP_ok S n x _ p e1 r1) (toPs_ok S n xs _ ps e2 r2)
end
theorem eqD_ok (S : SR K ρ st H) {x y : D} {v u : V} {b : Bool} (rx : DR K ρ H x v) (ry : DR K ρ H y u) (h : eqP x y st = some b) :
    ∃ d e, Dp K H v d ∧ Dp K H u e ∧ SeqAt.shaped d = true ∧ SeqAt.shaped e = true ∧ b = PyData.eqv d e := by
  unfold eqP at h
  obtain ⟨d, e1, h⟩ := bind_some h
  obtain ⟨e, e2, h⟩ := bind_some h
  obtain ⟨c, h⟩ := ite_some h
  rw [Bool.and_eq_true] at c
  cases h
  exact ⟨d, e, toP_ok S _ _ _ _ e1 rx, toP_ok S _ _ _ _ e2 ry, c.1, c.2, rfl⟩
theorem eqD_split {x y : D} {b : Bool} (h : eqD x y st = some b) : (∃ i j : Str, x = .str i ∧ y = .str j ∧ b = (i == j)) ∨ eqP x y st = some b := by
  unfold eqD at h
  cases e : eqSS x y with
  | none => rw [e] at h; exact .inr h
  | some c =>
    rw [e] at h
    cases h
    unfold eqSS at e
    split at e
    · cases e; exact .inl ⟨_, _, rfl, rfl, rfl⟩
    · cases e
theorem truth_ok (S : SR K ρ st H) {x : D} {v : V} {b : Bool} (r : DR K ρ H x v) (h : truth x st = some b) : TruV K v H b := by
  cases r with
  | non => cases h; rfl
  | bl b => cases h; rfl
  | int i => cases h; rfl
  | str s =>
    obtain ⟨c, h⟩ := ite_some h
    cases h
    exact ⟨most_line c, rfl⟩
  | tup s t =>
    cases h
    refine .inr (.inl ⟨_, s, ?_⟩)
    cases t <;> rfl
  | @ref n a e =>
    unfold truth at h
    cases q : st[n]? with
    | none => simp only [q] at h; cases h
    | some o =>
      cases o with
      | lst ys =>
        simp only [q] at h; cases h
        obtain ⟨vs, s, t⟩ := S.seq (.inl q) e
        exact .inl ⟨vs, s, by cases t <;> rfl⟩
      | frz ys =>
        simp only [q] at h; cases h
        obtain ⟨vs, s, t⟩ := S.seq (.inr q) e
        exact .inl ⟨vs, s, by cases t <;> rfl⟩
      | dct kvs =>
        simp only [q] at h; cases h
        obtain ⟨vs, s, t⟩ := S.at' n _ a q e
        exact .inr (.inr ⟨vs, s, by cases t <;> rfl⟩)
theorem flat_ok {x : D} {v : V} (r : DR K ρ H x v) (h : flatD x = true) : flatV v = true := by cases r <;> first | rfl | cases h
theorem flats_ok : ∀ {xs : List D} {vs : List V}, DRs K ρ H xs vs → xs.all flatD = true → vs.all flatV = true
  | _, _, .nil, _ => rfl
  | _, _, .cons r t, h => by
    rw [List.all_cons, Bool.and_eq_true] at h
    rw [List.all_cons, flat_ok r h.1, flats_ok t h.2]; rfl
theorem eqF_ok {x y : D} {v u : V} (rx : DR K ρ H x v) (ry : DR K ρ H y u) (hx : flatD x = true) (hy : flatD y = true) : eqV v u = eqF x y := by
  cases rx <;> first | (cases hx; done) | (cases ry <;> first | (cases hy; done) | rfl)
theorem anyF_ok {x : D} {v : V} (rx : DR K ρ H x v) (hx : flatD x = true) : ∀ {xs : List D} {vs : List V}, DRs K ρ H xs vs → xs.all flatD = true → inV v vs = xs.any fun z => eqF z x
  | _, _, .nil, _ => rfl
  | _, _, .cons r t, h => by
    rw [List.all_cons, Bool.and_eq_true] at h
    have ih := anyF_ok rx hx t h.2
    unfold inV at ih ⊢
    rw [List.any_cons, List.any_cons, ih, eqF_ok r rx h.1 hx]
end

section
variable {X : Cx}
theorem DRs.rep {K : Frg} {ρ : Rho} {H : Hp} {xs : List D} {vs : List V} (t : DRs K ρ H xs vs) : ∀ n : Nat, DRs K ρ H (List.replicate n xs).flatten (List.replicate n vs).flatten
  | 0 => .nil
  | n + 1 => by
    rw [List.replicate_succ, List.replicate_succ, List.flatten_cons, List.flatten_cons]
    exact t.app (DRs.rep t n)
theorem ok_sub : OpR X (binaryOp .Sub) (r2 X.K (binop .Sub)) := by
  rintro pins s σ H x y v u Q I rx ry ⟨ρ, st, a, b, d, st', S, ra, rb, e, k⟩
  cases ra with
  | int i =>
    cases rb <;> first | (cases e; done) | skip
    cases e
    exact op_sub pins s σ H _ _ v u Q I rx ry ⟨_, _, rfl, rfl, k.now S (.int _)⟩
  | bl c =>
    cases rb <;> first | (cases e; done) | skip
    cases e
    cases (show v = Value.bool c from rx)
    obtain ⟨t, rfl⟩ := ry
    exact IntBool.sub_bool_int ⟨.int _, H, I.tok _, ⟨_, rfl⟩, k.now S (.int _)⟩
  | _ => cases e
theorem ok_mul : OpR X (binaryOp .Mult) (r2 X.K (binop .Mult)) := by
  rintro pins s σ H x y v u Q I rx ry ⟨ρ, st, a, b, d, st', S, ra, rb, e, k⟩
  cases ra with
  | int i =>
    refine op_mulW pins s σ H _ y v u Q I rx ry ?_
    cases rb <;> first | (cases e; done) | skip
    obtain ⟨z, e1, e2⟩ := map_some' (show (gMul _ _).map _ = some _ from e)
    obtain ⟨c, e1⟩ := ite_some e1
    cases e1; cases e2
    exact ⟨_, _, rfl, rfl, c, k.now S (.int _)⟩
  | @tup a xs vs sa ta =>
    cases rb with
    | int j =>
      obtain ⟨⟨c1, c2, c3, c4⟩, e⟩ := ite_some (show repT xs j st = some (d, st') from e)
      cases e
      have hl := ta.length
      refine op_repA pins s σ H _ _ v u Q I rx ry ⟨a, j, vs, rfl, rfl, sa, fun h => c1 ?_, c2, c3, by omega, ?_, ?_, ?_⟩
      · subst h; exact List.eq_nil_of_length_eq_zero hl
      · intro h p hp
        have : j.toNat = 0 := by omega
        rw [this] at k
        exact k.tup S .nil p hp
      · intro h
        subst h
        refine k.now S ?_
        have : (List.replicate (1 : Int).toNat xs).flatten = xs := by simp
        rw [this]; exact .tup sa ta
      · intro h p hp
        exact k.tup S (DRs.rep ta j.toNat) p hp
    | _ => cases e
  | _ => cases e
theorem ok_mod : OpR X (binaryOp .Mod) (r2 X.K (binop .Mod)) := by
  rintro pins s σ H x y v u Q I rx ry ⟨ρ, st, a, b, d, st', S, ra, rb, e, k⟩
  refine op_mod pins s σ H x y v u Q I rx ry ?_
  cases ra <;> cases rb <;> first | (cases e; done) | skip
  obtain ⟨z, e1, e2⟩ := map_some' (show (gMod _ _).map _ = some _ from e)
  obtain ⟨c, e1⟩ := ite_some e1
  cases e1; cases e2
  exact ⟨_, _, rfl, rfl, c, k.now S (.int _)⟩
theorem ok_div : OpR X (binaryOp .FloorDiv) (r2 X.K (binop .FloorDiv)) := by
  rintro pins s σ H x y v u Q I rx ry ⟨ρ, st, a, b, d, st', S, ra, rb, e, k⟩
  refine op_fdivW pins s σ H x y v u Q I rx ry ?_
  cases ra <;> cases rb <;> first | (cases e; done) | skip
  obtain ⟨z, e1, e2⟩ := map_some' (show (gDiv _ _).map _ = some _ from e)
  obtain ⟨c, e1⟩ := ite_some e1
  cases e1; cases e2
  exact ⟨_, _, rfl, rfl, c, k.now S (.int _)⟩
theorem ok_pow : OpR X (binaryOp .Pow) (r2 X.K (binop .Pow)) := by
  rintro pins s σ H x y v u Q I rx ry ⟨ρ, st, a, b, d, st', S, ra, rb, e, k⟩
  refine op_pow pins s σ H x y v u Q I rx ry ?_
  cases ra <;> cases rb <;> first | (cases e; done) | skip
  obtain ⟨z, e1, e2⟩ := map_some' (show (gPow _ _).map _ = some _ from e)
  obtain ⟨c, e1⟩ := ite_some e1
  cases e1; cases e2
  exact ⟨_, _, rfl, rfl, c, k.now S (.int _)⟩
theorem ok_add : OpR X (binaryOp .Add) (r2 X.K (binop .Add)) := by
  rintro pins s σ H x y v u Q I rx ry ⟨ρ, st, a, b, d, st', S, ra, rb, e, k⟩
  cases ra with
  | int i =>
    cases rb <;> first | (cases e; done) | skip
    cases e
    exact op_add pins s σ H _ _ v u Q I rx ry ⟨_, _, rfl, rfl, k.now S (.int _)⟩
  | bl c =>
    cases rb <;> first | (cases e; done) | skip
    cases e
    cases (show v = Value.bool c from rx)
    obtain ⟨t, rfl⟩ := ry
    exact IntBool.add_bool_int ⟨.int _, H, I.tok _, ⟨_, rfl⟩, k.now S (.int _)⟩
  | str i =>
    cases rb <;> first | (cases e; done) | skip
    obtain ⟨c, e⟩ := ite_some e
    cases e
    exact op_add_str pins s σ H _ _ v u Q I rx ry ⟨_, _, rfl, rfl, most_line c, k.now S (.str _)⟩
  | @tup a xs vs sa ta =>
    cases rb with
    | @tup b ys ws sb tb =>
      obtain ⟨c, e⟩ := ite_some e
      cases e
      refine op_catA pins s σ H _ _ v u Q I rx ry ⟨a, b, vs, ws, rfl, rfl, sa, sb, ?_, ?_, ?_, ?_⟩
      · rw [← ta.length, ← tb.length]; exact most_line c
      · intro h; subst h
        cases ta
        exact k.now S (.tup sb tb)
      · intro h h0; subst h0
        cases tb
        rw [List.append_nil] at k
        exact k.now S (.tup sa ta)
      · intro h0 h1 p hp
        exact k.tup S (ta.app tb) p hp
    | _ => cases e
  | @ref n a ea =>
    cases rb with
    | @ref m b eb =>
      have e : (match st[n]?, st[m]? with
        | some (.lst xs), some (.lst ys) => if xs.length + ys.length ≤ most then alloc (.lst (xs ++ ys)) st else none
        | _, _ => none) = some (d, st') := e
      cases q1 : st[n]? with
      | none => simp only [q1] at e; cases e
      | some o1 =>
        cases o1 <;> simp only [q1] at e <;> first | (cases e; done) | skip
        cases q2 : st[m]? with
        | none => simp only [q2] at e; cases e
        | some o2 =>
          cases o2 <;> simp only [q2] at e <;> first | (cases e; done) | skip
          obtain ⟨c, e⟩ := ite_some e
          cases e
          obtain ⟨vs, s1, t1⟩ := S.at' n _ a q1 ea
          obtain ⟨ws, s2, t2⟩ := S.at' m _ b q2 eb
          refine op_cat pins s σ H _ _ v u Q I rx ry ⟨a, b, vs, ws, rfl, rfl, s1, s2, ?_, fun p hp => k.lst S (t1.app t2) p hp⟩
          rw [← t1.length, ← t2.length]; exact most_line c
    | _ => cases e
  | _ => cases e
theorem ok_bin (op : Operator) (h : op = .Add ∨ op = .Sub ∨ op = .Mult ∨ op = .Mod ∨ op = .FloorDiv ∨ op = .Pow) : OpR X (binaryOp op) (r2 X.K (binop op)) := by
  rcases h with rfl | rfl | rfl | rfl | rfl | rfl
  · exact ok_add
  · exact ok_sub
  · exact ok_mul
  · exact ok_mod
  · exact ok_div
  · exact ok_pow

/-! ### comparisons -/
def cmpR (op : CmpOp) (x y : D) (st : Sto) : R := (cmpop op x y st).map fun b => (.bl b, st)
theorem ok_cmpI {op : CmpOp} {p : Int → Int → Bool} (ho : OpR X (compareOp op) (rI0 fun i j => .bl (p i j))) (hc : ∀ x y st, cmpop op x y st = cmpI p x y) : OpR X (compareOp op) (r2 X.K (cmpR op)) := by
  rintro pins s σ H x y v u Q I rx ry ⟨ρ, st, a, b, d, st', S, ra, rb, e, k⟩
  refine ho pins s σ H x y v u Q I rx ry ?_
  obtain ⟨c, e1, e2⟩ := map_some' e
  rw [hc] at e1
  cases ra <;> cases rb <;> first | (cases e1; done) | skip
  cases e1; cases e2
  exact ⟨_, _, rfl, rfl, k.now S (.bl _)⟩
theorem ok_is : OpR X (compareOp .Is) (r2 X.K (cmpR .Is)) := by
  rintro pins s σ H x y v u Q I rx ry ⟨ρ, st, a, b, d, st', S, ra, rb, e, k⟩
  obtain ⟨c, e1, e2⟩ := map_some' e
  cases e2
  cases rb <;> first | (cases e1; done) | skip
  · refine op_isN pins s σ H _ _ v u Q I rx ry ⟨rfl, ?_⟩
    cases ra <;> (cases e1; exact k.now S (.bl _))
  · cases ra <;> first | (cases e1; done) | skip
    cases e1
    exact op_isBl pins s σ H _ _ v u Q I rx ry ⟨_, _, rfl, rfl, k.now S (.bl _)⟩
theorem ok_isnot : OpR X (compareOp .IsNot) (r2 X.K (cmpR .IsNot)) := by
  rintro pins s σ H x y v u Q I rx ry ⟨ρ, st, a, b, d, st', S, ra, rb, e, k⟩
  obtain ⟨c, e1, e2⟩ := map_some' e
  cases e2
  obtain ⟨c2, e3, e4⟩ := map_some' (show (isD a b).map _ = some c from e1)
  subst e4
  cases rb <;> first | (cases e3; done) | skip
  · refine op_notN pins s σ H _ _ v u Q I rx ry ⟨rfl, ?_⟩
    cases ra <;> (cases e3; exact k.now S (.bl _))
  · cases ra <;> first | (cases e3; done) | skip
    cases e3
    exact op_notBl pins s σ H _ _ v u Q I rx ry ⟨_, _, rfl, rfl, k.now S (.bl _)⟩
theorem ok_eq (hu : X.A.units + 64 < cLine) : OpR X (compareOp .Eq) (r2 X.K (cmpR .Eq)) := by
  rintro pins s σ H x y v u Q I rx ry ⟨ρ, st, a, b, d, st', S, ra, rb, e, k⟩
  obtain ⟨c, e1, e2⟩ := map_some' e
  cases e2
  rcases eqD_split e1 with ⟨i, j, rfl, rfl, rfl⟩ | e1
  · cases ra; cases rb
    exact op_eq pins s σ H _ _ v u Q I rx ry ⟨rfl, by rw [dec_str]; exact k.now S (.bl _)⟩
  obtain ⟨d1, d2, h1, h2, h3, h4, rfl⟩ := eqD_ok S ra rb e1
  exact op_eqD hu pins s σ H _ _ v u Q I rx ry ⟨d1, d2, h1, h2, h3, h4, k.now S (.bl _)⟩
theorem ok_ne (hu : X.A.units + 64 < cLine) : OpR X (compareOp .NotEq) (r2 X.K (cmpR .NotEq)) := by
  rintro pins s σ H x y v u Q I rx ry ⟨ρ, st, a, b, d, st', S, ra, rb, e, k⟩
  obtain ⟨c, e1, e2⟩ := map_some' e
  cases e2
  obtain ⟨c2, e3, e4⟩ := map_some' (show (eqD a b st).map _ = some c from e1)
  subst e4
  rcases eqD_split e3 with ⟨i, j, rfl, rfl, rfl⟩ | e3
  · cases ra; cases rb
    exact op_ne pins s σ H _ _ v u Q I rx ry ⟨rfl, by rw [dec_str]; exact k.now S (.bl _)⟩
  obtain ⟨d1, d2, h1, h2, h3, h4, rfl⟩ := eqD_ok S ra rb e3
  exact op_neD hu pins s σ H _ _ v u Q I rx ry ⟨d1, d2, h1, h2, h3, h4, k.now S (.bl _)⟩
theorem dctOf_ok {K : Frg} {ρ : Rho} {H : Hp} {st : Sto} (S : SR K ρ st H) {x : D} {v : V} {kvs : List (Key × D)} (r : DR K ρ H x v) (h : dctOf x st = some kvs) : ∃ a vs, v = .ref a ∧ H a = some (.dK vs) ∧ KDR K ρ H kvs vs := by
  unfold dctOf at h
  split at h
  · split at h
    · rename_i n q
      cases h
      cases r with
      | ref e =>
        obtain ⟨vs, h1, h2⟩ := S.at' _ _ _ q e
        exact ⟨_, vs, rfl, h1, h2⟩
    · cases h
  · cases h
theorem keyD_ok {K : Frg} {ρ : Rho} {H : Hp} {y : D} {v : V} {k : Key} (r : DR K ρ H y v) (h : keyD y = some k) : v = kV k := by
  cases r <;> cases h <;> rfl
theorem valV_ok {K : Frg} {ρ : Rho} {H : Hp} {k : Key} : ∀ {kvs : List (Key × D)} {vs : List (Key × V)}, KDR K ρ H kvs vs → (getK kvs k = none ∧ valV vs k = none) ∨ ∃ d v, getK kvs k = some d ∧ valV vs k = some v ∧ DR K ρ H d v
  | _, _, .nil => .inl ⟨rfl, rfl⟩
  | (k1, d1) :: r, (k2, v2) :: s, .cons h t => by
    obtain ⟨e, rd⟩ := h
    have e : k1 = k2 := e
    subst e
    unfold getK valV
    rw [List.find?_cons, List.find?_cons]
    by_cases c : k1 = k
    · have c2 : decide (k1 = k) = true := decide_eq_true c
      simp only [c2]
      exact .inr ⟨d1, v2, rfl, rfl, rd⟩
    · have c2 : decide (k1 = k) = false := decide_eq_false c
      simp only [c2]
      exact valV_ok t
theorem inD_split {x y : D} {st : Sto} {b : Bool} (h : inS x y st = some b) :
    (∃ s z c, x = .str s ∧ y = .str z ∧ s.cps.toList = [c] ∧ b = decide (c ∈ z.cps.toList)) ∨ (∃ xs, items y st = some xs ∧ flatD x = true ∧ xs.all flatD = true ∧ b = xs.any fun z => eqF z x) ∨ inDeep x y st = some b := by
  unfold inS at h
  split at h
  · split at h
    · split at h
      · cases h; exact .inl ⟨_, _, _, rfl, rfl, by assumption, rfl⟩
      · cases h
    · cases h
  · obtain ⟨xs, e, h2⟩ := bind_some h
    by_cases c : (flatD x && xs.all flatD) = true
    · rw [if_pos c] at h2
      rw [Bool.and_eq_true] at c
      cases h2
      exact .inr (.inl ⟨xs, e, c.1, c.2, rfl⟩)
    · rw [if_neg c] at h2
      exact .inr (.inr h2)
theorem inDeep_ok {K : Frg} {ρ : Rho} {H : Hp} {st : Sto} (S : SR K ρ st H) {x y : D} {v u : V} {b : Bool} (rx : DR K ρ H x v) (ry : DR K ρ H y u) (h : inDeep x y st = some b) :
    ∃ d ds, Dp K H v d ∧ (Dp K H u (.list ds) ∨ Dp K H u (.tuple ds)) ∧ SeqAt.shaped d = true ∧ SeqAt.shaped (.list ds) = true ∧ b = ds.any fun z => PyData.eqv z d := by
  unfold inDeep at h
  obtain ⟨d, e1, h2⟩ := bind_some h
  obtain ⟨e, e2, h3⟩ := bind_some h2
  have k1 := toP_ok S _ _ _ _ e1 rx
  have k2 := toP_ok S _ _ _ _ e2 ry
  split at h3
  · obtain ⟨c, h4⟩ := ite_some h3
    rw [Bool.and_eq_true] at c
    cases h4
    exact ⟨d, _, k1, .inl k2, c.1, c.2, rfl⟩
  · obtain ⟨c, h4⟩ := ite_some h3
    rw [Bool.and_eq_true] at c
    cases h4
    exact ⟨d, _, k1, .inr k2, c.1, c.2, rfl⟩
  · cases h3
theorem str_one {s : Str} {c : Nat} (h : s.cps.toList = [c]) : s = ⟨#[c]⟩ := by
  cases s with
  | mk a => cases a with | mk l => cases (show l = [c] from h); rfl
theorem op_inT (hu : X.A.units + 65 < cLine) : OpR X (compareOp .In) (fun x y H Q => ∃ d ds, Dp X.K H x d ∧ Dp X.K H y (.tuple ds) ∧ SeqAt.shaped d = true ∧ SeqAt.shaped (.list ds) = true ∧ Q (.bl (ds.any fun z => PyData.eqv z d)) H) := by
  intro pins s σ H x y v u Q I rx ry h
  obtain ⟨d, ds, hd, he, sd, se, q⟩ := h
  obtain ⟨as, r1⟩ := Dp.reads I d x v hd rx
  obtain ⟨bs, r2⟩ := Dp.reads I (.tuple ds) y u he ry
  exact SeqAt.in_tuple_reads r2 r1 (SeqAt.canLay_of_shaped se) (SeqAt.canLay_of_shaped sd) (PyProof.Rows.room_in_shaped sd hu) ⟨.bl _, H, I, rfl, q⟩
theorem op_notInT (hu : X.A.units + 65 < cLine) : OpR X (compareOp .NotIn) (fun x y H Q => ∃ d ds, Dp X.K H x d ∧ Dp X.K H y (.tuple ds) ∧ SeqAt.shaped d = true ∧ SeqAt.shaped (.list ds) = true ∧ Q (.bl (!ds.any fun z => PyData.eqv z d)) H) := by
  intro pins s σ H x y v u Q I rx ry h
  obtain ⟨d, ds, hd, he, sd, se, q⟩ := h
  obtain ⟨as, r1⟩ := Dp.reads I d x v hd rx
  obtain ⟨bs, r2⟩ := Dp.reads I (.tuple ds) y u he ry
  exact SeqAt.notIn_tuple_reads r2 r1 (SeqAt.canLay_of_shaped se) (SeqAt.canLay_of_shaped sd) (PyProof.Rows.room_in_shaped sd hu) ⟨.bl _, H, I, rfl, q⟩
theorem ok_inS (hu : X.A.units + 65 < cLine) : OpR X (compareOp .In) (r2 X.K fun x y st => (inS x y st).map fun b => (.bl b, st)) := by
  rintro pins s σ H x y v u Q I rx ry ⟨ρ, st, a, b, d, st', S, ra, rb, e, k⟩
  obtain ⟨c, e1, e2⟩ := map_some' e
  cases e2
  rcases inD_split e1 with ⟨s1, z, c1, rfl, rfl, h, rfl⟩ | ⟨xs, h, hx, hxs, rfl⟩ | hd
  · cases ra; cases rb
    rw [str_one h] at rx
    exact op_in_sign pins s σ H _ _ v u Q I rx ry ⟨c1, z, rfl, rfl, k.now S (.bl _)⟩
  · obtain ⟨p, vs, rfl, sq, t⟩ := items_ok S rb h
    refine op_in_seq pins s σ H _ _ v u Q I rx ry ⟨p, vs, rfl, sq, flat_ok ra hx, flats_ok t hxs, ?_⟩
    rw [if_neg Bool.false_ne_true, anyF_ok ra hx t hxs]
    exact k.now S (.bl _)
  · obtain ⟨d, ds, h1, h2, h3, h4, rfl⟩ := inDeep_ok S ra rb hd
    rcases h2 with h2 | h2
    · exact op_inD hu pins s σ H _ _ v u Q I rx ry ⟨d, ds, h1, h2, h3, h4, k.now S (.bl _)⟩
    · exact op_inT hu pins s σ H _ _ v u Q I rx ry ⟨d, ds, h1, h2, h3, h4, k.now S (.bl _)⟩
theorem ok_notinS (hu : X.A.units + 65 < cLine) : OpR X (compareOp .NotIn) (r2 X.K fun x y st => (inS x y st).map fun b => (.bl (!b), st)) := by
  rintro pins s σ H x y v u Q I rx ry ⟨ρ, st, a, b, d, st', S, ra, rb, e, k⟩
  obtain ⟨c, e1, e2⟩ := map_some' e
  cases e2
  rcases inD_split e1 with ⟨s1, z, c1, rfl, rfl, h, rfl⟩ | ⟨xs, h, hx, hxs, rfl⟩ | hd
  · cases ra; cases rb
    rw [str_one h] at rx
    exact op_notIn_sign pins s σ H _ _ v u Q I rx ry ⟨c1, z, rfl, rfl, k.now S (.bl _)⟩
  · obtain ⟨p, vs, rfl, sq, t⟩ := items_ok S rb h
    refine op_notIn_seq pins s σ H _ _ v u Q I rx ry ⟨p, vs, rfl, sq, flat_ok ra hx, flats_ok t hxs, ?_⟩
    rw [if_pos rfl, anyF_ok ra hx t hxs]
    exact k.now S (.bl _)
  · obtain ⟨d, ds, h1, h2, h3, h4, rfl⟩ := inDeep_ok S ra rb hd
    rcases h2 with h2 | h2
    · exact op_notInD hu pins s σ H _ _ v u Q I rx ry ⟨d, ds, h1, h2, h3, h4, k.now S (.bl _)⟩
    · exact op_notInT hu pins s σ H _ _ v u Q I rx ry ⟨d, ds, h1, h2, h3, h4, k.now S (.bl _)⟩
theorem op_in_dct (hu : X.A.units + 1 < cLine) : OpR X (compareOp .In) (fun y x H Q => ∃ a o, x = V.ref a ∧ DGet H a y o ∧ Q (.bl o.isSome) H) := by
  intro pins s σ H y x iv u Q I ry rx h
  obtain ⟨a, ov, rfl, g, q2⟩ := h
  obtain rfl : u = Value.ref a := rx
  exact d_in hu I g ry fun s3 I3 => ⟨.bl ov.isSome, H, I3, rfl, q2⟩
theorem op_notin_dct (hu : X.A.units + 1 < cLine) : OpR X (compareOp .NotIn) (fun y x H Q => ∃ a o, x = V.ref a ∧ DGet H a y o ∧ Q (.bl (!o.isSome)) H) := by
  intro pins s σ H y x iv u Q I ry rx h
  obtain ⟨a, ov, rfl, g, q2⟩ := h
  obtain rfl : u = Value.ref a := rx
  exact d_notIn hu I g ry fun s3 I3 => ⟨.bl (!ov.isSome), H, I3, rfl, q2⟩
theorem dinD_ok {K : Frg} {ρ : Rho} {H : Hp} {st : Sto} (S : SR K ρ st H) {x y : D} {v u : V} {b : Bool} (rx : DR K ρ H x v) (ry : DR K ρ H y u) (h : dinD x y st = some b) : ∃ a o, u = V.ref a ∧ DGet H a v o ∧ b = o.isSome := by
  unfold dinD at h
  obtain ⟨kvs, e3, e4⟩ := bind_some h
  obtain ⟨ky, e5, e6⟩ := map_some' e4
  obtain ⟨ad, vs, rfl, h1, h2⟩ := dctOf_ok S ry e3
  have hy := keyD_ok rx e5
  subst hy
  refine ⟨ad, valV vs ky, rfl, DGet.k h1, ?_⟩
  rw [← e6]
  rcases valV_ok (k := ky) h2 with ⟨h3, h4⟩ | ⟨d2, v2, h3, h4, h5⟩
  · rw [h3, h4]; rfl
  · rw [h3, h4]; rfl
theorem ok_in (hu : X.A.units + 65 < cLine) : OpR X (compareOp .In) (r2 X.K (cmpR .In)) := by
  rintro pins s σ H x y v u Q I rx ry ⟨ρ, st, a, b, d, st', S, ra, rb, e, k⟩
  obtain ⟨c, e1, e2⟩ := map_some' e
  cases e2
  have e1 : inD a b st = some c := e1
  cases e0 : inS a b st with
  | some c2 =>
    rw [in_of e0] at e1
    cases e1
    exact ok_inS hu pins s σ H x y v u Q I rx ry ⟨ρ, st, a, b, _, st, S, ra, rb, by show (inS a b st).map _ = _; rw [e0]; rfl, k⟩
  | none =>
    unfold inD at e1
    rw [e0] at e1
    obtain ⟨ad, o, rfl, g, rfl⟩ := dinD_ok S ra rb e1
    exact op_in_dct (by omega) pins s σ H _ _ v u Q I rx ry ⟨ad, o, rfl, g, k.now S (.bl _)⟩
theorem ok_notin (hu : X.A.units + 65 < cLine) : OpR X (compareOp .NotIn) (r2 X.K (cmpR .NotIn)) := by
  rintro pins s σ H x y v u Q I rx ry ⟨ρ, st, a, b, d, st', S, ra, rb, e, k⟩
  obtain ⟨c, e1, e2⟩ := map_some' e
  cases e2
  obtain ⟨c3, e3, e4⟩ := map_some' (show (inD a b st).map _ = some c from e1)
  subst e4
  cases e0 : inS a b st with
  | some c2 =>
    rw [in_of e0] at e3
    cases e3
    exact ok_notinS hu pins s σ H x y v u Q I rx ry ⟨ρ, st, a, b, _, st, S, ra, rb, by show (inS a b st).map _ = _; rw [e0]; rfl, k⟩
  | none =>
    unfold inD at e3
    rw [e0] at e3
    obtain ⟨ad, o, rfl, g, rfl⟩ := dinD_ok S ra rb e3
    exact op_notin_dct (by omega) pins s σ H _ _ v u Q I rx ry ⟨ad, o, rfl, g, k.now S (.bl _)⟩
theorem ok_cmp (hu : X.A.units + 65 < cLine) : ∀ op : CmpOp, OpR X (compareOp op) (r2 X.K (cmpR op))
  | .Eq => ok_eq (by omega)
  | .NotEq => ok_ne (by omega)
  | .Lt => ok_cmpI op_lt fun _ _ _ => rfl
  | .LtE => ok_cmpI op_le fun _ _ _ => rfl
  | .Gt => ok_cmpI op_gt fun _ _ _ => rfl
  | .GtE => ok_cmpI op_ge fun _ _ _ => rfl
  | .Is => ok_is
  | .IsNot => ok_isnot
  | .In => ok_in hu
  | .NotIn => ok_notin hu

/-! ### items, slices -/
theorem atI_DRs {K : Frg} {ρ : Rho} {H : Hp} {xs : List D} {vs : List V} {i : Int} {d : D} (t : DRs K ρ H xs vs) (h : atI xs i = some d) : ∃ v, atI vs i = some v ∧ DR K ρ H d v := by
  unfold atI at h ⊢
  obtain ⟨j, e, h⟩ := bind_some h
  obtain ⟨v, e2, r⟩ := t.get h
  exact ⟨v, by rw [← t.length, e]; exact e2, r⟩
theorem ok_ixS : IxR X (r2 X.K fun x y st => (ixS x y st).map fun d => (d, st)) := by
  rintro value slice pins s σ H x y v u Q I rx ry ⟨ρ, st, a, b, d, st', S, ra, rb, e, k⟩ hs
  refine ix_seq value slice pins s σ H x y v u Q I rx ry ?_ hs
  obtain ⟨c, e1, e2⟩ := map_some' e
  cases e2
  unfold ixS at e1
  split at e1
  · obtain ⟨c1, e1⟩ := ite_some e1
    obtain ⟨c2, e4, e5⟩ := map_some' e1
    subst e5
    cases ra; cases rb
    exact .inr (.inr ⟨_, _, _, rfl, rfl, most_line c1, e4, k.now S (.str _)⟩)
  · obtain ⟨xs, e3, e1⟩ := bind_some e1
    cases rb
    obtain ⟨p, vs, rfl, sq, t⟩ := items_ok S ra e3
    obtain ⟨w, hw, hrw⟩ := atI_DRs t e1
    rcases sq with sq | sq
    · exact .inl ⟨p, vs, _, w, rfl, rfl, sq, hw, k.now S hrw⟩
    · exact .inr (.inl ⟨p, vs, _, w, rfl, rfl, sq, hw, k.now S hrw⟩)
  · cases e1
section
open PySem.Spec PyProof.Rows
/-- d[y], a dict of ours, as a subscript by values -/
theorem ix_dict (hu : X.A.units + 1 < cLine) : IxR X (fun x y H Q => ∃ a v, x = V.ref a ∧ DGet H a y (some v) ∧ Q v H) := by
  intro value slice pins s σ H x y v u Q I rx ry h hs
  obtain ⟨a, z, rfl, g, q⟩ := h
  cases rx
  have fin : wpAny (model X.prog X.w) X.A (subscripted slice false (.ref a) u) (fun r s₃ => wpAny (model X.prog X.w) X.A (letTemporaryGo value (.ref a) r >>= fun _ => pure r) (EP X pins σ Q) X.xe s₃) X.xe s := by
    rw [hs]
    exact wpAny_operating (d_getItem hu I g ry fun w' s3 I3 rw' => wpAny_bind (wpAny_letTemporaryGo (wpAny_pure ⟨z, H, I3, rw', q⟩)))
  unfold subscriptTail
  refine wpAny_bind ?_
  rw [getitemInPython_of_ne (dict_typeIs I g).not_modules]
  refine wpAny_bind (wpAny_specialOf (dict_typeIs I g) PySem.F.slot_dict_getitem.lookup ?_)
  first
    | exact wpAny_pure (wpAny_bind fin)
    | exact wpAny_bind (wpAny_pure (wpAny_bind fin))
    | exact wpAny_bind fin
end
theorem ok_ix (hu : X.A.units + 1 < cLine) : IxR X (r2 X.K fun x y st => (ix x y st).map fun d => (d, st)) := by
  rintro value slice pins s σ H x y v u Q I rx ry ⟨ρ, st, a, b, d, st', S, ra, rb, e, k⟩ hs
  have e : (ix a b st).map _ = _ := e
  cases e0 : ixS a b st with
  | some c =>
    rw [ix_of e0] at e
    exact ok_ixS value slice pins s σ H x y v u Q I rx ry ⟨ρ, st, a, b, d, st', S, ra, rb, by show (ixS a b st).map _ = _; rw [e0]; exact e, k⟩ hs
  | none =>
    obtain ⟨c, e1, e2⟩ := map_some' e
    cases e2
    unfold ix at e1
    rw [e0] at e1
    have e1 : dgetD a b st = some d := e1
    unfold dgetD at e1
    obtain ⟨kvs, e3, e4⟩ := bind_some e1
    obtain ⟨ky, e5, e6⟩ := bind_some e4
    obtain ⟨ad, vs, rfl, h1, h2⟩ := dctOf_ok S ra e3
    have hy := keyD_ok rb e5
    subst hy
    rcases valV_ok (k := ky) h2 with ⟨h3, _⟩ | ⟨d2, v2, h3, h4, h5⟩
    · rw [h3] at e6; cases e6
    · rw [h3] at e6; cases e6
      exact ix_dict hu value slice pins s σ H _ _ v u Q I rx ry ⟨ad, v2, rfl, by rw [← h4]; exact DGet.k h1, k.now S h5⟩ hs
theorem cut_DRs {K : Frg} {ρ : Rho} {H : Hp} {xs : List D} {vs : List V} (t : DRs K ρ H xs vs) (lo hi : Option Int) : DRs K ρ H (cutD xs lo hi) (cutV vs lo hi) := by
  unfold cutD cutV
  rw [t.length]
  exact (t.drop _).take _
def rSl (K : Frg) : V → Option Int → Option Int → Hp → VK → Prop := fun x lo hi H Q => ∃ ρ st a d st', SR K ρ st H ∧ DR K ρ H a x ∧ slD a lo hi st = some (d, st') ∧ Then K ρ H d st' Q
theorem ok_sl : SlR X (rSl X.K) := by
  rintro pins s σ H x v vl vu lo hi sl Q I rx hs pl pu ⟨ρ, st, a, d, st', S, ra, e, k⟩
  cases ra with
  | str z =>
    obtain ⟨c, e⟩ := ite_some e
    cases e
    exact C8.sl_txt pins s σ H _ v vl vu lo hi sl Q I rx hs pl pu ⟨z, rfl, most_line c, k.now S (.str _)⟩
  | tup sa ta =>
    cases e
    refine sl_tupA pins s σ H _ v vl vu lo hi sl Q I rx hs pl pu ⟨_, _, rfl, sa, ?_, ?_⟩
    · intro h
      refine k.now S (.tup sa ?_)
      have c := cut_DRs ta lo hi
      unfold cutV at c
      rw [h.1, h.2, Nat.sub_zero, List.drop_zero, List.take_length] at c
      exact c
    · intro h p hp
      exact k.tup S (cut_DRs ta lo hi) p hp
  | @ref n a ea =>
    have e : (match st[n]? with
      | some (.lst xs) => alloc (.lst (cutD xs lo hi)) st
      | some (.frz xs) => alloc (.lst (cutD xs lo hi)) st
      | _ => none) = some (d, st') := e
    cases q : st[n]? with
    | none => simp only [q] at e; cases e
    | some o =>
      cases o <;> simp only [q] at e <;> first | (cases e; done) | skip
      · cases e
        obtain ⟨vs, sq, t⟩ := S.seq (.inl q) ea
        exact sl_list pins s σ H _ v vl vu lo hi sl Q I rx hs pl pu ⟨a, vs, rfl, sq, fun p hp => k.lst S (cut_DRs t lo hi) p hp⟩
      · cases e
        obtain ⟨vs, sq, t⟩ := S.seq (.inr q) ea
        exact sl_list pins s σ H _ v vl vu lo hi sl Q I rx hs pl pu ⟨a, vs, rfl, sq, fun p hp => k.lst S (cut_DRs t lo hi) p hp⟩
  | _ => cases e
end
end Sim

namespace Sim
open PySem L2

/-! ### what built-ins do -/
def bLen (ds : List D) (st : Sto) : R :=
  match ds with
  | [.str s] => if s.length ≤ most then some (.int s.length, st) else none
  | [x] => (items x st).map fun xs => (.int xs.length, st)
  | _ => none
def shows (p : PyData) : Bool := p.showable && !p.hasDict && decide (p.depth ≤ 60) && decide (p.shown.length ≤ 1000000)
def bRepr (ds : List D) (st : Sto) : R :=
  match ds with
  | [x] => (toP st 60 x).bind fun p => if shows p = true then some (.str p.shown, st) else none
  | _ => none
def bGcd (ds : List D) (st : Sto) : R :=
  match ds with
  | [.int a, .int b] => some (.int ((Nat.gcd a.natAbs b.natAbs : Nat) : Int), st)
  | _ => none
def bMin2 (ds : List D) (st : Sto) : R :=
  match ds with
  | [.int i, .int j] => some (.int (if j < i then j else i), st)
  | _ => none
def bMax2 (ds : List D) (st : Sto) : R :=
  match ds with
  | [.int i, .int j] => some (.int (if j > i then j else i), st)
  | _ => none
def bTuple (ds : List D) (st : Sto) : R :=
  match ds with
  | [x] => (items x st).map fun xs => (.tup xs, st)
  | _ => none
def bList (ds : List D) (st : Sto) : R :=
  match ds with
  | [x] => (items x st).bind fun xs => alloc (.lst xs) st
  | _ => none
def intD : D → Option Int
  | .int i => some i
  | _ => none
def blD : D → Option Bool
  | .bl b => some b
  | _ => none
/-- the items of a list (no tuple) -/
def lstOf (x : D) (st : Sto) : Option (List D) :=
  match x with
  | .ref _ => items x st
  | _ => none
def bSum (ds : List D) (st : Sto) : R :=
  match ds with
  | [x] => (lstOf x st).bind fun xs => (mapO intD xs).map fun ns => (.int ns.sum, st)
  | _ => none
def bAll (ds : List D) (st : Sto) : R :=
  match ds with
  | [x] => (lstOf x st).bind fun xs => (mapO blD xs).map fun bs => (.bl (bs.all id), st)
  | _ => none
def bAny (ds : List D) (st : Sto) : R :=
  match ds with
  | [x] => (lstOf x st).bind fun xs => (mapO blD xs).map fun bs => (.bl (bs.any id), st)
  | _ => none
def maxL : List Int → Option Int
  | [] => none
  | x :: xs => some (xs.foldl max x)
def minL : List Int → Option Int
  | [] => none
  | x :: xs => some (xs.foldl min x)
def bMaxL (ds : List D) (st : Sto) : R :=
  match ds with
  | [x] => (lstOf x st).bind fun xs => (mapO intD xs).bind fun ns => (maxL ns).map fun m => (.int m, st)
  | _ => none
def bMinL (ds : List D) (st : Sto) : R :=
  match ds with
  | [x] => (lstOf x st).bind fun xs => (mapO intD xs).bind fun ns => (minL ns).map fun m => (.int m, st)
  | _ => none
def bMax (ds : List D) (st : Sto) : R :=
  match ds with
  | [_] => bMaxL ds st
  | _ => bMax2 ds st
def bMin (ds : List D) (st : Sto) : R :=
  match ds with
  | [_] => bMinL ds st
  | _ => bMin2 ds st
def tyD (x : D) (st : Sto) : Option String :=
  match x with
  | .non => some "NoneType"
  | .bl _ => some "bool"
  | .int _ => some "int"
  | .str _ => some "str"
  | .tup _ => some "tuple"
  | .ref n => match st[n]? with
    | some (.lst _) => some "list"
    | some (.frz _) => some "list"
    | some (.dct _) => some "dict"
    | none => none
def isInst (T : String) (x : D) (st : Sto) : Option Bool := (tyD x st).bind fun t => kitB t T
def fIsi (T : String) (fa : SemE) : SemE := fun η st => (fa η st).bind fun p => (isInst T p.1 p.2).map fun b => (.bl b, p.2)

section
variable {K : Frg} {ρ : Rho} {st : Sto} {H : Hp}
theorem lstOf_ok (S : SR K ρ st H) {x : D} {v : V} {xs : List D} (r : DR K ρ H x v) (h : lstOf x st = some xs) : ∃ a vs, v = .ref a ∧ SqL K H a vs ∧ DRs K ρ H xs vs := by
  cases r with
  | @ref n a e =>
    have h : items (.ref n) st = some xs := h
    unfold items at h
    cases q : st[n]? with
    | none => simp only [q] at h; cases h
    | some o =>
      cases o <;> simp only [q] at h <;> first | (cases h; done) | skip
      · cases h
        obtain ⟨vs, s, t⟩ := S.seq (.inl q) e
        exact ⟨a, vs, rfl, s, t⟩
      · cases h
        obtain ⟨vs, s, t⟩ := S.seq (.inr q) e
        exact ⟨a, vs, rfl, s, t⟩
  | _ => cases h
theorem ints_ok : ∀ {xs : List D} {ns : List Int} {vs : List V}, mapO intD xs = some ns → DRs K ρ H xs vs → vs = ns.map V.int
  | [], _, _, h, r => by cases h; cases r; rfl
  | x :: xs, _, _, h, r => by
    cases r with
    | cons a t =>
      unfold mapO at h
      obtain ⟨i, e, h⟩ := bind_some h
      obtain ⟨ns, e2, rfl⟩ := map_some' h
      cases a <;> first | (cases e; done) | skip
      cases e
      rw [ints_ok e2 t]; rfl
theorem bls_ok : ∀ {xs : List D} {ns : List Bool} {vs : List V}, mapO blD xs = some ns → DRs K ρ H xs vs → vs = ns.map V.bl
  | [], _, _, h, r => by cases h; cases r; rfl
  | x :: xs, _, _, h, r => by
    cases r with
    | cons a t =>
      unfold mapO at h
      obtain ⟨i, e, h⟩ := bind_some h
      obtain ⟨ns, e2, rfl⟩ := map_some' h
      cases a <;> first | (cases e; done) | skip
      cases e
      rw [bls_ok e2 t]; rfl
theorem one_of {ds : List D} {vs : List V} (r : DRs K ρ H ds vs) {d : D} (e : ds = [d]) : ∃ v, vs = [v] ∧ DR K ρ H d v := by
  subst e
  cases r with
  | cons a t => cases t; exact ⟨_, rfl, a⟩
theorem foldl_max : ∀ (xs : List Int) (x : Int), (x ≤ xs.foldl max x) ∧ (∀ y ∈ xs, y ≤ xs.foldl max x) ∧ (xs.foldl max x = x ∨ xs.foldl max x ∈ xs)
  | [], x => ⟨Int.le_refl _, (fun _ h => nomatch h), .inl rfl⟩
  | y :: ys, x => by
    obtain ⟨h1, h2, h3⟩ := foldl_max ys (max x y)
    refine ⟨by have := Int.le_max_left x y; exact Int.le_trans this h1, fun z hz => ?_, ?_⟩
    · rcases List.mem_cons.mp hz with rfl | hz
      · exact Int.le_trans (Int.le_max_right x z) h1
      · exact h2 z hz
    · show ys.foldl max (max x y) = x ∨ ys.foldl max (max x y) ∈ y :: ys
      rcases h3 with h3 | h3
      · rcases Int.le_total x y with q | q
        · rw [Int.max_eq_right q] at h3 ⊢; exact .inr (by rw [h3]; exact List.mem_cons_self)
        · rw [Int.max_eq_left q] at h3 ⊢; exact .inl h3
      · exact .inr (List.mem_cons_of_mem _ h3)
theorem foldl_min : ∀ (xs : List Int) (x : Int), (xs.foldl min x ≤ x) ∧ (∀ y ∈ xs, xs.foldl min x ≤ y) ∧ (xs.foldl min x = x ∨ xs.foldl min x ∈ xs)
  | [], x => ⟨Int.le_refl _, (fun _ h => nomatch h), .inl rfl⟩
  | y :: ys, x => by
    obtain ⟨h1, h2, h3⟩ := foldl_min ys (min x y)
    refine ⟨Int.le_trans h1 (Int.min_le_left x y), fun z hz => ?_, ?_⟩
    · rcases List.mem_cons.mp hz with rfl | hz
      · exact Int.le_trans h1 (Int.min_le_right x z)
      · exact h2 z hz
    · show ys.foldl min (min x y) = x ∨ ys.foldl min (min x y) ∈ y :: ys
      rcases h3 with h3 | h3
      · rcases Int.le_total x y with q | q
        · rw [Int.min_eq_left q] at h3 ⊢; exact .inl h3
        · rw [Int.min_eq_right q] at h3 ⊢; exact .inr (by rw [h3]; exact List.mem_cons_self)
      · exact .inr (List.mem_cons_of_mem _ h3)
theorem maxL_ok {ns : List Int} {m : Int} (h : maxL ns = some m) : 0 < ns.length ∧ ∀ k, k ∈ ns → (∀ y, y ∈ ns → y ≤ k) → k = m := by
  cases ns with
  | nil => cases h
  | cons x xs =>
    cases h
    obtain ⟨h1, h2, h3⟩ := foldl_max xs x
    refine ⟨Nat.succ_pos _, fun k hk hm => ?_⟩
    have a : k ≤ xs.foldl max x := by
      rcases List.mem_cons.mp hk with rfl | hk
      · exact h1
      · exact h2 k hk
    have b : xs.foldl max x ≤ k := by
      rcases h3 with h3 | h3
      · rw [h3]; exact hm x List.mem_cons_self
      · exact hm _ (List.mem_cons_of_mem _ h3)
    omega
theorem minL_ok {ns : List Int} {m : Int} (h : minL ns = some m) : 0 < ns.length ∧ ∀ k, k ∈ ns → (∀ y, y ∈ ns → k ≤ y) → k = m := by
  cases ns with
  | nil => cases h
  | cons x xs =>
    cases h
    obtain ⟨h1, h2, h3⟩ := foldl_min xs x
    refine ⟨Nat.succ_pos _, fun k hk hm => ?_⟩
    have a : xs.foldl min x ≤ k := by
      rcases List.mem_cons.mp hk with rfl | hk
      · exact h1
      · exact h2 k hk
    have b : k ≤ xs.foldl min x := by
      rcases h3 with h3 | h3
      · rw [h3]; exact hm x List.mem_cons_self
      · exact hm _ (List.mem_cons_of_mem _ h3)
    omega
theorem tyD_ok (S : SR K ρ st H) {x : D} {v : V} {t : String} (r : DR K ρ H x v) (h : tyD x st = some t) : TyX K H v (.type t) := by
  cases r with
  | non => cases h; exact .base .non
  | bl b => cases h; exact .base (.bl b)
  | int b => cases h; exact .base (.int b)
  | str b => cases h; exact .base (.str b)
  | tup s t =>
    cases h
    rcases s with (s | ⟨o, s⟩) | ⟨o, its, n, h1, h2, _⟩
    · exact .base (.tup s)
    · exact .fTuple s
    · exact .kTuple h1 h2
  | @ref n a e =>
    unfold tyD at h
    cases q : st[n]? with
    | none => simp only [q] at h; cases h
    | some o =>
      have z := S.at' n o a q e
      cases o <;> simp only [q] at h <;> cases h
      · obtain ⟨vs, z, _⟩ := z; exact .base (.lst z)
      · obtain ⟨vs, z, _⟩ := z
        rcases z with ⟨o, z⟩ | ⟨o, its, n, h1, h2, _⟩
        · exact .base (.frz z)
        · exact .kList h1 h2
      · obtain ⟨vs, z, _⟩ := z; exact .base (.dK z)
end

section
variable {X : Cx}
theorem kb_len : CallR X (.builtin "len") (rB X.K bLen) := by
  rintro pins s σ H vs us Q I r ⟨ρ, st, ds, d, st', S, rd, e, k⟩
  unfold bLen at e
  split at e
  · obtain ⟨v, rfl, rv⟩ := one_of rd rfl
    obtain ⟨c, e⟩ := ite_some e
    cases e; cases rv
    exact call_len_str pins s σ H _ us Q I r ⟨_, rfl, most_line c, k.now S (.int _)⟩
  · obtain ⟨xs, e1, e2⟩ := map_some' e
    cases e2
    obtain ⟨v, rfl, rv⟩ := one_of rd rfl
    obtain ⟨a, vs, rfl, sq, t⟩ := items_ok S rv e1
    refine call_len_seq pins s σ H _ us Q I r ⟨a, vs, rfl, sq, ?_⟩
    rw [← t.length]
    exact k.now S (.int _)
  · cases e
theorem kb_gcd : CallR X (.builtin "math.gcd") (rB X.K bGcd) := by
  rintro pins s σ H vs us Q I r ⟨ρ, st, ds, d, st', S, rd, e, k⟩
  unfold bGcd at e
  split at e
  · cases e
    cases rd with
    | cons a t => cases t with
      | cons b t =>
        cases t; cases a; cases b
        exact cr_gcd pins s σ H _ us Q I r ⟨_, _, rfl, k.now S (.int _)⟩
  · cases e
theorem kb_min (hc : X.calm = true) : CallR X (.builtin "min") (rB X.K bMin) := by
  rintro pins s σ H vs us Q I r ⟨ρ, st, ds, d, st', S, rd, e, k⟩
  unfold bMin at e
  split at e
  · have e : (lstOf _ st).bind _ = _ := e
    obtain ⟨v, rfl, rv⟩ := one_of rd rfl
    obtain ⟨xs, e1, e⟩ := bind_some e
    obtain ⟨ns, e2, e⟩ := bind_some e
    obtain ⟨m, e3, e⟩ := map_some' e
    cases e
    obtain ⟨a, vs, rfl, sq, t⟩ := lstOf_ok S rv e1
    rw [ints_ok e2 t] at sq
    obtain ⟨h1, h2⟩ := minL_ok e3
    refine cr_min hc pins s σ H _ us Q I r ⟨a, ns, rfl, sq, h1, fun k' hk hle => ?_⟩
    rw [h2 k' hk hle]
    exact k.now S (.int _)
  · unfold bMin2 at e
    split at e
    · cases e
      cases rd with
      | cons a t => cases t with
        | cons b t =>
          cases t; cases a; cases b
          exact call_min2 hc pins s σ H _ us Q I r ⟨_, _, rfl, k.now S (.int _)⟩
    · cases e
theorem kb_max (hc : X.calm = true) : CallR X (.builtin "max") (rB X.K bMax) := by
  rintro pins s σ H vs us Q I r ⟨ρ, st, ds, d, st', S, rd, e, k⟩
  unfold bMax at e
  split at e
  · have e : (lstOf _ st).bind _ = _ := e
    obtain ⟨v, rfl, rv⟩ := one_of rd rfl
    obtain ⟨xs, e1, e⟩ := bind_some e
    obtain ⟨ns, e2, e⟩ := bind_some e
    obtain ⟨m, e3, e⟩ := map_some' e
    cases e
    obtain ⟨a, vs, rfl, sq, t⟩ := lstOf_ok S rv e1
    rw [ints_ok e2 t] at sq
    obtain ⟨h1, h2⟩ := maxL_ok e3
    refine cr_max hc pins s σ H _ us Q I r ⟨a, ns, rfl, sq, h1, fun k' hk hle => ?_⟩
    rw [h2 k' hk hle]
    exact k.now S (.int _)
  · unfold bMax2 at e
    split at e
    · cases e
      cases rd with
      | cons a t => cases t with
        | cons b t =>
          cases t; cases a; cases b
          exact call_max2 hc pins s σ H _ us Q I r ⟨_, _, rfl, k.now S (.int _)⟩
    · cases e
theorem kb_tuple : CallR X (.type "tuple") (rB X.K bTuple) := by
  rintro pins s σ H vs us Q I r ⟨ρ, st, ds, d, st', S, rd, e, k⟩
  unfold bTuple at e
  split at e
  · obtain ⟨xs, e1, e2⟩ := map_some' e
    cases e2
    obtain ⟨v, rfl, rv⟩ := one_of rd rfl
    obtain ⟨a, vs, rfl, sq, t⟩ := items_ok S rv e1
    refine call_tuple_of pins s σ H _ us Q I r ⟨a, vs, rfl, ?_⟩
    rcases sq with sq | sq
    · exact .inl ⟨sq, fun p hp => k.tup S t p hp⟩
    · exact .inr ⟨sq, k.now S (.tup sq t)⟩
  · cases e
theorem kb_list : CallR X (.type "list") (rB X.K bList) := by
  rintro pins s σ H vs us Q I r ⟨ρ, st, ds, d, st', S, rd, e, k⟩
  unfold bList at e
  split at e
  · obtain ⟨xs, e1, e2⟩ := bind_some e
    cases e2
    obtain ⟨v, rfl, rv⟩ := one_of rd rfl
    obtain ⟨a, vs, rfl, sq, t⟩ := items_ok S rv e1
    exact call_list_of pins s σ H _ us Q I r ⟨a, vs, rfl, sq, fun p hp => k.lst S t p hp⟩
  · cases e
theorem kb_sum (hc : X.calm = true) : CallR X (.builtin "sum") (rB X.K bSum) := by
  rintro pins s σ H vs us Q I r ⟨ρ, st, ds, d, st', S, rd, e, k⟩
  unfold bSum at e
  split at e
  · obtain ⟨xs, e1, e2⟩ := bind_some e
    obtain ⟨ns, e4, e3⟩ := map_some' e2
    cases e3
    obtain ⟨v, rfl, rv⟩ := one_of rd rfl
    obtain ⟨a, vs, rfl, sq, t⟩ := lstOf_ok S rv e1
    rw [ints_ok e4 t] at sq
    exact cr_sum hc pins s σ H _ us Q I r ⟨a, ns, rfl, sq, k.now S (.int _)⟩
  · cases e
theorem kb_all (hc : X.calm = true) : CallR X (.builtin "all") (rB X.K bAll) := by
  rintro pins s σ H vs us Q I r ⟨ρ, st, ds, d, st', S, rd, e, k⟩
  unfold bAll at e
  split at e
  · obtain ⟨xs, e1, e2⟩ := bind_some e
    obtain ⟨ns, e4, e3⟩ := map_some' e2
    cases e3
    obtain ⟨v, rfl, rv⟩ := one_of rd rfl
    obtain ⟨a, vs, rfl, sq, t⟩ := lstOf_ok S rv e1
    rw [bls_ok e4 t] at sq
    exact cr_all hc pins s σ H _ us Q I r ⟨a, ns, rfl, sq, k.now S (.bl _)⟩
  · cases e
theorem kb_any (hc : X.calm = true) : CallR X (.builtin "any") (rB X.K bAny) := by
  rintro pins s σ H vs us Q I r ⟨ρ, st, ds, d, st', S, rd, e, k⟩
  unfold bAny at e
  split at e
  · obtain ⟨xs, e1, e2⟩ := bind_some e
    obtain ⟨ns, e4, e3⟩ := map_some' e2
    cases e3
    obtain ⟨v, rfl, rv⟩ := one_of rd rfl
    obtain ⟨a, vs, rfl, sq, t⟩ := lstOf_ok S rv e1
    rw [bls_ok e4 t] at sq
    exact cr_any hc pins s σ H _ us Q I r ⟨a, ns, rfl, sq, k.now S (.bl _)⟩
  · cases e
theorem shows_line {p : PyData} (h : shows p = true) : p.showable = true ∧ p.hasDict = false ∧ p.depth ≤ 60 ∧ p.shown.length ≤ sizeLine := by
  unfold shows at h
  simp only [Bool.and_eq_true, Bool.not_eq_true', decide_eq_true_eq] at h
  obtain ⟨⟨⟨h1, h2⟩, h3⟩, h4⟩ := h
  exact ⟨h1, h2, h3, Nat.le_trans h4 (by decide)⟩
theorem kb_repr (gu : X.A.guards = some []) (hu : X.A.units + 64 < cLine) : CallR X (.builtin "repr") (rB X.K bRepr) := by
  rintro pins s σ H vs us Q I r ⟨ρ, st, ds, d, st', S, rd, e, k⟩
  unfold bRepr at e
  split at e
  · obtain ⟨p, e1, e2⟩ := bind_some e
    obtain ⟨c, e2⟩ := ite_some e2
    cases e2
    obtain ⟨v, rfl, rv⟩ := one_of rd rfl
    obtain ⟨u, rfl, ru⟩ := vals1 r
    have dp := toP_ok S _ _ _ _ e1 rv
    obtain ⟨as, rr⟩ := Dp.reads I p v u dp ru
    obtain ⟨h1, h2, h3, h4⟩ := shows_line c
    have go : ∀ (t : Nat), EP X pins σ Q (.str p.shown s.toks) { s with toks := t } := fun t => ⟨.str p.shown, H, I.tok _, ⟨_, rfl⟩, k.now S (.str _)⟩
    have big : ∀ a, u = .ref a → wpAny (model X.prog X.w) X.A (call (.builtin "repr") [u]) (EP X pins σ Q) X.xe s := by
      rintro a rfl
      exact PySem.repr_of_reads' rr h1 (PyData.noDict_hsm h2) gu (by omega) (fun _ _ e => e) (fun h' t tk hk => ⟨.str p.shown, H, I.kept hk, ⟨_, rfl⟩, k.now S (.str _)⟩) h4
    cases dp with
    | non => cases ru; exact PySem.P.repr_of_none (go _)
    | bl b => cases ru; exact PySem.P.repr_of_bool (go _)
    | int i =>
      obtain ⟨t, rfl⟩ := ru
      exact PySem.P.repr_of_int (of_decide_eq_true (by rw [PyData.showable] at h1; exact h1)) (go _)
    | str x =>
      obtain ⟨t, rfl⟩ := ru
      exact PySem.P.repr_of_str (go _) h4
    | lst _ _ => cases ru; exact big _ rfl
    | tup _ _ => cases ru; exact big _ rfl
  · cases e
end
end Sim

namespace Sim
open PySem L2
/-! ### sorted, of alike data -/
def pairUp (st : Sto) (xs : List D) : Option (List (D × PyData)) := mapO (fun x => (toP st 40 x).map fun d => (x, d)) xs
def alikes (ds : List PyData) : Bool := ds.all fun d => ds.all fun e => PySem.W.alike d e
def headed : PyData → Bool
  | .tuple (_ :: _) => true
  | _ => false
def flatKey : PyData → Bool
  | .none => false
  | .tuple _ => false
  | _ => true
def sortable (ds : List PyData) : Bool := alikes ds && (ds.all headed || ds.all flatKey) && ds.all fun d => decide (d.depth ≤ 40)
def sortD (ps : List (D × PyData)) : List D := (ps.mergeSort (PySem.W.dataLe false (·.2))).map (·.1)
def bSorted (ds : List D) (st : Sto) : R :=
  match ds with
  | [x] => (lstOf x st).bind fun xs => (pairUp st xs).bind fun ps => if sortable (ps.map (·.2)) = true then alloc (.lst (sortD ps)) st else none
  | _ => none
section
variable {X : Cx} {ρ : Rho} {st : Sto} {H : Hp} {σ : L2.St} {s : Shared} {pins : List (Addr × Obj)}
/-- a value, what stands for it, and what it reads as -/
structure R1 (X : Cx) (ρ : Rho) (H : Hp) (s : Shared) (u : Value) (b : D × V × PyData) : Prop where
  r : RelV b.2.1 u
  d : DR X.K ρ H b.1 b.2.1
  p : ∃ as, Reads s.heap u b.2.2 as
theorem r1_build (S : SR X.K ρ st H) (I : Inv X pins σ H s) : ∀ {xs : List D} {ys : List V} {its : List Value} {ps : List (D × PyData)}, DRs X.K ρ H xs ys → Vals ys its → pairUp st xs = some ps →
    ∃ bs : List (D × V × PyData), PySem.W.EachIs (R1 X ρ H s) its bs ∧ bs.map (fun b => (b.1, b.2.2)) = ps
  | [], _, _, _, r, v, h => by
    cases r; cases v; cases h
    exact ⟨[], .nil, rfl⟩
  | x :: xs, _, _, _, r, v, h => by
    cases r with
    | cons r1 rs =>
      cases v with
      | cons v1 vs =>
        have h : (Option.map _ (toP st 40 x)).bind _ = _ := h
        obtain ⟨p, e1, h2⟩ := bind_some h
        obtain ⟨d, e3, e4⟩ := map_some' e1
        obtain ⟨ps, e5, e6⟩ := map_some' h2
        subst e4 e6
        obtain ⟨bs, b1, b2⟩ := r1_build S I rs vs e5
        obtain ⟨as, rd⟩ := Dp.reads I d _ _ (toP_ok S _ _ _ _ e3 r1) v1
        exact ⟨(x, _, d) :: bs, .cons ⟨v1, r1, as, rd⟩ b1, by rw [List.map_cons, b2]⟩
theorem r1_split : ∀ {us : List Value} {bs : List (D × V × PyData)}, PySem.W.EachIs (R1 X ρ H s) us bs → Vals (bs.map (·.2.1)) us ∧ DRs X.K ρ H (bs.map (·.1)) (bs.map (·.2.1))
  | _, _, .nil => ⟨.nil, .nil⟩
  | _, _, .cons a t => ⟨.cons a.r (r1_split t).1, .cons a.d (r1_split t).2⟩
theorem each_imp {α β : Type} {R S : α → β → Prop} (h : ∀ a b, R a b → S a b) : ∀ {as : List α} {bs : List β}, PySem.W.EachIs R as bs → PySem.W.EachIs S as bs
  | _, _, .nil => .nil
  | _, _, .cons a t => .cons (h _ _ a) (each_imp h t)
theorem each_to {α β γ : Type} {R : α → γ → Prop} (f : β → γ) : ∀ {as : List α} {bs : List β}, PySem.W.EachIs (fun a b => R a (f b)) as bs → PySem.W.EachIs R as (bs.map f)
  | _, _, .nil => .nil
  | _, _, .cons a t => .cons a (each_to f t)
theorem sortable_of {ds : List PyData} (h : sortable ds = true) : PySem.W.AllAlike ds ∧ PySem.W.Sortable ds ∧ ∀ d ∈ ds, d.depth ≤ 40 := by
  unfold sortable at h
  rw [Bool.and_eq_true, Bool.and_eq_true] at h
  obtain ⟨⟨h1, h2⟩, h3⟩ := h
  refine ⟨fun d hd e he => ?_, ?_, fun d hd => ?_⟩
  · have a := List.all_eq_true.mp h1 d hd
    exact List.all_eq_true.mp a e he
  · rw [Bool.or_eq_true] at h2
    rcases h2 with h2 | h2
    · refine .inl fun d hd => ?_
      have a := List.all_eq_true.mp h2 d hd
      unfold headed at a
      split at a
      · exact ⟨_, _, rfl⟩
      · cases a
    · refine .inr fun d hd => ?_
      have a := List.all_eq_true.mp h2 d hd
      refine ⟨fun e => ?_, fun xs e => ?_⟩ <;> subst e <;> cases a
  · have a := List.all_eq_true.mp h3 d hd
    exact of_decide_eq_true a
theorem kb_sorted (hu : X.A.units + 64 < cLine) : CallR X (.builtin "sorted") (rB X.K bSorted) := by
  rintro pins s σ H vs us Q I r ⟨ρ, st, ds, d, st', S, rd, e, k⟩
  unfold bSorted at e
  split at e
  · obtain ⟨v, rfl, rv⟩ := one_of rd rfl
    obtain ⟨xs, e1, e⟩ := bind_some e
    obtain ⟨ps, e2, e⟩ := bind_some e
    obtain ⟨c, e⟩ := ite_some e
    cases e
    obtain ⟨a, ys, rfl, sq, t⟩ := lstOf_ok S rv e1
    obtain ⟨its, rvs, hl, hz⟩ := I.list sq
    rw [Vals.ref1 r]
    obtain ⟨bs, b1, b2⟩ := r1_build S I t rvs e2
    obtain ⟨k1, k2, k3⟩ := sortable_of c
    have hzi : its.length ≤ sizeLine := by rw [← rvs.length]; exact hz
    have ea : (ps.map (·.2)) = bs.map (fun b => b.2.2) := by rw [← b2, List.map_map]; rfl
    have rd2 : PySem.W.EachIs (fun u b => ∃ as, Reads (PySem.W.sortingHeap (PySem.W.copyHeap s.heap its) (s.heap.objs.size + 1) its) u b as) its (ps.map (·.2)) := by
      rw [ea]
      exact each_to (fun b : D × V × PyData => b.2.2) (each_imp (fun u b h => let ⟨as, q⟩ := h.p; ⟨as, PyProof.Rows.Reads.keeps (fun _ _ e => PySem.W.sorting_copy_old e) q⟩) b1)
    refine PySem.W.sorted_vals hl.isList (PySem.W.SortsAt.data rd2 k1 k2 fun d hd => ?_) hzi ?_
    · have a1 := k3 d hd
      show X.A.units + 1 + 1 + d.depth < cLine
      omega
    have hk : PySem.W.EachIs (fun v (b : D × V × PyData) => (PySem.W.dataKind (PySem.W.sortingHeap (PySem.W.copyHeap s.heap its) (s.heap.objs.size + 1) its) (ps.map (·.2))).keyOf v = some (PySem.W.keyToks b.2.2)) its bs := by
      refine PySem.W.each_of_map (R := fun v d => (PySem.W.dataKind (PySem.W.sortingHeap (PySem.W.copyHeap s.heap its) (s.heap.objs.size + 1) its) (ps.map (·.2))).keyOf v = some (PySem.W.keyToks d)) (fun b : D × V × PyData => b.2.2) ?_
      have q := PySem.W.each_keys k1 rd2
      rw [← ea]
      exact q
    have srt := PySem.W.sortVals_each (κ := PySem.W.dataKind (PySem.W.sortingHeap (PySem.W.copyHeap s.heap its) (s.heap.objs.size + 1) its) (ps.map (·.2))) (rev := false) (fun b : D × V × PyData => PySem.W.keyToks b.2.2) b1 hk
    generalize hout : PySem.W.sortVals _ false its its = out at srt ⊢
    obtain ⟨w1, w2⟩ := r1_split srt
    obtain ⟨ep, he⟩ := PyProof.Rows.sortedAll_at s.heap its out.toArray
    have sd : sortD ps = (bs.mergeSort (PySem.W.sortLe (PyProof.Rows.listOrd PyProof.Rows.itemOrd) false (fun b : D × V × PyData => PySem.W.keyToks b.2.2))).map (·.1) := by
      unfold sortD
      rw [← b2, ← PySem.W.sort_maps (r := PySem.W.sortLe (PyProof.Rows.listOrd PyProof.Rows.itemOrd) false (fun b : D × V × PyData => PySem.W.keyToks b.2.2)) (fun b : D × V × PyData => (b.1, b.2.2)) (fun _ _ _ _ => rfl), List.map_map]
      rfl
    have q := k.lst S (by rw [sd]; exact w2) (s.heap.objs.size + 1) (I.hok.fresh (Nat.le_succ _))
    refine ⟨.ref _, upd H (s.heap.objs.size + 1) (.lst _), I.laid (t' := s.toks) (fun _ _ => PyProof.Rows.sortedAll_old) (Nat.le_succ _) ⟨?_, out, ep, w1, he⟩, rfl, q⟩
    rw [w1.length]
    have : out.length = its.length := by
      have z := srt.length
      rw [z, List.length_mergeSort, b1.length]
    rw [this]; exact hzi
  · cases e
end
end Sim

namespace Sim
open PySem L2

/-! ### targets, walks -/
abbrev SemG := D → LocD → Option LocD
abbrev SemGs := List D → LocD → Option LocD
def gvName (i : Nat) : SemG := fun x η => some (η.set i (some x))
def gvNil : SemGs := fun xs η => match xs with
  | [] => some η
  | _ => none
def gvCons (g : SemG) (gs : SemGs) : SemGs := fun xs η => match xs with
  | x :: r => (g x η).bind fun η1 => gs r η1
  | [] => none
def gvTup (gs : SemGs) : SemG := fun x η => match x with
  | .tup xs => gs xs η
  | _ => none
structure Src where
  xs : List D
  gd : Option (Nat × O)
abbrev SemI := LocD → Sto → Option (Src × Sto)
def okGd (gd : Option (Nat × O)) (st : Sto) : Prop := ∀ p, gd = some p → st[p.1]? = some p.2
noncomputable instance okGd_dec (gd : Option (Nat × O)) (st : Sto) : Decidable (okGd gd st) := Classical.propDecidable _
theorem okGd_none {st : Sto} : okGd none st := fun _ h => nomatch h
def srcOf (x : D) (st : Sto) : Option Src :=
  match x with
  | .tup xs => some ⟨xs, none⟩
  | .ref n => match st[n]? with
    | some (.lst xs) => some ⟨xs, some (n, .lst xs)⟩
    | some (.frz xs) => some ⟨xs, some (n, .frz xs)⟩
    | _ => none
  | _ => none
def iPlain (fa : SemE) : SemI := fun η st => (fa η st).bind fun p => (srcOf p.1 p.2).map fun s => (s, p.2)
def rngD (lo : Int) (n : Nat) (c : Int) : List D := (List.range n).map fun i => .int (lo + (i : Nat) * c)
def inR (i : Int) : Prop := -(2 ^ 62) ≤ i ∧ i < 2 ^ 62
instance (i : Int) : Decidable (inR i) := by unfold inR; exact inferInstance
def rngOf (ds : List D) : Option (List D) :=
  match ds with
  | [.int j] => if inR j then some (rngD 0 j.toNat 1) else none
  | [.int i, .int j] => if inR i ∧ inR j then some (rngD i (j - i).toNat 1) else none
  | [.int i, .int j, .int c] => if inR i ∧ inR j ∧ c = -1 then some (rngD i (i - j).toNat (-1)) else none
  | _ => none
def iRng (fs : SemA) : SemI := fun η st => (fs η st).bind fun p => (rngOf p.1).map fun xs => (⟨xs, none⟩, p.2)
def enumD (xs : List D) : List D := xs.zipIdx.map fun p => .tup [.int (p.2 : Nat), p.1]
/-- enumerate of a list -/
def iEn (fa : SemE) : SemI := fun η st => (fa η st).bind fun p => match p.1 with
  | .ref _ => (srcOf p.1 p.2).map fun s => (⟨enumD s.xs, s.gd⟩, p.2)
  | _ => none
/-- reversed of a list -/
def iRv (fa : SemE) : SemI := fun η st => (fa η st).bind fun p => match p.1 with
  | .ref _ => (srcOf p.1 p.2).map fun s => (⟨s.xs.reverse, s.gd⟩, p.2)
  | _ => none

/-- an iterator gives just these -/
structure Yl (K : Frg) (J : It) (ρ : Rho) (H : Hp) (s : Src) : Prop where
  w : ∃ (G : Hp → Prop) (Y : Nat → Hp → V → Hp → Prop), Walk J s.xs.length G Y ∧
    (∀ ρ' st' H', Gr K ρ H ρ' H' → SR K ρ' st' H' → okGd s.gd st' → G H') ∧
    ∀ ρ' st' H' i d x H'', Gr K ρ H ρ' H' → SR K ρ' st' H' → okGd s.gd st' → s.xs[i]? = some d → Y i H' x H'' → Gr K ρ' H' ρ' H'' ∧ SR K ρ' st' H'' ∧ DR K ρ' H'' d x
def tIv (K : Frg) (f : SemI) : TI := fun σ H R => ∃ ρ η st s st', ER K ρ H η σ ∧ SR K ρ st H ∧ f η st = some (s, st') ∧
  ∀ ρ' H' J, Gr K ρ H ρ' H' → SR K ρ' st' H' → okGd s.gd st' → Yl K J ρ' H' s → R J H'
/-- only these slots are set -/
def tGv (K : Frg) (g : SemG) (is : List Nat) : TG := fun v σ H Q => ∃ ρ η x η', ER K ρ H η σ ∧ DR K ρ H x v ∧ g x η = some η' ∧
  ∀ σ', ER K ρ H η' σ' → σ'.length = σ.length → (∀ i, i ∉ is → σ'[i]? = σ[i]?) → Q σ' H
def tGsv (K : Frg) (g : SemGs) (is : List Nat) : TGs := fun vs σ H Q => ∃ ρ η xs η', ER K ρ H η σ ∧ DRs K ρ H xs vs ∧ g xs η = some η' ∧
  ∀ σ', ER K ρ H η' σ' → σ'.length = σ.length → (∀ i, i ∉ is → σ'[i]? = σ[i]?) → Q σ' H

theorem ER.set {K : Frg} {ρ : Rho} {H : Hp} {η : LocD} {σ : L2.St} (E : ER K ρ H η σ) {x : D} {v : V} (r : DR K ρ H x v) (i : Nat) : ER K ρ H (η.set i (some x)) (σ.set i (some v)) := by
  refine ⟨by rw [List.length_set, List.length_set]; exact E.1, fun j d h => ?_⟩
  by_cases q : i = j
  · subst q
    by_cases z : i < η.length
    · rw [List.getElem?_set_self z] at h
      cases h
      exact ⟨v, List.getElem?_set_self (by rw [E.1]; exact z), r⟩
    · rw [List.getElem?_eq_none (by rw [List.length_set]; omega)] at h; cases h
  · rw [List.getElem?_set_ne q] at h ⊢
    exact E.2 j d h

def wipeD (η : LocD) : List Nat → LocD
  | [] => η
  | v :: vs => (wipeD η vs).set v none
theorem ER.wipe {K : Frg} {ρ : Rho} {H : Hp} {η : LocD} {σ : L2.St} (E : ER K ρ H η σ) : ∀ vs : List Nat, ER K ρ H (wipeD η vs) (L2.wipe σ vs)
  | [] => E
  | v :: vs => by
    have ih := ER.wipe E vs
    refine ⟨by unfold wipeD L2.wipe; rw [List.length_set, List.length_set]; exact ih.1, fun j d h => ?_⟩
    unfold wipeD at h
    unfold L2.wipe
    by_cases q : v = j
    · subst q
      by_cases z : v < (wipeD η vs).length
      · rw [List.getElem?_set_self z] at h; cases h
      · rw [List.getElem?_eq_none (by rw [List.length_set]; omega)] at h; cases h
    · rw [List.getElem?_set_ne q] at h ⊢
      exact ih.2 j d h
theorem wipe_get {σ : L2.St} : ∀ {vs : List Nat} {i : Nat}, i ∉ vs → (L2.wipe σ vs)[i]? = σ[i]?
  | [], _, _ => rfl
  | v :: vs, i, h => by
    simp only [List.mem_cons, not_or] at h
    unfold L2.wipe
    rw [List.getElem?_set_ne (fun e => h.1 e.symm)]
    exact wipe_get h.2
theorem wipe_in {σ : L2.St} : ∀ {vs : List Nat} {i : Nat}, i ∈ vs → i < σ.length → (L2.wipe σ vs)[i]? = some none
  | v :: vs, i, h, hl => by
    unfold L2.wipe
    by_cases q : v = i
    · subst q; exact List.getElem?_set_self (by rw [wipe_length]; exact hl)
    · rw [List.getElem?_set_ne q]
      rcases List.mem_cons.mp h with e | h
      · exact absurd e.symm q
      · exact wipe_in h hl
theorem wipe_eq {σ σ' : L2.St} {vs is : List Nat} (hl : σ'.length = σ.length) (hs : ∀ i, i ∉ is → σ'[i]? = σ[i]?) (hi : ∀ i ∈ is, i ∈ vs) : L2.wipe σ' vs = L2.wipe σ vs := by
  apply List.ext_getElem?
  intro i
  by_cases h : i ∈ vs
  · by_cases z : i < σ.length
    · rw [wipe_in h z, wipe_in h (by rw [hl]; exact z)]
    · rw [List.getElem?_eq_none (by rw [wipe_length]; omega), List.getElem?_eq_none (by rw [wipe_length]; omega)]
  · rw [wipe_get h, wipe_get h]
    exact hs i fun q => h (hi i q)
theorem wipe_wipe {σ : L2.St} {vs : List Nat} : L2.wipe (L2.wipe σ vs) vs = L2.wipe σ vs :=
  wipe_eq (is := vs) (wipe_length _ _) (fun i h => wipe_get h) fun _ h => h

section
variable {X : Cx} {K : Frg}
theorem pgv_name {i : Nat} {x : Str} {pos : Pos} (hN : X.N.Nodup) (hi : X.N[i]? = some x) (hx : L2.Loc X.env.scope x) (hf : X.fn x = true ∨ X.env.scope.names.lookup x = some .local) : PG X (.Name x pos) (tGv X.K (gvName i) [i]) := by
  have h := pg_name (pos := pos) hN hi hx hf
  cases h with
  | mk run =>
    refine ⟨fun pins s σ H v u Q I r q => run pins s σ H v u Q I r ?_⟩
    obtain ⟨ρ, η, x, η', E, rd, e, k⟩ := q
    cases e
    exact k _ (E.set rd i) (by rw [List.length_set]) fun j hj => List.getElem?_set_ne (fun z => hj (by simp [z]))
theorem pgsv_nil : PGs X [] (tGsv X.K gvNil []) := by
  have h := pgs_nil (X := X)
  cases h with
  | mk run =>
    refine ⟨fun pins s σ H vs us Q I r q => run pins s σ H vs us Q I r ?_⟩
    obtain ⟨ρ, η, xs, η', E, rd, e, k⟩ := q
    cases rd with
    | nil => cases e; exact ⟨rfl, k σ E rfl fun _ _ => rfl⟩
    | cons a t => cases e
theorem pgsv_cons {e : Expr} {es : List Expr} {g : SemG} {gs : SemGs} {is js : List Nat} (h1 : PG X e (tGv X.K g is)) (h2 : PGs X es (tGsv X.K gs js))
    (hs : (assignEach (e :: es) X.env).map (·.2) = assign e X.env :: (assignEach es X.env).map (·.2)) : PGs X (e :: es) (tGsv X.K (gvCons g gs) (is ++ js)) := by
  have h := pgs_cons h1 h2 hs
  cases h with
  | mk run =>
    refine ⟨fun pins s σ H vs us Q I r q => run pins s σ H vs us Q I r ?_⟩
    obtain ⟨ρ, η, xs, η', E, rd, e, k⟩ := q
    cases rd with
    | nil => cases e
    | cons a t =>
      obtain ⟨η1, e1, e2⟩ := bind_some e
      refine ⟨_, _, rfl, ρ, η, _, η1, E, a, e1, fun σ1 E1 l1 s1 => ⟨ρ, η1, _, η', E1, t, e2, fun σ2 E2 l2 s2 => k σ2 E2 (l2.trans l1) fun i hi => ?_⟩⟩
      rw [List.mem_append, not_or] at hi
      rw [s2 i hi.2, s1 i hi.1]
theorem gs_len {ts : List Expr} {gs : SemGs} {is : List Nat} {n : Nat} : True := trivial
theorem pgv_tup {es : List Expr} {k : Nat} {pos : Pos} {gs : SemGs} {is : List Nat} {n : Nat} (hc : X.calm = true) (h : PGs X es (tGsv X.K gs is)) (hl : ∀ xs η η', gs xs η = some η' → xs.length = n)
    (hn : (assignEach es X.env).length = n) (hst : (assignEach es X.env).findIdx? (·.1) = none) : PG X (.Tuple es k pos) (tGv X.K (gvTup gs) is) := by
  have h := pg_tup (k := k) (pos := pos) hc h hn hst
  cases h with
  | mk run =>
    refine ⟨fun pins s σ H v u Q I r q => run pins s σ H v u Q I r ?_⟩
    obtain ⟨ρ, η, x, η', E, rd, e, k⟩ := q
    cases rd with
    | tup sa ta =>
      exact ⟨_, _, rfl, sa, by rw [← ta.length]; exact hl _ _ _ e, ρ, η, _, η', E, ta, e, k⟩
    | _ => cases e
end

/-! ### walks -/
section
variable {X : Cx} {tg : Expr}
theorem PI.imp {e : Expr} {t t' : TI} (h : PI X tg e t) (k : ∀ σ H R, t' σ H R → t σ H R) : PI X tg e t' := by
  cases h with
  | mk run => exact ⟨fun pins s σ H R I q => run pins s σ H R I (k σ H R q)⟩
theorem PI.or {e : Expr} {t t' : TI} (h : PI X tg e t) (h' : PI X tg e t') : PI X tg e (fun σ H R => t σ H R ∨ t' σ H R) := by
  cases h with
  | mk run => cases h' with
    | mk run' =>
      refine ⟨fun pins s σ H R I q => ?_⟩
      rcases q with q | q
      · exact run pins s σ H R I q
      · exact run' pins s σ H R I q
theorem tEv.then {K : Frg} {f : SemE} {σ : L2.St} {H : Hp} {ρ : Rho} {η : LocD} {st st' : Sto} {d : D} (E : ER K ρ H η σ) (S : SR K ρ st H) (e : f η st = some (d, st')) {Q : VK} (k : Then K ρ H d st' Q) : tEv K f σ H Q := ⟨ρ, η, st, d, st', E, S, e, k⟩
theorem yl_tup {K : Frg} {ρ : Rho} {H : Hp} {a : Addr} {xs : List D} {vs : List V} (s : SqT K H a vs) (t : DRs K ρ H xs vs) : Yl K (Itt K a) ρ H ⟨xs, none⟩ := by
  refine ⟨⟨_, _, by rw [t.length]; exact walk_tup (K := K) (a := a) (xs := vs), fun ρ' st' H' g S _ => g.tup _ _ s, fun ρ' st' H' i d x H'' g S _ hd y => ?_⟩⟩
  obtain ⟨e, hx⟩ := y
  rw [e]
  obtain ⟨v, hv, r⟩ := t.get hd
  rw [hv] at hx; cases hx
  exact ⟨Gr.refl _ _ _, S, r.mono g⟩
theorem gd_seq {K : Frg} {ρ' : Rho} {st' : Sto} {H' : Hp} {n : Nat} {a : Addr} {xs : List D} {o : O} (ho : o = .lst xs ∨ o = .frz xs) (S' : SR K ρ' st' H') (ea : ρ'[n]? = some a) (h : st'[n]? = some o) :
    ∃ vs, SqL K H' a vs ∧ DRs K ρ' H' xs vs := S'.seq (by rcases ho with rfl | rfl <;> simp [h]) ea
theorem yl_lst {K : Frg} {ρ : Rho} {H : Hp} {n : Nat} {a : Addr} {xs : List D} {o : O} (ho : o = .lst xs ∨ o = .frz xs) (ea : ρ[n]? = some a) : Yl K (Itl K a) ρ H ⟨xs, some (n, o)⟩ := by
  refine ⟨⟨fun H => ∃ ws, SqL K H a ws ∧ ws.length = xs.length, fun i H x H' => H' = H ∧ ∀ ws, SqL K H a ws → ws[i]? = some x, ?_, ?_, ?_⟩⟩
  · refine ⟨fun i H hi ⟨ws, q, l⟩ => ⟨ws, ws[i]'(by rw [l]; exact hi), q, by simp⟩, fun H ⟨ws, q, l⟩ => ⟨ws, q, Nat.le_of_eq l⟩, fun i H x H' _ _ y => y⟩
  · intro ρ' st' H' g S' ok
    obtain ⟨ws, q, t⟩ := gd_seq ho S' (g.rho _ _ ea) (ok _ rfl)
    exact ⟨ws, q, t.length.symm⟩
  · rintro ρ' st' H' i d x H'' g S' ok hd ⟨e, y⟩
    rw [e]
    obtain ⟨ws, q, t⟩ := gd_seq ho S' (g.rho _ _ ea) (ok _ rfl)
    obtain ⟨v, hv, r⟩ := t.get hd
    rw [y ws q] at hv; cases hv
    exact ⟨Gr.refl _ _ _, S', r⟩
theorem enum_get {xs : List D} {i : Nat} {d : D} (h : (enumD xs)[i]? = some d) : ∃ x, xs[i]? = some x ∧ d = .tup [.int (i : Nat), x] := by
  unfold enumD at h
  rw [List.getElem?_map, List.getElem?_zipIdx] at h
  cases q : xs[i]? with
  | none => rw [q] at h; cases h
  | some x =>
    rw [q] at h
    refine ⟨x, rfl, ?_⟩
    simp at h
    exact h.symm
theorem enum_len (xs : List D) : (enumD xs).length = xs.length := by unfold enumD; simp
theorem yl_enum {K : Frg} {ρ : Rho} {H : Hp} {n : Nat} {a : Addr} {xs : List D} {o : O} (ho : o = .lst xs ∨ o = .frz xs) (ea : ρ[n]? = some a) : Yl K (Ite K a) ρ H ⟨enumD xs, some (n, o)⟩ := by
  refine ⟨⟨fun H => ∃ ws, SqL K H a ws ∧ ws.length = xs.length, fun i H v H' => ∃ T x, v = .ref T ∧ H T = none ∧ H' = upd H T (.tup [.int (i : Nat), x]) ∧ ∀ xs, SqL K H a xs → xs[i]? = some x, ?_, ?_, ?_⟩⟩
  · refine ⟨fun i H hi ⟨ws, q, l⟩ => ⟨ws, ws[i]'(by rw [l]; rw [enum_len] at hi; exact hi), q, by simp⟩, fun H ⟨ws, q, l⟩ => ⟨ws, q, by rw [enum_len]; exact Nat.le_of_eq l⟩, fun i H x H' _ _ y => y⟩
  · intro ρ' st' H' g S' ok
    obtain ⟨ws, q, t⟩ := gd_seq ho S' (g.rho _ _ ea) (ok _ rfl)
    exact ⟨ws, q, t.length.symm⟩
  · rintro ρ' st' H' i d x H'' g S' ok hd ⟨T, z, e, hT, e2, y⟩
    subst e e2
    obtain ⟨w, hw, rfl⟩ := enum_get hd
    obtain ⟨ws, q, t⟩ := gd_seq ho S' (g.rho _ _ ea) (ok _ rfl)
    obtain ⟨v, hv, r⟩ := t.get hw
    rw [y ws q] at hv; cases hv
    exact ⟨Gr.new hT, S'.new hT, .tup (.inl (.inl upd_same)) (.cons (.int _) (.cons (r.mono (Gr.new hT)) .nil))⟩
theorem yl_rev {K : Frg} {ρ : Rho} {H : Hp} {n : Nat} {a : Addr} {xs : List D} {o : O} (ho : o = .lst xs ∨ o = .frz xs) (ea : ρ[n]? = some a) : Yl K (Itv K a xs.length) ρ H ⟨xs.reverse, some (n, o)⟩ := by
  refine ⟨⟨fun H => ∃ ws, SqL K H a ws ∧ ws.length = xs.length, fun i H x H' => H' = H ∧ ∀ ws, SqL K H a ws → ws[xs.length - 1 - i]? = some x, ?_, ?_, ?_⟩⟩
  · refine ⟨fun i H hi ⟨ws, q, l⟩ => ?_, fun H _ => by show xs.length ≤ xs.reverse.length; simp, fun i H x H' _ _ y => y⟩
    have hi : i < xs.length := by simpa using hi
    exact ⟨hi, ws, ws[xs.length - 1 - i]'(by omega), q, by simp [show xs.length - 1 - i < ws.length by omega]⟩
  · intro ρ' st' H' g S' ok
    obtain ⟨ws, q, t⟩ := gd_seq ho S' (g.rho _ _ ea) (ok _ rfl)
    exact ⟨ws, q, t.length.symm⟩
  · rintro ρ' st' H' i d x H'' g S' ok hd ⟨e, y⟩
    rw [e]
    obtain ⟨ws, q, t⟩ := gd_seq ho S' (g.rho _ _ ea) (ok _ rfl)
    have hi : i < xs.length := by have := (List.getElem?_eq_some_iff.mp hd).1; simpa using this
    have hd : xs[xs.length - 1 - i]? = some d := by rw [List.getElem?_reverse hi] at hd; exact hd
    obtain ⟨v, hv, r⟩ := t.get hd
    rw [y ws q] at hv; cases hv
    exact ⟨Gr.refl _ _ _, S', r⟩
theorem rng_get {lo : Int} {n : Nat} {c : Int} {i : Nat} {d : D} (h : (rngD lo n c)[i]? = some d) : i < n ∧ d = .int (lo + (i : Nat) * c) := by
  unfold rngD at h
  rw [List.getElem?_map] at h
  by_cases q : i < n
  · rw [List.getElem?_range q] at h
    exact ⟨q, (Option.some.inj h).symm⟩
  · rw [List.getElem?_eq_none (by simp; omega)] at h; cases h
theorem rng_len (lo : Int) (n : Nat) (c : Int) : (rngD lo n c).length = n := by unfold rngD; simp
theorem yl_rng {K : Frg} {ρ : Rho} {H : Hp} {lo : Int} {n : Nat} : Yl K (Itr lo n) ρ H ⟨rngD lo n 1, none⟩ := by
  refine ⟨⟨fun _ => True, fun i H x H' => H' = H ∧ x = .int (lo + i), by show Walk _ (rngD lo n 1).length _ _; rw [rng_len]; exact walk_range, fun _ _ _ _ _ _ => trivial, ?_⟩⟩
  rintro ρ' st' H' i d x H'' g S' ok hd ⟨e, y⟩
  obtain ⟨hi, rfl⟩ := rng_get hd
  subst e y
  rw [Int.mul_one]
  exact ⟨Gr.refl _ _ _, S', .int _⟩
theorem yl_rngC {K : Frg} {ρ : Rho} {H : Hp} {lo c : Int} {n : Nat} : Yl K (Itc lo c n) ρ H ⟨rngD lo n c, none⟩ := by
  refine ⟨⟨fun _ => True, fun i H x H' => H' = H ∧ x = .int (lo + (i : Nat) * c), by show Walk _ (rngD lo n c).length _ _; rw [rng_len]; exact walk_rangeC, fun _ _ _ _ _ _ => trivial, ?_⟩⟩
  rintro ρ' st' H' i d x H'' g S' ok hd ⟨e, y⟩
  obtain ⟨hi, rfl⟩ := rng_get hd
  subst e y
  exact ⟨Gr.refl _ _ _, S', .int _⟩
theorem src_split {x : D} {st : Sto} {s : Src} (h : srcOf x st = some s) : (∃ xs, x = .tup xs ∧ s = ⟨xs, none⟩) ∨ ∃ n xs o, x = .ref n ∧ (o = .lst xs ∨ o = .frz xs) ∧ st[n]? = some o ∧ s = ⟨xs, some (n, o)⟩ := by
  cases x with
  | tup xs => cases h; exact .inl ⟨xs, rfl, rfl⟩
  | ref n =>
    unfold srcOf at h
    cases q : st[n]? with
    | none => simp only [q] at h; cases h
    | some o =>
      cases o <;> simp only [q] at h <;> first | (cases h; done) | skip
      · cases h; exact .inr ⟨n, _, _, rfl, .inl rfl, q, rfl⟩
      · cases h; exact .inr ⟨n, _, _, rfl, .inr rfl, q, rfl⟩
  | _ => cases h
theorem okGd_some {n : Nat} {o : O} {st : Sto} (h : st[n]? = some o) : okGd (some (n, o)) st := fun p e => by cases e; exact h
theorem pi_plain {e : Expr} {fa : SemE} (he : PE X e (tEv X.K fa)) : PI X tg e (tIv X.K (iPlain fa)) := by
  refine PI.imp (PI.or (pi_tup he) (pi_list he)) fun σ H R q => ?_
  obtain ⟨ρ, η, st, s, st', E, S, e, k⟩ := q
  obtain ⟨p, e1, e2⟩ := bind_some e
  obtain ⟨s', e4, e3⟩ := map_some' e2
  cases e3
  rcases src_split e4 with ⟨xs, ex, rfl⟩ | ⟨n, xs, o, ex, ho, hs, rfl⟩
  · refine .inl (tEv.then E S e1 fun ρ1 H1 v g S1 r => ?_)
    rw [ex] at r
    cases r with
    | tup sa ta => exact ⟨_, rfl, ⟨_, sa⟩, k _ _ _ g S1 okGd_none (yl_tup sa ta)⟩
  · refine .inr (tEv.then E S e1 fun ρ1 H1 v g S1 r => ?_)
    rw [ex] at r
    cases r with
    | ref ea =>
      obtain ⟨vs, sq, t⟩ := gd_seq ho S1 ea hs
      exact ⟨_, rfl, ⟨vs, sq⟩, k _ _ _ g S1 (okGd_some hs) (yl_lst ho ea)⟩
theorem tAv.one {K : Frg} {fs : SemA} {σ : L2.St} {H : Hp} {Q : List V → Hp → Prop} {ρ : Rho} {η : LocD} {st st' : Sto} {ds : List D} (E : ER K ρ H η σ) (S : SR K ρ st H) (e : fs η st = some (ds, st'))
    (k : ∀ (ρ' : Rho) (H' : Hp) (vs : List V), Gr K ρ H ρ' H' → SR K ρ' st' H' → DRs K ρ' H' ds vs → Q vs H') : tAv K fs σ H Q := ⟨ρ, η, st, ds, st', E, S, e, k⟩
theorem fCons_one {fa : SemE} {η : LocD} {st : Sto} {p : D × Sto} (h : fa η st = some p) : fCons fa fNil η st = some ([p.1], p.2) := by
  show (fa η st).bind _ = _
  rw [h]; rfl
theorem pi_enumS {e : Expr} {fa : SemE} {p pos tpos : Pos} {elts : List Expr} {kk : Nat} (hg : Gl X "enumerate") (hm : X.mg "enumerate" = none) (ha : PA X [e] (tAv X.K (fCons fa fNil))) (hs : starEach [e] X.env = [(false, eval e X.env)]) :
    PI X (.Tuple elts kk tpos) (.Call (.Name "enumerate" p) [e] [] pos) (tIv X.K (iEn fa)) := by
  refine PI.imp (pi_enum hg hm ha hs) fun σ H R q => ?_
  obtain ⟨ρ, η, st, s, st', E, S, e, k⟩ := q
  obtain ⟨p, e1, e2⟩ := bind_some e
  refine tAv.one E S (fCons_one e1) fun ρ1 H1 vs g S1 r => ?_
  obtain ⟨v, rfl, rv⟩ := one_of r rfl
  cases q : p.1 with
  | ref n =>
    rw [q] at e2 rv
    obtain ⟨s', e4, e3⟩ := map_some' e2
    cases e3
    rcases src_split e4 with ⟨xs, ex, rfl⟩ | ⟨n, xs, o, ex, ho, hs, rfl⟩
    · cases ex
    · cases ex
      cases rv with
      | ref ea =>
        obtain ⟨vs, sq, t⟩ := gd_seq ho S1 ea hs
        exact ⟨_, vs, rfl, sq, k _ _ _ g S1 (okGd_some hs) (yl_enum ho ea)⟩
  | _ => rw [q] at e2; cases e2
theorem pi_revS {e : Expr} {fa : SemE} {p pos : Pos} (hg : Gl X "reversed") (hm : X.mg "reversed" = none) (ha : PA X [e] (tAv X.K (fCons fa fNil))) (hs : starEach [e] X.env = [(false, eval e X.env)]) :
    PI X tg (.Call (.Name "reversed" p) [e] [] pos) (tIv X.K (iRv fa)) := by
  refine PI.imp (pi_reversed hg hm ha hs) fun σ H R q => ?_
  obtain ⟨ρ, η, st, s, st', E, S, e, k⟩ := q
  obtain ⟨p, e1, e2⟩ := bind_some e
  refine tAv.one E S (fCons_one e1) fun ρ1 H1 vs g S1 r => ?_
  obtain ⟨v, rfl, rv⟩ := one_of r rfl
  cases q : p.1 with
  | ref n =>
    rw [q] at e2 rv
    obtain ⟨s', e4, e3⟩ := map_some' e2
    cases e3
    rcases src_split e4 with ⟨xs, ex, rfl⟩ | ⟨n, xs, o, ex, ho, hs, rfl⟩
    · cases ex
    · cases ex
      cases rv with
      | ref ea =>
        obtain ⟨vs, sq, t⟩ := gd_seq ho S1 ea hs
        refine ⟨_, vs, rfl, sq, k _ _ _ g S1 (okGd_some hs) ?_⟩
        rw [← t.length]
        exact yl_rev ho ea
  | _ => rw [q] at e2; cases e2
theorem pi_rng1 {a : Expr} {fs : SemA} {p pos : Pos} (hg : Gl X "range") (hm : X.mg "range" = none) (ha : PA X [a] (tAv X.K fs)) (hs : starEach [a] X.env = [(false, eval a X.env)]) (hl : ∀ η st ds st', fs η st = some (ds, st') → ds.length = 1) :
    PI X tg (.Call (.Name "range" p) [a] [] pos) (tIv X.K (iRng fs)) := by
  refine PI.imp (pi_range1 hg hm ha hs) fun σ H R q => ?_
  obtain ⟨ρ, η, st, s, st', E, S, e, k⟩ := q
  obtain ⟨p, e1, e2⟩ := bind_some e
  obtain ⟨xs, e4, e3⟩ := map_some' e2
  cases e3
  refine tAv.one E S e1 fun ρ1 H1 vs g S1 r => ?_
  have l := hl _ _ _ _ e1
  unfold rngOf at e4
  split at e4
  · rename_i j hj
    rw [hj] at r
    obtain ⟨v, rfl, rv⟩ := one_of r rfl
    cases rv
    obtain ⟨c, e5⟩ := ite_some e4
    cases e5
    exact ⟨_, rfl, c.1, c.2, k _ _ _ g S1 okGd_none yl_rng⟩
  · rename_i h; rw [h] at l; cases l
  · rename_i h; rw [h] at l; cases l
  · cases e4
theorem two_of {K : Frg} {ρ : Rho} {H : Hp} {ds : List D} {vs : List V} (r : DRs K ρ H ds vs) {d e : D} (h : ds = [d, e]) : ∃ v w, vs = [v, w] ∧ DR K ρ H d v ∧ DR K ρ H e w := by
  subst h
  cases r with
  | cons a t => cases t with
    | cons b t => cases t; exact ⟨_, _, rfl, a, b⟩
theorem three_of {K : Frg} {ρ : Rho} {H : Hp} {ds : List D} {vs : List V} (r : DRs K ρ H ds vs) {d e f : D} (h : ds = [d, e, f]) : ∃ v w x, vs = [v, w, x] ∧ DR K ρ H d v ∧ DR K ρ H e w ∧ DR K ρ H f x := by
  subst h
  cases r with
  | cons a t => cases t with
    | cons b t => cases t with
      | cons c t => cases t; exact ⟨_, _, _, rfl, a, b, c⟩
theorem pi_rng2 {a b : Expr} {fs : SemA} {p pos : Pos} (hg : Gl X "range") (hm : X.mg "range" = none) (ha : PA X [a, b] (tAv X.K fs)) (hs : starEach [a, b] X.env = [(false, eval a X.env), (false, eval b X.env)]) (hs2 : starEach [b] X.env = [(false, eval b X.env)])
    (hl : ∀ η st ds st', fs η st = some (ds, st') → ds.length = 2) : PI X tg (.Call (.Name "range" p) [a, b] [] pos) (tIv X.K (iRng fs)) := by
  refine PI.imp (pi_range2 hg hm ha hs hs2) fun σ H R q => ?_
  obtain ⟨ρ, η, st, s, st', E, S, e, k⟩ := q
  obtain ⟨p, e1, e2⟩ := bind_some e
  obtain ⟨xs, e4, e3⟩ := map_some' e2
  cases e3
  refine tAv.one E S e1 fun ρ1 H1 vs g S1 r => ?_
  have l := hl _ _ _ _ e1
  unfold rngOf at e4
  split at e4
  · rename_i h; rw [h] at l; cases l
  · rename_i i j hj
    rw [hj] at r
    obtain ⟨v, w, rfl, rv, rw'⟩ := two_of r rfl
    cases rv; cases rw'
    obtain ⟨c, e5⟩ := ite_some e4
    cases e5
    exact ⟨_, _, rfl, ⟨c.1.1, c.1.2, c.2.1, c.2.2⟩, k _ _ _ g S1 okGd_none yl_rng⟩
  · rename_i h; rw [h] at l; cases l
  · cases e4
theorem pi_rng3 {a b c : Expr} {fs : SemA} {p pos : Pos} (hg : Gl X "range") (hm : X.mg "range" = none) (ha : PA X [a, b, c] (tAv X.K fs)) (hs : starEach [a, b, c] X.env = [(false, eval a X.env), (false, eval b X.env), (false, eval c X.env)])
    (hs2 : starEach [b, c] X.env = [(false, eval b X.env), (false, eval c X.env)]) (hs3 : starEach [c] X.env = [(false, eval c X.env)]) (hl : ∀ η st ds st', fs η st = some (ds, st') → ds.length = 3) :
    PI X tg (.Call (.Name "range" p) [a, b, c] [] pos) (tIv X.K (iRng fs)) := by
  refine PI.imp (pi_range3 hg hm ha (by rw [hs, hs2]) (by rw [hs2]; rfl)) fun σ H R q => ?_
  obtain ⟨ρ, η, st, s, st', E, S, e, k⟩ := q
  obtain ⟨p, e1, e2⟩ := bind_some e
  obtain ⟨xs, e4, e3⟩ := map_some' e2
  cases e3
  refine tAv.one E S e1 fun ρ1 H1 vs g S1 r => ?_
  have l := hl _ _ _ _ e1
  unfold rngOf at e4
  split at e4
  · rename_i h; rw [h] at l; cases l
  · rename_i h; rw [h] at l; cases l
  · rename_i i j c hj
    rw [hj] at r
    obtain ⟨v, w, x, rfl, rv, rw', rx⟩ := three_of r rfl
    cases rv; cases rw'; cases rx
    obtain ⟨⟨c1, c2, rfl⟩, e5⟩ := ite_some e4
    cases e5
    exact ⟨_, _, _, _, rfl, RgC.neg c1.1 c1.2 c2.1 c2.2, k _ _ _ g S1 okGd_none yl_rngC⟩
  · cases e4
end
end Sim

namespace Sim
open PySem L2
noncomputable section

/-! ### comprehensions -/
def lcGo (g : SemG) (ft : SemT) (fe : SemE) (ηw : LocD) (gd : Option (Nat × O)) (n : Nat) : List D → Sto → Option Sto
  | [], st => if okGd gd st then some st else none
  | x :: r, st => if okGd gd st then (g x ηw).bind fun η2 => (ft η2 st).bind fun b => if b.1 = true then (fe η2 b.2).bind fun y => match y.2[n]? with
      | some (.lst acc) => if acc.length < most then lcGo g ft fe ηw gd n r (y.2.set n (.lst (acc ++ [y.1]))) else none
      | _ => none
    else lcGo g ft fe ηw gd n r b.2 else none
def fLc (fi : SemI) (g : SemG) (ft : SemT) (fe : SemE) (vs : List Nat) : SemE := fun η st => (fi η st).bind fun p =>
  (lcGo g ft fe (wipeD η vs) p.1.gd p.2.length p.1.xs (p.2 ++ [.lst []])).map fun st' => (.ref p.2.length, st')
def gYes : SemT := fun _ st => some (true, st)
theorem lcGo_ok {g : SemG} {ft : SemT} {fe : SemE} {ηw : LocD} {gd : Option (Nat × O)} {n : Nat} {xs : List D} {st st' : Sto} (h : lcGo g ft fe ηw gd n xs st = some st') : okGd gd st := by
  cases xs with
  | nil => unfold lcGo at h; exact (ite_some h).1
  | cons x r => unfold lcGo at h; exact (ite_some h).1
theorem okGd_app {gd : Option (Nat × O)} {st : Sto} {o : O} (h : okGd gd st) : okGd gd (st ++ [o]) := fun p e => get_app (h p e)

theorem lc_read {K : Frg} {fi : SemI} {g : SemG} {is : List Nat} {ft : SemT} {tt : TT} {fe : SemE} {vs : List Nat} (hi : ∀ i ∈ is, i ∈ vs) (htt : ∀ σ H Q, tTv K ft σ H Q → tt σ H Q) {σ : L2.St} {H : Hp} {Q : VK} (h : tEv K (fLc fi g ft fe vs) σ H Q) :
    tLc (tIv K fi) (tGv K g is) tt (tEv K fe) vs σ H Q := by
  obtain ⟨ρ, η, st, d, st', E, S, e, k⟩ := h
  obtain ⟨p, e1, e2⟩ := bind_some e
  obtain ⟨stF, e3, e4⟩ := map_some' e2
  cases e4
  refine ⟨ρ, η, st, p.1, p.2, E, S, e1, fun ρ1 H1 J g1 S1 ok Y => fun Dl hD => ?_⟩
  obtain ⟨G, Yd, W, hG, hY⟩ := Y.w
  have n_eq : ρ1.length = p.2.length := S1.len
  refine lc_it W (fun i H' => ∃ ρ' stX, Gr K ρ1 H1 ρ' H' ∧ SR K ρ' stX H' ∧ ρ'[p.2.length]? = some Dl ∧ lcGo g ft fe (wipeD η vs) p.1.gd p.2.length (p.1.xs.drop i) stX = some st') ?_ ?_ ?_ ?_
  · obtain ⟨S2, g2⟩ := S1.alloc (o := .lst []) hD (u := .lst []) rfl ⟨[], upd_same, .nil⟩
    exact ⟨_, _, g2, S2, by rw [← n_eq, List.getElem?_append_right (Nat.le_refl _)]; simp, e3⟩
  · rintro i H' _ ⟨ρ', st2, g2, S2, _, e5⟩
    exact hG ρ' st2 H' g2 S2 (lcGo_ok e5)
  · rintro i x Ha Hb hlt ⟨ρ', st2, g2, S2, hn, e5⟩ y
    have ok2 := lcGo_ok e5
    have hd : p.1.xs[i]? = some p.1.xs[i] := List.getElem?_eq_getElem hlt
    obtain ⟨g3, S3, r3⟩ := hY ρ' st2 Ha i _ x Hb g2 S2 ok2 hd y
    rw [List.drop_eq_getElem_cons hlt] at e5
    unfold lcGo at e5
    obtain ⟨_, e5⟩ := ite_some e5
    obtain ⟨η2, e6, e5⟩ := bind_some e5
    obtain ⟨b, e7, e5⟩ := bind_some e5
    refine ⟨ρ', wipeD η vs, _, η2, (E.wipe vs).mono ((g1.trans g2).trans g3), r3, e6, fun σ2 E2 l2 s2 => ⟨?_, htt _ _ _ ⟨ρ', η2, st2, b.1, b.2, E2, S3, e7, fun ρ4 H4 g4 S4 => ?_⟩⟩⟩
    · rw [wipe_eq (σ := L2.wipe σ vs) l2 s2 hi]; exact wipe_wipe
    · cases hb : b.1 with
      | true =>
        rw [if_pos rfl]
        rw [hb, if_pos rfl] at e5
        obtain ⟨z, e8, e5⟩ := bind_some e5
        refine ⟨ρ4, η2, b.2, z.1, z.2, E2.mono g4, S4, e8, fun ρ5 H5 v g5 S5 r5 => ?_⟩
        cases q : z.2[p.2.length]? with
        | none => rw [q] at e5; cases e5
        | some o =>
          cases o with
          | frz _ => rw [q] at e5; cases e5
          | dct _ => rw [q] at e5; cases e5
          | lst acc =>
            rw [q] at e5
            obtain ⟨hz, e5⟩ := ite_some e5
            have hn5 : ρ5[p.2.length]? = some Dl := g5.rho _ _ (g4.rho _ _ (g3.rho _ _ hn))
            obtain ⟨ws, w1, w2⟩ := S5.at' _ _ _ q hn5
            have g6 : Gr K ρ5 H5 ρ5 (upd H5 Dl (.lst (ws ++ [v]))) := Gr.upd w1 rfl
            obtain ⟨S6, _⟩ := S5.set (u := .lst (ws ++ [v])) (o' := .lst (acc ++ [z.1])) q hn5 rfl rfl ⟨_, upd_same, (w2.app (.cons r5 .nil)).mono g6⟩
            exact ⟨ws, w1, by rw [← w2.length]; exact most_lt hz, ρ5, _, g2.trans (g3.trans (g4.trans (g5.trans g6))), S6, hn5, e5⟩
      | false =>
        rw [if_neg Bool.false_ne_true]
        rw [hb, if_neg Bool.false_ne_true] at e5
        exact ⟨ρ4, _, g2.trans (g3.trans g4), S4, g4.rho _ _ (g3.rho _ _ hn), e5⟩
  · rintro H' ⟨ρ', st2, g2, S2, hn, e5⟩
    rw [List.drop_length] at e5
    unfold lcGo at e5
    obtain ⟨_, e5⟩ := ite_some e5
    cases e5
    exact k ρ' H' _ (g1.trans g2) S2 (.ref hn)

/-! ### list methods -/
def fApp (fo fa : SemE) : SemE := fun η st => (fo η st).bind fun p => match p.1 with
  | .ref n => match p.2[n]? with
    | some (.lst _) => (fa η p.2).bind fun q => match q.2[n]? with
      | some (.lst xs) => if xs.length < most then some (.non, q.2.set n (.lst (xs ++ [q.1]))) else none
      | _ => none
    | _ => none
  | _ => none
def fExt (fo fa : SemE) : SemE := fun η st => (fo η st).bind fun p => match p.1 with
  | .ref n => match p.2[n]? with
    | some (.lst _) => (fa η p.2).bind fun q => match q.1 with
      | .ref m => match q.2[n]?, q.2[m]? with
        | some (.lst xs), some (.lst zs) => if xs.length + zs.length ≤ most then some (.non, q.2.set n (.lst (xs ++ zs))) else none
        | _, _ => none
      | _ => none
    | _ => none
  | _ => none
def fPop (fo : SemE) : SemE := fun η st => (fo η st).bind fun p => match p.1 with
  | .ref n => match p.2[n]? with
    | some (.lst xs) => (xs[xs.length - 1]?).map fun y => (y, p.2.set n (.lst xs.dropLast))
    | _ => none
  | _ => none
theorem ref_lst {K : Frg} {ρ : Rho} {st : Sto} {H : Hp} {n : Nat} {xs : List D} {v : V} (S : SR K ρ st H) (r : DR K ρ H (.ref n) v) (h : st[n]? = some (.lst xs)) : ∃ a vs, v = .ref a ∧ ρ[n]? = some a ∧ H a = some (.lst vs) ∧ DRs K ρ H xs vs := by
  cases r with
  | @ref n a ea =>
    obtain ⟨vs, h1, h2⟩ := S.at' n _ a h ea
    exact ⟨a, vs, rfl, ea, h1, h2⟩
theorem SR.setL {K : Frg} {ρ : Rho} {st : Sto} {H : Hp} (S : SR K ρ st H) {n : Nat} {a : Addr} {xs ys : List D} {vs ws : List V} (h : st[n]? = some (.lst xs)) (ea : ρ[n]? = some a) (ha : H a = some (.lst vs)) (t : DRs K ρ H ys ws) :
    SR K ρ (st.set n (.lst ys)) (upd H a (.lst ws)) ∧ Gr K ρ H ρ (upd H a (.lst ws)) := by
  have g : Gr K ρ H ρ (upd H a (.lst ws)) := Gr.upd ha rfl
  exact S.set (u := .lst ws) (o' := .lst ys) h ea rfl rfl ⟨ws, upd_same, t.mono g⟩
section
variable {X : Cx} {o e : Expr} {fo fa : SemE} {apos cpos : Pos}
theorem pe_app (ho : PE X o (tEv X.K fo)) (ha : PA X [e] (tAv X.K (fCons fa fNil))) (hbase : attributeBase o "append" X.env (eval o X.env) = eval o X.env)
    (hline : (apos.endLine == cpos.line) = true) (hs : starEach [e] X.env = [(false, eval e X.env)]) : PE X (.Call (.Attribute o "append" apos) [e] [] cpos) (tEv X.K (fApp fo fa)) := by
  refine PE.imp (pe_bm PySem.F.plainAttrs_list PySem.F.slot_list_append PySem.F.type_list_append mt_append ho ha hbase (by rw [hs]; rfl) hline hs rfl) fun σ H Q q => ?_
  obtain ⟨ρ, η, st, d, st', E, S, e, k⟩ := q
  obtain ⟨p, e1, e2⟩ := bind_some e
  refine tEv.then E S e1 fun ρ1 H1 v g1 S1 r1 => ?_
  cases hp : p.1 with
  | ref n =>
    rw [hp] at e2 r1
    cases q1 : p.2[n]? with
    | none => simp only [q1] at e2; cases e2
    | some o1 =>
      cases o1 <;> simp only [q1] at e2 <;> first | (cases e2; done) | skip
      obtain ⟨q, e3, e4⟩ := bind_some e2
      obtain ⟨a, vs, rfl, ea, h1, h2⟩ := ref_lst S1 r1 q1
      refine ⟨.inl ⟨rfl, _, .inl (.inl h1)⟩, tAv.one (E.mono g1) S1 (fCons_one e3) fun ρ2 H2 ws g2 S2 r2 => ?_⟩
      obtain ⟨w, rfl, rw'⟩ := one_of r2 rfl
      cases q2 : q.2[n]? with
      | none => simp only [q2] at e4; cases e4
      | some o2 =>
        cases o2 <;> simp only [q2] at e4 <;> first | (cases e4; done) | skip
        obtain ⟨c, e5⟩ := ite_some e4
        cases e5
        obtain ⟨us, h3, h4⟩ := S2.at' _ _ _ q2 (g2.rho _ _ ea)
        obtain ⟨S3, g3⟩ := S2.setL q2 (g2.rho _ _ ea) h3 (h4.app (.cons rw' .nil))
        exact ⟨a, us, w, rfl, rfl, h3, by rw [← h4.length]; exact most_lt c, k _ _ _ (g1.trans (g2.trans g3)) S3 .non⟩
  | _ => rw [hp] at e2; cases e2
theorem pe_ext (ho : PE X o (tEv X.K fo)) (ha : PA X [e] (tAv X.K (fCons fa fNil))) (hbase : attributeBase o "extend" X.env (eval o X.env) = eval o X.env)
    (hline : (apos.endLine == cpos.line) = true) (hs : starEach [e] X.env = [(false, eval e X.env)]) : PE X (.Call (.Attribute o "extend" apos) [e] [] cpos) (tEv X.K (fExt fo fa)) := by
  refine PE.imp (pe_bm PySem.F.plainAttrs_list PySem.F.slot_list_extend PySem.F.type_list_extend mt_extend ho ha hbase (by rw [hs]; rfl) hline hs rfl) fun σ H Q q => ?_
  obtain ⟨ρ, η, st, d, st', E, S, e, k⟩ := q
  obtain ⟨p, e1, e2⟩ := bind_some e
  refine tEv.then E S e1 fun ρ1 H1 v g1 S1 r1 => ?_
  cases hp : p.1 with
  | ref n =>
    rw [hp] at e2 r1
    cases q1 : p.2[n]? with
    | none => simp only [q1] at e2; cases e2
    | some o1 =>
      cases o1 <;> simp only [q1] at e2 <;> first | (cases e2; done) | skip
      obtain ⟨q, e3, e4⟩ := bind_some e2
      obtain ⟨a, vs, rfl, ea, h1, h2⟩ := ref_lst S1 r1 q1
      refine ⟨.inl ⟨rfl, _, .inl (.inl h1)⟩, tAv.one (E.mono g1) S1 (fCons_one e3) fun ρ2 H2 ws g2 S2 r2 => ?_⟩
      obtain ⟨w, rfl, rw'⟩ := one_of r2 rfl
      cases hm : q.1 with
      | ref m =>
        rw [hm] at e4 rw'
        cases q2 : q.2[n]? with
        | none => simp only [q2] at e4; cases e4
        | some o2 =>
          cases o2 <;> simp only [q2] at e4 <;> first | (cases e4; done) | skip
          cases q3 : q.2[m]? with
          | none => simp only [q3] at e4; cases e4
          | some o3 =>
            cases o3 <;> simp only [q3] at e4 <;> first | (cases e4; done) | skip
            obtain ⟨c, e5⟩ := ite_some e4
            cases e5
            obtain ⟨us, h3, h4⟩ := S2.at' _ _ _ q2 (g2.rho _ _ ea)
            obtain ⟨b, zs, rfl, eb, h5, h6⟩ := ref_lst S2 rw' q3
            obtain ⟨S3, g3⟩ := S2.setL q2 (g2.rho _ _ ea) h3 (h4.app h6)
            exact ⟨a, b, us, zs, rfl, rfl, h3, h5, by rw [← h4.length, ← h6.length]; exact most_line c, k _ _ _ (g1.trans (g2.trans g3)) S3 .non⟩
      | _ => rw [hm] at e4; cases e4
  | _ => rw [hp] at e2; cases e2
theorem pe_pop (ho : PE X o (tEv X.K fo)) (hbase : attributeBase o "pop" X.env (eval o X.env) = eval o X.env) (hline : (apos.endLine == cpos.line) = true) : PE X (.Call (.Attribute o "pop" apos) [] [] cpos) (tEv X.K (fPop fo)) := by
  refine PE.imp (pe_bm0 PySem.F.plainAttrs_list PySem.F.slot_list_pop PySem.F.type_list_pop mt_pop ho hbase hline) fun σ H Q q => ?_
  obtain ⟨ρ, η, st, d, st', E, S, e, k⟩ := q
  obtain ⟨p, e1, e2⟩ := bind_some e
  refine tEv.then E S e1 fun ρ1 H1 v g1 S1 r1 => ?_
  cases hp : p.1 with
  | ref n =>
    rw [hp] at e2 r1
    cases q1 : p.2[n]? with
    | none => simp only [q1] at e2; cases e2
    | some o1 =>
      cases o1 <;> simp only [q1] at e2 <;> first | (cases e2; done) | skip
      obtain ⟨y, e3, e4⟩ := map_some' e2
      cases e4
      obtain ⟨a, vs, rfl, ea, h1, h2⟩ := ref_lst S1 r1 q1
      obtain ⟨w, hw, rw'⟩ := h2.get e3
      obtain ⟨S3, g3⟩ := S1.setL q1 ea h1 h2.dropLast
      exact ⟨.inl ⟨rfl, _, .inl (.inl h1)⟩, a, vs, w, rfl, rfl, h1, by rw [← h2.length]; exact hw, k _ _ _ (g1.trans g3) S3 (rw'.mono g3)⟩
  | _ => rw [hp] at e2; cases e2
end
end
end Sim

namespace Sim
open PySem L2
noncomputable section

structure Sx where
  N : List Str
  sc : Scope
  top : Bool
  own : List Str
  blt : List Str
  mth : List Str
structure Gx (X : Cx) (S : Sx) : Prop where
  hN : X.N = S.N
  nd : S.N.Nodup
  sc : X.env.scope = S.sc
  fn : S.top = true → ∀ x, X.fn x = true
def spF (K : Frg) (cf : CallF) (f : Str) (m : Nat) : Sp := fun vs H Q _ => vs.length = m ∧ rB K (cf f) vs H Q
structure OwnOk (X : Cx) (cf : CallF) (n : Nat) (f : Str) (fa : Addr) (fd : FuncData) (ps : List Str) : Prop where
  mg : X.mg f = some (.ref fa)
  kp : PySem.W.keepIn X.K (.ref fa) = true
  bd : Binds X.K fd ps []
  ok : FnG X.prog X.w X.K X.mg X.base CX0 n fa fd ps (spF X.K cf f ps.length)
  ar : ∀ ds st r, cf f ds st = some r → ds.length = ps.length
structure Fx (X : Cx) (S : Sx) (cf : CallF) (n : Nat) : Prop where
  room : Room n X.A
  gu : X.A.guards = some []
  calm : X.calm = true
  xe : X.xe = fun _ _ => False
  own : ∀ f, f ∈ S.own → ∃ fa fd ps, OwnOk X cf n f fa fd ps
  blt : ∀ x, x ∈ S.blt → X.mg x = none
  mth : ("gcd" : Str) ∈ S.mth → X.mg "gcd" = some (.builtin "math.gcd")

/-! ### looks at the text -/
def ixOf (x : Str) : List Str → Option Nat
  | [] => none
  | y :: r => if y = x then some 0 else (ixOf x r).map (· + 1)
theorem ixOf_get {x : Str} : ∀ {N : List Str} {i : Nat}, ixOf x N = some i → N[i]? = some x
  | [], _, h => by cases h
  | y :: r, i, h => by
    unfold ixOf at h
    by_cases q : y = x
    · rw [if_pos q] at h; cases h; subst q; rfl
    · rw [if_neg q] at h
      obtain ⟨j, e1, rfl⟩ := map_some' h
      show r[j]? = some x
      exact ixOf_get e1
def visB (sc : Scope) (x : Str) : Bool := match sc.names.lookup x with
  | some .local => true
  | some .cell => true
  | some .free => true
  | _ => false
theorem visB_ok {sc : Scope} {x : Str} (h : visB sc x = true) : Vis sc x := by
  unfold visB at h
  unfold Vis
  split at h <;> first | (cases h; done) | skip
  · exact .inl (by assumption)
  · exact .inr (.inl (by assumption))
  · exact .inr (.inr (by assumption))
def glB (sc : Scope) (x : Str) : Bool := match sc.names.lookup x with
  | some .globalImplicit => true
  | _ => false
theorem glB_ok {X : Cx} {S : Sx} (G : Gx X S) {x : Str} (h : glB S.sc x = true) : Gl X x := by
  unfold glB at h
  split at h
  · show X.env.scope.names.lookup x = _
    rw [G.sc]; assumption
  · cases h
def nmOk (x : Str) : Bool := !(x == "__debug__") && !(x == "__classdict__") && !(x == "__name__")
theorem nmOk_ok {x : Str} (h : nmOk x = true) : (x == ("__debug__" : Str)) = false ∧ (x == ("__classdict__" : Str)) = false ∧ x ≠ "__name__" := by
  unfold nmOk at h
  simp only [Bool.and_eq_true, Bool.not_eq_true'] at h
  exact ⟨h.1.1, h.1.2, by intro e; rw [e] at h; exact absurd h.2 (by decide)⟩
def locB (S : Sx) (x : Str) : Bool := match S.sc.names.lookup x with
  | some .local => true
  | some .cell => S.top
  | _ => false
theorem locB_ok {X : Cx} {S : Sx} (G : Gx X S) {x : Str} (h : locB S x = true) : L2.Loc X.env.scope x ∧ (X.fn x = true ∨ X.env.scope.names.lookup x = some .local) := by
  unfold locB at h
  unfold L2.Loc
  rw [G.sc]
  split at h <;> first | (cases h; done) | skip
  · rename_i q; exact ⟨.inl q, .inr q⟩
  · rename_i q; exact ⟨.inr q, .inl (G.fn h x)⟩
def notStar : Expr → Bool
  | .Starred _ _ => false
  | _ => true
def notSet : Expr → Bool
  | .Set _ _ _ => false
  | _ => true
def notSlice : Expr → Bool
  | .Slice _ _ _ _ => false
  | _ => true
def notCall : Expr → Bool
  | .Call _ _ _ _ => false
  | _ => true
theorem star1 {e : Expr} {es : List Expr} {env : Env} (h : notStar e = true) : starEach (e :: es) env = (false, eval e env) :: starEach es env := by
  cases e <;> first | rfl | (cases h; done)
theorem starAny {pos : Pos} {env : Env} : ∀ {es : List Expr}, es.all notStar = true → (backTo pos (starEach es env)).any (·.1) = false
  | [], _ => rfl
  | e :: es, h => by
    rw [List.all_cons, Bool.and_eq_true] at h
    rw [star1 h.1]
    show (false || (backTo pos (starEach es env)).any (·.1)) = false
    rw [starAny h.2]; rfl
theorem setMark {op : CmpOp} {e : Expr} (h : notSet e = true) : behindInMarks op e = false := by
  cases e <;> first | rfl | (cases h; done)
theorem setFold {e : Expr} {env : Env} (h : notSet e = true) (x : Value) : foldedSetIterable e env x = pure x := by
  cases e <;> first | rfl | (cases h; done)
theorem plainIx {b : Expr} (h : notSlice b = true) : PlainIx b := fun o i => by
  cases b <;> first | rfl | (cases h; done)
theorem attrB {o : Expr} {m : Str} {env : Env} (h : notCall o = true) : attributeBase o m env (eval o env) = eval o env := by
  cases o <;> first | rfl | (cases h; done)

/-! ### the compiler of expressions -/
abbrev RE := Sx → Expr → Option SemE
abbrev RT := Sx → Expr → Option SemT
def binOk : Operator → Bool
  | .Add | .Sub | .Mult | .Mod | .FloorDiv | .Pow => true
  | _ => false
def compC : Const → Option SemE
  | .none => some (fC .non)
  | .bool b => some (fC (.bl b))
  | .int i => some (fC (.int i))
  | .str s => some (fC (.str s))
  | _ => none
def compA (rE : Expr → Option SemE) : List Expr → Option SemA
  | [] => some fNil
  | e :: r => if notStar e = true then (rE e).bind fun fe => (compA rE r).map fun fr => fCons fe fr else none
def compV (rE : Expr → Option SemE) (op : BoolOp) : List Expr → Option SemE
  | [] => none
  | [a] => rE a
  | a :: b :: r => (rE a).bind fun fa => (compV rE op (b :: r)).map fun fb => match op with
    | .And => fAndV fa fb
    | .Or => fOrV fa fb
def compW (rT : Expr → Option SemT) (op : BoolOp) : List Expr → Option SemT
  | [] => none
  | [a] => rT a
  | a :: b :: r => (rT a).bind fun fa => (compW rT op (b :: r)).map fun fb => match op with
    | .And => gAnd fa fb
    | .Or => gOr fa fb
def compO (rE : Expr → Option SemE) : Option Expr → Option SemO
  | none => some oNone
  | some e => (rE e).map oSome
def compIfs (rT : Expr → Option SemT) : List Expr → Option SemT
  | [] => some gYes
  | [c] => rT c
  | _ => none
def bltOf (x : Str) : Option (List D → Sto → R) :=
  if x = "sorted" then some bSorted else if x = "len" then some bLen else if x = "repr" then some bRepr else if x = "min" then some bMin else if x = "max" then some bMax else if x = "tuple" then some bTuple
  else if x = "list" then some bList else if x = "sum" then some bSum else if x = "all" then some bAll else if x = "any" then some bAny else none
def clsOf (x : Str) : Option String :=
  if x = "int" then some "int" else if x = "bool" then some "bool" else if x = "str" then some "str" else if x = "tuple" then some "tuple" else if x = "list" then some "list" else if x = "dict" then some "dict" else none
def stepCall (rE : Expr → Option SemE) (cf : CallF) (S : Sx) (x : Str) (args : List Expr) : Option SemE :=
  if glB S.sc x = true ∧ nmOk x = true ∧ (args ≠ [] ∨ x ∈ S.own) then
    if x ∈ S.own then (compA rE args).map fun fs => fCall cf x fs
    else if x ∈ S.mth then (if x = "gcd" then (compA rE args).map fun fs => fBlt bGcd fs else none)
    else if x ∈ S.blt then
      if x = "isinstance" then match args with
        | [e, .Name T _] => if notStar e = true ∧ glB S.sc T = true ∧ nmOk T = true ∧ T ∈ S.blt then (clsOf T).bind fun t => (rE e).map fun fe => fIsi t fe else none
        | _ => none
      else (bltOf x).bind fun g => (compA rE args).map fun fs => fBlt g fs
    else none
  else none
def stepMeth (rE : Expr → Option SemE) (m : Str) (o : Expr) (args : List Expr) (apos cpos : Pos) : Option SemE :=
  if notCall o = true ∧ (apos.endLine == cpos.line) = true then
    if m = "append" then match args with
      | [e] => if notStar e = true then (rE o).bind fun fo => (rE e).map fun fa => fApp fo fa else none
      | _ => none
    else if m = "extend" then match args with
      | [e] => if notStar e = true then (rE o).bind fun fo => (rE e).map fun fa => fExt fo fa else none
      | _ => none
    else if m = "pop" then match args with
      | [] => (rE o).map fun fo => fPop fo
      | _ => none
    else none
  else none
def compGs (f : Expr → Option (SemG × List Nat)) : List Expr → Option (SemGs × List Nat)
  | [] => some (gvNil, [])
  | e :: r => if notStar e = true then (f e).bind fun g => (compGs f r).map fun gs => (gvCons g.1 gs.1, g.2 ++ gs.2) else none
def compG (S : Sx) : Nat → Expr → Option (SemG × List Nat)
  | 0, _ => none
  | d + 1, e => match e with
    | .Name x _ => if locB S x = true then (ixOf x S.N).map fun i => (gvName i, [i]) else none
    | .Tuple es _ _ => (compGs (fun e => compG S d e) es).map fun p => (gvTup p.1, p.2)
    | _ => none
def isTuple : Expr → Bool
  | .Tuple _ _ _ => true
  | _ => false
def compI (rE : Expr → Option SemE) (S : Sx) (tg : Expr) (iter : Expr) : Option SemI :=
  match iter with
  | .Call (.Name x _) args [] _ => if glB S.sc x = true ∧ x ∈ S.blt ∧ x = "range" then (if args.length = 1 ∨ args.length = 2 ∨ args.length = 3 then (compA rE args).map fun fs => iRng fs else none)
    else if glB S.sc x = true ∧ x ∈ S.blt ∧ x = "enumerate" then match args with
      | [e] => if notStar e = true ∧ isTuple tg = true then (rE e).map fun fe => iEn fe else none
      | _ => none
    else if glB S.sc x = true ∧ x ∈ S.blt ∧ x = "reversed" then match args with
      | [e] => if notStar e = true then (rE e).map fun fe => iRv fe else none
      | _ => none
    else (rE iter).map fun fe => iPlain fe
  | _ => (rE iter).map fun fe => iPlain fe
def ownOf (N : List Str) (scope : Scope) : List (Str × Nat) := scope.names.filterMap fun y => match y.2 with
  | .local => (ixOf y.1 N).map fun i => (y.1, i)
  | .cell => (ixOf y.1 N).map fun i => (y.1, i)
  | _ => none
def Sx.blk (S : Sx) (scope : Scope) : Sx := { S with sc := relS scope S.sc, top := false }
def stepLc (rE : RE) (rT : RT) (S : Sx) (elt : Expr) (gens : List Comprehension) (scope : Scope) : Option SemE :=
  match gens with
  | [⟨tg, iter, ifs, 0⟩] => if blkC S.N S.sc scope (ownOf S.N scope) = true ∧ notSet iter = true then
      (compI (rE S) S tg iter).bind fun fi => (compG (S.blk scope) 3 tg).bind fun g => if (g.2.all fun i => ((ownOf S.N scope).map (·.2)).contains i) = true then
        (compIfs (rT (S.blk scope)) ifs).bind fun ft => (rE (S.blk scope) elt).map fun fe => fLc fi g.1 ft fe ((ownOf S.N scope).map (·.2)) else none
      else none
  | _ => none
def stepSub (rE : Expr → Option SemE) (a b : Expr) : Option SemE :=
  match b with
  | .Slice none none (some (.UnaryOp .USub (.Constant (.int 1) _ _) _)) _ => (rE a).map fun fa => fRev fa
  | .Slice lo hi none _ => (rE a).bind fun fa => (compO rE lo).bind fun fl => (compO rE hi).map fun fh => fSl fa fl fh
  | _ => if notSlice b = true then (rE a).bind fun fa => (rE b).map fun fb => fIx fa fb else none
def stepCmp (rE : Expr → Option SemE) (a : Expr) (ops : List CmpOp) (bs : List Expr) : Option SemE :=
  match ops, bs with
  | [op], [b] => if notSet b = true then (rE a).bind fun fa => (rE b).map fun fb => fCmp op fa fb else none
  | [o1, o2], [b, c] => if notSet c = true then (rE a).bind fun fa => (rE b).bind fun fb => (rE c).map fun fc => fCh o1 o2 fa fb fc else none
  | _, _ => none
def stepTCmp (rE : Expr → Option SemE) (a : Expr) (ops : List CmpOp) (bs : List Expr) : Option SemT :=
  match ops, bs with
  | [op], [b] => if notSet b = true then (rE a).bind fun fa => (rE b).map fun fb => gCmp op fa fb else none
  | [o1, o2], [b, c] => if notSet c = true then (rE a).bind fun fa => (rE b).bind fun fb => (rE c).map fun fc => gCh o1 o2 fa fb fc else none
  | _, _ => none
def stepE (rE : RE) (rT : RT) (cf : CallF) (S : Sx) (e : Expr) : Option SemE :=
  match e with
  | .Constant c _ _ => compC c
  | .Name x _ => if nmOk x = true ∧ visB S.sc x = true then (ixOf x S.N).map fun i => fVar i else none
  | .BinOp a op b _ => if binOk op = true then (rE S a).bind fun fa => (rE S b).map fun fb => fBin op fa fb else none
  | .UnaryOp .USub a _ => (rE S a).map fun fa => fNeg fa
  | .UnaryOp .Not a _ => (rE S a).map fun fa => fNotV fa
  | .BoolOp op vs _ => compV (rE S) op vs
  | .Compare a ops bs _ => stepCmp (rE S) a ops bs
  | .IfExp c a b _ => (rT S c).bind fun fc => (rE S a).bind fun fa => (rE S b).map fun fb => fIf fc fa fb
  | .Tuple es _ _ => (compA (rE S) es).map fun fs => fTup fs
  | .List es _ => (compA (rE S) es).map fun fs => fLst fs
  | .Subscript a b _ => stepSub (rE S) a b
  | .Call (.Name x _) args [] _ => stepCall (rE S) cf S x args
  | .Call (.Attribute o m apos) args [] cpos => stepMeth (rE S) m o args apos cpos
  | .ListComp elt gens scope _ => stepLc rE rT S elt gens scope
  | _ => none
def stepT (rE : RE) (rT : RT) (S : Sx) (e : Expr) : Option SemT :=
  match e with
  | .UnaryOp .Not a _ => (rT S a).map fun fa => gNot fa
  | .BoolOp op vs _ => compW (rT S) op vs
  | .Compare a ops bs _ => stepTCmp (rE S) a ops bs
  | .Name _ _ => (rE S e).map fun fa => gTru fa
  | .Call _ _ _ _ => (rE S e).map fun fa => gTru fa
  | .Subscript _ _ _ => (rE S e).map fun fa => gTru fa
  | .Constant _ _ _ => (rE S e).map fun fa => gTru fa
  | _ => none
mutual
def compE (cf : CallF) : Nat → Sx → Expr → Option SemE
  | 0, _, _ => none
  | d + 1, S, e => stepE (compE cf d) (compT cf d) cf S e
def compT (cf : CallF) : Nat → Sx → Expr → Option SemT
  | 0, _, _ => none
  | d + 1, S, e => stepT (compE cf d) (compT cf d) S e
end
end
end Sim

namespace Sim
open PySem L2

def HE (rE : RE) (cf : CallF) (n : Nat) : Prop := ∀ (X : Cx) (S : Sx) (e : Expr) (f : SemE), Gx X S → Fx X S cf n → rE S e = some f → PE X e (tEv X.K f)
def HT (rT : RT) (cf : CallF) (n : Nat) : Prop := ∀ (X : Cx) (S : Sx) (e : Expr) (f : SemT), Gx X S → Fx X S cf n → rT S e = some f → PT X e (tTv X.K f)

section
variable {X : Cx} {S : Sx} {cf : CallF} {n : Nat}
/-! ### constants, names -/
theorem ok_const {c : Const} {f : SemE} {k : Nat} {pos : Pos} (h : compC c = some f) : PE X (.Constant c k pos) (tEv X.K f) := by
  have go : ∀ (v : V) (d : D), (∀ ρ H, DR X.K ρ H d v) → PE X (.Constant c k pos) (tC v) → f = fC d → PE X (.Constant c k pos) (tEv X.K f) := fun v d r p e => by
    subst e
    refine PE.imp p fun σ H Q q => ?_
    obtain ⟨ρ, η, st, d', st', E, S, e, k⟩ := q
    cases e
    exact k.now S (r _ _)
  cases c <;> first | (cases h; done) | skip
  · cases h; exact go .non .non (fun _ _ => .non) pe_non rfl
  · cases h; exact go (.bl _) (.bl _) (fun _ _ => .bl _) pe_bl rfl
  · cases h; exact go (.int _) (.int _) (fun _ _ => .int _) pe_int rfl
  · cases h; exact go (.str _) (.str _) (fun _ _ => .str _) pe_str rfl
theorem ok_name (G : Gx X S) {x : Str} {f : SemE} {pos : Pos} (h : (if nmOk x = true ∧ visB S.sc x = true then (ixOf x S.N).map fun i => fVar i else none) = some f) : PE X (.Name x pos) (tEv X.K f) := by
  obtain ⟨⟨c1, c2⟩, h⟩ := ite_some h
  obtain ⟨i, e1, e2⟩ := map_some' h
  subst e2
  obtain ⟨h1, h2, h3⟩ := nmOk_ok c1
  refine PE.imp (pe_var (i := i) (by rw [G.hN]; exact ixOf_get e1) (by rw [G.sc]; exact visB_ok c2) h1 h2) fun σ H Q q => ?_
  obtain ⟨ρ, η, st, d, st', E, S', e, k⟩ := q
  unfold fVar at e
  split at e
  · cases e
    rename_i hη
    obtain ⟨v, hv, r⟩ := E.2 _ _ hη
    exact ⟨v, hv, k.now S' r⟩
  · cases e
/-! ### arguments -/
theorem ok_args {rE : Expr → Option SemE} (hE : ∀ e f, rE e = some f → PE X e (tEv X.K f)) : ∀ {es : List Expr} {fs : SemA}, compA rE es = some fs →
    PA X es (tAv X.K fs) ∧ es.all notStar = true ∧ ∀ η st ds st', fs η st = some (ds, st') → ds.length = es.length
  | [], _, h => by
    cases h
    refine ⟨PA.imp pa_nil fun σ H Q q => ?_, rfl, fun η st ds st' e => by cases e; rfl⟩
    obtain ⟨ρ, η, st, ds, st', E, S, e, k⟩ := q
    cases e
    exact k ρ H [] (Gr.refl _ _ _) S .nil
  | e :: r, _, h => by
    unfold compA at h
    obtain ⟨c, h⟩ := ite_some h
    obtain ⟨fe, e1, h⟩ := bind_some h
    obtain ⟨fr, e2, e3⟩ := map_some' h
    subst e3
    obtain ⟨p1, p2, p3⟩ := ok_args hE e2
    refine ⟨PA.imp (pa_cons (hE e fe e1) p1 (star1 c)) fun σ H Q q => ?_, by rw [List.all_cons, c, p2]; rfl, fun η st ds st' q => ?_⟩
    · obtain ⟨ρ, η, st, ds, st', E, S, q, k⟩ := q
      obtain ⟨p, q1, q⟩ := bind_some q
      obtain ⟨z, q2, q3⟩ := map_some' q
      cases q3
      exact tEv.then E S q1 fun ρ1 H1 v g1 S1 r1 => ⟨ρ1, η, p.2, z.1, z.2, E.mono g1, S1, q2, fun ρ2 H2 vs g2 S2 r2 => k ρ2 H2 _ (g1.trans g2) S2 (.cons (r1.mono g2) r2)⟩
    · obtain ⟨p, q1, q⟩ := bind_some q
      obtain ⟨z, q2, q3⟩ := map_some' q
      cases q3
      rw [List.length_cons, List.length_cons, p3 _ _ _ _ q2]
theorem ok_tup {es : List Expr} {fs : SemA} {k : Nat} {pos : Pos} (h : PA X es (tAv X.K fs)) : PE X (.Tuple es k pos) (tEv X.K (fTup fs)) := by
  refine PE.imp (pe_tup h) fun σ H Q q => ?_
  obtain ⟨ρ, η, st, d, st', E, S, e, k⟩ := q
  obtain ⟨p, e1, e2⟩ := bind_some e
  obtain ⟨c, e3⟩ := ite_some e2
  cases e3
  exact tAv.one E S e1 fun ρ1 H1 vs g1 S1 r1 => ⟨by rw [← r1.length]; exact most_line c, (k.pre g1).tup S1 r1⟩
theorem ok_lst {es : List Expr} {fs : SemA} {pos : Pos} (h : PA X es (tAv X.K fs)) : PE X (.List es pos) (tEv X.K (fLst fs)) := by
  refine PE.imp (pe_lst h) fun σ H Q q => ?_
  obtain ⟨ρ, η, st, d, st', E, S, e, k⟩ := q
  obtain ⟨p, e1, e2⟩ := bind_some e
  obtain ⟨c, e3⟩ := ite_some e2
  cases e3
  exact tAv.one E S e1 fun ρ1 H1 vs g1 S1 r1 => ⟨by rw [← r1.length]; exact most_line c, (k.pre g1).lst S1 r1⟩
/-! ### operations -/
theorem ok_binop {a b : Expr} {fa fb : SemE} {op : Operator} {pos : Pos} (hop : binOk op = true) (ha : PE X a (tEv X.K fa)) (hb : PE X b (tEv X.K fb)) : PE X (.BinOp a op b pos) (tEv X.K (fBin op fa fb)) := by
  refine PE.imp (pe_op (ok_bin op ?_) ha hb) fun σ H Q q => two (fun x y H Q r => r) q
  cases op <;> first | (cases hop; done) | simp
def rNegA : V → Hp → VK → Prop := fun x H Q => (∃ i, x = .int i ∧ Q (.int (-i)) H) ∨ ∃ b, x = .bl b ∧ Q (.int (-(if b = true then (1 : Int) else 0))) H
theorem un_negA : UnR X (unaryOp .USub) rNegA := by
  intro pins s σ H x v Q I rx h
  rcases h with ⟨i, rfl, q⟩ | ⟨b, rfl, q⟩
  · exact un_neg pins s σ H _ v Q I rx ⟨i, rfl, q⟩
  · cases (show v = Value.bool b from rx)
    exact neg_bool ⟨.int _, H, I.tok _, ⟨_, rfl⟩, q⟩
theorem ok_neg {a : Expr} {fa : SemE} {pos : Pos} (ha : PE X a (tEv X.K fa)) : PE X (.UnaryOp .USub a pos) (tEv X.K (fNeg fa)) := by
  refine PE.imp (pe_un un_negA ha) fun σ H Q q => ?_
  obtain ⟨ρ, η, st, d, st', E, S, e, k⟩ := q
  obtain ⟨p, e1, e2⟩ := bind_some e
  refine tEv.then E S e1 fun ρ1 H1 v g1 S1 r1 => ?_
  cases hp : p.1 with
  | int i =>
    rw [hp] at e2 r1
    cases e2; cases r1
    exact .inl ⟨i, rfl, (k.pre g1).now S1 (.int _)⟩
  | bl b =>
    rw [hp] at e2 r1
    cases e2; cases r1
    exact .inr ⟨b, rfl, (k.pre g1).now S1 (.int _)⟩
  | _ => rw [hp] at e2; cases e2
theorem ok_notV {a : Expr} {fa : SemE} {pos : Pos} (ha : PE X a (tEv X.K fa)) : PE X (.UnaryOp .Not a pos) (tEv X.K (fNotV fa)) := by
  refine PE.imp (pe_notT ha) fun σ H Q q => ?_
  obtain ⟨ρ, η, st, d, st', E, S, e, k⟩ := q
  obtain ⟨p, e1, e2⟩ := bind_some e
  obtain ⟨b, e3, e4⟩ := map_some' e2
  cases e4
  exact tEv.then E S e1 fun ρ1 H1 v g1 S1 r1 => ⟨b, truth_ok S1 r1 e3, (k.pre g1).now S1 (.bl _)⟩
theorem ok_andV {a b : Expr} {rest : List Expr} {fa fb : SemE} {pos : Pos} (ha : PE X a (tEv X.K fa)) (hb : PE X (.BoolOp .And (b :: rest) pos) (tEv X.K fb)) : PE X (.BoolOp .And (a :: b :: rest) pos) (tEv X.K (fAndV fa fb)) := by
  refine PE.imp (pe_andT ha hb) fun σ H Q q => ?_
  obtain ⟨ρ, η, st, d, st', E, S, e, k⟩ := q
  obtain ⟨p, e1, e2⟩ := bind_some e
  obtain ⟨c, e3, e4⟩ := bind_some e2
  refine tEv.then E S e1 fun ρ1 H1 v g1 S1 r1 => ⟨c, truth_ok S1 r1 e3, ?_⟩
  cases c with
  | true => rw [if_pos rfl] at e4 ⊢; exact tEv.then (E.mono g1) S1 e4 (k.pre g1)
  | false => rw [if_neg Bool.false_ne_true] at e4 ⊢; cases e4; exact (k.pre g1).now S1 r1
theorem ok_orV {a b : Expr} {rest : List Expr} {fa fb : SemE} {pos : Pos} (ha : PE X a (tEv X.K fa)) (hb : PE X (.BoolOp .Or (b :: rest) pos) (tEv X.K fb)) : PE X (.BoolOp .Or (a :: b :: rest) pos) (tEv X.K (fOrV fa fb)) := by
  refine PE.imp (pe_orT ha hb) fun σ H Q q => ?_
  obtain ⟨ρ, η, st, d, st', E, S, e, k⟩ := q
  obtain ⟨p, e1, e2⟩ := bind_some e
  obtain ⟨c, e3, e4⟩ := bind_some e2
  refine tEv.then E S e1 fun ρ1 H1 v g1 S1 r1 => ⟨c, truth_ok S1 r1 e3, ?_⟩
  cases c with
  | true => rw [if_pos rfl] at e4 ⊢; cases e4; exact (k.pre g1).now S1 r1
  | false => rw [if_neg Bool.false_ne_true] at e4 ⊢; exact tEv.then (E.mono g1) S1 e4 (k.pre g1)
theorem ok_boolV {rE : Expr → Option SemE} {op : BoolOp} {pos : Pos} (hE : ∀ e f, rE e = some f → PE X e (tEv X.K f)) : ∀ {vs : List Expr} {f : SemE}, compV rE op vs = some f → PE X (.BoolOp op vs pos) (tEv X.K f)
  | [], _, h => by cases h
  | [a], f, h => pe_one (hE a f h)
  | a :: b :: r, _, h => by
    unfold compV at h
    obtain ⟨fa, e1, h⟩ := bind_some h
    obtain ⟨fb, e2, e3⟩ := map_some' h
    subst e3
    have ih := ok_boolV (pos := pos) hE e2
    cases op with
    | And => exact ok_andV (hE a fa e1) ih
    | Or => exact ok_orV (hE a fa e1) ih
theorem cmp_read {fa fb : SemE} {op : CmpOp} {σ : L2.St} {H : Hp} {Q : VK} (q : tEv X.K (fCmp op fa fb) σ H Q) : tOp (r2 X.K (cmpR op)) (tEv X.K fa) (tEv X.K fb) σ H Q :=
  two (g := cmpR op) (fun x y H Q r => r) q
theorem ok_cmpE {a b : Expr} {fa fb : SemE} {op : CmpOp} {pos : Pos} (hu : X.A.units + 65 < cLine) (hs : notSet b = true) (ha : PE X a (tEv X.K fa)) (hb : PE X b (tEv X.K fb)) : PE X (.Compare a [op] [b] pos) (tEv X.K (fCmp op fa fb)) :=
  PE.imp (pe_cmpR (ok_cmp hu op) ha hb (setMark hs)) fun σ H Q q => cmp_read q
theorem test_read {fa fb : SemE} {op : CmpOp} {σ : L2.St} {H : Hp} {Q : Bool → Hp → Prop} (q : tTv X.K (gCmp op fa fb) σ H Q) : tTest (tOp (r2 X.K (cmpR op)) (tEv X.K fa) (tEv X.K fb)) σ H Q := by
  obtain ⟨ρ, η, st, b, st', E, S, e, k⟩ := q
  obtain ⟨p, e1, e2⟩ := bind_some e
  obtain ⟨q, e3, e4⟩ := bind_some e2
  obtain ⟨c, e5, e6⟩ := map_some' e4
  cases e6
  refine tEv.then E S e1 fun ρ1 H1 v1 g1 S1 r1 => tEv.then (E.mono g1) S1 e3 fun ρ2 H2 v2 g2 S2 r2 => ?_
  refine ⟨ρ2, q.2, p.1, q.1, .bl b, q.2, S2, r1.mono g2, r2, by unfold cmpR; rw [e5]; rfl, fun ρ3 H3 v3 g3 S3 r3 => ?_⟩
  cases r3
  exact ⟨b, rfl, k ρ3 H3 (g1.trans (g2.trans g3)) S3⟩
theorem ok_cmpT {a b : Expr} {fa fb : SemE} {op : CmpOp} {pos : Pos} (hu : X.A.units + 65 < cLine) (hs : notSet b = true) (ha : PE X a (tEv X.K fa)) (hb : PE X b (tEv X.K fb)) : PT X (.Compare a [op] [b] pos) (tTv X.K (gCmp op fa fb)) :=
  PT.imp (pt_cmpR (ok_cmp hu op) ha hb (setMark hs)) fun σ H Q q => test_read q
theorem chain_read {fa fb fc : SemE} {o1 o2 : CmpOp} {σ : L2.St} {H : Hp} {Q : VK} (q : tEv X.K (fCh o1 o2 fa fb fc) σ H Q) : tChain (r2 X.K (cmpR o1)) (r2 X.K (cmpR o2)) (tEv X.K fa) (tEv X.K fb) (tEv X.K fc) σ H Q := by
  obtain ⟨ρ, η, st, d, st', E, S, e, k⟩ := q
  obtain ⟨p, e1, e2⟩ := map_some' e
  cases e2
  obtain ⟨x, e3, e4⟩ := bind_some e1
  obtain ⟨y, e5, e6⟩ := bind_some e4
  obtain ⟨b, e7, e8⟩ := bind_some e6
  refine tEv.then E S e3 fun ρ1 H1 v1 g1 S1 r1 => tEv.then (E.mono g1) S1 e5 fun ρ2 H2 v2 g2 S2 r2 => ?_
  refine ⟨ρ2, y.2, x.1, y.1, .bl b, y.2, S2, r1.mono g2, r2, by unfold cmpR; rw [e7]; rfl, fun ρ3 H3 v3 g3 S3 r3 => ?_⟩
  cases r3
  refine ⟨b, rfl, ?_⟩
  cases b with
  | true =>
    rw [if_pos rfl] at e8 ⊢
    obtain ⟨z, e9, e10⟩ := bind_some e8
    obtain ⟨c, e11, e12⟩ := map_some' e10
    subst e12
    refine tEv.then (E.mono (g1.trans (g2.trans g3))) S3 e9 fun ρ4 H4 v4 g4 S4 r4 => ?_
    exact ⟨ρ4, z.2, y.1, z.1, .bl c, z.2, S4, (r2.mono g3).mono g4, r4, by unfold cmpR; rw [e11]; rfl, k.pre (g1.trans (g2.trans (g3.trans g4)))⟩
  | false =>
    rw [if_neg Bool.false_ne_true] at e8 ⊢
    cases e8
    exact (k.pre (g1.trans (g2.trans g3))).now S3 (.bl _)
theorem lastM {o1 o2 : CmpOp} {b c : Expr} (h : notSet c = true) : lastMarks [o1, o2] [b, c] = false := by
  show behindInMarks o2 c = false
  exact setMark h
theorem ok_chE {a b c : Expr} {fa fb fc : SemE} {o1 o2 : CmpOp} {pos : Pos} (hu : X.A.units + 65 < cLine) (hs : notSet c = true) (ha : PE X a (tEv X.K fa)) (hb : PE X b (tEv X.K fb)) (hc : PE X c (tEv X.K fc)) :
    PE X (.Compare a [o1, o2] [b, c] pos) (tEv X.K (fCh o1 o2 fa fb fc)) :=
  PE.imp (pe_chain (ok_cmp hu o1) (ok_cmp hu o2) ha hb hc (lastM hs)) fun σ H Q q => chain_read q
theorem ok_chT {a b c : Expr} {fa fb fc : SemE} {o1 o2 : CmpOp} {pos : Pos} (hu : X.A.units + 65 < cLine) (hs : notSet c = true) (ha : PE X a (tEv X.K fa)) (hb : PE X b (tEv X.K fb)) (hc : PE X c (tEv X.K fc)) :
    PT X (.Compare a [o1, o2] [b, c] pos) (tTv X.K (gCh o1 o2 fa fb fc)) := by
  refine PT.imp (pt_chain (ok_cmp hu o1) (ok_cmp hu o2) ha hb hc (lastM hs)) fun σ H Q q => ?_
  obtain ⟨ρ, η, st, b, st', E, S, e, k⟩ := q
  refine chain_read (o1 := o1) (o2 := o2) (fa := fa) (fb := fb) (fc := fc) ⟨ρ, η, st, .bl b, st', E, S, by unfold fCh; rw [e]; rfl, fun ρ1 H1 v g1 S1 r1 => ?_⟩
  cases r1
  exact ⟨b, rfl, k ρ1 H1 g1 S1⟩
theorem ok_if {c a b : Expr} {fc : SemT} {fa fb : SemE} {pos : Pos} (hc : PT X c (tTv X.K fc)) (ha : PE X a (tEv X.K fa)) (hb : PE X b (tEv X.K fb)) : PE X (.IfExp c a b pos) (tEv X.K (fIf fc fa fb)) := by
  refine PE.imp (pe_ifExp hc ha hb) fun σ H Q q => ?_
  obtain ⟨ρ, η, st, d, st', E, S, e, k⟩ := q
  obtain ⟨p, e1, e2⟩ := bind_some e
  refine ⟨ρ, η, st, p.1, p.2, E, S, e1, fun ρ1 H1 g1 S1 => ?_⟩
  cases hp : p.1 with
  | true => rw [hp, if_pos rfl] at e2; rw [if_pos rfl]; exact tEv.then (E.mono g1) S1 e2 (k.pre g1)
  | false => rw [hp, if_neg Bool.false_ne_true] at e2; rw [if_neg Bool.false_ne_true]; exact tEv.then (E.mono g1) S1 e2 (k.pre g1)
/-! ### tests -/
theorem ok_notT {a : Expr} {fa : SemT} {pos : Pos} (ha : PT X a (tTv X.K fa)) : PT X (.UnaryOp .Not a pos) (tTv X.K (gNot fa)) := by
  refine PT.imp (pt_not ha) fun σ H Q q => ?_
  obtain ⟨ρ, η, st, b, st', E, S, e, k⟩ := q
  obtain ⟨p, e1, e2⟩ := map_some' e
  cases e2
  exact ⟨ρ, η, st, p.1, p.2, E, S, e1, k⟩
theorem ok_boolT {rT : Expr → Option SemT} {op : BoolOp} {pos : Pos} (hT : ∀ e f, rT e = some f → PT X e (tTv X.K f)) : ∀ {vs : List Expr} {f : SemT}, compW rT op vs = some f → PW X (.BoolOp op vs pos) (tTv X.K f)
  | [], _, h => by cases h
  | [a], f, h => by
    cases op with
    | And => exact pw_and1 (hT a f h)
    | Or => exact pw_or1 (hT a f h)
  | a :: b :: r, _, h => by
    unfold compW at h
    obtain ⟨fa, e1, h⟩ := bind_some h
    obtain ⟨fb, e2, e3⟩ := map_some' h
    subst e3
    have ih := ok_boolT (pos := pos) hT e2
    cases op with
    | And =>
      refine PW.imp (pw_and (hT a fa e1) ih) fun σ H Q q => ?_
      obtain ⟨ρ, η, st, c, st', E, S, e, k⟩ := q
      obtain ⟨p, e1, e2⟩ := bind_some e
      refine ⟨ρ, η, st, p.1, p.2, E, S, e1, fun ρ1 H1 g1 S1 => ?_⟩
      cases hp : p.1 with
      | true => rw [hp, if_pos rfl] at e2; rw [if_pos rfl]; exact ⟨ρ1, η, p.2, c, st', E.mono g1, S1, e2, fun ρ2 H2 g2 S2 => k ρ2 H2 (g1.trans g2) S2⟩
      | false => rw [hp, if_neg Bool.false_ne_true] at e2; rw [if_neg Bool.false_ne_true]; cases e2; exact k ρ1 H1 g1 S1
    | Or =>
      refine PW.imp (pw_or (hT a fa e1) ih) fun σ H Q q => ?_
      obtain ⟨ρ, η, st, c, st', E, S, e, k⟩ := q
      obtain ⟨p, e1, e2⟩ := bind_some e
      refine ⟨ρ, η, st, p.1, p.2, E, S, e1, fun ρ1 H1 g1 S1 => ?_⟩
      cases hp : p.1 with
      | true => rw [hp, if_pos rfl] at e2; rw [if_pos rfl]; cases e2; exact k ρ1 H1 g1 S1
      | false => rw [hp, if_neg Bool.false_ne_true] at e2; rw [if_neg Bool.false_ne_true]; exact ⟨ρ1, η, p.2, c, st', E.mono g1, S1, e2, fun ρ2 H2 g2 S2 => k ρ2 H2 (g1.trans g2) S2⟩
theorem ok_truT {a : Expr} {fa : SemE} (ha : PE X a (tEv X.K fa)) (he : ∀ whole, isTrue a X.env whole = (do let v ← whole; standAt a.pos; holding [v] (truthy v))) : PT X a (tTv X.K (gTru fa)) := by
  refine PT.imp (pt_truth ha he) fun σ H Q q => ?_
  obtain ⟨ρ, η, st, b, st', E, S, e, k⟩ := q
  obtain ⟨p, e1, e2⟩ := bind_some e
  obtain ⟨c, e3, e4⟩ := map_some' e2
  cases e4
  exact tEv.then E S e1 fun ρ1 H1 v g1 S1 r1 => ⟨b, truth_ok S1 r1 e3, k ρ1 H1 g1 S1⟩
/-! ### items, slices -/
theorem ok_ixE {a b : Expr} {fa fb : SemE} {pos : Pos} (hu : X.A.units + 65 < cLine) (hs : notSlice b = true) (ha : PE X a (tEv X.K fa)) (hb : PE X b (tEv X.K fb)) : PE X (.Subscript a b pos) (tEv X.K (fIx fa fb)) :=
  PE.imp (pe_ix (ok_ix (by omega)) ha hb (plainIx hs)) fun σ H Q q => two (g := fun x y st => (ix x y st).map fun d => (d, st)) (fun x y H Q r => r) q
theorem ok_part {rE : Expr → Option SemE} (hE : ∀ e f, rE e = some f → PE X e (tEv X.K f)) {o : Option Expr} {f : SemO} (h : compO rE o = some f) : PO X o (tOv X.K f) := by
  cases o with
  | none =>
    cases h
    refine PO.imp po_none fun σ H Q q => ?_
    obtain ⟨ρ, η, st, o, st', E, S, e, k⟩ := q
    cases e
    exact k ρ H (Gr.refl _ _ _) S
  | some e =>
    obtain ⟨fe, e1, e2⟩ := map_some' h
    subst e2
    refine PO.imp (po_some (hE e fe e1)) fun σ H Q q => ?_
    obtain ⟨ρ, η, st, o, st', E, S, e, k⟩ := q
    obtain ⟨p, e3, e4⟩ := bind_some e
    refine tEv.then E S e3 fun ρ1 H1 v g1 S1 r1 => ?_
    cases hp : p.1 with
    | int i =>
      rw [hp] at e4 r1
      cases e4; cases r1
      exact ⟨i, rfl, k ρ1 H1 g1 S1⟩
    | _ => rw [hp] at e4; cases e4
theorem ok_slE {a : Expr} {lo hi : Option Expr} {fa : SemE} {fl fh : SemO} {p2 pos : Pos} (ha : PE X a (tEv X.K fa)) (hl : PO X lo (tOv X.K fl)) (hh : PO X hi (tOv X.K fh)) : PE X (.Subscript a (.Slice lo hi none p2) pos) (tEv X.K (fSl fa fl fh)) := by
  refine PE.imp (pe_slice ok_sl ha hl hh) fun σ H Q q => ?_
  obtain ⟨ρ, η, st, d, st', E, S, e, k⟩ := q
  obtain ⟨p, e1, e2⟩ := bind_some e
  obtain ⟨l, e3, e4⟩ := bind_some e2
  obtain ⟨h, e5, e6⟩ := bind_some e4
  refine tEv.then E S e1 fun ρ1 H1 v g1 S1 r1 => ⟨ρ1, η, p.2, l.1, l.2, E.mono g1, S1, e3, fun ρ2 H2 g2 S2 => ⟨ρ2, η, l.2, h.1, h.2, E.mono (g1.trans g2), S2, e5, fun ρ3 H3 g3 S3 => ?_⟩⟩
  exact ⟨ρ3, h.2, p.1, d, st', S3, r1.mono (g2.trans g3), e6, k.pre (g1.trans (g2.trans g3))⟩
theorem ok_revE {a : Expr} {fa : SemE} {k : Nat} {p1 p2 p3 pos : Pos} (ha : PE X a (tEv X.K fa)) : PE X (.Subscript a (.Slice none none (some (.UnaryOp .USub (.Constant (.int 1) k p1) p2)) p3) pos) (tEv X.K (fRev fa)) := by
  refine PE.imp (pe_revA ha) fun σ H Q q => ?_
  obtain ⟨ρ, η, st, d, st', E, S, e, kk⟩ := q
  obtain ⟨p, e1, e2⟩ := bind_some e
  refine tEv.then E S e1 fun ρ1 H1 v g1 S1 r1 => ?_
  have kk := kk.pre g1
  cases hp : p.1 with
  | tup xs =>
    rw [hp] at e2 r1
    cases e2
    cases r1 with
    | tup sa ta => exact ⟨_, _, rfl, .inr ⟨sa, fun q hq => kk.tup S1 ta.reverse q hq⟩⟩
  | ref n =>
    rw [hp] at e2 r1
    cases r1 with
    | @ref _ a ea =>
      have e2 : (match p.2[n]? with
        | some (.lst xs) => alloc (.lst xs.reverse) p.2
        | some (.frz xs) => alloc (.lst xs.reverse) p.2
        | _ => none) = some (d, st') := e2
      cases q : p.2[n]? with
      | none => simp only [q] at e2; cases e2
      | some o =>
        cases o <;> simp only [q] at e2 <;> first | (cases e2; done) | skip
        · cases e2
          obtain ⟨vs, sq, t⟩ := S1.seq (.inl q) ea
          exact ⟨a, vs, rfl, .inl ⟨sq, fun x hx => kk.lst S1 t.reverse x hx⟩⟩
        · cases e2
          obtain ⟨vs, sq, t⟩ := S1.seq (.inr q) ea
          exact ⟨a, vs, rfl, .inl ⟨sq, fun x hx => kk.lst S1 t.reverse x hx⟩⟩
  | _ => rw [hp] at e2; cases e2
end
end Sim

namespace Sim
open PySem L2

section
variable {X : Cx} {S : Sx} {cf : CallF} {n : Nat}
theorem blt_read {g : List D → Sto → R} {fs : SemA} {σ : L2.St} {H : Hp} {Q : VK} (q : tEv X.K (fBlt g fs) σ H Q) : tCB (rB X.K g) (tAv X.K fs) σ H Q := by
  obtain ⟨ρ, η, st, d, st', E, S, e, k⟩ := q
  obtain ⟨p, e1, e2⟩ := bind_some e
  exact tAv.one E S e1 fun ρ1 H1 vs g1 S1 r1 => ⟨ρ1, p.2, p.1, d, st', S1, r1, e2, k.pre g1⟩
theorem ok_ownCall (F : Fx X S cf n) (G : Gx X S) {x : Str} {e : Expr} {es : List Expr} {fs : SemA} {p pos : Pos} (hx : x ∈ S.own) (hg : glB S.sc x = true) (hn : nmOk x = true) (ha : PA X (e :: es) (tAv X.K fs)) (hs : (e :: es).all notStar = true) :
    PE X (.Call (.Name x p) (e :: es) [] pos) (tEv X.K (fCall cf x fs)) := by
  obtain ⟨fa, fd, ps, ok⟩ := F.own x hx
  rw [List.all_cons, Bool.and_eq_true] at hs
  refine PE.imp (pe_callG ok.ok F.room F.gu (glB_ok G hg) ok.mg ok.kp ok.bd (.nil : Vals [] []) pass0 ha (nmOk_ok hn).1 (star1 hs.1) (starAny hs.2)) fun σ H Q q => ?_
  obtain ⟨ρ, η, st, d, st', E, S', e, k⟩ := q
  obtain ⟨p, e1, e2⟩ := bind_some e
  refine tAv.one E S' e1 fun ρ1 H1 vs g1 S1 r1 => ?_
  rw [List.append_nil]
  exact ⟨by rw [← r1.length]; exact ok.ar _ _ _ e2, ρ1, p.2, p.1, d, st', S1, r1, e2, k.pre g1⟩
theorem ok_ownCall0 {rE : Expr → Option SemE} (F : Fx X S cf n) (G : Gx X S) {x : Str} {fs : SemA} {p pos : Pos} (hx : x ∈ S.own) (hg : glB S.sc x = true) (hn : nmOk x = true) (hc : compA rE [] = some fs) :
    PE X (.Call (.Name x p) [] [] pos) (tEv X.K (fCall cf x fs)) := by
  obtain ⟨fa, fd, ps, ok⟩ := F.own x hx
  have hf : fs = fNil := by
    unfold compA at hc
    cases hc; rfl
  subst hf
  refine PE.imp (pe_callG0 ok.ok F.room F.gu (glB_ok G hg) ok.mg ok.kp ok.bd (.nil : Vals [] []) pass0 (nmOk_ok hn).1) fun σ H Q q => ?_
  obtain ⟨ρ, η, st, d, st', E, S', e, k⟩ := q
  have e : cf x [] st = some (d, st') := e
  exact ⟨ok.ar _ _ _ e, ρ, st, [], d, st', S', .nil, e, k⟩
theorem bltOf_ok (F : Fx X S cf n) (G : Gx X S) {x : Str} {g : List D → Sto → R} (h : bltOf x = some g) : (∃ id, bootBuiltins x = some (.builtin id) ∧ CallR X (.builtin id) (rB X.K g)) ∨ ∃ id, bootBuiltins x = some (.type id) ∧ CallR X (.type id) (rB X.K g) := by
  unfold bltOf at h
  have hu := F.room.units
  by_cases c : x = "sorted"
  · rw [if_pos c] at h; cases h; subst c; exact .inl ⟨_, by decide +kernel, kb_sorted hu⟩
  rw [if_neg c] at h
  by_cases c : x = "len"
  · rw [if_pos c] at h; cases h; subst c; exact .inl ⟨_, by decide +kernel, kb_len⟩
  rw [if_neg c] at h
  by_cases c : x = "repr"
  · rw [if_pos c] at h; cases h; subst c; exact .inl ⟨_, by decide +kernel, kb_repr F.gu hu⟩
  rw [if_neg c] at h
  by_cases c : x = "min"
  · rw [if_pos c] at h; cases h; subst c; exact .inl ⟨_, by decide +kernel, kb_min F.calm⟩
  rw [if_neg c] at h
  by_cases c : x = "max"
  · rw [if_pos c] at h; cases h; subst c; exact .inl ⟨_, by decide +kernel, kb_max F.calm⟩
  rw [if_neg c] at h
  by_cases c : x = "tuple"
  · rw [if_pos c] at h; cases h; subst c; exact .inr ⟨_, by decide +kernel, kb_tuple⟩
  rw [if_neg c] at h
  by_cases c : x = "list"
  · rw [if_pos c] at h; cases h; subst c; exact .inr ⟨_, by decide +kernel, kb_list⟩
  rw [if_neg c] at h
  by_cases c : x = "sum"
  · rw [if_pos c] at h; cases h; subst c; exact .inl ⟨_, by decide +kernel, kb_sum F.calm⟩
  rw [if_neg c] at h
  by_cases c : x = "all"
  · rw [if_pos c] at h; cases h; subst c; exact .inl ⟨_, by decide +kernel, kb_all F.calm⟩
  rw [if_neg c] at h
  by_cases c : x = "any"
  · rw [if_pos c] at h; cases h; subst c; exact .inl ⟨_, by decide +kernel, kb_any F.calm⟩
  rw [if_neg c] at h
  cases h
theorem clsOf_ok {x : Str} {t : String} (h : clsOf x = some t) : bootBuiltins x = some (.type t) := by
  unfold clsOf at h
  by_cases c : x = "int"
  · rw [if_pos c] at h; cases h; subst c; decide +kernel
  rw [if_neg c] at h
  by_cases c : x = "bool"
  · rw [if_pos c] at h; cases h; subst c; decide +kernel
  rw [if_neg c] at h
  by_cases c : x = "str"
  · rw [if_pos c] at h; cases h; subst c; decide +kernel
  rw [if_neg c] at h
  by_cases c : x = "tuple"
  · rw [if_pos c] at h; cases h; subst c; decide +kernel
  rw [if_neg c] at h
  by_cases c : x = "list"
  · rw [if_pos c] at h; cases h; subst c; decide +kernel
  rw [if_neg c] at h
  by_cases c : x = "dict"
  · rw [if_pos c] at h; cases h; subst c; decide +kernel
  rw [if_neg c] at h
  cases h
theorem boot_isi : bootBuiltins "isinstance" = some (.builtin "isinstance") := by decide +kernel
theorem ok_isi (F : Fx X S cf n) (G : Gx X S) {e : Expr} {T : Str} {t : String} {fe : SemE} {p p2 pos : Pos} (hi : ("isinstance" : Str) ∈ S.blt) (hg : glB S.sc "isinstance" = true) (hT : T ∈ S.blt) (hgT : glB S.sc T = true) (hnT : nmOk T = true) (ht : clsOf T = some t)
    (hs : notStar e = true) (he : PE X e (tEv X.K fe)) : PE X (.Call (.Name "isinstance" p) [e, .Name T p2] [] pos) (tEv X.K (fIsi t fe)) := by
  obtain ⟨h1, h2, h3⟩ := nmOk_ok hnT
  refine PE.imp (pe_callB call_isi (glB_ok G hg) (F.blt _ hi) boot_isi (pa_cons he (pa_cons (pe_bltn (v := .ty t) (glB_ok G hgT) (F.blt _ hT) (clsOf_ok ht) rfl h3 h1) pa_nil) (star1 hs)) (by decide) (by decide) (star1 hs) rfl) fun σ H Q q => ?_
  obtain ⟨ρ, η, st, d, st', E, S', e, k⟩ := q
  obtain ⟨p, e1, e2⟩ := bind_some e
  obtain ⟨b, e3, e4⟩ := map_some' e2
  cases e4
  refine tEv.then E S' e1 fun ρ1 H1 v g1 S1 r1 => ?_
  obtain ⟨ty, e5, e6⟩ := bind_some e3
  exact ⟨v, .ty t, .type ty, .type t, b, rfl, .ty t, tyD_ok S1 r1 e5, kit_ty e6, (k.pre g1).now S1 (.bl _)⟩
theorem ok_stepCall {rE : Expr → Option SemE} (hE : ∀ e f, rE e = some f → PE X e (tEv X.K f)) (F : Fx X S cf n) (G : Gx X S) {x : Str} {args : List Expr} {f : SemE} {p pos : Pos} (h : stepCall rE cf S x args = some f) :
    PE X (.Call (.Name x p) args [] pos) (tEv X.K f) := by
  unfold stepCall at h
  replace h := ite_some h
  obtain ⟨⟨hg, hn, hne⟩, h⟩ := h
  obtain ⟨h1, h2, h3⟩ := nmOk_ok hn
  by_cases c1 : x ∈ S.own
  · rw [if_pos c1] at h
    replace h := map_some' h
    obtain ⟨fs, e1, e2⟩ := h
    subst e2
    obtain ⟨p1, p2, p3⟩ := ok_args hE e1
    cases args with
    | nil => exact ok_ownCall0 F G c1 hg hn e1
    | cons a as => exact ok_ownCall F G c1 hg hn p1 p2
  rw [if_neg c1] at h
  replace hne : args ≠ [] := hne.resolve_right c1
  by_cases c2 : x ∈ S.mth
  · rw [if_pos c2] at h
    replace h := ite_some h
    obtain ⟨c3, h⟩ := h
    subst c3
    replace h := map_some' h
    obtain ⟨fs, e1, e2⟩ := h
    subst e2
    obtain ⟨p1, p2, p3⟩ := ok_args hE e1
    cases args with
    | nil => exact absurd rfl hne
    | cons a as =>
      rw [List.all_cons, Bool.and_eq_true] at p2
      exact PE.imp (pe_callBfun kb_gcd (glB_ok G hg) (F.mth c2) p1 h1 (star1 p2.1) (starAny p2.2)) fun σ H Q q => blt_read q
  rw [if_neg c2] at h
  by_cases c3 : x ∈ S.blt
  · rw [if_pos c3] at h
    by_cases c4 : x = "isinstance"
    · rw [if_pos c4] at h
      subst c4
      cases args with
      | nil => exact absurd rfl hne
      | cons e as =>
        cases as with
        | nil => cases h
        | cons T bs =>
          cases bs with
          | cons _ _ => cases T <;> cases h
          | nil =>
            cases T <;> first | (cases h; done) | skip
            replace h := ite_some h
            obtain ⟨⟨q1, q2, q3, q4⟩, h⟩ := h
            replace h := bind_some h
            obtain ⟨t, e1, h⟩ := h
            replace h := map_some' h
            obtain ⟨fe, e2, e3⟩ := h
            subst e3
            exact ok_isi F G c3 hg q4 q2 q3 e1 q1 (hE _ _ e2)
    · rw [if_neg c4] at h
      replace h := bind_some h
      obtain ⟨g, e1, h⟩ := h
      replace h := map_some' h
      obtain ⟨fs, e2, e3⟩ := h
      subst e3
      obtain ⟨p1, p2, p3⟩ := ok_args hE e2
      cases args with
      | nil => exact absurd rfl hne
      | cons a as =>
        rw [List.all_cons, Bool.and_eq_true] at p2
        rcases bltOf_ok F G e1 with ⟨id, b1, b2⟩ | ⟨id, b1, b2⟩
        · exact PE.imp (pe_callB b2 (glB_ok G hg) (F.blt _ c3) b1 p1 h3 h1 (star1 p2.1) (starAny p2.2)) fun σ H Q q => blt_read q
        · exact PE.imp (pe_callTy b2 (glB_ok G hg) (F.blt _ c3) b1 p1 h3 h1 (star1 p2.1) (starAny p2.2)) fun σ H Q q => blt_read q
  · rw [if_neg c3] at h; cases h
theorem pa1 {e : Expr} {fe : SemE} (hs : notStar e = true) (he : PE X e (tEv X.K fe)) : PA X [e] (tAv X.K (fCons fe fNil)) := by
  have h : compA (fun _ => some fe) [e] = some (fCons fe fNil) := by
    unfold compA; rw [if_pos hs]; rfl
  refine PA.imp (pa_cons he pa_nil (star1 hs)) fun σ H Q q => ?_
  obtain ⟨ρ, η, st, ds, st', E, S, q, k⟩ := q
  obtain ⟨p, q1, q⟩ := bind_some q
  obtain ⟨z, q2, q3⟩ := map_some' q
  cases q3; cases q2
  exact tEv.then E S q1 fun ρ1 H1 v g1 S1 r1 => k ρ1 H1 _ g1 S1 (.cons r1 .nil)
theorem ok_stepMeth {rE : Expr → Option SemE} (hE : ∀ e f, rE e = some f → PE X e (tEv X.K f)) {m : Str} {o : Expr} {args : List Expr} {apos cpos : Pos} {f : SemE} (h : stepMeth rE m o args apos cpos = some f) :
    PE X (.Call (.Attribute o m apos) args [] cpos) (tEv X.K f) := by
  unfold stepMeth at h
  replace h := ite_some h
  obtain ⟨⟨hc, hl⟩, h⟩ := h
  by_cases c1 : m = "append"
  · rw [if_pos c1] at h
    subst c1
    cases args with
    | nil => cases h
    | cons e as =>
      cases as with
      | cons _ _ => cases h
      | nil =>
        replace h := ite_some h
        obtain ⟨hs, h⟩ := h
        replace h := bind_some h
        obtain ⟨fo, e1, h⟩ := h
        replace h := map_some' h
        obtain ⟨fa, e2, e3⟩ := h
        subst e3
        exact pe_app (hE _ _ e1) (pa1 hs (hE _ _ e2)) (attrB hc) hl (star1 hs)
  rw [if_neg c1] at h
  by_cases c2 : m = "extend"
  · rw [if_pos c2] at h
    subst c2
    cases args with
    | nil => cases h
    | cons e as =>
      cases as with
      | cons _ _ => cases h
      | nil =>
        replace h := ite_some h
        obtain ⟨hs, h⟩ := h
        replace h := bind_some h
        obtain ⟨fo, e1, h⟩ := h
        replace h := map_some' h
        obtain ⟨fa, e2, e3⟩ := h
        subst e3
        exact pe_ext (hE _ _ e1) (pa1 hs (hE _ _ e2)) (attrB hc) hl (star1 hs)
  rw [if_neg c2] at h
  replace h := ite_some h
  obtain ⟨c3, h⟩ := h
  subst c3
  cases args with
  | cons _ _ => cases h
  | nil =>
    replace h := map_some' h
    obtain ⟨fo, e1, e2⟩ := h
    subst e2
    exact pe_pop (hE _ _ e1) (attrB hc) hl
/-! ### targets, walks -/
theorem asg1 {e : Expr} {es : List Expr} {env : Env} (h : notStar e = true) : assignEach (e :: es) env = (false, assign e env) :: assignEach es env := by
  cases e <;> first | rfl | (cases h; done)
theorem ok_compGs (F : Fx X S cf n) (G : Gx X S) {f : Expr → Option (SemG × List Nat)} (hf : ∀ e g, f e = some g → PG X e (tGv X.K g.1 g.2)) : ∀ {es : List Expr} {g : SemGs × List Nat}, compGs f es = some g →
    PGs X es (tGsv X.K g.1 g.2) ∧ (∀ xs η η', g.1 xs η = some η' → xs.length = es.length) ∧ (assignEach es X.env).length = es.length ∧ (assignEach es X.env).findIdx? (·.1) = none
  | [], _, h => by
    cases h
    refine ⟨pgsv_nil, fun xs η η' e => ?_, rfl, rfl⟩
    cases xs with
    | nil => rfl
    | cons => cases e
  | e :: r, _, h => by
    unfold compGs at h
    obtain ⟨hs, h⟩ := ite_some h
    obtain ⟨g1, e1, h⟩ := bind_some h
    obtain ⟨g2, e2, e3⟩ := map_some' h
    subst e3
    obtain ⟨p1, p2, p3, p4⟩ := ok_compGs F G hf e2
    have ha := asg1 (es := r) (env := X.env) hs
    refine ⟨pgsv_cons (hf _ _ e1) p1 (by rw [ha]; rfl), fun xs η η' q => ?_, by rw [ha, List.length_cons, List.length_cons, p3], by rw [ha, List.findIdx?_cons, p4]; rfl⟩
    cases xs with
    | nil => cases q
    | cons x xs =>
      obtain ⟨η1, q1, q2⟩ := bind_some q
      rw [List.length_cons, List.length_cons, p2 _ _ _ q2]
theorem ok_compG (F : Fx X S cf n) (G : Gx X S) : ∀ (d : Nat) {e : Expr} {g : SemG × List Nat}, compG S d e = some g → PG X e (tGv X.K g.1 g.2)
  | 0, _, _, h => by cases h
  | d + 1, e, g, h => by
    cases e <;> first | (cases h; done) | skip
    case Name x pos =>
      obtain ⟨c, h⟩ := ite_some (show (if locB S x = true then (ixOf x S.N).map fun i => (gvName i, [i]) else none) = some g from h)
      obtain ⟨i, e1, e2⟩ := map_some' h
      subst e2
      obtain ⟨h1, h2⟩ := locB_ok G c
      exact pgv_name (by rw [G.hN]; exact G.nd) (by rw [G.hN]; exact ixOf_get e1) h1 h2
    case Tuple es k pos =>
      obtain ⟨p, e1, e2⟩ := map_some' (show (compGs (fun e => compG S d e) es).map _ = some g from h)
      subst e2
      obtain ⟨p1, p2, p3, p4⟩ := ok_compGs F G (fun e g q => ok_compG F G d q) e1
      exact pgv_tup F.calm p1 p2 p3 p4
theorem ok_compI {rE : Expr → Option SemE} (hE : ∀ e f, rE e = some f → PE X e (tEv X.K f)) (F : Fx X S cf n) (G : Gx X S) {tg iter : Expr} {f : SemI} (h : compI rE S tg iter = some f) : PI X tg iter (tIv X.K f) := by
  have plain : ∀ {f : SemI}, (rE iter).map (fun fe => iPlain fe) = some f → PI X tg iter (tIv X.K f) := fun {f} h => by
    obtain ⟨fe, e1, e2⟩ := map_some' h
    subst e2
    exact pi_plain (hE _ _ e1)
  unfold compI at h
  split at h
  · rename_i x p args pos
    by_cases c1 : glB S.sc x = true ∧ x ∈ S.blt ∧ x = "range"
    · rw [if_pos c1] at h
      obtain ⟨hg, hb, rfl⟩ := c1
      obtain ⟨hl, h⟩ := ite_some h
      obtain ⟨fs, e1, e2⟩ := map_some' h
      subst e2
      obtain ⟨p1, p2, p3⟩ := ok_args hE e1
      have gl := glB_ok G hg
      have mg := F.blt _ hb
      match args, hl, p1, p2, p3 with
      | [a], _, p1, p2, p3 =>
        simp only [List.all_cons, List.all_nil, Bool.and_eq_true] at p2
        exact pi_rng1 gl mg p1 (star1 p2.1) p3
      | [a, b], _, p1, p2, p3 =>
        simp only [List.all_cons, List.all_nil, Bool.and_eq_true] at p2
        have s2 := star1 (es := []) (env := X.env) p2.2.1
        exact pi_rng2 gl mg p1 (by rw [star1 p2.1, s2]; rfl) s2 p3
      | [a, b, c], _, p1, p2, p3 =>
        simp only [List.all_cons, List.all_nil, Bool.and_eq_true] at p2
        have s3 := star1 (es := []) (env := X.env) p2.2.2.1
        have s2 := star1 (es := [c]) (env := X.env) p2.2.1
        exact pi_rng3 gl mg p1 (by rw [star1 p2.1, s2, s3]; rfl) (by rw [s2, s3]; rfl) s3 p3
      | [], hl, _, _, _ => rcases hl with hl | hl | hl <;> cases hl
      | _ :: _ :: _ :: _ :: _, hl, _, _, _ => rcases hl with hl | hl | hl <;> (simp at hl)
    rw [if_neg c1] at h
    by_cases c2 : glB S.sc x = true ∧ x ∈ S.blt ∧ x = "enumerate"
    · rw [if_pos c2] at h
      obtain ⟨hg, hb, rfl⟩ := c2
      split at h
      · obtain ⟨⟨hs, ht⟩, h⟩ := ite_some h
        obtain ⟨fe, e1, e2⟩ := map_some' h
        subst e2
        cases tg <;> first | (cases ht; done) | skip
        exact pi_enumS (glB_ok G hg) (F.blt _ hb) (pa1 hs (hE _ _ e1)) (star1 hs)
      · cases h
    rw [if_neg c2] at h
    by_cases c3 : glB S.sc x = true ∧ x ∈ S.blt ∧ x = "reversed"
    · rw [if_pos c3] at h
      obtain ⟨hg, hb, rfl⟩ := c3
      split at h
      · obtain ⟨hs, h⟩ := ite_some h
        obtain ⟨fe, e1, e2⟩ := map_some' h
        subst e2
        exact pi_revS (glB_ok G hg) (F.blt _ hb) (pa1 hs (hE _ _ e1)) (star1 hs)
      · cases h
    rw [if_neg c3] at h
    exact plain h
  · exact plain h

/-! ### a comprehension's block -/
theorem Gx.blk (G : Gx X S) {scope : Scope} (s : Shared) (H : Hp) (C : Addr) (cl : List (Str × Addr)) (fp : List Addr) : Gx (X.blk s H scope (compEnvC scope cl C X.env) fp) (S.blk scope) :=
  ⟨G.hN, G.nd, by show relS scope X.env.scope = relS scope S.sc; rw [G.sc], fun h => by cases h⟩
theorem Fx.blk (F : Fx X S cf n) {scope : Scope} (s : Shared) (H : Hp) (C : Addr) (cl : List (Str × Addr)) (fp : List Addr) : Fx (X.blk s H scope (compEnvC scope cl C X.env) fp) (S.blk scope) cf n where
  room := F.room
  gu := F.gu
  calm := F.calm
  xe := rfl
  own := fun f hf => let ⟨fa, fd, ps, o⟩ := F.own f hf; ⟨fa, fd, ps, ⟨o.mg, o.kp, o.bd, o.ok, o.ar⟩⟩
  blt := F.blt
  mth := F.mth
theorem ok_ifs {Y : Cx} {rT : Expr → Option SemT} (hT : ∀ e f, rT e = some f → PT Y e (tTv Y.K f)) {ifs : List Expr} {f : SemT} (h : compIfs rT ifs = some f) : ∃ tt : TT, PTs Y ifs tt ∧ ∀ σ H Q, tTv Y.K f σ H Q → tt σ H Q := by
  unfold compIfs at h
  split at h
  · cases h
    refine ⟨tYes, pts_nil, fun σ H Q q => ?_⟩
    obtain ⟨ρ, η, st, b, st', E, S, e, k⟩ := q
    cases e
    exact k ρ H (Gr.refl _ _ _) S
  · exact ⟨_, pts_one (hT _ _ h), fun σ H Q q => q⟩
  · cases h
end
end Sim

namespace Sim
open PySem L2

section
variable {X : Cx} {S : Sx} {cf : CallF} {n : Nat}
theorem mem_of_contains {l : List Nat} {i : Nat} (h : l.contains i = true) : i ∈ l := by simpa using h
theorem ok_lcParts {rE : RE} {rT : RT} (hE : HE rE cf n) (hT : HT rT cf n) (F : Fx X S cf n) (G : Gx X S) {elt : Expr} {gens : List Comprehension} {scope : Scope} {f : SemE} (h : stepLc rE rT S elt gens scope = some f) :
    ∃ tg iter ifs fi g is tt fe, gens = [⟨tg, iter, ifs, 0⟩] ∧ notSet iter = true ∧ BlkOk X.N X.env.scope scope (ownOf S.N scope) ∧ PI X tg iter (tIv X.K fi) ∧
      (∀ (s : Shared) (H : Hp) (C : Addr) (cl : List (Str × Addr)) (fp : List Addr), PG (X.blk s H scope (compEnvC scope cl C X.env) fp) tg (tGv X.K g is)) ∧
      (∀ (s : Shared) (H : Hp) (C : Addr) (cl : List (Str × Addr)) (fp : List Addr), PTs (X.blk s H scope (compEnvC scope cl C X.env) fp) ifs tt) ∧
      (∀ (s : Shared) (H : Hp) (C : Addr) (cl : List (Str × Addr)) (fp : List Addr), PE (X.blk s H scope (compEnvC scope cl C X.env) fp) elt (tEv X.K fe)) ∧
      ∀ σ H Q, tEv X.K f σ H Q → tLc (tIv X.K fi) (tGv X.K g is) tt (tEv X.K fe) ((ownOf S.N scope).map (·.2)) σ H Q := by
  unfold stepLc at h
  split at h
  · rename_i tg iter ifs
    obtain ⟨⟨c1, c2⟩, h1⟩ := ite_some h
    obtain ⟨fi, e1, h2⟩ := bind_some h1
    obtain ⟨g, e2, h3⟩ := bind_some h2
    obtain ⟨c3, h4⟩ := ite_some h3
    obtain ⟨ft, e3, h5⟩ := bind_some h4
    obtain ⟨fe, e4, e5⟩ := map_some' h5
    subst e5
    have his : ∀ i ∈ g.2, i ∈ (ownOf S.N scope).map (·.2) := fun i hi => mem_of_contains (List.all_eq_true.mp c3 i hi)
    have tests : ∀ (s : Shared) (H : Hp) (C : Addr) (cl : List (Str × Addr)) (fp : List Addr), PTs (X.blk s H scope (compEnvC scope cl C X.env) fp) ifs (match ifs with | [] => tYes | _ => tTv X.K ft) := fun s H C cl fp => by
      unfold compIfs at e3
      split at e3
      · exact pts_nil
      · exact pts_one (hT _ _ _ _ (G.blk s H C cl fp) (F.blk s H C cl fp) e3)
      · cases e3
    refine ⟨tg, iter, ifs, fi, g.1, g.2, _, fe, rfl, c2, by rw [G.hN, G.sc]; exact blkOk_by c1, ok_compI (fun e f => hE X S e f G F) F G e1, fun s H C cl fp => ok_compG (F.blk s H C cl fp) (G.blk s H C cl fp) 3 e2, tests,
      fun s H C cl fp => hE _ _ _ _ (G.blk s H C cl fp) (F.blk s H C cl fp) e4, fun σ H Q q => lc_read his (fun σ H Q q => ?_) q⟩
    unfold compIfs at e3
    split at e3
    · cases e3
      obtain ⟨ρ, η, st, b, st', E, S', e, k⟩ := q
      cases e
      exact k ρ H (Gr.refl _ _ _) S'
    · exact q
    · cases e3
  · cases h
theorem ok_stepLc {rE : RE} {rT : RT} (hE : HE rE cf n) (hT : HT rT cf n) (F : Fx X S cf n) (G : Gx X S) {elt : Expr} {gens : List Comprehension} {scope : Scope} {f : SemE} {pos : Pos} (h : stepLc rE rT S elt gens scope = some f) :
    PE X (.ListComp elt gens scope pos) (tEv X.K f) := by
  obtain ⟨tg, iter, ifs, fi, g, is, tt, fe, rfl, c2, ok, p1, p2, p3, p4, p5⟩ := ok_lcParts hE hT F G h
  exact PE.imp (pe_lc F.calm (by rw [G.hN]; exact G.nd) p1 ok p2 p3 p4 (setFold c2)) p5
theorem ok_stepE {rE : RE} {rT : RT} (hE : HE rE cf n) (hT : HT rT cf n) (F : Fx X S cf n) (G : Gx X S) {e : Expr} {f : SemE} (h : stepE rE rT cf S e = some f) : PE X e (tEv X.K f) := by
  have hE' : ∀ e f, rE S e = some f → PE X e (tEv X.K f) := fun e f => hE X S e f G F
  have hT' : ∀ e f, rT S e = some f → PT X e (tTv X.K f) := fun e f => hT X S e f G F
  have hu : X.A.units + 65 < cLine := by have := F.room.un; omega
  unfold stepE at h
  split at h
  · exact ok_const h
  · exact ok_name G h
  · obtain ⟨c, h1⟩ := ite_some h
    obtain ⟨fa, e1, h2⟩ := bind_some h1
    obtain ⟨fb, e2, e3⟩ := map_some' h2
    subst e3
    exact ok_binop c (hE' _ _ e1) (hE' _ _ e2)
  · obtain ⟨fa, e1, e2⟩ := map_some' h
    subst e2
    exact ok_neg (hE' _ _ e1)
  · obtain ⟨fa, e1, e2⟩ := map_some' h
    subst e2
    exact ok_notV (hE' _ _ e1)
  · exact ok_boolV hE' h
  · unfold stepCmp at h
    split at h
    · obtain ⟨c, h1⟩ := ite_some h
      obtain ⟨fa, e1, h2⟩ := bind_some h1
      obtain ⟨fb, e2, e3⟩ := map_some' h2
      subst e3
      exact ok_cmpE hu c (hE' _ _ e1) (hE' _ _ e2)
    · obtain ⟨c, h1⟩ := ite_some h
      obtain ⟨fa, e1, h2⟩ := bind_some h1
      obtain ⟨fb, e2, h3⟩ := bind_some h2
      obtain ⟨fc, e3, e4⟩ := map_some' h3
      subst e4
      exact ok_chE hu c (hE' _ _ e1) (hE' _ _ e2) (hE' _ _ e3)
    · cases h
  · obtain ⟨fc, e1, h2⟩ := bind_some h
    obtain ⟨fa, e2, h3⟩ := bind_some h2
    obtain ⟨fb, e3, e4⟩ := map_some' h3
    subst e4
    exact ok_if (hT' _ _ e1) (hE' _ _ e2) (hE' _ _ e3)
  · obtain ⟨fs, e1, e2⟩ := map_some' h
    subst e2
    exact ok_tup (ok_args hE' e1).1
  · obtain ⟨fs, e1, e2⟩ := map_some' h
    subst e2
    exact ok_lst (ok_args hE' e1).1
  · unfold stepSub at h
    split at h
    · obtain ⟨fa, e1, e2⟩ := map_some' h
      subst e2
      exact ok_revE (hE' _ _ e1)
    · obtain ⟨fa, e1, h2⟩ := bind_some h
      obtain ⟨fl, e2, h3⟩ := bind_some h2
      obtain ⟨fh, e3, e4⟩ := map_some' h3
      subst e4
      exact ok_slE (hE' _ _ e1) (ok_part hE' e2) (ok_part hE' e3)
    · obtain ⟨c, h1⟩ := ite_some h
      obtain ⟨fa, e1, h2⟩ := bind_some h1
      obtain ⟨fb, e2, e3⟩ := map_some' h2
      subst e3
      exact ok_ixE hu c (hE' _ _ e1) (hE' _ _ e2)
  · exact ok_stepCall hE' F G h
  · exact ok_stepMeth hE' h
  · exact ok_stepLc hE hT F G h
  · cases h
theorem ok_stepT {rE : RE} {rT : RT} (hE : HE rE cf n) (hT : HT rT cf n) (F : Fx X S cf n) (G : Gx X S) {e : Expr} {f : SemT} (h : stepT rE rT S e = some f) : PT X e (tTv X.K f) := by
  have hE' : ∀ e f, rE S e = some f → PE X e (tEv X.K f) := fun e f => hE X S e f G F
  have hT' : ∀ e f, rT S e = some f → PT X e (tTv X.K f) := fun e f => hT X S e f G F
  have hu : X.A.units + 65 < cLine := by have := F.room.un; omega
  unfold stepT at h
  split at h
  · obtain ⟨fa, e1, e2⟩ := map_some' h
    subst e2
    exact ok_notT (hT' _ _ e1)
  · exact (ok_boolT hT' h).pt
  · unfold stepTCmp at h
    split at h
    · obtain ⟨c, h1⟩ := ite_some h
      obtain ⟨fa, e1, h2⟩ := bind_some h1
      obtain ⟨fb, e2, e3⟩ := map_some' h2
      subst e3
      exact ok_cmpT hu c (hE' _ _ e1) (hE' _ _ e2)
    · obtain ⟨c, h1⟩ := ite_some h
      obtain ⟨fa, e1, h2⟩ := bind_some h1
      obtain ⟨fb, e2, h3⟩ := bind_some h2
      obtain ⟨fc, e3, e4⟩ := map_some' h3
      subst e4
      exact ok_chT hu c (hE' _ _ e1) (hE' _ _ e2) (hE' _ _ e3)
    · cases h
  · obtain ⟨fa, e1, e2⟩ := map_some' h
    subst e2
    exact ok_truT (hE' _ _ e1) fun _ => rfl
  · obtain ⟨fa, e1, e2⟩ := map_some' h
    subst e2
    exact ok_truT (hE' _ _ e1) fun _ => rfl
  · obtain ⟨fa, e1, e2⟩ := map_some' h
    subst e2
    exact ok_truT (hE' _ _ e1) fun _ => rfl
  · obtain ⟨fa, e1, e2⟩ := map_some' h
    subst e2
    exact ok_truT (hE' _ _ e1) fun _ => rfl
  · cases h
end
theorem ok_comp (cf : CallF) (n : Nat) : ∀ d : Nat, HE (compE cf d) cf n ∧ HT (compT cf d) cf n
  | 0 => ⟨fun X S e f _ _ h => (by unfold compE at h; cases h), fun X S e f _ _ h => (by unfold compT at h; cases h)⟩
  | d + 1 => by
    obtain ⟨h1, h2⟩ := ok_comp cf n d
    exact ⟨fun X S e f G F h => by unfold compE at h; exact ok_stepE h1 h2 F G h, fun X S e f G F h => by unfold compT at h; exact ok_stepT h1 h2 F G h⟩
end Sim

namespace Sim
open PySem L2
noncomputable section

inductive Fl where
  | nx (η : LocD) | rt (d : D) | bk (η : LocD) | ct (η : LocD)
abbrev SemS := LocD → Sto → Option (Fl × Sto)
def PostS (K : Frg) (ρ : Rho) (H : Hp) (De : Ends) (fl : Fl) (st : Sto) : Prop :=
  match fl with
  | .nx η => ∀ ρ' H' σ', Gr K ρ H ρ' H' → SR K ρ' st H' → ER K ρ' H' η σ' → De.nx σ' H'
  | .bk η => ∀ ρ' H' σ', Gr K ρ H ρ' H' → SR K ρ' st H' → ER K ρ' H' η σ' → De.bk σ' H'
  | .ct η => ∀ ρ' H' σ', Gr K ρ H ρ' H' → SR K ρ' st H' → ER K ρ' H' η σ' → De.ct σ' H'
  | .rt d => ∀ ρ' H' v, Gr K ρ H ρ' H' → SR K ρ' st H' → DR K ρ' H' d v → De.rt v H'
def tSv (K : Frg) (f : SemS) : TS := fun De σ H => ∃ ρ η st fl st', ER K ρ H η σ ∧ SR K ρ st H ∧ f η st = some (fl, st') ∧ PostS K ρ H De fl st'
theorem PostS.pre {K : Frg} {ρ ρ' : Rho} {H H' : Hp} {De : Ends} {fl : Fl} {st : Sto} (h : PostS K ρ H De fl st) (g : Gr K ρ H ρ' H') : PostS K ρ' H' De fl st := by
  cases fl <;> exact fun ρ2 H2 v g2 s r => h ρ2 H2 v (g.trans g2) s r
theorem PS.imp {X : Cx} {s : Stmt} {t t' : TS} (h : PS X s t) (k : ∀ De σ H, t' De σ H → t De σ H) : PS X s t' := ⟨fun pins s σ H De I q => h.run pins s σ H De I (k De σ H q)⟩
theorem PSs.imp {X : Cx} {s : List Stmt} {t t' : TS} (h : PSs X s t) (k : ∀ De σ H, t' De σ H → t De σ H) : PSs X s t' := ⟨fun pins s σ H De I q => h.run pins s σ H De I (k De σ H q)⟩

def sNil : SemS := fun η st => some (.nx η, st)
def sSeq (f g : SemS) : SemS := fun η st => (f η st).bind fun p => match p.1 with
  | .nx η' => g η' p.2
  | fl => some (fl, p.2)
def sAsg (fe : SemE) (g : SemG) : SemS := fun η st => (fe η st).bind fun p => (g p.1 η).map fun η' => (.nx η', p.2)
def sPar2 (i j : Nat) (fs : SemA) : SemS := fun η st => (fs η st).bind fun p => match p.1 with
  | [a, b] => some (.nx ((η.set i (some a)).set j (some b)), p.2)
  | _ => none
def sPar3 (i j l : Nat) (fs : SemA) : SemS := fun η st => (fs η st).bind fun p => match p.1 with
  | [a, b, c] => some (.nx (((η.set i (some a)).set j (some b)).set l (some c)), p.2)
  | _ => none
/-- a dict with d[k] = v -/
def putD (kvs : List (Key × D)) (k : Key) (v : D) : List (Key × D) :=
  if kvs.any (fun kv => decide (kv.1 = k)) then kvs.map fun kv => if kv.1 = k then (kv.1, v) else kv else kvs ++ [(k, v)]
def setD (o i v : D) (st : Sto) : Option Sto :=
  match o with
  | .ref n => (dctOf o st).bind fun kvs => (keyD i).bind fun k => if kvs.length < most then some (st.set n (.dct (putD kvs k v))) else none
  | _ => none
def setL (o i v : D) (st : Sto) : Option Sto :=
  match o, i with
  | .ref n, .int k => match st[n]? with
    | some (.lst xs) => (ixN xs.length k).map fun j => st.set n (.lst (xs.set j v))
    | _ => none
  | _, _ => none
def setI (o i v : D) (st : Sto) : Option Sto :=
  match setL o i v st with
  | some s => some s
  | none => setD o i v st
theorem set_of {o i v : D} {st st' : Sto} (h : setL o i v st = some st') : setI o i v st = some st' := by
  unfold setI; rw [h]
def sSub (fo fi fe : SemE) : SemS := fun η st => (fe η st).bind fun p => (fo η p.2).bind fun q => (fi η q.2).bind fun r => (setI q.1 r.1 p.1 r.2).map fun st' => (.nx η, st')
def inplc (op : Operator) (x y : D) : Option D :=
  match op, x, y with
  | .Add, .int i, .int j => some (.int (i + j))
  | .Sub, .int i, .int j => some (.int (i - j))
  | .Add, .str a, .str b => if a.length + b.length ≤ most then some (.str (a ++ b)) else none
  | _, _, _ => none
def sAug (i : Nat) (op : Operator) (fe : SemE) : SemS := fun η st => (fVar i η st).bind fun x => (fe η st).bind fun p => (inplc op x.1 p.1).map fun z => (.nx (η.set i (some z)), p.2)
/-- o[i] op= e, o a list, i from 0 on -/
def getL (o i : D) (st : Sto) : Option D :=
  match o, i with
  | .ref n, .int k => match st[n]? with
    | some (.lst xs) => if 0 ≤ k then atI xs k else none
    | _ => none
  | _, _ => none
def getI (o i : D) (st : Sto) : Option D :=
  match getL o i st with
  | some d => some d
  | none => dgetD o i st
theorem get_of {o i d : D} {st : Sto} (h : getL o i st = some d) : getI o i st = some d := by
  unfold getI; rw [h]
def sAugS (fo fi : SemE) (op : Operator) (fe : SemE) : SemS := fun η st => (fo η st).bind fun p => (fi η p.2).bind fun q => (getI p.1 q.1 q.2).bind fun x => (fe η q.2).bind fun r => (inplc op x r.1).bind fun z =>
  (setI p.1 q.1 z r.2).map fun st' => (.nx η, st')
def sRet (fe : SemE) : SemS := fun η st => (fe η st).map fun p => (.rt p.1, p.2)
def sRetN : SemS := fun _ st => some (.rt .non, st)
def sIf (ft : SemT) (f g : SemS) : SemS := fun η st => (ft η st).bind fun p => if p.1 = true then f η p.2 else g η p.2
def sExpr (fe : SemE) : SemS := fun η st => (fe η st).map fun p => (.nx η, p.2)
/-- nothing is said of it -/
def sStuck : SemS := fun _ _ => none
def sBrk : SemS := fun η st => some (.bk η, st)
def sCnt : SemS := fun η st => some (.ct η, st)
def fuel : Nat := 2 ^ 200
def whGo (ft : SemT) (fb : SemS) : Nat → LocD → Sto → Option (Fl × Sto)
  | 0, _, _ => none
  | k + 1, η, st => (ft η st).bind fun b => if b.1 = true then (fb η b.2).bind fun p => match p.1 with
      | .nx η' => whGo ft fb k η' p.2
      | .ct η' => whGo ft fb k η' p.2
      | .bk η' => some (.nx η', p.2)
      | .rt d => some (.rt d, p.2)
    else some (.nx η, b.2)
def sWhile (ft : SemT) (fb : SemS) : SemS := fun η st => whGo ft fb fuel η st
def forGo (g : SemG) (fb : SemS) (gd : Option (Nat × O)) : List D → LocD → Sto → Option (Fl × Sto)
  | [], η, st => if okGd gd st then some (.nx η, st) else none
  | x :: r, η, st => if okGd gd st then (g x η).bind fun η2 => (fb η2 st).bind fun p => match p.1 with
      | .nx η' => forGo g fb gd r η' p.2
      | .ct η' => forGo g fb gd r η' p.2
      | .bk η' => some (.nx η', p.2)
      | .rt d => some (.rt d, p.2)
    else none
def sFor (fi : SemI) (g : SemG) (fb : SemS) : SemS := fun η st => (fi η st).bind fun p => forGo g fb p.1.gd p.1.xs η p.2
theorem forGo_ok {g : SemG} {fb : SemS} {gd : Option (Nat × O)} {xs : List D} {η : LocD} {st : Sto} {r : Fl × Sto} (h : forGo g fb gd xs η st = some r) : okGd gd st := by
  cases xs with
  | nil => unfold forGo at h; exact (ite_some h).1
  | cons x r => unfold forGo at h; exact (ite_some h).1

section
variable {X : Cx}
theorem os_stuck {s : Stmt} : PS X s (tSv X.K sStuck) := ⟨fun pins s σ H De I q => by
  obtain ⟨ρ, η, st, fl, st', E, S, e, k⟩ := q
  cases e⟩
theorem os_nil : PSs X [] (tSv X.K sNil) := PSs.imp pss_nil fun De σ H q => by
  obtain ⟨ρ, η, st, fl, st', E, S, e, k⟩ := q
  cases e
  exact k ρ H σ (Gr.refl _ _ _) S E
theorem os_cons {s : Stmt} {r : List Stmt} {f g : SemS} (h1 : PS X s (tSv X.K f)) (h2 : PSs X r (tSv X.K g)) : PSs X (s :: r) (tSv X.K (sSeq f g)) := PSs.imp (pss_cons h1 h2) fun De σ H q => by
  obtain ⟨ρ, η, st, fl, st', E, S, e, k⟩ := q
  obtain ⟨p, e1, e2⟩ := bind_some e
  refine ⟨ρ, η, st, p.1, p.2, E, S, e1, ?_⟩
  cases hp : p.1 with
  | nx η' => rw [hp] at e2; exact fun ρ1 H1 σ1 g1 S1 E1 => ⟨ρ1, η', p.2, fl, st', E1, S1, e2, k.pre g1⟩
  | bk η' => rw [hp] at e2; cases e2; exact k
  | ct η' => rw [hp] at e2; cases e2; exact k
  | rt d => rw [hp] at e2; cases e2; exact k
theorem rd_asg {fe : SemE} {g : SemG} {is : List Nat} {De : Ends} {σ : L2.St} {H : Hp} (q : tSv X.K (sAsg fe g) De σ H) : tAsg (tEv X.K fe) (tGv X.K g is) De σ H := by
  obtain ⟨ρ, η, st, fl, st', E, S, e, k⟩ := q
  obtain ⟨p, e1, e2⟩ := bind_some e
  obtain ⟨η', e3, e4⟩ := map_some' e2
  cases e4
  exact tEv.then E S e1 fun ρ1 H1 v g1 S1 r1 => ⟨ρ1, η, p.1, η', E.mono g1, r1, e3, fun σ' E' _ _ => k ρ1 H1 σ' g1 S1 E'⟩
theorem os_ret {e : Expr} {fe : SemE} {pos : Pos} (he : PE X e (tEv X.K fe)) : PS X (.Return (some e) pos) (tSv X.K (sRet fe)) := PS.imp (ps_ret he) fun De σ H q => by
  obtain ⟨ρ, η, st, fl, st', E, S, e, k⟩ := q
  obtain ⟨p, e1, e2⟩ := map_some' e
  cases e2
  exact tEv.then E S e1 fun ρ1 H1 v g1 S1 r1 => k ρ1 H1 v g1 S1 r1
theorem os_retN {pos : Pos} : PS X (.Return none pos) (tSv X.K sRetN) := PS.imp ps_retN fun De σ H q => by
  obtain ⟨ρ, η, st, fl, st', E, S, e, k⟩ := q
  cases e
  exact k ρ H _ (Gr.refl _ _ _) S .non
theorem os_brk {pos : Pos} : PS X (.Break pos) (tSv X.K sBrk) := PS.imp ps_break fun De σ H q => by
  obtain ⟨ρ, η, st, fl, st', E, S, e, k⟩ := q
  cases e
  exact k ρ H _ (Gr.refl _ _ _) S E
theorem os_cnt {pos : Pos} : PS X (.Continue pos) (tSv X.K sCnt) := PS.imp ps_continue fun De σ H q => by
  obtain ⟨ρ, η, st, fl, st', E, S, e, k⟩ := q
  cases e
  exact k ρ H _ (Gr.refl _ _ _) S E
theorem os_pass {pos : Pos} : PS X (.Pass pos) (tSv X.K sNil) := PS.imp ps_pass fun De σ H q => by
  obtain ⟨ρ, η, st, fl, st', E, S, e, k⟩ := q
  cases e
  exact k ρ H _ (Gr.refl _ _ _) S E
theorem os_expr {e : Expr} {fe : SemE} {pos : Pos} (he : PE X e (tEv X.K fe)) (hs : swapsWith e none pos.line X.env = pure false) : PS X (.Expr e pos) (tSv X.K (sExpr fe)) := PS.imp (ps_expr he hs) fun De σ H q => by
  obtain ⟨ρ, η, st, fl, st', E, S, e, k⟩ := q
  obtain ⟨p, e1, e2⟩ := map_some' e
  cases e2
  exact tEv.then E S e1 fun ρ1 H1 v g1 S1 r1 => k ρ1 H1 σ g1 S1 (E.mono g1)
theorem os_if {c : Expr} {a b : List Stmt} {ft : SemT} {f g : SemS} {pos : Pos} (hc : PT X c (tTv X.K ft)) (ha : PSs X a (tSv X.K f)) (hb : PSs X b (tSv X.K g)) : PS X (.If c a b pos) (tSv X.K (sIf ft f g)) := PS.imp (ps_if hc ha hb) fun De σ H q => by
  obtain ⟨ρ, η, st, fl, st', E, S, e, k⟩ := q
  obtain ⟨p, e1, e2⟩ := bind_some e
  refine ⟨ρ, η, st, p.1, p.2, E, S, e1, fun ρ1 H1 g1 S1 => ?_⟩
  cases hp : p.1 with
  | true => rw [hp, if_pos rfl] at e2; rw [if_pos rfl]; exact ⟨ρ1, η, p.2, fl, st', E.mono g1, S1, e2, k.pre g1⟩
  | false => rw [hp, if_neg Bool.false_ne_true] at e2; rw [if_neg Bool.false_ne_true]; exact ⟨ρ1, η, p.2, fl, st', E.mono g1, S1, e2, k.pre g1⟩
theorem os_par2 {i j : Nat} {x y : Str} {a b : Expr} {fs : SemA} {px py pt : Pos} {kt k2 : Nat} {pt2 pos : Pos} (hc : X.calm = true) (hN : X.N.Nodup) (hi : X.N[i]? = some x) (hj : X.N[j]? = some y) (hij : i ≠ j)
    (hx : X.env.scope.names.lookup x = some .local) (hy : X.env.scope.names.lookup y = some .local) (ha : PA X [a, b] (tAv X.K fs))
    (hw : swappedStores [.Tuple [.Name x px, .Name y py] kt pt] (.Tuple [a, b] k2 pt2) X.env = pure (some [x, y])) :
    PS X (.Assign [.Tuple [.Name x px, .Name y py] kt pt] (.Tuple [a, b] k2 pt2) pos) (tSv X.K (sPar2 i j fs)) := PS.imp (ps_par hc hN hi hj hij hx hy ha hw rfl) fun De σ H q => by
  obtain ⟨ρ, η, st, fl, st', E, S, e, k⟩ := q
  obtain ⟨p, e1, e2⟩ := bind_some e
  refine tAv.one E S e1 fun ρ1 H1 vs g1 S1 r1 => ?_
  split at e2
  · rename_i a b hp
    rw [hp] at r1
    obtain ⟨v, w, rfl, rv, rw'⟩ := two_of r1 rfl
    cases e2
    exact ⟨v, w, rfl, k ρ1 H1 _ g1 S1 (((E.mono g1).set rv i).set rw' j)⟩
  · cases e2
theorem os_par3 {i j l : Nat} {x y z : Str} {a b c : Expr} {fs : SemA} {px py pz pt : Pos} {kt k2 : Nat} {pt2 pos : Pos} (hc : X.calm = true) (hN : X.N.Nodup) (hi : X.N[i]? = some x) (hj : X.N[j]? = some y) (hl : X.N[l]? = some z) (hij : i ≠ j) (hil : i ≠ l) (hjl : j ≠ l)
    (hx : X.env.scope.names.lookup x = some .local) (hy : X.env.scope.names.lookup y = some .local) (hz : X.env.scope.names.lookup z = some .local) (ha : PA X [a, b, c] (tAv X.K fs))
    (hw : swappedStores [.Tuple [.Name x px, .Name y py, .Name z pz] kt pt] (.Tuple [a, b, c] k2 pt2) X.env = pure (some [x, y, z])) :
    PS X (.Assign [.Tuple [.Name x px, .Name y py, .Name z pz] kt pt] (.Tuple [a, b, c] k2 pt2) pos) (tSv X.K (sPar3 i j l fs)) := PS.imp (ps_par3 hc hN hi hj hl hij hil hjl hx hy hz ha hw rfl) fun De σ H q => by
  obtain ⟨ρ, η, st, fl, st', E, S, e, k⟩ := q
  obtain ⟨p, e1, e2⟩ := bind_some e
  refine tAv.one E S e1 fun ρ1 H1 vs g1 S1 r1 => ?_
  split at e2
  · rename_i a b c hp
    rw [hp] at r1
    obtain ⟨v, w, u, rfl, rv, rw', ru⟩ := three_of r1 rfl
    cases e2
    exact ⟨v, w, u, rfl, k ρ1 H1 _ g1 S1 ((((E.mono g1).set rv i).set rw' j).set ru l)⟩
  · cases e2
/-- o[i] = v by values -/
def tsV (K : Frg) : TSet := fun o i v H Q => ∃ ρ st a b c st', SR K ρ st H ∧ DR K ρ H a o ∧ DR K ρ H b i ∧ DR K ρ H c v ∧ setI a b c st = some st' ∧ ∀ ρ' H', Gr K ρ H ρ' H' → SR K ρ' st' H' → Q H'
def tsL (K : Frg) : TSet := fun o i v H Q => ∃ ρ st a b c st', SR K ρ st H ∧ DR K ρ H a o ∧ DR K ρ H b i ∧ DR K ρ H c v ∧ setL a b c st = some st' ∧ ∀ ρ' H', Gr K ρ H ρ' H' → SR K ρ' st' H' → Q H'
theorem ps_setL : PSet X (tsL X.K) := by
  rintro pins s σ H o i v ov iv u Q I ro ri rv ⟨ρ, st, a, b, c, st', S, ra, rb, rc, e, k⟩
  unfold setL at e
  split at e
  · rename_i n kk
    split at e
    · rename_i xs hx
      obtain ⟨j, e1, e2⟩ := map_some' e
      subst e2
      obtain ⟨a', vs, rfl, ea, h1, h2⟩ := ref_lst S ra hx
      cases rb
      obtain ⟨S2, g2⟩ := S.setL hx ea h1 (DRs.set rc j h2)
      exact set_list pins s σ H _ _ v ov iv u Q I ro ri rv ⟨a', vs, kk, j, rfl, rfl, h1, by rw [← h2.length]; exact e1, k ρ _ g2 S2⟩
    · cases e
  · cases e
theorem put_ok {K : Frg} {ρ : Rho} {H : Hp} {k : Key} {d : D} {v : V} (r : DR K ρ H d v) {kvs : List (Key × D)} {vs : List (Key × V)} (h : KDR K ρ H kvs vs) : KDR K ρ H (putD kvs k d) (putK vs k v) := by
  have ha : ∀ {kvs : List (Key × D)} {vs : List (Key × V)}, KDR K ρ H kvs vs → (kvs.any fun kv => decide (kv.1 = k)) = (vs.any fun kv => decide (kv.1 = k)) := by
    intro kvs vs h
    induction h with
    | nil => rfl
    | cons p t ih => rw [List.any_cons, List.any_cons, ih, p.1]
  have hm : ∀ {kvs : List (Key × D)} {vs : List (Key × V)}, KDR K ρ H kvs vs → KDR K ρ H (kvs.map fun kv => if kv.1 = k then (kv.1, d) else kv) (vs.map fun kv => if kv.1 = k then (kv.1, v) else kv) := by
    intro kvs vs h
    induction h with
    | nil => exact .nil
    | @cons a b as bs p t ih =>
      refine .cons ?_ ih
      have e : a.1 = b.1 := p.1
      dsimp only
      by_cases c : a.1 = k
      · have c2 : b.1 = k := by rw [← e]; exact c
        rw [if_pos c, if_pos c2]
        exact ⟨e, r⟩
      · have c2 : ¬ b.1 = k := by rw [← e]; exact c
        rw [if_neg c, if_neg c2]
        exact p
  have hp : ∀ {kvs : List (Key × D)} {vs : List (Key × V)}, KDR K ρ H kvs vs → KDR K ρ H (kvs ++ [(k, d)]) (vs ++ [(k, v)]) := by
    intro kvs vs h
    induction h with
    | nil => exact .cons ⟨rfl, r⟩ .nil
    | cons p t ih => exact .cons p ih
  unfold putD putK
  rw [ha h]
  split
  · exact hm h
  · exact hp h
theorem kdr_len {K : Frg} {ρ : Rho} {H : Hp} {kvs : List (Key × D)} {vs : List (Key × V)} (h : KDR K ρ H kvs vs) : kvs.length = vs.length := by
  induction h with
  | nil => rfl
  | cons p t ih => rw [List.length_cons, List.length_cons, ih]
theorem dctOf_at {n : Nat} {st : Sto} {kvs : List (Key × D)} (h : dctOf (.ref n) st = some kvs) : st[n]? = some (.dct kvs) := by
  have h : (match st[n]? with
    | some (.dct kvs) => some kvs
    | _ => none) = some kvs := h
  split at h
  · cases h; assumption
  · cases h
theorem ps_setV (hu : X.A.units + 1 < cLine) : PSet X (tsV X.K) := by
  rintro pins s σ H o i v ov iv u Q I ro ri rv ⟨ρ, st, a, b, c, st', S, ra, rb, rc, e, k⟩
  cases e0 : setL a b c st with
  | some z =>
    rw [set_of e0] at e
    exact ps_setL pins s σ H o i v ov iv u Q I ro ri rv ⟨ρ, st, a, b, c, st', S, ra, rb, rc, by rw [e0]; exact e, k⟩
  | none =>
    unfold setI at e
    rw [e0] at e
    have e : setD a b c st = some st' := e
    cases a with
    | ref n =>
      have e : (dctOf (.ref n) st).bind _ = some st' := e
      obtain ⟨kvs, e3, e4⟩ := bind_some e
      obtain ⟨ky, e5, e6⟩ := bind_some e4
      obtain ⟨hl, e7⟩ := ite_some e6
      cases e7
      have hy := keyD_ok rb e5
      subst hy
      have hn := dctOf_at e3
      cases ra with
      | ref er =>
        obtain ⟨vs, h1, h2⟩ := S.at' _ _ _ hn er
        have r2 := put_ok (k := ky) rc h2
        obtain ⟨S2, g2⟩ := S.set (o' := .dct (putD kvs ky c)) (u := .dK (putK vs ky v)) hn er rfl rfl ⟨_, upd_same, r2.mono (Gr.upd h1 rfl)⟩
        cases ro
        exact wpAny_mono (d_setItem (H' := upd H _ (.dK (putK vs ky v))) (Q := fun _ s' => ∃ H', L2.Inv X pins σ H' s' ∧ Q H') hu I (DPut.k h1 (by rw [← kdr_len h2]; exact most_lt hl)) ri rv fun s4 I4 => ⟨_, I4, k ρ _ g2 S2⟩) (fun _ _ x => x) fun _ _ x => x
    | _ => cases e
theorem os_sub {o i e : Expr} {fo fi fe : SemE} {p1 pos : Pos} (hu : X.A.units + 65 < cLine) (hns : notSlice i = true) (ho : PE X o (tEv X.K fo)) (hi : PE X i (tEv X.K fi)) (he : PE X e (tEv X.K fe)) (hs : swapsWithSole [.Subscript o i p1] e pos.line X.env = pure false) :
    PS X (.Assign [.Subscript o i p1] e pos) (tSv X.K (sSub fo fi fe)) := by
  refine PS.imp (ps_asg he (pg_sub ho hi (ps_setV (by omega)) (fun v => by cases i <;> first | rfl | (cases hns; done))) hs (by cases e <;> rfl)) fun De σ H q => ?_
  obtain ⟨ρ, η, st, fl, st', E, S, e, k⟩ := q
  obtain ⟨p, e1, e2⟩ := bind_some e
  obtain ⟨q, e3, e4⟩ := bind_some e2
  obtain ⟨r, e5, e6⟩ := bind_some e4
  obtain ⟨stz, e7, e8⟩ := map_some' e6
  cases e8
  refine tEv.then E S e1 fun ρ1 H1 v1 g1 S1 r1 => tEv.then (E.mono g1) S1 e3 fun ρ2 H2 v2 g2 S2 r2 => tEv.then (E.mono (g1.trans g2)) S2 e5 fun ρ3 H3 v3 g3 S3 r3 => ?_
  exact ⟨ρ3, r.2, q.1, r.1, p.1, _, S3, r2.mono g3, r3, r1.mono (g2.trans g3), e7, fun ρ4 H4 g4 S4 => k ρ4 H4 σ (g1.trans (g2.trans (g3.trans g4))) S4 (E.mono (g1.trans (g2.trans (g3.trans g4))))⟩
def tipV (K : Frg) (op : Operator) : TIp := fun x y H Q => ∃ ρ st a b c, SR K ρ st H ∧ DR K ρ H a x ∧ DR K ρ H b y ∧ inplc op a b = some c ∧ ∀ v, DR K ρ H c v → Q v H
theorem ip_V (op : Operator) : PIp X op (tipV X.K op) := by
  rintro pins s σ H x y v u Q I rx ry ⟨ρ, st, a, b, c, S, ra, rb, e, k⟩
  unfold inplc at e
  split at e
  · cases e; cases ra; cases rb
    exact iop_add pins s σ H _ _ v u Q I rx ry ⟨_, _, rfl, rfl, k _ (.int _)⟩
  · cases e; cases ra; cases rb
    exact iop_sub pins s σ H _ _ v u Q I rx ry ⟨_, _, rfl, rfl, k _ (.int _)⟩
  · obtain ⟨c, e⟩ := ite_some e
    cases e; cases ra; cases rb
    exact iop_add_str pins s σ H _ _ v u Q I rx ry ⟨_, _, rfl, rfl, most_line c, k _ (.str _)⟩
  · cases e
theorem os_aug {i : Nat} {x : Str} {e : Expr} {fe : SemE} {op : Operator} {p1 pos : Pos} (hN : X.N.Nodup) (hi : X.N[i]? = some x) (hx : L2.Loc X.env.scope x) (hf : X.fn x = true ∨ X.env.scope.names.lookup x = some .local) (he : PE X e (tEv X.K fe)) :
    PS X (.AugAssign (.Name x p1) op e pos) (tSv X.K (sAug i op fe)) := by
  refine PS.imp (ps_aug hN hi hx he (ip_V op) hf) fun De σ H q => ?_
  obtain ⟨ρ, η, st, fl, st', E, S, e, k⟩ := q
  obtain ⟨x, e1, e2⟩ := bind_some e
  obtain ⟨p, e3, e4⟩ := bind_some e2
  obtain ⟨z, e5, e6⟩ := map_some' e4
  cases e6
  unfold fVar at e1
  split at e1
  · cases e1
    rename_i hη
    obtain ⟨v, hv, r⟩ := E.2 _ _ hη
    exact ⟨v, hv, tEv.then E S e3 fun ρ1 H1 v1 g1 S1 r1 => ⟨ρ1, p.2, _, _, z, S1, r.mono g1, r1, e5, fun w rw' => k ρ1 H1 _ g1 S1 ((E.mono g1).set rw' i)⟩⟩
  · cases e1
def tgetV (K : Frg) : V → V → Hp → VK → Prop := fun o i H Q => ∃ ρ st a b c, SR K ρ st H ∧ DR K ρ H a o ∧ DR K ρ H b i ∧ getI a b st = some c ∧ ∀ v, DR K ρ H c v → Q v H
def tgetL (K : Frg) : V → V → Hp → VK → Prop := fun o i H Q => ∃ ρ st a b c, SR K ρ st H ∧ DR K ρ H a o ∧ DR K ρ H b i ∧ getL a b st = some c ∧ ∀ v, DR K ρ H c v → Q v H
theorem pg_L : PGet X (tgetL X.K) := by
  rintro pins s σ H o i ov iv Q I ro ri ⟨ρ, st, a, b, c, S, ra, rb, e, k⟩
  unfold getL at e
  split at e
  · rename_i n kk
    split at e
    · rename_i xs hx
      obtain ⟨h0, e1⟩ := ite_some e
      obtain ⟨a', vs, rfl, ea, h1, h2⟩ := ref_lst S ra hx
      cases rb
      obtain ⟨w, hw, rw'⟩ := atI_DRs h2 e1
      cases ro
      obtain ⟨t, rfl⟩ := ri
      obtain ⟨its, r, pl, hz⟩ := I.list (SqL.of h1)
      obtain ⟨j, q1, q2, q3, q4, q5⟩ := atI_get hw
      obtain ⟨z, ez, rz⟩ := r.get q2
      have hl := r.length
      have hn := line63
      have hj : kk.toNat = j := by
        rw [seqIndex_of h0 q5] at q1
        exact Option.some.inj q1
      exact wpAny_getItem_list pl.isList h0 (by omega) (by rw [hj]; simpa using ez) ⟨w, H, I, rz, k w rw'⟩
    · cases e
  · cases e
theorem pg_V (hu : X.A.units + 1 < cLine) : PGet X (tgetV X.K) := by
  rintro pins s σ H o i ov iv Q I ro ri ⟨ρ, st, a, b, c, S, ra, rb, e, k⟩
  cases e0 : getL a b st with
  | some z =>
    rw [get_of e0] at e
    exact pg_L pins s σ H o i ov iv Q I ro ri ⟨ρ, st, a, b, c, S, ra, rb, by rw [e0]; exact e, k⟩
  | none =>
    unfold getI at e
    rw [e0] at e
    have e1 : dgetD a b st = some c := e
    unfold dgetD at e1
    obtain ⟨kvs, e3, e4⟩ := bind_some e1
    obtain ⟨ky, e5, e6⟩ := bind_some e4
    obtain ⟨ad, vs, rfl, h1, h2⟩ := dctOf_ok S ra e3
    have hy := keyD_ok rb e5
    subst hy
    cases ro
    rcases valV_ok (k := ky) h2 with ⟨h3, _⟩ | ⟨d2, v2, h3, h4, h5⟩
    · rw [h3] at e6; cases e6
    · rw [h3] at e6; cases e6
      exact d_getItem hu I (by rw [← h4]; exact DGet.k h1) ri fun w' s3 I3 rw' => ⟨v2, H, I3, rw', k v2 h5⟩
theorem os_augS {o i e : Expr} {fo fi fe : SemE} {op : Operator} {p1 pos : Pos} (hu : X.A.units + 65 < cLine) (hs : notSlice i = true) (ho : PE X o (tEv X.K fo)) (hi : PE X i (tEv X.K fi)) (he : PE X e (tEv X.K fe)) :
    PS X (.AugAssign (.Subscript o i p1) op e pos) (tSv X.K (sAugS fo fi op fe)) := by
  refine PS.imp (ps_augS ho hi (pg_V (by omega)) he (ip_V op) (ps_setV (by omega)) (fun ov iv new => by cases i <;> first | rfl | (cases hs; done))) fun De σ H q => ?_
  obtain ⟨ρ, η, st, fl, st', E, S, e, k⟩ := q
  obtain ⟨p, e1, e2⟩ := bind_some e
  obtain ⟨q, e3, e4⟩ := bind_some e2
  obtain ⟨x, e5, e6⟩ := bind_some e4
  obtain ⟨r, e7, e8⟩ := bind_some e6
  obtain ⟨z, e9, e10⟩ := bind_some e8
  obtain ⟨stz, e11, e12⟩ := map_some' e10
  cases e12
  refine tEv.then E S e1 fun ρ1 H1 v1 g1 S1 r1 => tEv.then (E.mono g1) S1 e3 fun ρ2 H2 v2 g2 S2 r2 => ⟨ρ2, q.2, p.1, q.1, x, S2, r1.mono g2, r2, e5, fun v3 r3 => tEv.then (E.mono (g1.trans g2)) S2 e7 fun ρ4 H4 v4 g4 S4 r4 => ?_⟩
  refine ⟨ρ4, r.2, x, r.1, z, S4, r3.mono g4, r4, e9, fun v5 r5 => ⟨ρ4, r.2, p.1, q.1, z, _, S4, r1.mono (g2.trans g4), r2.mono g4, r5, e11, fun ρ6 H6 g6 S6 => ?_⟩⟩
  exact k ρ6 H6 σ (g1.trans (g2.trans (g4.trans g6))) S6 (E.mono (g1.trans (g2.trans (g4.trans g6))))
theorem os_while {c : Expr} {b : List Stmt} {ft : SemT} {fb : SemS} {pos : Pos} (hx : X.xe = fun _ _ => False) (hc : PT X c (tTv X.K ft)) (hb : PSs X b (tSv X.K fb)) : PS X (.While c b [] pos) (tSv X.K (sWhile ft fb)) := by
  refine PS.imp (ps_while (by rw [hx]; exact PassesOwn.never) hc hb) fun De σ H q => ?_
  obtain ⟨ρ, η, st, fl, st', E, S, e, k⟩ := q
  refine ⟨fun m σ1 H1 => ∃ ρ1 η1 st1, Gr X.K ρ H ρ1 H1 ∧ ER X.K ρ1 H1 η1 σ1 ∧ SR X.K ρ1 st1 H1 ∧ whGo ft fb m η1 st1 = some (fl, st'), ⟨fuel, ρ, η, st, Gr.refl _ _ _, E, S, e⟩, ?_⟩
  rintro m σ1 H1 ⟨ρ1, η1, st1, g1, E1, S1, e1⟩
  cases m with
  | zero => cases e1
  | succ m =>
    unfold whGo at e1
    obtain ⟨p, e2, e3⟩ := bind_some e1
    refine ⟨ρ1, η1, st1, p.1, p.2, E1, S1, e2, fun ρ2 H2 g2 S2 => ?_⟩
    cases hp : p.1 with
    | true =>
      rw [hp, if_pos rfl] at e3
      rw [if_pos rfl]
      obtain ⟨q, e4, e5⟩ := bind_some e3
      refine ⟨fun σ3 H3 => ∃ ρ3 η3 st3, Gr X.K ρ H ρ3 H3 ∧ ER X.K ρ3 H3 η3 σ3 ∧ SR X.K ρ3 st3 H3 ∧ whGo ft fb m η3 st3 = some (fl, st'), fun σ3 H3 h => ⟨m, Nat.lt_succ_self _, h⟩, ρ2, η1, p.2, q.1, q.2, E1.mono g2, S2, e4, ?_⟩
      cases hq : q.1 with
      | nx η' => rw [hq] at e5; exact fun ρ3 H3 σ3 g3 S3 E3 => ⟨ρ3, η', q.2, g1.trans (g2.trans g3), E3, S3, e5⟩
      | ct η' => rw [hq] at e5; exact fun ρ3 H3 σ3 g3 S3 E3 => ⟨ρ3, η', q.2, g1.trans (g2.trans g3), E3, S3, e5⟩
      | bk η' => rw [hq] at e5; cases e5; exact fun ρ3 H3 σ3 g3 S3 E3 => k ρ3 H3 σ3 (g1.trans (g2.trans g3)) S3 E3
      | rt d => rw [hq] at e5; cases e5; exact fun ρ3 H3 v g3 S3 r3 => k ρ3 H3 v (g1.trans (g2.trans g3)) S3 r3
    | false =>
      rw [hp, if_neg Bool.false_ne_true] at e3
      rw [if_neg Bool.false_ne_true]
      cases e3
      exact k ρ2 H2 σ1 (g1.trans g2) S2 (E1.mono g2)
theorem os_for {tg iter : Expr} {b : List Stmt} {fi : SemI} {g : SemG} {is : List Nat} {fb : SemS} {pos : Pos} (hx : X.xe = fun _ _ => False) (hcalm : X.calm = true) (hi : PI X tg iter (tIv X.K fi)) (hg : PG X tg (tGv X.K g is)) (hb : PSs X b (tSv X.K fb)) (hset : notSet iter = true) :
    PS X (.For tg iter b [] pos) (tSv X.K (sFor fi g fb)) := by
  refine PS.imp (ps_for (by rw [hx]; exact PassesOwn.never) hcalm hi hg hb (setFold hset)) fun De σ H q => ?_
  obtain ⟨ρ, η, st, fl, st', E, S, e, k⟩ := q
  obtain ⟨p, e1, e2⟩ := bind_some e
  refine ⟨ρ, η, st, p.1, p.2, E, S, e1, fun ρ1 H1 J g1 S1 ok Y => ?_⟩
  obtain ⟨Gd, Yd, W, hG, hY⟩ := Y.w
  refine for_it W (fun i σ2 H2 => ∃ ρ2 η2 st2, Gr X.K ρ1 H1 ρ2 H2 ∧ ER X.K ρ2 H2 η2 σ2 ∧ SR X.K ρ2 st2 H2 ∧ forGo g fb p.1.gd (p.1.xs.drop i) η2 st2 = some (fl, st')) ?_ ?_ ?_ ?_
  · exact ⟨ρ1, η, p.2, Gr.refl _ _ _, E.mono g1, S1, e2⟩
  · rintro i σ2 H2 _ ⟨ρ2, η2, st2, g2, E2, S2, e3⟩
    exact hG ρ2 st2 H2 g2 S2 (forGo_ok e3)
  · rintro i x σ2 H2 H3 hlt ⟨ρ2, η2, st2, g2, E2, S2, e3⟩ y
    have ok2 := forGo_ok e3
    obtain ⟨g3, S3, r3⟩ := hY ρ2 st2 H2 i _ x H3 g2 S2 ok2 (List.getElem?_eq_getElem hlt) y
    rw [List.drop_eq_getElem_cons hlt] at e3
    unfold forGo at e3
    obtain ⟨_, e4⟩ := ite_some e3
    obtain ⟨η3, e5, e6⟩ := bind_some e4
    obtain ⟨q, e7, e8⟩ := bind_some e6
    refine ⟨ρ2, η2, _, η3, E2.mono g3, r3, e5, fun σ4 E4 _ _ => ⟨ρ2, η3, st2, q.1, q.2, E4, S3, e7, ?_⟩⟩
    cases hq : q.1 with
    | nx η' => rw [hq] at e8; exact fun ρ5 H5 σ5 g5 S5 E5 => ⟨ρ5, η', q.2, g2.trans (g3.trans g5), E5, S5, e8⟩
    | ct η' => rw [hq] at e8; exact fun ρ5 H5 σ5 g5 S5 E5 => ⟨ρ5, η', q.2, g2.trans (g3.trans g5), E5, S5, e8⟩
    | bk η' => rw [hq] at e8; cases e8; exact fun ρ5 H5 σ5 g5 S5 E5 => k ρ5 H5 σ5 (g1.trans (g2.trans (g3.trans g5))) S5 E5
    | rt d => rw [hq] at e8; cases e8; exact fun ρ5 H5 v g5 S5 r5 => k ρ5 H5 v (g1.trans (g2.trans (g3.trans g5))) S5 r5
  · rintro σ2 H2 ⟨ρ2, η2, st2, g2, E2, S2, e3⟩
    rw [List.drop_length] at e3
    unfold forGo at e3
    obtain ⟨_, e4⟩ := ite_some e3
    cases e4
    exact k ρ2 H2 σ2 (g1.trans g2) S2 E2
end
end
end Sim

namespace Sim
open PySem L2
noncomputable section

def notComp : Expr → Bool
  | .ListComp _ _ _ _ => false
  | .SetComp _ _ _ _ => false
  | .DictComp _ _ _ _ _ => false
  | _ => true
theorem sw_no {e : Expr} {t : Option Expr} {l : Nat} {env : Env} (h : notComp e = true) : swapsWith e t l env = pure false := by
  cases e <;> first | rfl | (cases h; done)
theorem sw_sole {t e : Expr} {l : Nat} {env : Env} (h : notComp e = true) : swapsWithSole [t] e l env = pure false := by
  show swapsWith e (some t) l env = pure false
  exact sw_no h
def swNames (sc : Scope) (ts : List Expr) : List Str := ts.filterMap fun
    | .Name id pos => if (sc.names.lookup id == some .local && pos.line == (ts.head?.map (·.pos.line)).getD 0) = true then some id else none
    | _ => none
/-- which stores an assignment of a written tuple to a written tuple turns about; none: not told -/
def swKind (sc : Scope) (ts vs : List Expr) : Option (Option (List Str)) :=
  if (!(ts.length == 2 || ts.length == 3) || vs.length != ts.length) = true then some none
  else if (vs.any fun | .Starred .. => true | _ => false) = true then some none
  else if ((swNames sc ts).length != ts.length || (swNames sc ts).eraseDups.length != (swNames sc ts).length) = true then some none
  else if vs.all (foldedForSure 8) = true then some none
  else if vs.all (constantsAlone 8) = true then none
  else some (some (swNames sc ts))
theorem sw_eq {ts vs : List Expr} {k k2 : Nat} {p p2 : Pos} {env : Env} {o : Option (List Str)} (hk : env.scope.kind = .function) (h : swKind env.scope ts vs = some o) : swappedStores [.Tuple ts k p] (.Tuple vs k2 p2) env = pure o := by
  have hb : env.blockKind = .function := by unfold Env.blockKind; rw [hk]; rfl
  have hf : (ScopeKind.function != ScopeKind.function) = false := by decide
  unfold swKind at h
  unfold swappedStores
  simp only [hb, hf, Bool.or_false]
  simp only [Env.kindOf]
  by_cases c1 : (!(ts.length == 2 || ts.length == 3) || vs.length != ts.length) = true
  · rw [if_pos c1] at h ⊢; cases h; rfl
  rw [if_neg c1] at h ⊢
  by_cases c2 : (vs.any fun | .Starred .. => true | _ => false) = true
  · rw [if_pos c2] at h; cases h; exact if_pos c2
  rw [if_neg c2] at h
  refine (if_neg c2).trans ?_
  by_cases c3 : ((swNames env.scope ts).length != ts.length || (swNames env.scope ts).eraseDups.length != (swNames env.scope ts).length) = true
  · rw [if_pos c3] at h; cases h; exact if_pos c3
  rw [if_neg c3] at h
  refine (if_neg c3).trans ?_
  by_cases c4 : vs.all (foldedForSure 8) = true
  · rw [if_pos c4] at h; cases h; exact if_pos c4
  rw [if_neg c4] at h
  refine (if_neg c4).trans ?_
  by_cases c5 : vs.all (constantsAlone 8) = true
  · rw [if_pos c5] at h; cases h
  rw [if_neg c5] at h
  refine (if_neg c5).trans ?_
  cases h
  rfl

abbrev RS := Stmt → Option SemS
def compB (rS : RS) : List Stmt → Option SemS
  | [] => some sNil
  | s :: r => (rS s).bind fun f => (compB rS r).map fun g => sSeq f g
def isFn : ScopeKind → Bool
  | .function => true
  | _ => false
/-- target = value -/
def stepAsg (rE : Expr → Option SemE) (S : Sx) (tg e : Expr) : Option SemS :=
  match tg with
  | .Name x py => match e with
    | .ListComp elt gs scope pos => if S.sc.names.lookup x = some .local ∧ isFn S.sc.kind = true ∧ (py.line == pos.line) = true ∧ (scope.names.any fun (n, k) => n == x && (k == .local || k == .cell)) = false then
        (ixOf x S.N).bind fun i => (rE e).map fun fe => sAsg fe (gvName i)
      else if S.sc.names.lookup x = some .cell ∧ S.top = true then (ixOf x S.N).bind fun i => (rE e).map fun fe => sAsg fe (gvName i) else none
    | _ => if notComp e = true ∧ locB S x = true then (ixOf x S.N).bind fun i => (rE e).map fun fe => sAsg fe (gvName i) else none
  | .Tuple ts _ _ => match e with
    | .Tuple vs _ _ => if isFn S.sc.kind = true then match swKind S.sc ts vs with
      | some none => (compG S 3 tg).bind fun g => (rE e).map fun fe => sAsg fe g.1
      | some (some l) => match ts, vs with
        | [.Name x _, .Name y _], [a, b] => if l = [x, y] ∧ x ≠ y ∧ S.sc.names.lookup x = some .local ∧ S.sc.names.lookup y = some .local then
            (ixOf x S.N).bind fun i => (ixOf y S.N).bind fun j => (compA rE [a, b]).map fun fs => sPar2 i j fs else none
        | [.Name x _, .Name y _, .Name z _], [a, b, c] => if l = [x, y, z] ∧ (x ≠ y ∧ x ≠ z ∧ y ≠ z) ∧ S.sc.names.lookup x = some .local ∧ S.sc.names.lookup y = some .local ∧ S.sc.names.lookup z = some .local then
            (ixOf x S.N).bind fun i => (ixOf y S.N).bind fun j => (ixOf z S.N).bind fun l => (compA rE [a, b, c]).map fun fs => sPar3 i j l fs else none
        | _, _ => none
      | none => none
      else none
    | _ => if notComp e = true then (compG S 3 tg).bind fun g => (rE e).map fun fe => sAsg fe g.1 else none
  | .Subscript o i _ => if notComp e = true ∧ notSlice i = true then (rE o).bind fun fo => (rE i).bind fun fi => (rE e).map fun fe => sSub fo fi fe else none
  | _ => none
def stepS (rE : RE) (rT : RT) (rS : RS) (S : Sx) (s : Stmt) : Option SemS :=
  match s with
  | .Return none _ => some sRetN
  | .Return (some e) _ => (rE S e).map fun fe => sRet fe
  | .Pass _ => some sNil
  | .Break _ => some sBrk
  | .Continue _ => some sCnt
  | .Expr e _ => if notComp e = true then (rE S e).map fun fe => sExpr fe else none
  | .If c a b _ => (rT S c).bind fun fc => (compB rS a).bind fun fa => (compB rS b).map fun fb => sIf fc fa fb
  | .While c b [] _ => (rT S c).bind fun fc => (compB rS b).map fun fb => sWhile fc fb
  | .For tg iter b [] _ => if notSet iter = true then (compI (rE S) S tg iter).bind fun fi => (compG S 3 tg).bind fun g => (compB rS b).map fun fb => sFor fi g.1 fb else none
  | .Assign [tg] e _ => stepAsg (rE S) S tg e
  | .AugAssign (.Name x _) op e _ => if locB S x = true then (ixOf x S.N).bind fun i => (rE S e).map fun fe => sAug i op fe else none
  | .AugAssign (.Subscript o i _) op e _ => if notSlice i = true then (rE S o).bind fun fo => (rE S i).bind fun fi => (rE S e).map fun fe => sAugS fo fi op fe else none
  | .Raise _ _ _ => some sStuck
  | _ => none
def compS (cf : CallF) (d : Nat) (S : Sx) : Nat → Stmt → Option SemS
  | 0, _ => none
  | k + 1, s => stepS (compE cf d) (compT cf d) (compS cf d S k) S s

def HS (rS : RS) (X : Cx) : Prop := ∀ (s : Stmt) (f : SemS), rS s = some f → PS X s (tSv X.K f)
section
variable {X : Cx} {S : Sx} {cf : CallF} {n : Nat}
theorem ok_compB {rS : RS} (hS : HS rS X) : ∀ {b : List Stmt} {f : SemS}, compB rS b = some f → PSs X b (tSv X.K f)
  | [], _, h => by cases h; exact os_nil
  | s :: r, _, h => by
    unfold compB at h
    obtain ⟨f, e1, h2⟩ := bind_some h
    obtain ⟨g, e2, e3⟩ := map_some' h2
    subst e3
    exact os_cons (hS _ _ e1) (ok_compB hS e2)
theorem set_name (G : Gx X S) {x : Str} {i : Nat} {e : Expr} {fe : SemE} {py pos : Pos} (hi : ixOf x S.N = some i) (hl : locB S x = true) (he : PE X e (tEv X.K fe)) (hs : swapsWith e (some (.Name x py)) pos.line X.env = pure false) :
    PS X (.Assign [.Name x py] e pos) (tSv X.K (sAsg fe (gvName i))) := by
  obtain ⟨h1, h2⟩ := locB_ok G hl
  refine PS.imp (ps_set (by rw [G.hN]; exact G.nd) (by rw [G.hN]; exact ixOf_get hi) h1 he hs h2) fun De σ H q => ?_
  obtain ⟨ρ, η, st, fl, st', E, S, e, k⟩ := q
  obtain ⟨p, e1, e2⟩ := bind_some e
  obtain ⟨η', e3, e4⟩ := map_some' e2
  cases e4; cases e3
  exact tEv.then E S e1 fun ρ1 H1 v g1 S1 r1 => k ρ1 H1 _ g1 S1 ((E.mono g1).set r1 i)
theorem isFn_ok (G : Gx X S) (h : isFn S.sc.kind = true) : X.env.scope.kind = .function := by
  rw [G.sc]
  unfold isFn at h
  split at h
  · assumption
  · cases h
theorem ok_stepAsg {rE : RE} {rT : RT} (hE : HE rE cf n) (F : Fx X S cf n) (G : Gx X S) (hL : ∀ elt gs scope f, rE S (.ListComp elt gs scope ⟨0, 0, 0, 0⟩) = some f → True)
    (hLc : ∀ {i : Nat} {y : Str} {py : Pos} {elt : Expr} {gs : List Comprehension} {scope : Scope} {pos spos : Pos} {f : SemE}, rE S (.ListComp elt gs scope pos) = some f → ixOf y S.N = some i → S.sc.names.lookup y = some .local →
      swapsWith (.ListComp elt gs scope pos) (some (.Name y py)) spos.line X.env = pure true → PS X (.Assign [.Name y py] (.ListComp elt gs scope pos) spos) (tSv X.K (sAsg f (gvName i))))
    {tg e : Expr} {f : SemS} {spos : Pos} (h : stepAsg (rE S) S tg e = some f) : PS X (.Assign [tg] e spos) (tSv X.K f) := by
  have hE' : ∀ e f, rE S e = some f → PE X e (tEv X.K f) := fun e f => hE X S e f G F
  have hN : X.N.Nodup := by rw [G.hN]; exact G.nd
  unfold stepAsg at h
  split at h
  · rename_i x py
    split at h
    · rename_i elt gs scope pos
      by_cases c : S.sc.names.lookup x = some .local ∧ isFn S.sc.kind = true ∧ (py.line == pos.line) = true ∧ (scope.names.any fun (n, k) => n == x && (k == .local || k == .cell)) = false
      · rw [if_pos c] at h
        obtain ⟨i, e1, h2⟩ := bind_some h
        obtain ⟨fe, e2, e3⟩ := map_some' h2
        subst e3
        exact hLc e2 e1 c.1 (sw_true (isFn_ok G c.2.1) (by rw [G.sc]; exact c.1) c.2.2.1 c.2.2.2)
      · rw [if_neg c] at h
        obtain ⟨⟨c1, c2⟩, h2⟩ := ite_some h
        obtain ⟨i, e1, h3⟩ := bind_some h2
        obtain ⟨fe, e2, e3⟩ := map_some' h3
        subst e3
        refine set_name G e1 (by unfold locB; rw [c1]; exact c2) (hE' _ _ e2) ?_
        have kx : X.env.kindOf x = some .cell := by show X.env.scope.names.lookup x = _; rw [G.sc]; exact c1
        unfold swapsWith
        simp only [kx]
        have : (some NameKind.cell == some NameKind.local) = false := by decide
        simp [this]
    · obtain ⟨⟨c1, c2⟩, h2⟩ := ite_some h
      obtain ⟨i, e1, h3⟩ := bind_some h2
      obtain ⟨fe, e2, e3⟩ := map_some' h3
      subst e3
      exact set_name G e1 c2 (hE' _ _ e2) (sw_no c1)
  · rename_i ts kt pt
    split at h
    · rename_i vs k2 p2
      obtain ⟨c1, h2⟩ := ite_some h
      have hk := isFn_ok G c1
      split at h2
      · rename_i hsw
        obtain ⟨g, e1, h3⟩ := bind_some h2
        obtain ⟨fe, e2, e3⟩ := map_some' h3
        subst e3
        exact PS.imp (ps_asg (hE' _ _ e2) (ok_compG F G 3 e1) rfl (sw_eq hk (by rw [G.sc]; exact hsw)) rfl) fun De σ H q => rd_asg q
      · rename_i l hsw
        split at h2
        · obtain ⟨⟨c2, c3, c4, c5⟩, h3⟩ := ite_some h2
          obtain ⟨i, e1, h4⟩ := bind_some h3
          obtain ⟨j, e2, h5⟩ := bind_some h4
          obtain ⟨fs, e3, e4⟩ := map_some' h5
          subst e4 c2
          have gi := ixOf_get e1
          have gj := ixOf_get e2
          exact os_par2 F.calm hN (by rw [G.hN]; exact gi) (by rw [G.hN]; exact gj) (fun z => c3 (by rw [z, gj] at gi; exact (Option.some.inj gi).symm)) (by rw [G.sc]; exact c4) (by rw [G.sc]; exact c5) (ok_args hE' e3).1 (sw_eq hk (by rw [G.sc]; exact hsw))
        · obtain ⟨⟨c2, ⟨c3, c4, c5⟩, c6, c7, c8⟩, h3⟩ := ite_some h2
          obtain ⟨i, e1, h4⟩ := bind_some h3
          obtain ⟨j, e2, h5⟩ := bind_some h4
          obtain ⟨l', e3, h6⟩ := bind_some h5
          obtain ⟨fs, e4, e5⟩ := map_some' h6
          subst e5 c2
          have gi := ixOf_get e1
          have gj := ixOf_get e2
          have gl := ixOf_get e3
          exact os_par3 F.calm hN (by rw [G.hN]; exact gi) (by rw [G.hN]; exact gj) (by rw [G.hN]; exact gl) (fun z => c3 (by rw [z, gj] at gi; exact (Option.some.inj gi).symm)) (fun z => c4 (by rw [z, gl] at gi; exact (Option.some.inj gi).symm))
            (fun z => c5 (by rw [z, gl] at gj; exact (Option.some.inj gj).symm)) (by rw [G.sc]; exact c6) (by rw [G.sc]; exact c7) (by rw [G.sc]; exact c8) (ok_args hE' e4).1 (sw_eq hk (by rw [G.sc]; exact hsw))
        · cases h2
      · cases h2
    · rename_i hne
      obtain ⟨c1, h2⟩ := ite_some h
      obtain ⟨g, e1, h3⟩ := bind_some h2
      obtain ⟨fe, e2, e3⟩ := map_some' h3
      subst e3
      have hw : swappedStores [.Tuple ts kt pt] e X.env = pure none := by
        cases e <;> first | rfl | (exact absurd rfl (hne _ _ _))
      exact PS.imp (ps_asg (hE' _ _ e2) (ok_compG F G 3 e1) (sw_sole c1) hw rfl) fun De σ H q => rd_asg q
  · obtain ⟨⟨c1, c2⟩, h2⟩ := ite_some h
    obtain ⟨fo, e1, h3⟩ := bind_some h2
    obtain ⟨fi, e2, h4⟩ := bind_some h3
    obtain ⟨fe, e3, e4⟩ := map_some' h4
    subst e4
    exact os_sub (by have := F.room.un; omega) c2 (hE' _ _ e1) (hE' _ _ e2) (hE' _ _ e3) (sw_sole c1)
  · cases h
theorem ok_stepS {d : Nat} {rS : RS} (hS : HS rS X) (F : Fx X S cf n) (G : Gx X S) {s : Stmt} {f : SemS} (h : stepS (compE cf d) (compT cf d) rS S s = some f) : PS X s (tSv X.K f) := by
  obtain ⟨hE, hT⟩ := ok_comp cf n d
  have hE' : ∀ e f, compE cf d S e = some f → PE X e (tEv X.K f) := fun e f => hE X S e f G F
  have hT' : ∀ e f, compT cf d S e = some f → PT X e (tTv X.K f) := fun e f => hT X S e f G F
  have hN : X.N.Nodup := by rw [G.hN]; exact G.nd
  unfold stepS at h
  split at h
  · cases h; exact os_retN
  · obtain ⟨fe, e1, e2⟩ := map_some' h
    subst e2
    exact os_ret (hE' _ _ e1)
  · cases h; exact os_pass
  · cases h; exact os_brk
  · cases h; exact os_cnt
  · obtain ⟨c1, h2⟩ := ite_some h
    obtain ⟨fe, e1, e2⟩ := map_some' h2
    subst e2
    exact os_expr (hE' _ _ e1) (sw_no c1)
  · obtain ⟨fc, e1, h2⟩ := bind_some h
    obtain ⟨fa, e2, h3⟩ := bind_some h2
    obtain ⟨fb, e3, e4⟩ := map_some' h3
    subst e4
    exact os_if (hT' _ _ e1) (ok_compB hS e2) (ok_compB hS e3)
  · obtain ⟨fc, e1, h2⟩ := bind_some h
    obtain ⟨fb, e2, e3⟩ := map_some' h2
    subst e3
    exact os_while F.xe (hT' _ _ e1) (ok_compB hS e2)
  · obtain ⟨c1, h2⟩ := ite_some h
    obtain ⟨fi, e1, h3⟩ := bind_some h2
    obtain ⟨g, e2, h4⟩ := bind_some h3
    obtain ⟨fb, e3, e4⟩ := map_some' h4
    subst e4
    exact os_for F.xe F.calm (ok_compI hE' F G e1) (ok_compG F G 3 e2) (ok_compB hS e3) c1
  · refine ok_stepAsg (rT := compT cf d) hE F G (fun _ _ _ _ _ => trivial) ?_ h
    intro i y py elt gs scope pos spos f' h1 h2 h3 h4
    cases d with
    | zero => unfold compE at h1; cases h1
    | succ d =>
      obtain ⟨hE1, hT1⟩ := ok_comp cf n d
      unfold compE at h1
      obtain ⟨tg, iter, ifs, fi, g, is, tt, fe, rfl, c2, ok, p1, p2, p3, p4, p5⟩ := ok_lcParts hE1 hT1 F G (show stepLc (compE cf d) (compT cf d) S elt gs scope = some f' from h1)
      refine PS.imp (ps_setLc (i := i) F.calm hN (by rw [G.hN]; exact ixOf_get h2) (by rw [G.sc]; exact h3) h4 p1 ok p2 p3 p4 (setFold c2)) fun De σ H q => ?_
      obtain ⟨ρ, η, st, fl, st', E, S', e, k⟩ := q
      obtain ⟨p, e1, e2⟩ := bind_some e
      obtain ⟨η', e3, e4⟩ := map_some' e2
      cases e4; cases e3
      exact p5 σ H _ (tEv.then E S' e1 fun ρ1 H1 v g1 S1 r1 => k ρ1 H1 _ g1 S1 ((E.mono g1).set r1 i))
  · obtain ⟨c1, h2⟩ := ite_some h
    obtain ⟨i, e1, h3⟩ := bind_some h2
    obtain ⟨fe, e2, e3⟩ := map_some' h3
    subst e3
    obtain ⟨q1, q2⟩ := locB_ok G c1
    exact os_aug hN (by rw [G.hN]; exact ixOf_get e1) q1 q2 (hE' _ _ e2)
  · obtain ⟨c1, h2⟩ := ite_some h
    obtain ⟨fo, e1, h3⟩ := bind_some h2
    obtain ⟨fi, e2, h4⟩ := bind_some h3
    obtain ⟨fe, e3, e4⟩ := map_some' h4
    subst e4
    exact os_augS (by have := F.room.un; omega) c1 (hE' _ _ e1) (hE' _ _ e2) (hE' _ _ e3)
  · cases h; exact os_stuck
  · cases h
theorem ok_compS {d : Nat} (F : Fx X S cf n) (G : Gx X S) : ∀ k : Nat, HS (compS cf d S k) X
  | 0, s, f, h => by unfold compS at h; cases h
  | k + 1, s, f, h => by
    unfold compS at h
    exact ok_stepS (ok_compS F G k) F G h
end

/-! ### the program -/
/-- a def: its name, its statement, its names by slot, how many of them are parameters -/
structure Def where
  name : Str
  st : Stmt
  N : List Str
  ps : List Str
structure Pg where
  defs : List Def
  blt : List Str
  mth : List Str
def Pg.own (P : Pg) : List Str := P.defs.map (·.name)
def Pg.sx (P : Pg) (d : Def) : Sx := { N := d.N, sc := defScope d.st, top := true, own := P.own, blt := P.blt, mth := P.mth }
def look (f : Str) : List Def → Option Def
  | [] => none
  | d :: r => if d.name = f then some d else look f r
def runB (f : SemS) (d : Def) (ds : List D) (st : Sto) : R :=
  if ds.length = d.ps.length then (f (ds.map some ++ List.replicate (d.N.length - ds.length) none) st).bind fun p => match p.1 with
    | .rt v => some (v, p.2)
    | .nx _ => some (.non, p.2)
    | _ => none
  else none
/-- the defs, to a depth of n calls -/
def callN (P : Pg) : Nat → CallF
  | 0 => fun _ _ _ => none
  | n + 1 => fun f ds st => (look f P.defs).bind fun d => (compB (compS (callN P n) 60 (P.sx d) 30) (defBody d.st)).bind fun b => runB b d ds st
end
end Sim

namespace Sim
open PySem L2

/-! ### each def keeps what callN says of it -/
structure DefOk (d : Def) (K : Frg) (mg : Str → Option Value) (fa : Addr) (fd : FuncData) : Prop where
  at' : mg d.name = some (.ref fa)
  fn : Fun K d.name d.name d.st fa fd
  bd : Binds K fd d.ps []
  sc : FnScope d.N d.ps (defScope d.st)
structure PgOk (P : Pg) (K : Frg) (mg : Str → Option Value) : Prop where
  defs : ∀ d ∈ P.defs, ∃ fa fd, DefOk d K mg fa fd
  blt : ∀ x, x ∈ P.blt → mg x = none
  mth : ("gcd" : Str) ∈ P.mth → mg "gcd" = some (.builtin "math.gcd")
  nm : ∀ d ∈ P.defs, nmOk d.name = true
theorem look_mem {f : Str} : ∀ {l : List Def} {d : Def}, look f l = some d → d ∈ l ∧ d.name = f
  | [], _, h => by cases h
  | e :: r, d, h => by
    unfold look at h
    by_cases c : e.name = f
    · rw [if_pos c] at h; cases h; exact ⟨List.mem_cons_self, c⟩
    · rw [if_neg c] at h
      obtain ⟨h1, h2⟩ := look_mem h
      exact ⟨List.mem_cons_of_mem _ h1, h2⟩
theorem look_of {f : Str} : ∀ {l : List Def}, f ∈ l.map (·.name) → ∃ d, look f l = some d
  | [], h => by cases h
  | e :: r, h => by
    unfold look
    by_cases c : e.name = f
    · exact ⟨e, if_pos c⟩
    · rw [if_neg c]
      rw [List.map_cons, List.mem_cons] at h
      rcases h with h | h
      · exact absurd h.symm c
      · exact look_of h
theorem start_ER {K : Frg} {ρ : Rho} {H : Hp} {ds : List D} {vs : List V} (r : DRs K ρ H ds vs) (N : List Str) : ER K ρ H (ds.map some ++ List.replicate (N.length - ds.length) none) (L2.start N vs) := by
  have hl := r.length
  unfold L2.start
  refine ⟨by simp [hl], fun i d h => ?_⟩
  by_cases q : i < ds.length
  · rw [List.getElem?_append_left (by simpa using q), List.getElem?_map] at h
    cases e : ds[i]? with
    | none => rw [e] at h; cases h
    | some x =>
      rw [e] at h
      cases h
      obtain ⟨v, hv, rv⟩ := r.get e
      refine ⟨v, ?_, rv⟩
      rw [List.getElem?_append_left (by simp; omega), List.getElem?_map, hv]; rfl
  · rw [List.getElem?_append_right (by simpa using q), List.getElem?_replicate] at h
    split at h <;> cases h

theorem callN_split {P : Pg} {n : Nat} {f : Str} {ds : List D} {st : Sto} {r : D × Sto} (h : callN P (n + 1) f ds st = some r) :
    ∃ d b, look f P.defs = some d ∧ compB (compS (callN P n) 60 (P.sx d) 30) (defBody d.st) = some b ∧ runB b d ds st = some r := by
  have h : (look f P.defs).bind _ = some r := h
  obtain ⟨d, e1, h2⟩ := bind_some h
  obtain ⟨b, e2, e3⟩ := bind_some h2
  exact ⟨d, b, e1, e2, e3⟩
theorem callN_len {P : Pg} {n : Nat} {f : Str} {ds : List D} {st : Sto} {r : D × Sto} {d : Def} (hl : look f P.defs = some d) (h : callN P n f ds st = some r) : ds.length = d.ps.length := by
  cases n with
  | zero => cases h
  | succ n =>
    obtain ⟨d', b, e1, e2, e3⟩ := callN_split h
    rw [hl] at e1; cases e1
    exact (ite_some e3).1

section
variable {P : Pg} {prog : Program} {w : World} {K : Frg} {mg : Str → Option Value} {base : Heap}
theorem all_ok (O : PgOk P K mg) : ∀ (n : Nat) (f : Str) (d : Def), look f P.defs = some d → ∀ fa fd, DefOk d K mg fa fd → FnG prog w K mg base CX0 n fa fd d.ps (spF K (callN P n) f d.ps.length)
  | 0, f, d, hl, fa, fd, D0 => by
    refine ⟨fun vs H Q E h => h.1, fun A outer s H args us vs Q E _ _ _ _ _ h => ?_⟩
    obtain ⟨_, ρ, st, ds, dd, st', _, _, e, _⟩ := h
    cases e
  | n + 1, f, d, hl, fa, fd, D0 => by
    have ih := all_ok O n
    refine Fun.okG D0.fn D0.sc (fun vs H Q E h => h.1) fun cdv A outer s H vs Q E gu room h => ?_
    obtain ⟨hlen, ρ, st, ds, dd, st', SRr, r, e, k⟩ := h
    obtain ⟨d', b, e1, e2, e3⟩ := callN_split e
    rw [hl] at e1; cases e1
    obtain ⟨hds, e4⟩ := ite_some e3
    obtain ⟨p, e5, e6⟩ := bind_some e4
    have G : Gx (cxOf CX0 prog w K mg base d.N d.name (defScope d.st) fa cdv A outer s H E).nox (P.sx d) := ⟨rfl, D0.sc.nd, rfl, fun _ _ => rfl⟩
    have F : Fx (cxOf CX0 prog w K mg base d.N d.name (defScope d.st) fa cdv A outer s H E).nox (P.sx d) (callN P n) n := {
      room := room
      gu := gu
      calm := rfl
      xe := rfl
      own := fun g hg => by
        obtain ⟨dg, hd⟩ := look_of (show g ∈ P.defs.map (·.name) from hg)
        obtain ⟨hm, hn⟩ := look_mem hd
        obtain ⟨ga, gd, Dg⟩ := O.defs dg hm
        exact ⟨ga, gd, dg.ps, ⟨by rw [← hn]; exact Dg.at', Dg.fn.kp, Dg.bd, ih g dg hd ga gd Dg, fun ds st r q => callN_len hd q⟩⟩
      blt := O.blt
      mth := O.mth }
    refine ⟨tSv K b, (ok_compB (ok_compS F G 30) e2).nox, ρ, _, st, p.1, p.2, start_ER r d.N, SRr, e5, ?_⟩
    cases hp : p.1 with
    | rt v => rw [hp] at e6; cases e6; exact fun ρ1 H1 v1 g1 S1 r1 => k ρ1 H1 v1 g1 S1 r1
    | nx η => rw [hp] at e6; cases e6; exact fun ρ1 H1 σ1 g1 S1 E1 => k ρ1 H1 _ g1 S1 .non
    | bk η => rw [hp] at e6; cases e6
    | ct η => rw [hp] at e6; cases e6
end
/-- the law at every script -/
def LawOk (P : Pg) (n : Nat) : Prop := ∀ (ns : List Int) (o : O), ns.length ≤ 63 → (o = .lst (ns.map .int) ∨ o = .frz (ns.map .int)) → ∃ st', callN P n "law" [.ref 0] [o] = some (.bl true, st')
theorem drs_ints {K : Frg} {ρ : Rho} {H : Hp} : ∀ ns : List Int, DRs K ρ H (ns.map .int) (ns.map V.int)
  | [] => .nil
  | n :: ns => .cons (.int n) (drs_ints ns)
theorem sr_one {K : Frg} {H : Hp} {a : Addr} {o : O} (h : OR K [a] H o a) : SR K [a] [o] H := by
  refine ⟨rfl, fun n x b h1 h2 => ?_, fun n m x y b h1 h2 _ _ _ _ => ?_⟩
  · cases n with
    | zero => cases h1; cases h2; exact h
    | succ n => cases h1
  · cases n with
    | zero => cases m with
      | zero => rfl
      | succ m => cases h2
    | succ n => cases h1
theorem law_sp {P : Pg} {n : Nat} (L : LawOk P n) {K : Frg} {H : Hp} {a : Addr} {ns : List Int} (hl : ns.length ≤ 63) (hS : SqL K H a (ns.map V.int)) (E : XK) : spF K (callN P n) "law" 1 [.ref a] H (fun v _ => v = .bl true) E := by
  have go : ∀ o : O, (o = .lst (ns.map .int) ∨ o = .frz (ns.map .int)) → OR K [a] H o a → spF K (callN P n) "law" 1 [.ref a] H (fun v _ => v = .bl true) E := fun o ho h => by
    obtain ⟨st', e⟩ := L ns o hl ho
    exact ⟨rfl, [a], [o], [.ref 0], .bl true, st', sr_one h, .cons (.ref rfl) .nil, e, fun ρ' H' v _ _ r => by cases r; rfl⟩
  rcases hS with (h | ⟨u, h⟩) | h
  · exact go _ (.inl rfl) ⟨_, h, drs_ints ns⟩
  · exact go _ (.inr rfl) ⟨_, .inl ⟨u, h⟩, drs_ints ns⟩
  · exact go _ (.inr rfl) ⟨_, .inr h, drs_ints ns⟩
theorem finish {P : Pg} {n : Nat} (L : LawOk P n) {dl : Def} (hdl : look "law" P.defs = some dl) (hps : dl.ps = (["_law_script"] : List Str)) {l : PySem.W.OpenLaw} {q : Program} {loose : List Str} {XP : (Str → Option Value) → Heap → Prop} {YP : World → Heap → Prop} {d : DefRec} {K : Params → Frg}
    (hn : l.most = some 63) (hdf : d.params.defaults = []) (room : Room n callerA) (hY : ∀ (w : World) (h : Heap), YP w h → (K w.params).In h) (hname : d.name = "law")
    (F : ∀ (w : World) (mg : Str → Option Value) (h : Heap), (K w.params).In h → h.Ns mainGlobals mg → PgOk P (K w.params) mg)
    (B : ∀ (w : World) (mg : Str → Option Value) (fa : Addr) (fd : FuncData), DefOk dl (K w.params) mg fa fd → ∀ (s : Shared) (u : Value), BindsTo s fd ⟨[u], []⟩ [("_law_script", u)]) :
    PySem.W.WalkO q loose XP YP l.row.toRowW d [] (fun f vs => PySem.call f vs) := by
  refine walkG (n := 63) (k := n) (x := "_law_script") (CX := fun _ => CX0) (sp := fun w => spF (K w.params) (callN P n) "law" 1) hn (by decide) hdf room hY (fun w mg fa h KX G hmg => ?_) (fun w H a ns hl _ hS => law_sp L hl hS _) fun _ _ _ _ _ z => z
  have O := F w mg h KX G
  obtain ⟨hm, hnm⟩ := look_mem hdl
  obtain ⟨fa', fd, Dl⟩ := O.defs dl hm
  have e : fa' = fa := by
    have h1 := Dl.at'
    rw [hnm, ← hname, hmg] at h1
    cases h1; rfl
  subst e
  refine ⟨fd, B w mg fa' fd Dl, fun b _ _ => ?_⟩
  have := all_ok (prog := l.prog) (w := w) (base := b) O n "law" dl hdl fa' fd Dl
  rw [hps] at this
  exact this
end Sim

namespace Sim
open PySem
variable {η : LocD} {st : Sto} {fa fb fc fo fi fe : SemE} {ft fu : SemT} {fs fr : SemA} {f g : SemS} {d : D} {i j l : Nat} {op : Operator} {cf : CallF} {x : Str} {gd : SemG} {gs : SemGs}
theorem callN_of {P : Pg} {n : Nat} {f : PySem.Str} {ds : List D} {st : Sto} {d : Def} {b : SemS} (hl : look f P.defs = some d) (hb : compB (compS (callN P n) 60 (P.sx d) 30) (L2.defBody d.st) = some b) : callN P (n + 1) f ds st = runB b d ds st := by
  show (look f P.defs).bind _ = _
  rw [hl]
  show (compB _ _).bind _ = _
  rw [hb]
  rfl
@[simp] theorem fC_ev : fC d η st = some (d, st) := rfl
@[simp] theorem fVar_ev : fVar i η st = match η[i]? with
  | some (some d) => some (d, st)
  | _ => none := rfl
@[simp] theorem fBin_ev : fBin op fa fb η st = (fa η st).bind fun p => (fb η p.2).bind fun q => binop op p.1 q.1 q.2 := rfl
@[simp] theorem fCmp_ev {op : CmpOp} : fCmp op fa fb η st = (fa η st).bind fun p => (fb η p.2).bind fun q => (cmpop op p.1 q.1 q.2).map fun b => (.bl b, q.2) := rfl
@[simp] theorem fIx_ev : fIx fa fb η st = (fa η st).bind fun p => (fb η p.2).bind fun q => (ix p.1 q.1 q.2).map fun d => (d, q.2) := rfl
@[simp] theorem fNil_ev : fNil η st = some ([], st) := rfl
@[simp] theorem fCons_ev : fCons fa fr η st = (fa η st).bind fun p => (fr η p.2).map fun q => (p.1 :: q.1, q.2) := rfl
@[simp] theorem fTup_ev : fTup fs η st = (fs η st).bind fun p => if p.1.length ≤ most then some (.tup p.1, p.2) else none := rfl
@[simp] theorem fLst_ev : fLst fs η st = (fs η st).bind fun p => if p.1.length ≤ most then alloc (.lst p.1) p.2 else none := rfl
@[simp] theorem fCall_ev : fCall cf x fs η st = (fs η st).bind fun p => cf x p.1 p.2 := rfl
@[simp] theorem fBlt_ev {g : List D → Sto → R} : fBlt g fs η st = (fs η st).bind fun p => g p.1 p.2 := rfl
@[simp] theorem fNeg_ev : fNeg fa η st = (fa η st).bind fun p => match p.1 with
  | .int i => some (.int (-i), p.2)
  | .bl b => some (.int (-(if b = true then (1 : Int) else 0)), p.2)
  | _ => none := rfl
@[simp] theorem fRev_ev : fRev fa η st = (fa η st).bind fun p => revD p.1 p.2 := rfl
@[simp] theorem sStuck_ev : sStuck η st = none := rfl
@[simp] theorem fIf_ev : fIf ft fa fb η st = (ft η st).bind fun p => if p.1 = true then fa η p.2 else fb η p.2 := rfl
@[simp] theorem fNotV_ev : fNotV fa η st = (fa η st).bind fun p => (truth p.1 p.2).map fun b => (.bl (!b), p.2) := rfl
@[simp] theorem fAndV_ev : fAndV fa fb η st = (fa η st).bind fun p => (truth p.1 p.2).bind fun b => if b = true then fb η p.2 else some p := rfl
@[simp] theorem fOrV_ev : fOrV fa fb η st = (fa η st).bind fun p => (truth p.1 p.2).bind fun b => if b = true then some p else fb η p.2 := rfl
@[simp] theorem gTru_ev : gTru fa η st = (fa η st).bind fun p => (truth p.1 p.2).map fun b => (b, p.2) := rfl
@[simp] theorem gNot_ev : gNot ft η st = (ft η st).map fun p => (!p.1, p.2) := rfl
@[simp] theorem gAnd_ev : gAnd ft fu η st = (ft η st).bind fun p => if p.1 = true then fu η p.2 else some (false, p.2) := rfl
@[simp] theorem gOr_ev : gOr ft fu η st = (ft η st).bind fun p => if p.1 = true then some (true, p.2) else fu η p.2 := rfl
@[simp] theorem gCmp_ev {op : CmpOp} : gCmp op fa fb η st = (fa η st).bind fun p => (fb η p.2).bind fun q => (cmpop op p.1 q.1 q.2).map fun b => (b, q.2) := rfl
@[simp] theorem gCh_ev {o1 o2 : CmpOp} : gCh o1 o2 fa fb fc η st = (fa η st).bind fun p => (fb η p.2).bind fun q => (cmpop o1 p.1 q.1 q.2).bind fun b =>
  if b = true then (fc η q.2).bind fun r => (cmpop o2 q.1 r.1 r.2).map fun c => (c, r.2) else some (false, q.2) := rfl
@[simp] theorem fCh_ev {o1 o2 : CmpOp} : fCh o1 o2 fa fb fc η st = (gCh o1 o2 fa fb fc η st).map fun p => (.bl p.1, p.2) := rfl
@[simp] theorem oNone_ev : oNone η st = some (none, st) := rfl
@[simp] theorem oSome_ev : oSome fa η st = (fa η st).bind fun p => match p.1 with
  | .int i => some (some i, p.2)
  | _ => none := rfl
@[simp] theorem fSl_ev {fl fh : SemO} : fSl fa fl fh η st = (fa η st).bind fun p => (fl η p.2).bind fun l => (fh η l.2).bind fun h => slD p.1 l.1 h.1 h.2 := rfl
@[simp] theorem fIsi_ev {T : String} : fIsi T fa η st = (fa η st).bind fun p => (isInst T p.1 p.2).map fun b => (.bl b, p.2) := rfl
@[simp] theorem gvName_ev : gvName i d η = some (η.set i (some d)) := rfl
@[simp] theorem gvTup_ev {xs : List D} : gvTup gs (.tup xs) η = gs xs η := rfl
@[simp] theorem gvNil_ev : gvNil [] η = some η := rfl
@[simp] theorem gvCons_ev {r : List D} : gvCons gd gs (d :: r) η = (gd d η).bind fun η1 => gs r η1 := rfl
@[simp] theorem iPlain_ev : iPlain fa η st = (fa η st).bind fun p => (srcOf p.1 p.2).map fun s => (s, p.2) := rfl
@[simp] theorem srcOf_tup {xs : List D} : srcOf (.tup xs) st = some ⟨xs, none⟩ := rfl
@[simp] theorem iRng_ev : iRng fs η st = (fs η st).bind fun p => (rngOf p.1).map fun xs => (⟨xs, none⟩, p.2) := rfl
@[simp] theorem sNil_ev : sNil η st = some (.nx η, st) := rfl
@[simp] theorem sSeq_ev : sSeq f g η st = (f η st).bind fun p => match p.1 with
  | .nx η' => g η' p.2
  | fl => some (fl, p.2) := rfl
@[simp] theorem sAsg_ev : sAsg fe gd η st = (fe η st).bind fun p => (gd p.1 η).map fun η' => (.nx η', p.2) := rfl
@[simp] theorem sPar2_ev : sPar2 i j fs η st = (fs η st).bind fun p => match p.1 with
  | [a, b] => some (.nx ((η.set i (some a)).set j (some b)), p.2)
  | _ => none := rfl
@[simp] theorem sPar3_ev : sPar3 i j l fs η st = (fs η st).bind fun p => match p.1 with
  | [a, b, c] => some (.nx (((η.set i (some a)).set j (some b)).set l (some c)), p.2)
  | _ => none := rfl
@[simp] theorem sSub_ev : sSub fo fi fe η st = (fe η st).bind fun p => (fo η p.2).bind fun q => (fi η q.2).bind fun r => (setI q.1 r.1 p.1 r.2).map fun st' => (.nx η, st') := rfl
@[simp] theorem sAug_ev : sAug i op fe η st = (fVar i η st).bind fun x => (fe η st).bind fun p => (inplc op x.1 p.1).map fun z => (.nx (η.set i (some z)), p.2) := rfl
@[simp] theorem sAugS_ev : sAugS fo fi op fe η st = (fo η st).bind fun p => (fi η p.2).bind fun q => (getI p.1 q.1 q.2).bind fun x => (fe η q.2).bind fun r => (inplc op x r.1).bind fun z =>
  (setI p.1 q.1 z r.2).map fun st' => (.nx η, st') := rfl
@[simp] theorem sRet_ev : sRet fe η st = (fe η st).map fun p => (.rt p.1, p.2) := rfl
@[simp] theorem sRetN_ev : sRetN η st = some (.rt .non, st) := rfl
@[simp] theorem sIf_ev : sIf ft f g η st = (ft η st).bind fun p => if p.1 = true then f η p.2 else g η p.2 := rfl
@[simp] theorem sExpr_ev : sExpr fe η st = (fe η st).map fun p => (.nx η, p.2) := rfl
@[simp] theorem sBrk_ev : sBrk η st = some (.bk η, st) := rfl
@[simp] theorem sCnt_ev : sCnt η st = some (.ct η, st) := rfl
@[simp] theorem sFor_ev {fi : SemI} : sFor fi gd f η st = (fi η st).bind fun p => forGo gd f p.1.gd p.1.xs η p.2 := rfl
@[simp] theorem sWhile_ev : sWhile ft f η st = whGo ft f fuel η st := rfl
@[simp] theorem fLc_ev {fi : SemI} {vs : List Nat} : fLc fi gd ft fe vs η st = (fi η st).bind fun p => (lcGo gd ft fe (wipeD η vs) p.1.gd p.2.length p.1.xs (p.2 ++ [.lst []])).map fun st' => (.ref p.2.length, st') := rfl
@[simp] theorem gYes_ev : gYes η st = some (true, st) := rfl
theorem runB_ev {dd : Def} {ds : List D} (h : ds.length = dd.ps.length) : runB f dd ds st = (f (ds.map some ++ List.replicate (dd.N.length - ds.length) none) st).bind fun p => match p.1 with
    | .rt v => some (v, p.2)
    | .nx _ => some (.non, p.2)
    | _ => none := if_pos h
@[simp] theorem add_int {a b : Int} : binop .Add (.int a) (.int b) st = some (.int (a + b), st) := rfl
@[simp] theorem sub_int {a b : Int} : binop .Sub (.int a) (.int b) st = some (.int (a - b), st) := rfl
theorem mul_int {a b : Int} {m n : Nat} (ha : a.natAbs < 2 ^ m) (hb : b.natAbs < 2 ^ n) (h0 : 0 < m) (h1 : 0 < n) (h : m + n ≤ 1000000) : binop .Mult (.int a) (.int b) st = some (.int (a * b), st) := by
  have h : a.natAbs.log2 + b.natAbs.log2 < 1000000 := L2.wide_mul ha hb h0 h1 h
  show (gMul a b).map _ = _
  unfold gMul
  rw [if_pos h]; rfl
theorem mod_int {a b : Int} (h : 0 < b) : binop .Mod (.int a) (.int b) st = some (.int (a % b), st) := by
  show (gMod a b).map _ = _
  unfold gMod
  rw [if_pos h]; rfl
theorem div_int {a b : Int} {n : Nat} (h : 0 < b) (hb : b.natAbs < 2 ^ n) (h0 : 0 < n) (h9 : n ≤ 9000) : binop .FloorDiv (.int a) (.int b) st = some (.int (a / b), st) := by
  have h2 : 0 < b ∧ b.natAbs.log2 < 9000 := L2.wide_div (i := 0) h hb h0 h9
  show (gDiv a b).map _ = _
  unfold gDiv
  rw [if_pos h2]; rfl
@[simp] theorem lt_int {a b : Int} : cmpop .Lt (.int a) (.int b) st = some (decide (a < b)) := rfl
@[simp] theorem le_int {a b : Int} : cmpop .LtE (.int a) (.int b) st = some (decide (a ≤ b)) := rfl
@[simp] theorem gt_int {a b : Int} : cmpop .Gt (.int a) (.int b) st = some (decide (b < a)) := rfl
@[simp] theorem ge_int {a b : Int} : cmpop .GtE (.int a) (.int b) st = some (decide (b ≤ a)) := rfl
theorem eq_data {x y : D} {d e : PyData} (hx : toP st 40 x = some d) (hy : toP st 40 y = some e) (h1 : SeqAt.shaped d = true) (h2 : SeqAt.shaped e = true) : cmpop .Eq x y st = some (PyData.eqv d e) := by
  have q : eqP x y st = some (PyData.eqv d e) := by
    unfold eqP
    rw [hx, hy]
    show (if (SeqAt.shaped d && SeqAt.shaped e) = true then _ else _) = _
    rw [h1, h2]; rfl
  show eqD x y st = _
  unfold eqD
  cases c : eqSS x y with
  | none => exact q
  | some b =>
    unfold eqSS at c
    split at c
    · cases c
      cases hx; cases hy; rfl
    · cases c
@[simp] theorem eq_str {a b : Str} : cmpop .Eq (.str a) (.str b) st = some (a == b) := rfl
@[simp] theorem ne_str {a b : Str} : cmpop .NotEq (.str a) (.str b) st = some (!(a == b)) := rfl
@[simp] theorem eq_int {a b : Int} : cmpop .Eq (.int a) (.int b) st = some (decide (a = b)) := by
  rw [eq_data (d := .int a) (e := .int b) rfl rfl rfl rfl]
  show some (a == b) = _
  rfl
@[simp] theorem ne_int {a b : Int} : cmpop .NotEq (.int a) (.int b) st = some (!decide (a = b)) := by
  show (cmpop .Eq (.int a) (.int b) st).map _ = _
  rw [eq_int]; rfl
theorem shaped_str {a : Str} (h : a.cps.all (· < 0x110000) = true) : SeqAt.shaped (.str a) = true := by
  show (PyData.strOk a && _) = true
  unfold PyData.strOk
  rw [h]; rfl
@[simp] theorem ix_tup0 {a : D} {r : List D} : ix (.tup (a :: r)) (.int 0) st = some a := by
  refine ix_of ?_
  show L2.atI (a :: r) 0 = some a
  exact L2.atI_nat (j := 0) rfl
@[simp] theorem ix_tup1 {a b : D} {r : List D} : ix (.tup (a :: b :: r)) (.int 1) st = some b := by
  refine ix_of ?_
  show L2.atI (a :: b :: r) 1 = some b
  exact L2.atI_nat (j := 1) rfl
@[simp] theorem ix_tup2 {a b c : D} {r : List D} : ix (.tup (a :: b :: c :: r)) (.int 2) st = some c := by
  refine ix_of ?_
  show L2.atI (a :: b :: c :: r) 2 = some c
  exact L2.atI_nat (j := 2) rfl
@[simp] theorem truth_bl {b : Bool} : truth (.bl b) st = some b := rfl
@[simp] theorem truth_int {i : Int} : truth (.int i) st = some (i != 0) := rfl
@[simp] theorem most_eq : (most : Nat) = 100000 := rfl
end Sim

namespace Sim
open PySem
/-! ### the feed of a law, a list of four -/
def fd (g : Nat) (i c k : Int) : O := .lst [.ref g, .int i, .int c, .int k]
structure FeedAt (st : Sto) (f g : Nat) (ns : List Int) (t : Nat) : Prop where
  ex : ∃ i c k : Int, st[f]? = some (fd g i c k) ∧ st[g]? = some (.lst (ns.map .int)) ∧ 0 ≤ i ∧ 0 ≤ k ∧ k ≤ t
def Keep (f : Nat) (st st' : Sto) : Prop := ∀ (n : Nat) (o : O), n ≠ f → st[n]? = some o → st'[n]? = some o
theorem Keep.refl (f : Nat) (st : Sto) : Keep f st st := fun _ _ _ h => h
theorem Keep.trans {f : Nat} {a b c : Sto} (h : Keep f a b) (k : Keep f b c) : Keep f a c := fun n o e q => k n o e (h n o e q)
theorem Keep.set {f : Nat} {st : Sto} {o : O} : Keep f st (st.set f o) := fun n o' e h => by
  rw [List.getElem?_set_ne (fun q => e q.symm)]; exact h
theorem Keep.app {f : Nat} {st : Sto} {o : O} : Keep f st (st ++ [o]) := fun n o' e h => get_app h
theorem FeedAt.app {st : Sto} {f g : Nat} {ns : List Int} {t : Nat} {o : O} (h : FeedAt st f g ns t) : FeedAt (st ++ [o]) f g ns t := by
  obtain ⟨i, c, k, h1, h2, h3⟩ := h.ex
  exact ⟨i, c, k, get_app h1, get_app h2, h3⟩
theorem FeedAt.set {st : Sto} {f g n : Nat} {ns : List Int} {t : Nat} {o : O} (h : FeedAt st f g ns t) (hf : n ≠ f) (hg : n ≠ g) : FeedAt (st.set n o) f g ns t := by
  obtain ⟨i, c, k, h1, h2, h3⟩ := h.ex
  exact ⟨i, c, k, by rw [List.getElem?_set_ne hf]; exact h1, by rw [List.getElem?_set_ne hg]; exact h2, h3⟩
theorem FeedAt.mono {st : Sto} {f g : Nat} {ns : List Int} {t u : Nat} (h : FeedAt st f g ns t) (k : t ≤ u) : FeedAt st f g ns u := by
  obtain ⟨i, c, k', h1, h2, h3, h4, h5⟩ := h.ex
  exact ⟨i, c, k', h1, h2, h3, h4, by omega⟩
section
variable {st : Sto} {f g : Nat} {i c k : Int}
theorem fd_ix0 (h : st[f]? = some (fd g i c k)) : ix (.ref f) (.int 0) st = some (.ref g) := by
  refine ix_of ?_
  show (items (.ref f) st).bind _ = _
  unfold items; simp only [h, fd]; rfl
theorem fd_ix1 (h : st[f]? = some (fd g i c k)) : ix (.ref f) (.int 1) st = some (.int i) := by
  refine ix_of ?_
  show (items (.ref f) st).bind _ = _
  unfold items; simp only [h, fd]; rfl
theorem fd_ix2 (h : st[f]? = some (fd g i c k)) : ix (.ref f) (.int 2) st = some (.int c) := by
  refine ix_of ?_
  show (items (.ref f) st).bind _ = _
  unfold items; simp only [h, fd]; rfl
theorem fd_ix3 (h : st[f]? = some (fd g i c k)) : ix (.ref f) (.int 3) st = some (.int k) := by
  refine ix_of ?_
  show (items (.ref f) st).bind _ = _
  unfold items; simp only [h, fd]; rfl
theorem fd_get1 (h : st[f]? = some (fd g i c k)) : getI (.ref f) (.int 1) st = some (.int i) := by
  refine get_of ?_
  unfold getL; simp only [h, fd]; rfl
theorem fd_get3 (h : st[f]? = some (fd g i c k)) : getI (.ref f) (.int 3) st = some (.int k) := by
  refine get_of ?_
  unfold getL; simp only [h, fd]; rfl
theorem fd_set1 (h : st[f]? = some (fd g i c k)) {x : Int} : setI (.ref f) (.int 1) (.int x) st = some (st.set f (fd g x c k)) := by
  refine set_of ?_
  unfold setL; simp only [h, fd]; rfl
theorem fd_set2 (h : st[f]? = some (fd g i c k)) {x : Int} : setI (.ref f) (.int 2) (.int x) st = some (st.set f (fd g i x k)) := by
  refine set_of ?_
  unfold setL; simp only [h, fd]; rfl
theorem fd_set3 (h : st[f]? = some (fd g i c k)) {x : Int} : setI (.ref f) (.int 3) (.int x) st = some (st.set f (fd g i c x)) := by
  refine set_of ?_
  unfold setL; simp only [h, fd]; rfl
theorem set_self {o o' : O} (h : st[f]? = some o) : (st.set f o')[f]? = some o' := by
  rw [List.getElem?_set_self]
  exact (List.getElem?_eq_some_iff.mp h).1
theorem mapO_ints {n : Nat} : ∀ ns : List Int, mapO (fun x => toP st (n + 1) x) (ns.map .int) = some (ns.map PyData.int)
  | [] => rfl
  | m :: ns => by
    show (some (PyData.int m)).bind _ = _
    show (mapO _ _).map _ = _
    rw [mapO_ints ns]; rfl
theorem lay_ints : ∀ ns : List Int, PyData.canLayAll0 (ns.map PyData.int) = true
  | [] => rfl
  | m :: ns => by
    show (PyData.canLay0 (.int m) && _) = true
    rw [lay_ints ns]; rfl
theorem dep_ints : ∀ ns : List Int, PyData.depthAll (ns.map PyData.int) = 0
  | [] => rfl
  | m :: ns => by
    show max _ _ = 0
    rw [dep_ints ns]; rfl
theorem shaped_ints (ns : List Int) : SeqAt.shaped (.list (ns.map PyData.int)) = true := by
  show (PyData.canLayAll0 _ && decide (PyData.depthAll _ + 1 ≤ 64)) = true
  rw [lay_ints, dep_ints]; rfl
theorem eq_nil {ns : List Int} (h : st[g]? = some (.lst (ns.map .int))) : cmpop .Eq (.ref g) (.ref st.length) (st ++ [.lst []]) = some ns.isEmpty := by
  rw [eq_data (d := .list (ns.map PyData.int)) (e := .list []) ?_ ?_ (shaped_ints ns) rfl]
  · cases ns <;> rfl
  · unfold toP
    rw [get_app h]
    show (mapO _ _).map _ = _
    rw [mapO_ints]; rfl
  · unfold toP
    rw [List.getElem?_append_right (Nat.le_refl _)]; simp; rfl
theorem len_ref {xs : List D} (h : st[g]? = some (.lst xs)) : bLen [.ref g] st = some (.int xs.length, st) := by
  show (items (.ref g) st).map _ = _
  unfold items; simp only [h]; rfl
theorem ix_ref {xs : List D} {j : Nat} {d : D} (h : st[g]? = some (.lst xs)) (hj : xs[j]? = some d) : ix (.ref g) (.int j) st = some d := by
  refine ix_of ?_
  show (items (.ref g) st).bind _ = _
  unfold items; simp only [h]
  exact L2.atI_nat hj
end
end Sim

namespace Sim
open PySem
noncomputable def drawB : SemS :=
    sSeq (sAugS (fVar 0) (fC (.int 3)) .Add (fC (.int 1)))
    (sSeq (sIf (gCmp .Gt (fIx (fVar 0) (fC (.int 2))) (fC (.int 0)))
      (sSeq (sAsg (fBin .Mod (fIx (fVar 0) (fC (.int 2))) (fVar 1)) (gvName 5))
        (sSeq (sSub (fVar 0) (fC (.int 2)) (fBin .FloorDiv (fIx (fVar 0) (fC (.int 2))) (fVar 1)))
        (sSeq (sRet (fVar 5))
        (sNil))))
      (sNil))
    (sSeq (sAsg (fIf (gCmp .Eq (fIx (fVar 0) (fC (.int 0))) (fLst (fNil))) (fC (.int 7)) (fIx (fIx (fVar 0) (fC (.int 0))) (fBin .Mod (fIx (fVar 0) (fC (.int 1))) (fBlt bLen (fCons (fIx (fVar 0) (fC (.int 0))) (fNil)))))) (gvName 2))
    (sSeq (sAugS (fVar 0) (fC (.int 1)) .Add (fC (.int 1)))
    (sSeq (sIf (gAnd (gCmp .GtE (fVar 2) (fBin .Pow (fC (.int 10)) (fC (.int 18)))) (gCmp .LtE (fIx (fVar 0) (fC (.int 1))) (fBlt bLen (fCons (fIx (fVar 0) (fC (.int 0))) (fNil)))))
      (sSeq (sSub (fVar 0) (fC (.int 2)) (fBin .FloorDiv (fVar 2) (fVar 1)))
        (sSeq (sRet (fBin .Mod (fVar 2) (fVar 1)))
        (sNil)))
      (sNil))
    (sSeq (sAsg (fIx (fVar 0) (fC (.int 3))) (gvName 3))
    (sSeq (sAsg (fBin .Mod (fBin .Add (fBin .Add (fBin .Mod (fVar 2) (fC (.int 2147483629))) (fBin .Mult (fBin .Mult (fC (.int 69621)) (fVar 3)) (fVar 3))) (fBin .Mult (fC (.int 7)) (fVar 3))) (fC (.int 2147483629))) (gvName 4))
    (sSeq (sAsg (fBin .Mod (fBin .Add (fBin .Mult (fVar 4) (fVar 4)) (fBin .Mult (fC (.int 48271)) (fVar 3))) (fC (.int 2147483647))) (gvName 4))
    (sSeq (sAsg (fBin .Mod (fBin .Add (fBin .Mult (fVar 4) (fVar 4)) (fBin .Mult (fC (.int 16807)) (fVar 3))) (fC (.int 2147483587))) (gvName 4))
    (sSeq (sRet (fBin .Mod (fBin .FloorDiv (fBin .Mod (fBin .Add (fBin .Mult (fVar 4) (fVar 4)) (fVar 3)) (fC (.int 2147483629))) (fC (.int 131))) (fVar 1)))
    (sNil))))))))))
/-- multiplication, both below 2^64 -/
theorem mul_small {st : Sto} {a b : Int} (ha : 0 ≤ a) (hb : 0 ≤ b) (h1 : a < 2 ^ 200) (h2 : b < 2 ^ 200) : binop .Mult (.int a) (.int b) st = some (.int (a * b), st) :=
  mul_int (m := 200) (n := 200) (by omega) (by omega) (by decide) (by decide) (by decide)
theorem mulS {a b : Int} {st : Sto} (h : a.natAbs < 2 ^ 300 ∧ b.natAbs < 2 ^ 300) : binop .Mult (.int a) (.int b) st = some (.int (a * b), st) :=
  mul_int (m := 300) (n := 300) h.1 h.2 (by decide) (by decide) (by decide)
theorem div_small {st : Sto} {a b : Int} (hb : 0 < b) (h2 : b < 2 ^ 200) : binop .FloorDiv (.int a) (.int b) st = some (.int (a / b), st) :=
  div_int (n := 200) hb (by omega) (by decide) (by decide)
@[simp] theorem pow_18 {st : Sto} : binop .Pow (.int 10) (.int 18) st = some (.int 1000000000000000000, st) := rfl
theorem em_lt {a m : Int} (h : 0 < m) : 0 ≤ a % m ∧ a % m < m := ⟨Int.emod_nonneg _ (by omega), Int.emod_lt_of_pos _ h⟩

theorem draw_tail {st : Sto} {f g : Nat} {i c k cell m : Int} (hm : 0 < m) (hM : m < 2 ^ 60) (h : st[f]? = some (fd g i c k)) (hk : 0 ≤ k) (hK : k < 2 ^ 60) {x4 x5 : Option D} :
    ∃ r : Int, 0 ≤ r ∧ r < m ∧ (sSeq (sAsg (fIx (fVar 0) (fC (.int 3))) (gvName 3))
    (sSeq (sAsg (fBin .Mod (fBin .Add (fBin .Add (fBin .Mod (fVar 2) (fC (.int 2147483629))) (fBin .Mult (fBin .Mult (fC (.int 69621)) (fVar 3)) (fVar 3))) (fBin .Mult (fC (.int 7)) (fVar 3))) (fC (.int 2147483629))) (gvName 4))
    (sSeq (sAsg (fBin .Mod (fBin .Add (fBin .Mult (fVar 4) (fVar 4)) (fBin .Mult (fC (.int 48271)) (fVar 3))) (fC (.int 2147483647))) (gvName 4))
    (sSeq (sAsg (fBin .Mod (fBin .Add (fBin .Mult (fVar 4) (fVar 4)) (fBin .Mult (fC (.int 16807)) (fVar 3))) (fC (.int 2147483587))) (gvName 4))
    (sSeq (sRet (fBin .Mod (fBin .FloorDiv (fBin .Mod (fBin .Add (fBin .Mult (fVar 4) (fVar 4)) (fVar 3)) (fC (.int 2147483629))) (fC (.int 131))) (fVar 1)))
    (sNil)))))) [some (.ref f), some (.int m), some (.int cell), none, x4, x5] st = some (.rt (.int r), st) := by
  generalize e1 : (cell % 2147483629 + 69621 * k * k + 7 * k) % 2147483629 = u1
  generalize e2 : (u1 * u1 + 48271 * k) % 2147483647 = u2
  generalize e3 : (u2 * u2 + 16807 * k) % 2147483587 = u3
  have b1 := em_lt (a := cell % 2147483629 + 69621 * k * k + 7 * k) (m := 2147483629) (by decide)
  have b2 := em_lt (a := u1 * u1 + 48271 * k) (m := 2147483647) (by decide)
  have b3 := em_lt (a := u2 * u2 + 16807 * k) (m := 2147483587) (by decide)
  rw [e1] at b1; rw [e2] at b2; rw [e3] at b3
  have q1 : ∀ st : Sto, binop .Mult (.int 69621) (.int k) st = some (.int (69621 * k), st) := fun st => mul_small (by omega) hk (by omega) (by omega)
  have q2 : ∀ st : Sto, binop .Mult (.int (69621 * k)) (.int k) st = some (.int (69621 * k * k), st) := fun st => mul_small (by omega) hk (by omega) (by omega)
  have q3 : ∀ st : Sto, binop .Mult (.int 7) (.int k) st = some (.int (7 * k), st) := fun st => mul_small (by omega) hk (by omega) (by omega)
  have q4 : ∀ st : Sto, binop .Mult (.int 48271) (.int k) st = some (.int (48271 * k), st) := fun st => mul_small (by omega) hk (by omega) (by omega)
  have q5 : ∀ st : Sto, binop .Mult (.int 16807) (.int k) st = some (.int (16807 * k), st) := fun st => mul_small (by omega) hk (by omega) (by omega)
  have q6 : ∀ st : Sto, binop .Mult (.int u1) (.int u1) st = some (.int (u1 * u1), st) := fun st => mul_small (by omega) (by omega) (by omega) (by omega)
  have q7 : ∀ st : Sto, binop .Mult (.int u2) (.int u2) st = some (.int (u2 * u2), st) := fun st => mul_small (by omega) (by omega) (by omega) (by omega)
  have q8 : ∀ st : Sto, binop .Mult (.int u3) (.int u3) st = some (.int (u3 * u3), st) := fun st => mul_small (by omega) (by omega) (by omega) (by omega)
  have m1 : ∀ (a : Int) (st : Sto), binop .Mod (.int a) (.int 2147483629) st = some (.int (a % 2147483629), st) := fun a st => mod_int (by decide)
  have m2 : ∀ (a : Int) (st : Sto), binop .Mod (.int a) (.int 2147483647) st = some (.int (a % 2147483647), st) := fun a st => mod_int (by decide)
  have m3 : ∀ (a : Int) (st : Sto), binop .Mod (.int a) (.int 2147483587) st = some (.int (a % 2147483587), st) := fun a st => mod_int (by decide)
  have m4 : ∀ (a : Int) (st : Sto), binop .Mod (.int a) (.int m) st = some (.int (a % m), st) := fun a st => mod_int hm
  have d1 : ∀ (a : Int) (st : Sto), binop .FloorDiv (.int a) (.int 131) st = some (.int (a / 131), st) := fun a st => div_small (by decide) (by decide)
  refine ⟨(u3 * u3 + k) % 2147483629 / 131 % m, (em_lt hm).1, (em_lt hm).2, ?_⟩
  simp [fd_ix3 h, q1, q2, q3, q4, q5, q6, q7, q8, m1, m2, m3, m4, d1, e1, e2, e3]
theorem draw_run {st : Sto} {f g : Nat} {ns : List Int} {t : Nat} {dd : Def} (h : FeedAt st f g ns t) (hfg : f ≠ g) {m : Int} (hm : 0 < m) (hM : m < 2 ^ 60) (ht : t + 1 < 2 ^ 60) (hp : dd.ps.length = 2) (hN : dd.N.length = 6) :
    ∃ (r : Int) (st' : Sto), runB drawB dd [.ref f, .int m] st = some (.int r, st') ∧ 0 ≤ r ∧ r < m ∧ FeedAt st' f g ns (t + 1) ∧ Keep f st st' := by
  obtain ⟨i, c, k, h1, h2, hi, hk, hkt⟩ := h.ex
  rw [runB_ev (by rw [hp]; rfl)]
  rw [hN]
  show ∃ (r : Int) (st' : Sto), (Option.bind (drawB [some (.ref f), some (.int m), none, none, none, none] st) _) = _ ∧ _
  have K1 : Keep f st (st.set f (fd g i c (k + 1))) := Keep.set
  have s1 : (st.set f (fd g i c (k + 1)))[f]? = some (fd g i c (k + 1)) := set_self h1
  have s2 : (st.set f (fd g i c (k + 1)))[g]? = some (.lst (ns.map .int)) := K1 _ _ (Ne.symm hfg) h2
  have a1 := fd_get3 h1
  have a2 := fd_set3 h1 (x := k + 1)
  generalize st.set f (fd g i c (k + 1)) = sa at *
  have m4 : ∀ (a : Int) (st : Sto), binop .Mod (.int a) (.int m) st = some (.int (a % m), st) := fun a st => mod_int hm
  have d4 : ∀ (a : Int) (st : Sto), binop .FloorDiv (.int a) (.int m) st = some (.int (a / m), st) := fun a st => div_small hm (by omega)
  unfold drawB
  by_cases hc : 0 < c
  · refine ⟨c % m, sa.set f (fd g i (c / m) (k + 1)), ?_, (em_lt hm).1, (em_lt hm).2, ⟨i, c / m, k + 1, set_self s1, by rw [List.getElem?_set_ne hfg]; exact s2, hi, by omega, by omega⟩, K1.trans Keep.set⟩
    simp [a1, a2, inplc, fd_ix2 s1, hc, m4, d4, fd_set2 s1]
  have K2 : Keep f st (sa ++ [O.lst []]) := K1.trans Keep.app
  have t1 : (sa ++ [O.lst []])[f]? = some (fd g i c (k + 1)) := get_app s1
  have t2 : (sa ++ [O.lst []])[g]? = some (.lst (ns.map .int)) := get_app s2
  have en := eq_nil s2
  -- the cell
  have cell : ∃ x : Int, (fIf (gCmp .Eq (fIx (fVar 0) (fC (.int 0))) (fLst (fNil))) (fC (.int 7)) (fIx (fIx (fVar 0) (fC (.int 0))) (fBin .Mod (fIx (fVar 0) (fC (.int 1))) (fBlt bLen (fCons (fIx (fVar 0) (fC (.int 0))) (fNil)))))) [some (.ref f), some (.int m), none, none, none, none] sa = some (.int x, sa ++ [O.lst []]) := by
    cases ns with
    | nil =>
      refine ⟨7, ?_⟩
      simp [fd_ix0 s1, alloc] at en ⊢
      simp [en]
    | cons n r =>
      have hl : 0 < (((n :: r).length : Nat) : Int) := by simp only [List.length_cons]; omega
      have q1 := em_lt (a := i) hl
      have q2 : (i % (((n :: r).length : Nat) : Int)).toNat < (n :: r).length := by omega
      obtain ⟨x, hx⟩ : ∃ x, (n :: r)[(i % (((n :: r).length : Nat) : Int)).toNat]? = some x := ⟨_, List.getElem?_eq_getElem q2⟩
      refine ⟨x, ?_⟩
      have q3 : ((n :: r).map D.int)[(i % (((n :: r).length : Nat) : Int)).toNat]? = some (.int x) := by rw [List.getElem?_map, hx]; rfl
      have q4 := ix_ref t2 q3
      rw [Int.toNat_of_nonneg q1.1] at q4
      have q5 : bLen [.ref g] (sa ++ [O.lst []]) = some (.int (((n :: r).length : Nat) : Int), sa ++ [O.lst []]) := by
        have := len_ref t2
        rwa [List.length_map] at this
      have q6 : binop .Mod (.int i) (.int (((n :: r).length : Nat) : Int)) (sa ++ [O.lst []]) = some (.int (i % (((n :: r).length : Nat) : Int)), sa ++ [O.lst []]) := mod_int hl
      generalize (((n :: r).length : Nat) : Int) = L at *
      simp only [fIf_ev, gCmp_ev, fIx_ev, fVar_ev, fC_ev, fLst_ev, fNil_ev, fBin_ev, fBlt_ev, fCons_ev, List.getElem?_cons_zero, Option.bind_some, Option.map_some, fd_ix0 s1, fd_ix0 t1, fd_ix1 t1, alloc, List.length_nil, Nat.zero_le, if_true, en, q4, q5, q6, List.isEmpty_cons, Bool.false_eq_true, if_false]
  generalize (fIf (gCmp .Eq (fIx (fVar 0) (fC (.int 0))) (fLst (fNil))) (fC (.int 7)) (fIx (fIx (fVar 0) (fC (.int 0))) (fBin .Mod (fIx (fVar 0) (fC (.int 1))) (fBlt bLen (fCons (fIx (fVar 0) (fC (.int 0))) (fNil)))))) = E at cell ⊢
  obtain ⟨x, hx⟩ := cell
  have K3 : Keep f st ((sa ++ [O.lst []]).set f (fd g (i + 1) c (k + 1))) := K2.trans Keep.set
  have u1 : ((sa ++ [O.lst []]).set f (fd g (i + 1) c (k + 1)))[f]? = some (fd g (i + 1) c (k + 1)) := set_self t1
  have u2 : ((sa ++ [O.lst []]).set f (fd g (i + 1) c (k + 1)))[g]? = some (.lst (ns.map .int)) := K3 _ _ (Ne.symm hfg) h2
  have a3 := fd_get1 t1
  have a4 := fd_set1 t1 (x := i + 1)
  have q5 := len_ref u2
  generalize (sa ++ [O.lst []]).set f (fd g (i + 1) c (k + 1)) = sb at *
  by_cases hb : 1000000000000000000 ≤ x ∧ i + 1 ≤ (((ns.map D.int).length : Nat) : Int)
  · refine ⟨x % m, sb.set f (fd g (i + 1) (x / m) (k + 1)), ?_, (em_lt hm).1, (em_lt hm).2, ⟨i + 1, x / m, k + 1, set_self u1, by rw [List.getElem?_set_ne hfg]; exact u2, by omega, by omega, by omega⟩, K3.trans Keep.set⟩
    obtain ⟨hb1, hb2⟩ := hb
    generalize (((ns.map D.int).length : Nat) : Int) = L at *
    simp [a1, a2, a3, a4, inplc, fd_ix2 s1, hc, hx, m4, d4, fd_ix0 u1, fd_ix1 u1, fd_set2 u1, q5, hb1, hb2]
  · obtain ⟨r, r0, r1, hr⟩ := draw_tail (cell := x) hm hM u1 (by omega) (by omega) (x4 := none) (x5 := none)
    refine ⟨r, sb, ?_, r0, r1, ⟨i + 1, c, k + 1, u1, u2, by omega, by omega, by omega⟩, K3⟩
    generalize hT : (sSeq (sAsg (fIx (fVar 0) (fC (.int 3))) (gvName 3)) _) = T at hr ⊢
    generalize (((ns.map D.int).length : Nat) : Int) = L at *
    by_cases hb1 : 1000000000000000000 ≤ x
    · have hb2 : ¬ (i + 1 ≤ L) := fun q => hb ⟨hb1, q⟩
      simp [a1, a2, a3, a4, inplc, fd_ix2 s1, hc, hx, fd_ix0 u1, fd_ix1 u1, q5, hb1, hb2, hr]
    · simp [a1, a2, a3, a4, inplc, fd_ix2 s1, hc, hx, fd_ix0 u1, fd_ix1 u1, q5, hb1, hr]
end Sim

namespace K03
open PySem L2 Sim
abbrev topS (i : Nat) : Stmt := PySem.Challenge.pw_twicecalls_k03_whole_fractions.main.body.getD i (.Pass ⟨0, 0, 0, 0⟩)
def d_is_number : Def := ⟨"is_number", topS 2, ["thing"], ["thing"]⟩
def d_is_row : Def := ⟨"is_row", topS 3, ["thing", "many"], ["thing", "many"]⟩
def d_is_fraction : Def := ⟨"is_fraction", topS 5, ["thing", "over", "under"], ["thing"]⟩
def d_fraction_of : Def := ⟨"fraction_of", topS 6, ["over", "under", "both"], ["over", "under"]⟩
def d_plus : Def := ⟨"plus", topS 7, ["one", "other"], ["one", "other"]⟩
def d_times : Def := ⟨"times", topS 8, ["one", "other"], ["one", "other"]⟩
def d_minus : Def := ⟨"minus", topS 9, ["one", "other", "over"], ["one", "other"]⟩
def d_is_less : Def := ⟨"is_less", topS 10, ["one", "other"], ["one", "other"]⟩
def d_lesser : Def := ⟨"lesser", topS 11, ["one", "other"], ["one", "other"]⟩
def d_total_of : Def := ⟨"total_of", topS 12, ["fractions", "total", "fraction"], ["fractions"]⟩
def d__law_feed : Def := ⟨"_law_feed", topS 14, ["_law_script"], ["_law_script"]⟩
def d__law_draw : Def := ⟨"_law_draw", topS 15, ["_law_feed_here", "_law_many", "_law_cell", "_law_turn", "_law_mixed", "_law_told"], ["_law_feed_here", "_law_many"]⟩
def d__law_least : Def := ⟨"_law_least", topS 16, ["_law_upper", "_law_under", "_law_by"], ["_law_upper", "_law_under"]⟩
def d__law_fraction : Def := ⟨"_law_fraction", topS 17, ["_law_feed_here", "_law_way", "_law_upper", "_law_under"], ["_law_feed_here"]⟩
def d__law_two_right : Def := ⟨"_law_two_right", topS 18, ["_law_one", "_law_other", "_law_told", "_law_found", "_law_more", "_law_least_here"], ["_law_one", "_law_other"]⟩
def d__law_three_right : Def := ⟨"_law_three_right", topS 19, ["_law_a", "_law_b", "_law_c"], ["_law_a", "_law_b", "_law_c"]⟩
def d__law_near_right : Def := ⟨"_law_near_right", topS 20, ["_law_tiny", "_law_k", "_law_part", "_law_one", "_law_other"], []⟩
def d_law : Def := ⟨"law", topS 21, ["_law_script", "_law_feed_here", "_law_some", "_law_i", "_law_at", "_law_j", "_law_third", "_law_k"], ["_law_script"]⟩
def pg : Pg := ⟨[d_is_number, d_is_row, d_is_fraction, d_fraction_of, d_plus, d_times, d_minus, d_is_less, d_lesser, d_total_of, d__law_feed, d__law_draw, d__law_least, d__law_fraction, d__law_two_right, d__law_three_right, d__law_near_right, d_law], ["bool", "int", "isinstance", "len", "min", "range", "sorted", "tuple"], ["gcd"]⟩
noncomputable def b_is_number (cf : CallF) : SemS :=
    sSeq (sRet (fAndV (fIsi "int" (fVar 0)) (fAndV (fNotV (fIsi "bool" (fVar 0))) (fCmp .GtE (fVar 0) (fC (.int 0))))))
    (sNil)
theorem c_is_number (cf : CallF) : compB (compS cf 60 (pg.sx d_is_number) 30) (defBody d_is_number.st) = some (b_is_number cf) := by kernel_rfl
theorem r_is_number (n : Nat) (ds : List D) (st : Sto) : callN pg (n + 1) "is_number" ds st = runB (b_is_number (callN pg n)) d_is_number ds st := callN_of (d := d_is_number) rfl (c_is_number _)
noncomputable def b_is_row (cf : CallF) : SemS :=
    sSeq (sRet (fAndV (fIsi "tuple" (fVar 0)) (fCmp .Eq (fBlt bLen (fCons (fVar 0) (fNil))) (fVar 1))))
    (sNil)
theorem c_is_row (cf : CallF) : compB (compS cf 60 (pg.sx d_is_row) 30) (defBody d_is_row.st) = some (b_is_row cf) := by kernel_rfl
theorem r_is_row (n : Nat) (ds : List D) (st : Sto) : callN pg (n + 1) "is_row" ds st = runB (b_is_row (callN pg n)) d_is_row ds st := callN_of (d := d_is_row) rfl (c_is_row _)
noncomputable def b_is_fraction (cf : CallF) : SemS :=
    sSeq (sIf (gNot (gTru (fCall cf "is_row" (fCons (fVar 0) (fCons (fC (.int 2)) (fNil))))))
      (sSeq (sRet (fC (.bl false)))
        (sNil))
      (sNil))
    (sSeq (sAsg (fVar 0) (gvTup (gvCons (gvName 1) (gvCons (gvName 2) (gvNil)))))
    (sSeq (sRet (fAndV (fCall cf "is_number" (fCons (fVar 1) (fNil))) (fAndV (fCall cf "is_number" (fCons (fVar 2) (fNil))) (fAndV (fCmp .Gt (fVar 2) (fC (.int 0))) (fCmp .Eq (fBlt bGcd (fCons (fVar 1) (fCons (fVar 2) (fNil)))) (fC (.int 1)))))))
    (sNil)))
theorem c_is_fraction (cf : CallF) : compB (compS cf 60 (pg.sx d_is_fraction) 30) (defBody d_is_fraction.st) = some (b_is_fraction cf) := by kernel_rfl
theorem r_is_fraction (n : Nat) (ds : List D) (st : Sto) : callN pg (n + 1) "is_fraction" ds st = runB (b_is_fraction (callN pg n)) d_is_fraction ds st := callN_of (d := d_is_fraction) rfl (c_is_fraction _)
noncomputable def b_fraction_of (cf : CallF) : SemS :=
    sSeq (sAsg (fBlt bGcd (fCons (fVar 0) (fCons (fVar 1) (fNil)))) (gvName 2))
    (sSeq (sRet (fTup (fCons (fBin .FloorDiv (fVar 0) (fVar 2)) (fCons (fBin .FloorDiv (fVar 1) (fVar 2)) (fNil)))))
    (sNil))
theorem c_fraction_of (cf : CallF) : compB (compS cf 60 (pg.sx d_fraction_of) 30) (defBody d_fraction_of.st) = some (b_fraction_of cf) := by kernel_rfl
theorem r_fraction_of (n : Nat) (ds : List D) (st : Sto) : callN pg (n + 1) "fraction_of" ds st = runB (b_fraction_of (callN pg n)) d_fraction_of ds st := callN_of (d := d_fraction_of) rfl (c_fraction_of _)
noncomputable def b_plus (cf : CallF) : SemS :=
    sSeq (sRet (fCall cf "fraction_of" (fCons (fBin .Add (fBin .Mult (fIx (fVar 0) (fC (.int 0))) (fIx (fVar 1) (fC (.int 1)))) (fBin .Mult (fIx (fVar 1) (fC (.int 0))) (fIx (fVar 0) (fC (.int 1))))) (fCons (fBin .Mult (fIx (fVar 0) (fC (.int 1))) (fIx (fVar 1) (fC (.int 1)))) (fNil)))))
    (sNil)
theorem c_plus (cf : CallF) : compB (compS cf 60 (pg.sx d_plus) 30) (defBody d_plus.st) = some (b_plus cf) := by kernel_rfl
theorem r_plus (n : Nat) (ds : List D) (st : Sto) : callN pg (n + 1) "plus" ds st = runB (b_plus (callN pg n)) d_plus ds st := callN_of (d := d_plus) rfl (c_plus _)
noncomputable def b_times (cf : CallF) : SemS :=
    sSeq (sRet (fCall cf "fraction_of" (fCons (fBin .Mult (fIx (fVar 0) (fC (.int 0))) (fIx (fVar 1) (fC (.int 0)))) (fCons (fBin .Mult (fIx (fVar 0) (fC (.int 1))) (fIx (fVar 1) (fC (.int 1)))) (fNil)))))
    (sNil)
theorem c_times (cf : CallF) : compB (compS cf 60 (pg.sx d_times) 30) (defBody d_times.st) = some (b_times cf) := by kernel_rfl
theorem r_times (n : Nat) (ds : List D) (st : Sto) : callN pg (n + 1) "times" ds st = runB (b_times (callN pg n)) d_times ds st := callN_of (d := d_times) rfl (c_times _)
noncomputable def b_minus (cf : CallF) : SemS :=
    sSeq (sAsg (fBin .Sub (fBin .Mult (fIx (fVar 0) (fC (.int 0))) (fIx (fVar 1) (fC (.int 1)))) (fBin .Mult (fIx (fVar 1) (fC (.int 0))) (fIx (fVar 0) (fC (.int 1))))) (gvName 2))
    (sSeq (sIf (gCmp .Lt (fVar 2) (fC (.int 0)))
      (sSeq (sRet (fC .non))
        (sNil))
      (sNil))
    (sSeq (sRet (fCall cf "fraction_of" (fCons (fVar 2) (fCons (fBin .Mult (fIx (fVar 0) (fC (.int 1))) (fIx (fVar 1) (fC (.int 1)))) (fNil)))))
    (sNil)))
theorem c_minus (cf : CallF) : compB (compS cf 60 (pg.sx d_minus) 30) (defBody d_minus.st) = some (b_minus cf) := by kernel_rfl
theorem r_minus (n : Nat) (ds : List D) (st : Sto) : callN pg (n + 1) "minus" ds st = runB (b_minus (callN pg n)) d_minus ds st := callN_of (d := d_minus) rfl (c_minus _)
noncomputable def b_is_less (cf : CallF) : SemS :=
    sSeq (sRet (fCmp .Lt (fBin .Mult (fIx (fVar 0) (fC (.int 0))) (fIx (fVar 1) (fC (.int 1)))) (fBin .Mult (fIx (fVar 1) (fC (.int 0))) (fIx (fVar 0) (fC (.int 1))))))
    (sNil)
theorem c_is_less (cf : CallF) : compB (compS cf 60 (pg.sx d_is_less) 30) (defBody d_is_less.st) = some (b_is_less cf) := by kernel_rfl
theorem r_is_less (n : Nat) (ds : List D) (st : Sto) : callN pg (n + 1) "is_less" ds st = runB (b_is_less (callN pg n)) d_is_less ds st := callN_of (d := d_is_less) rfl (c_is_less _)
noncomputable def b_lesser (cf : CallF) : SemS :=
    sSeq (sRet (fIf (gTru (fCall cf "is_less" (fCons (fVar 1) (fCons (fVar 0) (fNil))))) (fVar 1) (fVar 0)))
    (sNil)
theorem c_lesser (cf : CallF) : compB (compS cf 60 (pg.sx d_lesser) 30) (defBody d_lesser.st) = some (b_lesser cf) := by kernel_rfl
theorem r_lesser (n : Nat) (ds : List D) (st : Sto) : callN pg (n + 1) "lesser" ds st = runB (b_lesser (callN pg n)) d_lesser ds st := callN_of (d := d_lesser) rfl (c_lesser _)
noncomputable def b_total_of (cf : CallF) : SemS :=
    sSeq (sAsg (fTup (fCons (fC (.int 0)) (fCons (fC (.int 1)) (fNil)))) (gvName 1))
    (sSeq (sFor (iPlain (fVar 0)) (gvName 2)
      (sSeq (sAsg (fCall cf "plus" (fCons (fVar 1) (fCons (fVar 2) (fNil)))) (gvName 1))
        (sNil)))
    (sSeq (sRet (fVar 1))
    (sNil)))
theorem c_total_of (cf : CallF) : compB (compS cf 60 (pg.sx d_total_of) 30) (defBody d_total_of.st) = some (b_total_of cf) := by kernel_rfl
theorem r_total_of (n : Nat) (ds : List D) (st : Sto) : callN pg (n + 1) "total_of" ds st = runB (b_total_of (callN pg n)) d_total_of ds st := callN_of (d := d_total_of) rfl (c_total_of _)
noncomputable def b__law_feed (cf : CallF) : SemS :=
    sSeq (sRet (fLst (fCons (fSl (fVar 0) (oNone) (oSome (fC (.int 63)))) (fCons (fC (.int 0)) (fCons (fC (.int 0)) (fCons (fC (.int 0)) (fNil)))))))
    (sNil)
theorem c__law_feed (cf : CallF) : compB (compS cf 60 (pg.sx d__law_feed) 30) (defBody d__law_feed.st) = some (b__law_feed cf) := by kernel_rfl
theorem r__law_feed (n : Nat) (ds : List D) (st : Sto) : callN pg (n + 1) "_law_feed" ds st = runB (b__law_feed (callN pg n)) d__law_feed ds st := callN_of (d := d__law_feed) rfl (c__law_feed _)
noncomputable def b__law_draw (cf : CallF) : SemS :=
    sSeq (sAugS (fVar 0) (fC (.int 3)) .Add (fC (.int 1)))
    (sSeq (sIf (gCmp .Gt (fIx (fVar 0) (fC (.int 2))) (fC (.int 0)))
      (sSeq (sAsg (fBin .Mod (fIx (fVar 0) (fC (.int 2))) (fVar 1)) (gvName 5))
        (sSeq (sSub (fVar 0) (fC (.int 2)) (fBin .FloorDiv (fIx (fVar 0) (fC (.int 2))) (fVar 1)))
        (sSeq (sRet (fVar 5))
        (sNil))))
      (sNil))
    (sSeq (sAsg (fIf (gCmp .Eq (fIx (fVar 0) (fC (.int 0))) (fLst (fNil))) (fC (.int 7)) (fIx (fIx (fVar 0) (fC (.int 0))) (fBin .Mod (fIx (fVar 0) (fC (.int 1))) (fBlt bLen (fCons (fIx (fVar 0) (fC (.int 0))) (fNil)))))) (gvName 2))
    (sSeq (sAugS (fVar 0) (fC (.int 1)) .Add (fC (.int 1)))
    (sSeq (sIf (gAnd (gCmp .GtE (fVar 2) (fBin .Pow (fC (.int 10)) (fC (.int 18)))) (gCmp .LtE (fIx (fVar 0) (fC (.int 1))) (fBlt bLen (fCons (fIx (fVar 0) (fC (.int 0))) (fNil)))))
      (sSeq (sSub (fVar 0) (fC (.int 2)) (fBin .FloorDiv (fVar 2) (fVar 1)))
        (sSeq (sRet (fBin .Mod (fVar 2) (fVar 1)))
        (sNil)))
      (sNil))
    (sSeq (sAsg (fIx (fVar 0) (fC (.int 3))) (gvName 3))
    (sSeq (sAsg (fBin .Mod (fBin .Add (fBin .Add (fBin .Mod (fVar 2) (fC (.int 2147483629))) (fBin .Mult (fBin .Mult (fC (.int 69621)) (fVar 3)) (fVar 3))) (fBin .Mult (fC (.int 7)) (fVar 3))) (fC (.int 2147483629))) (gvName 4))
    (sSeq (sAsg (fBin .Mod (fBin .Add (fBin .Mult (fVar 4) (fVar 4)) (fBin .Mult (fC (.int 48271)) (fVar 3))) (fC (.int 2147483647))) (gvName 4))
    (sSeq (sAsg (fBin .Mod (fBin .Add (fBin .Mult (fVar 4) (fVar 4)) (fBin .Mult (fC (.int 16807)) (fVar 3))) (fC (.int 2147483587))) (gvName 4))
    (sSeq (sRet (fBin .Mod (fBin .FloorDiv (fBin .Mod (fBin .Add (fBin .Mult (fVar 4) (fVar 4)) (fVar 3)) (fC (.int 2147483629))) (fC (.int 131))) (fVar 1)))
    (sNil))))))))))
theorem c__law_draw (cf : CallF) : compB (compS cf 60 (pg.sx d__law_draw) 30) (defBody d__law_draw.st) = some (b__law_draw cf) := by kernel_rfl
theorem r__law_draw (n : Nat) (ds : List D) (st : Sto) : callN pg (n + 1) "_law_draw" ds st = runB (b__law_draw (callN pg n)) d__law_draw ds st := callN_of (d := d__law_draw) rfl (c__law_draw _)
noncomputable def b__law_least (cf : CallF) : SemS :=
    sSeq (sFor (iRng (fCons (fIf (gCmp .Gt (fVar 0) (fC (.int 0))) (fBlt bMin (fCons (fVar 0) (fCons (fVar 1) (fNil)))) (fVar 1)) (fCons (fC (.int 1)) (fCons (fNeg (fC (.int 1))) (fNil))))) (gvName 2)
      (sSeq (sIf (gAnd (gCmp .Eq (fBin .Mod (fVar 0) (fVar 2)) (fC (.int 0))) (gCmp .Eq (fBin .Mod (fVar 1) (fVar 2)) (fC (.int 0))))
          (sSeq (sRet (fTup (fCons (fBin .FloorDiv (fVar 0) (fVar 2)) (fCons (fBin .FloorDiv (fVar 1) (fVar 2)) (fNil)))))
            (sNil))
          (sNil))
        (sNil)))
    (sSeq (sRet (fTup (fCons (fVar 0) (fCons (fVar 1) (fNil)))))
    (sNil))
theorem c__law_least (cf : CallF) : compB (compS cf 60 (pg.sx d__law_least) 30) (defBody d__law_least.st) = some (b__law_least cf) := by kernel_rfl
theorem r__law_least (n : Nat) (ds : List D) (st : Sto) : callN pg (n + 1) "_law_least" ds st = runB (b__law_least (callN pg n)) d__law_least ds st := callN_of (d := d__law_least) rfl (c__law_least _)
noncomputable def b__law_fraction (cf : CallF) : SemS :=
    sSeq (sAsg (fCall cf "_law_draw" (fCons (fVar 0) (fCons (fC (.int 4)) (fNil)))) (gvName 1))
    (sSeq (sPar2 2 3 (fCons (fCall cf "_law_draw" (fCons (fVar 0) (fCons (fIx (fTup (fCons (fC (.int 3)) (fCons (fC (.int 13)) (fCons (fC (.int 101)) (fNil))))) (fBin .Mod (fVar 1) (fC (.int 3)))) (fNil)))) (fCons (fBin .Add (fC (.int 1)) (fCall cf "_law_draw" (fCons (fVar 0) (fCons (fIx (fTup (fCons (fC (.int 2)) (fCons (fC (.int 12)) (fCons (fC (.int 100)) (fNil))))) (fBin .Mod (fVar 1) (fC (.int 3)))) (fNil))))) (fNil))))
    (sSeq (sRet (fCall cf "_law_least" (fCons (fVar 2) (fCons (fVar 3) (fNil)))))
    (sNil)))
theorem c__law_fraction (cf : CallF) : compB (compS cf 60 (pg.sx d__law_fraction) 30) (defBody d__law_fraction.st) = some (b__law_fraction cf) := by kernel_rfl
theorem r__law_fraction (n : Nat) (ds : List D) (st : Sto) : callN pg (n + 1) "_law_fraction" ds st = runB (b__law_fraction (callN pg n)) d__law_fraction ds st := callN_of (d := d__law_fraction) rfl (c__law_fraction _)
noncomputable def b__law_two_right (cf : CallF) : SemS :=
    sSeq (sAsg (fLst (fCons (fCall cf "is_less" (fCons (fVar 0) (fCons (fVar 1) (fNil)))) (fCons (fCmp .Eq (fVar 0) (fVar 1)) (fCons (fCall cf "is_less" (fCons (fVar 1) (fCons (fVar 0) (fNil)))) (fNil))))) (gvName 2))
    (sSeq (sIf (gCmp .NotEq (fBlt bSorted (fCons (fVar 2) (fNil))) (fLst (fCons (fC (.bl false)) (fCons (fC (.bl false)) (fCons (fC (.bl true)) (fNil))))))
      (sSeq (sRet (fC (.bl false)))
        (sNil))
      (sNil))
    (sSeq (sFor (iPlain (fTup (fCons (fCall cf "plus" (fCons (fVar 0) (fCons (fVar 1) (fNil)))) (fCons (fCall cf "times" (fCons (fVar 0) (fCons (fVar 1) (fNil)))) (fCons (fCall cf "lesser" (fCons (fVar 0) (fCons (fVar 1) (fNil)))) (fNil)))))) (gvName 3)
      (sSeq (sIf (gCmp .IsNot (fCall cf "is_fraction" (fCons (fVar 3) (fNil))) (fC (.bl true)))
          (sSeq (sRet (fC (.bl false)))
            (sNil))
          (sNil))
        (sNil)))
    (sSeq (sIf (gOr (gCmp .NotEq (fCall cf "plus" (fCons (fVar 0) (fCons (fVar 1) (fNil)))) (fCall cf "plus" (fCons (fVar 1) (fCons (fVar 0) (fNil))))) (gCmp .NotEq (fCall cf "times" (fCons (fVar 0) (fCons (fVar 1) (fNil)))) (fCall cf "times" (fCons (fVar 1) (fCons (fVar 0) (fNil))))))
      (sSeq (sRet (fC (.bl false)))
        (sNil))
      (sNil))
    (sSeq (sPar2 4 5 (fCons (fCall cf "minus" (fCons (fVar 0) (fCons (fVar 1) (fNil)))) (fCons (fCall cf "lesser" (fCons (fVar 0) (fCons (fVar 1) (fNil)))) (fNil))))
    (sSeq (sIf (gOr (gCmp .NotEq (fCmp .Is (fVar 4) (fC .non)) (fIx (fVar 2) (fC (.int 0)))) (gAnd (gCmp .IsNot (fVar 4) (fC .non)) (gOr (gCmp .IsNot (fCall cf "is_fraction" (fCons (fVar 4) (fNil))) (fC (.bl true))) (gCmp .NotEq (fCall cf "plus" (fCons (fVar 4) (fCons (fVar 1) (fNil)))) (fVar 0)))))
      (sSeq (sRet (fC (.bl false)))
        (sNil))
      (sNil))
    (sSeq (sIf (gOr (gCmp .NotEq (fCall cf "minus" (fCons (fCall cf "plus" (fCons (fVar 0) (fCons (fVar 1) (fNil)))) (fCons (fVar 1) (fNil)))) (fVar 0)) (gCmp .NotIn (fVar 5) (fTup (fCons (fVar 0) (fCons (fVar 1) (fNil))))))
      (sSeq (sRet (fC (.bl false)))
        (sNil))
      (sNil))
    (sSeq (sIf (gOr (gTru (fCall cf "is_less" (fCons (fVar 0) (fCons (fVar 5) (fNil))))) (gTru (fCall cf "is_less" (fCons (fVar 1) (fCons (fVar 5) (fNil))))))
      (sSeq (sRet (fC (.bl false)))
        (sNil))
      (sNil))
    (sSeq (sIf (gOr (gCmp .NotEq (fCall cf "plus" (fCons (fVar 0) (fCons (fTup (fCons (fC (.int 0)) (fCons (fC (.int 1)) (fNil)))) (fNil)))) (fVar 0)) (gCmp .NotEq (fCall cf "times" (fCons (fVar 0) (fCons (fTup (fCons (fC (.int 1)) (fCons (fC (.int 1)) (fNil)))) (fNil)))) (fVar 0)))
      (sSeq (sRet (fC (.bl false)))
        (sNil))
      (sNil))
    (sSeq (sIf (gOr (gCmp .NotEq (fCall cf "times" (fCons (fVar 0) (fCons (fTup (fCons (fC (.int 0)) (fCons (fC (.int 1)) (fNil)))) (fNil)))) (fTup (fCons (fC (.int 0)) (fCons (fC (.int 1)) (fNil))))) (gCmp .NotEq (fCall cf "minus" (fCons (fVar 0) (fCons (fVar 0) (fNil)))) (fTup (fCons (fC (.int 0)) (fCons (fC (.int 1)) (fNil))))))
      (sSeq (sRet (fC (.bl false)))
        (sNil))
      (sNil))
    (sSeq (sRet (fOrV (fCmp .Eq (fIx (fVar 0) (fC (.int 0))) (fC (.int 0))) (fCmp .Eq (fCall cf "times" (fCons (fVar 0) (fCons (fCall cf "fraction_of" (fCons (fIx (fVar 0) (fC (.int 1))) (fCons (fIx (fVar 0) (fC (.int 0))) (fNil)))) (fNil)))) (fTup (fCons (fC (.int 1)) (fCons (fC (.int 1)) (fNil)))))))
    (sNil)))))))))))
theorem c__law_two_right (cf : CallF) : compB (compS cf 60 (pg.sx d__law_two_right) 30) (defBody d__law_two_right.st) = some (b__law_two_right cf) := by kernel_rfl
theorem r__law_two_right (n : Nat) (ds : List D) (st : Sto) : callN pg (n + 1) "_law_two_right" ds st = runB (b__law_two_right (callN pg n)) d__law_two_right ds st := callN_of (d := d__law_two_right) rfl (c__law_two_right _)
noncomputable def b__law_three_right (cf : CallF) : SemS :=
    sSeq (sIf (gOr (gCmp .NotEq (fCall cf "plus" (fCons (fCall cf "plus" (fCons (fVar 0) (fCons (fVar 1) (fNil)))) (fCons (fVar 2) (fNil)))) (fCall cf "plus" (fCons (fVar 0) (fCons (fCall cf "plus" (fCons (fVar 1) (fCons (fVar 2) (fNil)))) (fNil))))) (gCmp .NotEq (fCall cf "times" (fCons (fCall cf "times" (fCons (fVar 0) (fCons (fVar 1) (fNil)))) (fCons (fVar 2) (fNil)))) (fCall cf "times" (fCons (fVar 0) (fCons (fCall cf "times" (fCons (fVar 1) (fCons (fVar 2) (fNil)))) (fNil))))))
      (sSeq (sRet (fC (.bl false)))
        (sNil))
      (sNil))
    (sSeq (sIf (gCmp .NotEq (fCall cf "times" (fCons (fVar 0) (fCons (fCall cf "plus" (fCons (fVar 1) (fCons (fVar 2) (fNil)))) (fNil)))) (fCall cf "plus" (fCons (fCall cf "times" (fCons (fVar 0) (fCons (fVar 1) (fNil)))) (fCons (fCall cf "times" (fCons (fVar 0) (fCons (fVar 2) (fNil)))) (fNil)))))
      (sSeq (sRet (fC (.bl false)))
        (sNil))
      (sNil))
    (sSeq (sIf (gAnd (gTru (fCall cf "is_less" (fCons (fVar 0) (fCons (fVar 1) (fNil))))) (gAnd (gTru (fCall cf "is_less" (fCons (fVar 1) (fCons (fVar 2) (fNil))))) (gNot (gTru (fCall cf "is_less" (fCons (fVar 0) (fCons (fVar 2) (fNil))))))))
      (sSeq (sRet (fC (.bl false)))
        (sNil))
      (sNil))
    (sSeq (sIf (gCmp .NotEq (fCall cf "is_less" (fCons (fVar 0) (fCons (fVar 1) (fNil)))) (fCall cf "is_less" (fCons (fCall cf "plus" (fCons (fVar 0) (fCons (fVar 2) (fNil)))) (fCons (fCall cf "plus" (fCons (fVar 1) (fCons (fVar 2) (fNil)))) (fNil)))))
      (sSeq (sRet (fC (.bl false)))
        (sNil))
      (sNil))
    (sSeq (sIf (gAnd (gCmp .NotEq (fVar 2) (fTup (fCons (fC (.int 0)) (fCons (fC (.int 1)) (fNil))))) (gCmp .NotEq (fCall cf "is_less" (fCons (fVar 0) (fCons (fVar 1) (fNil)))) (fCall cf "is_less" (fCons (fCall cf "times" (fCons (fVar 0) (fCons (fVar 2) (fNil)))) (fCons (fCall cf "times" (fCons (fVar 1) (fCons (fVar 2) (fNil)))) (fNil))))))
      (sSeq (sRet (fC (.bl false)))
        (sNil))
      (sNil))
    (sSeq (sRet (fCh .Eq .Eq (fCall cf "total_of" (fCons (fTup (fCons (fVar 0) (fCons (fVar 1) (fCons (fVar 2) (fNil))))) (fNil))) (fCall cf "plus" (fCons (fCall cf "plus" (fCons (fVar 0) (fCons (fVar 1) (fNil)))) (fCons (fVar 2) (fNil)))) (fCall cf "total_of" (fCons (fTup (fCons (fVar 2) (fCons (fVar 0) (fCons (fVar 1) (fNil))))) (fNil)))))
    (sNil))))))
theorem c__law_three_right (cf : CallF) : compB (compS cf 60 (pg.sx d__law_three_right) 30) (defBody d__law_three_right.st) = some (b__law_three_right cf) := by kernel_rfl
theorem r__law_three_right (n : Nat) (ds : List D) (st : Sto) : callN pg (n + 1) "_law_three_right" ds st = runB (b__law_three_right (callN pg n)) d__law_three_right ds st := callN_of (d := d__law_three_right) rfl (c__law_three_right _)
noncomputable def b__law_near_right (cf : CallF) : SemS :=
    sSeq (sAsg (fTup (fCons (fC (.int 1)) (fCons (fC (.int 1)) (fNil)))) (gvName 0))
    (sSeq (sFor (iRng (fCons (fC (.int 10)) (fNil))) (gvName 1)
      (sSeq (sAsg (fCall cf "times" (fCons (fVar 0) (fCons (fTup (fCons (fC (.int 1)) (fCons (fC (.int 100)) (fNil)))) (fNil)))) (gvName 0))
        (sNil)))
    (sSeq (sAsg (fCall cf "times" (fCons (fVar 0) (fCons (fTup (fCons (fC (.int 1)) (fCons (fC (.int 2)) (fNil)))) (fNil)))) (gvName 2))
    (sSeq (sPar2 3 4 (fCons (fCall cf "minus" (fCons (fTup (fCons (fC (.int 1)) (fCons (fC (.int 1)) (fNil)))) (fCons (fVar 0) (fNil)))) (fCons (fCall cf "minus" (fCons (fTup (fCons (fC (.int 1)) (fCons (fC (.int 1)) (fNil)))) (fCons (fVar 2) (fNil)))) (fNil))))
    (sSeq (sIf (gOr (gNot (gTru (fCall cf "is_less" (fCons (fVar 3) (fCons (fVar 4) (fNil)))))) (gOr (gTru (fCall cf "is_less" (fCons (fVar 4) (fCons (fVar 3) (fNil))))) (gOr (gCmp .NotEq (fCall cf "lesser" (fCons (fVar 3) (fCons (fVar 4) (fNil)))) (fVar 3)) (gCmp .NotEq (fCall cf "lesser" (fCons (fVar 4) (fCons (fVar 3) (fNil)))) (fVar 3)))))
      (sSeq (sRet (fC (.bl false)))
        (sNil))
      (sNil))
    (sSeq (sRet (fAndV (fCmp .Eq (fCall cf "minus" (fCons (fVar 4) (fCons (fVar 3) (fNil)))) (fVar 2)) (fAndV (fCmp .Eq (fCall cf "plus" (fCons (fVar 3) (fCons (fVar 0) (fNil)))) (fTup (fCons (fC (.int 1)) (fCons (fC (.int 1)) (fNil))))) (fCmp .Eq (fCall cf "total_of" (fCons (fTup (fCons (fVar 3) (fCons (fVar 2) (fNil)))) (fNil))) (fVar 4)))))
    (sNil))))))
theorem c__law_near_right (cf : CallF) : compB (compS cf 60 (pg.sx d__law_near_right) 30) (defBody d__law_near_right.st) = some (b__law_near_right cf) := by kernel_rfl
theorem r__law_near_right (n : Nat) (ds : List D) (st : Sto) : callN pg (n + 1) "_law_near_right" ds st = runB (b__law_near_right (callN pg n)) d__law_near_right ds st := callN_of (d := d__law_near_right) rfl (c__law_near_right _)
noncomputable def b_law (cf : CallF) : SemS :=
    sSeq (sAsg (fCall cf "_law_feed" (fCons (fVar 0) (fNil))) (gvName 1))
    (sSeq (sAsg (fBin .Add (fLst (fCons (fTup (fCons (fC (.int 0)) (fCons (fC (.int 1)) (fNil)))) (fCons (fTup (fCons (fC (.int 1)) (fCons (fC (.int 1)) (fNil)))) (fNil)))) (fLc (iRng (fCons (fC (.int 4)) (fNil))) (gvName 7) (gYes) (fCall cf "_law_fraction" (fCons (fVar 1) (fNil))) [7])) (gvName 2))
    (sSeq (sExpr (fExt (fVar 2) (fLst (fCons (fCall cf "plus" (fCons (fIx (fVar 2) (fC (.int 2))) (fCons (fIx (fVar 2) (fC (.int 3))) (fNil)))) (fCons (fCall cf "times" (fCons (fIx (fVar 2) (fC (.int 4))) (fCons (fIx (fVar 2) (fC (.int 5))) (fNil)))) (fNil))))))
    (sSeq (sExpr (fApp (fVar 2) (fCall cf "fraction_of" (fCons (fBin .Add (fC (.int 1)) (fCall cf "_law_draw" (fCons (fVar 1) (fCons (fBin .Pow (fC (.int 10)) (fC (.int 6))) (fNil))))) (fCons (fBin .Add (fC (.int 1)) (fCall cf "_law_draw" (fCons (fVar 1) (fCons (fBin .Pow (fC (.int 10)) (fC (.int 6))) (fNil))))) (fNil))))))
    (sSeq (sFor (iRng (fCons (fC (.int 9)) (fNil))) (gvName 3)
      (sSeq (sFor (iRng (fCons (fC (.int 9)) (fNil))) (gvName 5)
          (sSeq (sAsg (fIx (fVar 2) (fBin .Mod (fBin .Add (fBin .Add (fVar 3) (fBin .Mult (fC (.int 2)) (fVar 5))) (fC (.int 2))) (fC (.int 9)))) (gvName 6))
            (sSeq (sIf (gOr (gNot (gTru (fCall cf "_law_two_right" (fCons (fIx (fVar 2) (fVar 3)) (fCons (fIx (fVar 2) (fVar 5)) (fNil)))))) (gNot (gTru (fCall cf "_law_three_right" (fCons (fIx (fVar 2) (fVar 3)) (fCons (fIx (fVar 2) (fVar 5)) (fCons (fVar 6) (fNil))))))))
              (sSeq (sRet (fC (.bl false)))
                (sNil))
              (sNil))
            (sNil))))
        (sNil)))
    (sSeq (sAsg (fCall cf "_law_draw" (fCons (fVar 1) (fCons (fC (.int 9)) (fNil)))) (gvName 4))
    (sSeq (sIf (gNot (gTru (fCall cf "_law_near_right" (fNil))))
      (sSeq (sRet (fC (.bl false)))
        (sNil))
      (sNil))
    (sSeq (sRet (fCmp .Eq (fCall cf "total_of" (fCons (fBlt bTuple (fCons (fVar 2) (fNil))) (fNil))) (fCall cf "plus" (fCons (fCall cf "total_of" (fCons (fBlt bTuple (fCons (fSl (fVar 2) (oNone) (oSome (fVar 4))) (fNil))) (fNil))) (fCons (fCall cf "total_of" (fCons (fBlt bTuple (fCons (fSl (fVar 2) (oSome (fVar 4)) (oNone)) (fNil))) (fNil))) (fNil))))))
    (sNil))))))))
theorem c_law (cf : CallF) : compB (compS cf 60 (pg.sx d_law) 30) (defBody d_law.st) = some (b_law cf) := by kernel_rfl
theorem r_law (n : Nat) (ds : List D) (st : Sto) : callN pg (n + 1) "law" ds st = runB (b_law (callN pg n)) d_law ds st := callN_of (d := d_law) rfl (c_law _)
end K03

namespace Sim
open PySem
/-! ### lowest terms -/
def q2 (p : Nat × Nat) : D := .tup [.int (p.1 : Nat), .int (p.2 : Nat)]
def cut (a b : Nat) : Nat × Nat := (a / a.gcd b, b / a.gcd b)
theorem gcd_pos {a b : Nat} (h : 0 < b) : 0 < a.gcd b := Nat.gcd_pos_of_pos_right a h
theorem cut_pos {a b : Nat} (h : 0 < b) : 0 < (cut a b).2 := Nat.div_pos (Nat.le_of_dvd h (Nat.gcd_dvd_right a b)) (gcd_pos h)
theorem cut_le1 {a b : Nat} : (cut a b).1 ≤ a := Nat.div_le_self _ _
theorem cut_le2 {a b : Nat} : (cut a b).2 ≤ b := Nat.div_le_self _ _
theorem cut_co {a b : Nat} (h : 0 < b) : (cut a b).1.gcd (cut a b).2 = 1 := Nat.gcd_div_gcd_div_gcd_of_pos_right h
theorem cut_self {a b : Nat} (h : a.gcd b = 1) : cut a b = (a, b) := by
  unfold cut; rw [h, Nat.div_one, Nat.div_one]
theorem co_eq {a b c d : Nat} (hb : 0 < b) (hd : 0 < d) (h1 : a.gcd b = 1) (h2 : c.gcd d = 1) (h : a * d = c * b) : a = c ∧ b = d := by
  have e1 : b ∣ d := by
    have : b ∣ a * d := ⟨c, by rw [h, Nat.mul_comm]⟩
    exact Nat.Coprime.dvd_of_dvd_mul_left (show Nat.Coprime b a from by show Nat.gcd b a = 1; rw [Nat.gcd_comm]; exact h1) this
  have e2 : d ∣ b := by
    have : d ∣ c * b := ⟨a, by rw [← h, Nat.mul_comm]⟩
    exact Nat.Coprime.dvd_of_dvd_mul_left (show Nat.Coprime d c from by show Nat.gcd d c = 1; rw [Nat.gcd_comm]; exact h2) this
  have e : b = d := Nat.dvd_antisymm e1 e2
  subst e
  exact ⟨Nat.eq_of_mul_eq_mul_right hb h, rfl⟩
theorem cut_eq {a b c d : Nat} (hb : 0 < b) (hd : 0 < d) (h : a * d = c * b) : cut a b = cut c d := by
  have ga := Nat.div_mul_cancel (Nat.gcd_dvd_left a b)
  have gb := Nat.div_mul_cancel (Nat.gcd_dvd_right a b)
  have gc := Nat.div_mul_cancel (Nat.gcd_dvd_left c d)
  have gd := Nat.div_mul_cancel (Nat.gcd_dvd_right c d)
  have p1 := gcd_pos (a := a) hb
  have p2 := gcd_pos (a := c) hd
  have k : (cut a b).1 * (cut c d).2 = (cut c d).1 * (cut a b).2 := by
    unfold cut
    show a / a.gcd b * (d / c.gcd d) = c / c.gcd d * (b / a.gcd b)
    refine Nat.eq_of_mul_eq_mul_right (Nat.mul_pos p1 p2) ?_
    generalize a.gcd b = g at *
    generalize c.gcd d = k at *
    calc a / g * (d / k) * (g * k) = (a / g * g) * (d / k * k) := by simp [Nat.mul_assoc, Nat.mul_comm, Nat.mul_left_comm]
      _ = (c / k * k) * (b / g * g) := by rw [ga, gb, gc, gd, h]
      _ = c / k * (b / g) * (g * k) := by simp [Nat.mul_assoc, Nat.mul_comm, Nat.mul_left_comm]
  obtain ⟨x, y⟩ := co_eq (cut_pos hb) (cut_pos hd) (cut_co hb) (cut_co hd) k
  exact Prod.ext x y
theorem cut_cross {a b : Nat} : (cut a b).1 * b = a * (cut a b).2 := by
  unfold cut
  show a / a.gcd b * b = a * (b / a.gcd b)
  rw [Nat.div_mul_right_comm (Nat.gcd_dvd_left a b), Nat.mul_div_assoc _ (Nat.gcd_dvd_right a b)]
@[simp] theorem ix_q2a {p : Nat × Nat} {st : Sto} : ix (q2 p) (.int 0) st = some (.int (p.1 : Nat)) := ix_tup0
@[simp] theorem ix_q2b {p : Nat × Nat} {st : Sto} : ix (q2 p) (.int 1) st = some (.int (p.2 : Nat)) := ix_tup1
theorem mlt {a b : Nat} (ha : a < 2 ^ 98) (hb : b < 2 ^ 98) : a * b < 2 ^ 196 := by
  have := Nat.mul_lt_mul'' ha hb
  rwa [← Nat.pow_add] at this
theorem mul_nat {a b : Nat} {st : Sto} (ha : a < 2 ^ 98) (hb : b < 2 ^ 98) : binop .Mult (.int (a : Nat)) (.int (b : Nat)) st = some (.int ((a * b : Nat) : Int), st) := by
  rw [mul_int (m := 98) (n := 98) (by omega) (by omega) (by decide) (by decide) (by decide), Int.natCast_mul]
theorem div_nat {a b : Nat} {st : Sto} (hb : 0 < b) (h : b < 2 ^ 200) : binop .FloorDiv (.int (a : Nat)) (.int (b : Nat)) st = some (.int ((a / b : Nat) : Int), st) := by
  rw [div_small (by omega) (by omega), Int.natCast_ediv]
theorem mod_nat {a b : Nat} {st : Sto} (hb : 0 < b) : binop .Mod (.int (a : Nat)) (.int (b : Nat)) st = some (.int ((a % b : Nat) : Int), st) := by
  rw [mod_int (by omega), Int.natCast_emod]
/-! ### what repr shows -/
theorem short_int {i : Int} {k : Nat} (hk : 0 < k) (h : i.natAbs < 2 ^ k) : (PyData.shown (.int i)).length ≤ k + 1 := by
  show (Str.ofString (toString i)).length ≤ _
  rw [ofString_length]
  refine int_text_length_le hk ?_
  by_cases h0 : i.natAbs = 0
  · rw [h0]; exact hk
  · exact (Nat.log2_lt h0).mpr h
theorem log_lt {i : Int} {k : Nat} (hk : 0 < k) (h : i.natAbs < 2 ^ k) : i.natAbs.log2 < k := by
  by_cases h0 : i.natAbs = 0
  · rw [h0]; exact hk
  · exact (Nat.log2_lt h0).mpr h
theorem shows_of {p : PyData} (hs : p.showable = true) (hd : p.hasDict = false) (hp : p.depth ≤ 60) (hl : p.leavesShort 201 = true) (hw : p.weight ≤ 4000) : shows p = true := by
  have := PyData.shown_le 201 (by decide) p hl
  have h2 : (201 + 2) * p.weight ≤ 203 * 4000 := Nat.mul_le_mul (by decide) hw
  unfold shows
  rw [hs, hd]
  simp only [Bool.not_false, Bool.true_and, Bool.and_eq_true, decide_eq_true_eq]
  exact ⟨hp, by omega⟩
/-- data whose leaves are short, of at most n weight -/
structure Shw (p : PyData) (d n : Nat) : Prop where
  s : p.showable = true
  h : p.hasDict = false
  d : p.depth ≤ d
  l : p.leavesShort 201 = true
  w : p.weight ≤ n
structure Shws (p : List PyData) (d n : Nat) : Prop where
  s : PyData.showableAll p = true
  h : PyData.hasDictAll p = false
  d : PyData.depthAll p ≤ d
  l : PyData.leavesShortAll 201 p = true
  w : PyData.weightAll p ≤ n
theorem Shw.shows {p : PyData} {d n : Nat} (x : Shw p d n) (h1 : d ≤ 60) (h2 : n ≤ 4000) : shows p = true := shows_of x.s x.h (Nat.le_trans x.d h1) x.l (Nat.le_trans x.w h2)
theorem Shw.int {i : Int} {d : Nat} (h : i.natAbs < 2 ^ 200) : Shw (.int i) d 200 := by
  refine ⟨?_, rfl, Nat.zero_le _, ?_, ?_⟩
  · simp only [PyData.showable, decide_eq_true_eq]
    exact Nat.lt_trans (log_lt (k := 200) (by decide) h) (by decide)
  · simp only [PyData.leavesShort, decide_eq_true_eq]
    exact short_int (k := 200) (by decide) h
  · simp only [PyData.weight]
    split
    · exact Nat.zero_le _
    · exact log_lt (k := 200) (by decide) h
theorem Shw.non {d : Nat} : Shw .none d 0 := ⟨rfl, rfl, Nat.zero_le _, rfl, Nat.le_refl _⟩
theorem Shw.bl {b : Bool} {d : Nat} : Shw (.bool b) d 0 := ⟨rfl, rfl, Nat.zero_le _, rfl, Nat.le_refl _⟩
theorem Shws.nil {d : Nat} : Shws [] d 0 := ⟨rfl, rfl, Nat.zero_le _, rfl, Nat.le_refl _⟩
theorem Shws.cons {p : PyData} {ps : List PyData} {d n m : Nat} (x : Shw p d n) (y : Shws ps d m) : Shws (p :: ps) d (n + 1 + m) := by
  refine ⟨?_, ?_, ?_, ?_, ?_⟩
  · simp only [PyData.showableAll, x.s, y.s, Bool.and_self]
  · simp only [PyData.hasDictAll, x.h, y.h, Bool.or_self]
  · simp only [PyData.depthAll]
    exact Nat.max_le.mpr ⟨x.d, y.d⟩
  · simp only [PyData.leavesShortAll, x.l, y.l, Bool.and_self]
  · simp only [PyData.weightAll]
    have := x.w; have := y.w; omega
theorem Shws.tup {ps : List PyData} {d n : Nat} (y : Shws ps d n) : Shw (.tuple ps) (d + 1) n := by
  refine ⟨?_, ?_, ?_, ?_, ?_⟩
  · simp only [PyData.showable]; exact y.s
  · simp only [PyData.hasDict]; exact y.h
  · simp only [PyData.depth]; have := y.d; omega
  · simp only [PyData.leavesShort]; exact y.l
  · simp only [PyData.weight]; exact y.w
theorem Shws.lst {ps : List PyData} {d n : Nat} (y : Shws ps d n) : Shw (.list ps) (d + 1) n := by
  refine ⟨?_, ?_, ?_, ?_, ?_⟩
  · simp only [PyData.showable]; exact y.s
  · simp only [PyData.hasDict]; exact y.h
  · simp only [PyData.depth]; have := y.d; omega
  · simp only [PyData.leavesShort]; exact y.l
  · simp only [PyData.weight]; exact y.w
theorem Shw.up {p : PyData} {d e n : Nat} (x : Shw p d n) (h : d ≤ e) : Shw p e n := ⟨x.s, x.h, Nat.le_trans x.d h, x.l, x.w⟩
def qp (p : Nat × Nat) : PyData := .tuple [.int (p.1 : Nat), .int (p.2 : Nat)]
theorem qp_shw {p : Nat × Nat} {d : Nat} (h1 : p.1 < 2 ^ 200) (h2 : p.2 < 2 ^ 200) : Shw (qp p) (d + 1) 402 := (Shws.cons (Shw.int (by omega)) (Shws.cons (Shw.int (by omega)) Shws.nil)).tup
theorem toP_q2 {p : Nat × Nat} {st : Sto} {n : Nat} : toP st (n + 2) (q2 p) = some (qp p) := rfl
theorem repr_of {x : D} {p : PyData} {st : Sto} (h : toP st 60 x = some p) (s : shows p = true) : bRepr [x] st = some (.str p.shown, st) := by
  show (toP st 60 x).bind _ = _
  rw [h]
  show (if shows p = true then _ else _) = _
  rw [if_pos s]
/-! ### walks -/
theorem forGo_nil {g : SemG} {fb : SemS} {η : LocD} {st : Sto} : forGo g fb none [] η st = some (.nx η, st) := by
  unfold forGo
  rw [if_pos okGd_none]
theorem forGo_nx {g : SemG} {fb : SemS} {η η2 η' : LocD} {st st' : Sto} {x : D} {r : List D} (h1 : g x η = some η2) (h2 : fb η2 st = some (.nx η', st')) : forGo g fb none (x :: r) η st = forGo g fb none r η' st' := by
  rw [forGo, if_pos okGd_none, h1]
  show (fb η2 st).bind _ = _
  rw [h2]; rfl
theorem forGo_rt {g : SemG} {fb : SemS} {η η2 : LocD} {st st' : Sto} {x d : D} {r : List D} (h1 : g x η = some η2) (h2 : fb η2 st = some (.rt d, st')) : forGo g fb none (x :: r) η st = some (.rt d, st') := by
  rw [forGo, if_pos okGd_none, h1]
  show (fb η2 st).bind _ = _
  rw [h2]; rfl
/-- a walk that keeps a promise -/
theorem forGo_inv {g : SemG} {fb : SemS} {P : Nat → LocD → Sto → Prop} : ∀ (xs : List D) (i : Nat) (η : LocD) (st : Sto),
    (∀ (j : Nat) (x : D) (η : LocD) (st : Sto), x ∈ xs → i ≤ j → j < i + xs.length → P j η st → ∃ η2 η' st', g x η = some η2 ∧ fb η2 st = some (.nx η', st') ∧ P (j + 1) η' st') → P i η st →
    ∃ η' st', forGo g fb none xs η st = some (.nx η', st') ∧ P (i + xs.length) η' st'
  | [], i, η, st, _, h => ⟨η, st, forGo_nil, h⟩
  | x :: r, i, η, st, k, h => by
    obtain ⟨η2, η', st', h1, h2, h3⟩ := k i x η st List.mem_cons_self (Nat.le_refl _) (by simp only [List.length_cons]; omega) h
    obtain ⟨η3, st3, h4, h5⟩ := forGo_inv r (i + 1) η' st' (fun j y a b m l u p => k j y a b (List.mem_cons_of_mem _ m) (by omega) (by simp only [List.length_cons]; omega) p) h3
    refine ⟨η3, st3, (forGo_nx h1 h2).trans h4, ?_⟩
    rw [List.length_cons]
    have e : i + (r.length + 1) = i + 1 + r.length := by omega
    rw [e]; exact h5
theorem rngD_succ {x : Int} {j : Nat} {c : Int} : rngD x (j + 1) c = .int x :: rngD (x + c) j c := by
  unfold rngD
  rw [List.range_succ_eq_map, List.map_cons, List.map_map]
  congr 1
  · simp
  · apply List.map_congr_left
    intro i _
    show D.int (x + ((i + 1 : Nat) : Int) * c) = D.int (x + c + (i : Nat) * c)
    congr 1
    rw [Int.natCast_add, Int.add_mul]; simp; omega
theorem forGo_rng {g : SemG} {fb : SemS} {P : Nat → LocD → Sto → Prop} : ∀ (n i : Nat) (η : LocD) (st : Sto),
    (∀ (j : Nat) (η : LocD) (st : Sto), i ≤ j → j < i + n → P j η st → ∃ η2 η' st', g (.int (j : Nat)) η = some η2 ∧ fb η2 st = some (.nx η', st') ∧ P (j + 1) η' st') → P i η st →
    ∃ η' st', forGo g fb none (rngD (i : Nat) n 1) η st = some (.nx η', st') ∧ P (i + n) η' st'
  | 0, i, η, st, _, h => ⟨η, st, forGo_nil, h⟩
  | n + 1, i, η, st, k, h => by
    obtain ⟨η2, η', st', h1, h2, h3⟩ := k i η st (Nat.le_refl _) (by omega) h
    obtain ⟨η3, st3, h4, h5⟩ := forGo_rng n (i + 1) η' st' (fun j a b l u p => k j a b (by omega) (by omega) p) h3
    have e : i + (n + 1) = i + 1 + n := by omega
    refine ⟨η3, st3, ?_, by rw [e]; exact h5⟩
    have q : rngD (i : Nat) (n + 1) 1 = .int (i : Nat) :: rngD ((i + 1 : Nat) : Int) n 1 := by
      rw [rngD_succ]; rfl
    rw [q, forGo_nx h1 h2]
    exact h4
theorem inR_of {x : Int} (h1 : 0 ≤ x) (h2 : x < 2 ^ 61) : inR x := ⟨by omega, by omega⟩
theorem rng3 {x y : Int} (hx : inR x) (hy : inR y) : rngOf [.int x, .int y, .int (-1)] = some (rngD x (x - y).toNat (-1)) := if_pos ⟨hx, hy, rfl⟩
theorem rng1 {x : Int} (hx : inR x) : rngOf [.int x] = some (rngD 0 x.toNat 1) := if_pos hx
theorem rngD_len {x : Int} {j : Nat} {c : Int} : (rngD x j c).length = j := by unfold rngD; rw [List.length_map, List.length_range]
end Sim

namespace K03
open PySem Sim
/-- below 2^98, over something, in lowest terms -/
structure Lo (p : Nat × Nat) : Prop where
  a : p.1 < 2 ^ 98
  b : p.2 < 2 ^ 98
  z : 0 < p.2
  c : p.1.gcd p.2 = 1
/-- below 2^98, over something -/
structure Lw (p : Nat × Nat) : Prop where
  a : p.1 < 2 ^ 98
  b : p.2 < 2 ^ 98
  z : 0 < p.2
theorem Lo.w {p : Nat × Nat} (h : Lo p) : Lw p := ⟨h.a, h.b, h.z⟩
theorem Lw.cut {a b : Nat} (h : Lw (a, b)) : Lo (cut a b) := ⟨Nat.lt_of_le_of_lt cut_le1 h.a, Nat.lt_of_le_of_lt cut_le2 h.b, cut_pos h.z, cut_co h.z⟩
theorem e_fraction_of {n : Nat} {a b : Nat} {st : Sto} (hb : 0 < b) (h : b < 2 ^ 200) : callN pg (n + 1) "fraction_of" [.int (a : Nat), .int (b : Nat)] st = some (q2 (cut a b), st) := by
  have g0 := gcd_pos (a := a) hb
  have g1 : a.gcd b ≤ b := Nat.le_of_dvd hb (Nat.gcd_dvd_right a b)
  have d1 : ∀ x : Nat, binop .FloorDiv (.int (x : Nat)) (.int ((a.gcd b : Nat) : Int)) st = some (.int ((x / a.gcd b : Nat) : Int), st) := fun x => div_nat g0 (by omega)
  have e : bGcd [.int (a : Nat), .int (b : Nat)] st = some (.int ((a.gcd b : Nat) : Int), st) := by
    show some (D.int ((Nat.gcd (a : Int).natAbs (b : Int).natAbs : Nat) : Int), st) = _
    rw [Int.natAbs_natCast, Int.natAbs_natCast]
  rw [r_fraction_of, runB_ev rfl]
  simp only [b_fraction_of, d_fraction_of, sSeq_ev, sAsg_ev, sRet_ev, sNil_ev, fBlt_ev, fCons_ev, fNil_ev, fVar_ev, gvName_ev, fTup_ev, fBin_ev, List.map_cons, List.map_nil, List.cons_append, List.nil_append, List.length_cons, List.length_nil, List.replicate, List.getElem?_cons_zero, List.getElem?_cons_succ, Option.bind_some, Option.map_some, e, List.set_cons_succ, List.set_cons_zero, d1]
  rfl
section
variable {n : Nat} {p q : Nat × Nat} {st : Sto}
theorem e_plus (hp : Lw p) (hq : Lw q) : callN pg (n + 2) "plus" [q2 p, q2 q] st = some (q2 (cut (p.1 * q.2 + q.1 * p.2) (p.2 * q.2)), st) := by
  have m1 := mul_nat (st := st) hp.a hq.b
  have m2 := mul_nat (st := st) hq.a hp.b
  have m3 := mul_nat (st := st) hp.b hq.b
  have l := mlt hp.b hq.b
  have e := e_fraction_of (n := n) (a := p.1 * q.2 + q.1 * p.2) (b := p.2 * q.2) (st := st) (Nat.mul_pos hp.z hq.z) (by omega)
  rw [Int.natCast_add] at e
  rw [r_plus, runB_ev rfl]
  generalize p.1 * q.2 = x at *
  generalize q.1 * p.2 = y at *
  generalize p.2 * q.2 = z at *
  simp [b_plus, d_plus, m1, m2, m3, e]
theorem e_times (hp : Lw p) (hq : Lw q) : callN pg (n + 2) "times" [q2 p, q2 q] st = some (q2 (cut (p.1 * q.1) (p.2 * q.2)), st) := by
  have m1 := mul_nat (st := st) hp.a hq.a
  have m3 := mul_nat (st := st) hp.b hq.b
  have l := mlt hp.b hq.b
  have e := e_fraction_of (n := n) (a := p.1 * q.1) (b := p.2 * q.2) (st := st) (Nat.mul_pos hp.z hq.z) (by omega)
  rw [r_times, runB_ev rfl]
  generalize p.1 * q.1 = x at *
  generalize p.2 * q.2 = z at *
  simp [b_times, d_times, m1, m3, e]
def minD (p q : Nat × Nat) : D := if p.1 * q.2 < q.1 * p.2 then .non else q2 (cut (p.1 * q.2 - q.1 * p.2) (p.2 * q.2))
theorem e_minus (hp : Lw p) (hq : Lw q) : callN pg (n + 2) "minus" [q2 p, q2 q] st = some (minD p q, st) := by
  have m1 := mul_nat (st := st) hp.a hq.b
  have m2 := mul_nat (st := st) hq.a hp.b
  have m3 := mul_nat (st := st) hp.b hq.b
  have l := mlt hp.b hq.b
  have e := e_fraction_of (n := n) (a := p.1 * q.2 - q.1 * p.2) (b := p.2 * q.2) (st := st) (Nat.mul_pos hp.z hq.z) (by omega)
  rw [r_minus, runB_ev rfl]
  unfold minD
  generalize p.1 * q.2 = x at *
  generalize q.1 * p.2 = y at *
  generalize p.2 * q.2 = z at *
  by_cases h : x < y
  · have h2 : (x : Int) - (y : Int) < 0 := by omega
    rw [if_pos h]
    simp [b_minus, d_minus, m1, m2, h2]
  · have h2 : ¬ ((x : Int) - (y : Int) < 0) := by omega
    rw [if_neg h]
    rw [Int.ofNat_sub (by omega)] at e
    simp [b_minus, d_minus, m1, m2, m3, h2, e]
theorem e_is_less (hp : Lw p) (hq : Lw q) : callN pg (n + 1) "is_less" [q2 p, q2 q] st = some (.bl (decide (p.1 * q.2 < q.1 * p.2)), st) := by
  have m1 := mul_nat (st := st) hp.a hq.b
  have m2 := mul_nat (st := st) hq.a hp.b
  rw [r_is_less, runB_ev rfl]
  generalize p.1 * q.2 = x at *
  generalize q.1 * p.2 = y at *
  have e : decide ((x : Int) < (y : Int)) = decide (x < y) := by simp
  simp [b_is_less, d_is_less, m1, m2]
theorem e_lesser (hp : Lw p) (hq : Lw q) : callN pg (n + 2) "lesser" [q2 p, q2 q] st = some (if q.1 * p.2 < p.1 * q.2 then q2 q else q2 p, st) := by
  have e := e_is_less (n := n) (st := st) hq hp
  rw [r_lesser, runB_ev rfl]
  by_cases h : q.1 * p.2 < p.1 * q.2
  · simp [b_lesser, d_lesser, e, h]
  · simp [b_lesser, d_lesser, e, h]
end
noncomputable def leastB : SemS :=
      (sSeq (sIf (gAnd (gCmp .Eq (fBin .Mod (fVar 0) (fVar 2)) (fC (.int 0))) (gCmp .Eq (fBin .Mod (fVar 1) (fVar 2)) (fC (.int 0))))
          (sSeq (sRet (fTup (fCons (fBin .FloorDiv (fVar 0) (fVar 2)) (fCons (fBin .FloorDiv (fVar 1) (fVar 2)) (fNil)))))
            (sNil))
          (sNil))
        (sNil))
theorem least_loop {a b : Nat} {st : Sto} (hb : 0 < b) : ∀ (j : Nat) (o : Option D), j + 1 < 2 ^ 60 → a.gcd b ≤ j + 1 →
    forGo (gvName 2) leastB none (rngD ((j + 1 : Nat) : Int) j (-1)) [some (.int (a : Nat)), some (.int (b : Nat)), o] st = some (.rt (q2 (cut a b)), st) ∨
    (cut a b = (a, b) ∧ ∃ o', forGo (gvName 2) leastB none (rngD ((j + 1 : Nat) : Int) j (-1)) [some (.int (a : Nat)), some (.int (b : Nat)), o] st = some (.nx [some (.int (a : Nat)), some (.int (b : Nat)), o'], st))
  | 0, o, _, h => by
    have g0 := gcd_pos (a := a) hb
    exact .inr ⟨cut_self (by omega), o, forGo_nil⟩
  | j + 1, o, hj, h => by
    have m1 := mod_nat (st := st) (a := a) (b := j + 1 + 1) (by omega)
    have m2 := mod_nat (st := st) (a := b) (b := j + 1 + 1) (by omega)
    have v1 := div_nat (st := st) (a := a) (b := j + 1 + 1) (by omega) (by omega)
    have v2 := div_nat (st := st) (a := b) (b := j + 1 + 1) (by omega) (by omega)
    rw [rngD_succ]
    have ex : ((j + 1 + 1 : Nat) : Int) + -1 = ((j + 1 : Nat) : Int) := by omega
    rw [ex]
    by_cases hd : (j + 1 + 1) ∣ a ∧ (j + 1 + 1) ∣ b
    · have g : a.gcd b = j + 1 + 1 := Nat.le_antisymm h (Nat.le_of_dvd (gcd_pos hb) (Nat.dvd_gcd hd.1 hd.2))
      refine .inl (forGo_rt rfl ?_)
      unfold cut q2
      rw [g]
      have z1 : a % (j + 1 + 1) = 0 := Nat.mod_eq_zero_of_dvd hd.1
      have z2 : b % (j + 1 + 1) = 0 := Nat.mod_eq_zero_of_dvd hd.2
      rw [z1] at m1
      rw [z2] at m2
      generalize j + 1 + 1 = J at *
      generalize a / J = A at *
      generalize b / J = B at *
      simp [leastB, m1, m2, v1, v2]
    · have g : a.gcd b ≠ j + 1 + 1 := fun e => hd ⟨e ▸ Nat.gcd_dvd_left a b, e ▸ Nat.gcd_dvd_right a b⟩
      have ih := least_loop (a := a) hb j (some (.int ((j + 1 + 1 : Nat) : Int))) (by omega) (by omega) (st := st)
      have step : leastB [some (.int (a : Nat)), some (.int (b : Nat)), some (.int ((j + 1 + 1 : Nat) : Int))] st = some (.nx [some (.int (a : Nat)), some (.int (b : Nat)), some (.int ((j + 1 + 1 : Nat) : Int))], st) := by
        generalize j + 1 + 1 = J at *
        by_cases h1 : J ∣ a
        · have h2 : ¬ J ∣ b := fun h2 => hd ⟨h1, h2⟩
          have z1 : a % J = 0 := Nat.mod_eq_zero_of_dvd h1
          have z2 : b % J ≠ 0 := fun e => h2 (Nat.dvd_of_mod_eq_zero e)
          rw [z1] at m1
          generalize b % J = r at *
          have z3 : ¬ ((r : Int) = 0) := by omega
          simp [leastB, m1, m2, z2, z3]
        · have z2 : a % J ≠ 0 := fun e => h1 (Nat.dvd_of_mod_eq_zero e)
          generalize a % J = r at *
          have z3 : ¬ ((r : Int) = 0) := by omega
          simp [leastB, m1, m2, z2, z3]
      have q : forGo (gvName 2) leastB none (.int ((j + 1 + 1 : Nat) : Int) :: rngD ((j + 1 : Nat) : Int) j (-1)) [some (.int (a : Nat)), some (.int (b : Nat)), o] st = _ := forGo_nx (η2 := [some (.int (a : Nat)), some (.int (b : Nat)), some (.int ((j + 1 + 1 : Nat) : Int))]) rfl step
      rw [q]
      exact ih
theorem least_top {a b : Nat} {st : Sto} (hb : 0 < b) (h1 : a < 2 ^ 58) (h2 : b < 2 ^ 58) : ∃ j : Nat, j + 1 < 2 ^ 60 ∧ a.gcd b ≤ j + 1 ∧ (fIf (gCmp .Gt (fVar 0) (fC (.int 0))) (fBlt bMin (fCons (fVar 0) (fCons (fVar 1) (fNil)))) (fVar 1)) [some (.int (a : Nat)), some (.int (b : Nat)), none] st = some (.int ((j + 1 : Nat) : Int), st) := by
  have g1 : a.gcd b ≤ b := Nat.le_of_dvd hb (Nat.gcd_dvd_right a b)
  by_cases ha : 0 < a
  · have g2 : a.gcd b ≤ a := Nat.le_of_dvd ha (Nat.gcd_dvd_left a b)
    have ha' : (0 : Int) < (a : Nat) := by omega
    have e : ∀ x y : Int, bMin [.int x, .int y] st = some (.int (if y < x then y else x), st) := fun _ _ => rfl
    by_cases hab : b < a
    · refine ⟨b - 1, by omega, by omega, ?_⟩
      have c : ((b - 1 + 1 : Nat) : Int) = (b : Nat) := by omega
      have d : (b : Int) < (a : Nat) := by omega
      rw [c]
      simp [ha, ha', e, d, hab]
    · refine ⟨a - 1, by omega, by omega, ?_⟩
      have c : ((a - 1 + 1 : Nat) : Int) = (a : Nat) := by omega
      have d : ¬ ((b : Int) < (a : Nat)) := by omega
      rw [c]
      simp [ha, ha', e, d, hab]
  · refine ⟨b - 1, by omega, by omega, ?_⟩
    have c : ((b - 1 + 1 : Nat) : Int) = (b : Nat) := by omega
    have ha' : ¬ ((0 : Int) < (a : Nat)) := by omega
    rw [c]
    simp [ha, ha']
theorem least_src {T : SemE} {η : LocD} {st : Sto} {J : Int} {xs : List D} (ht : T η st = some (.int J, st)) (rg : rngOf [.int J, .int 1, .int (-1)] = some xs) : iRng (fCons T (fCons (fC (.int 1)) (fCons (fNeg (fC (.int 1))) (fNil)))) η st = some (⟨xs, none⟩, st) := by
  have e : (fCons T (fCons (fC (.int 1)) (fCons (fNeg (fC (.int 1))) (fNil)))) η st = some ([.int J, .int 1, .int (-1)], st) := by
    rw [fCons_ev, ht]; rfl
  rw [iRng_ev, e]
  show (rngOf _).map _ = _
  rw [rg]; rfl
theorem e_least {n a b : Nat} {st : Sto} (hb : 0 < b) (h1 : a < 2 ^ 58) (h2 : b < 2 ^ 58) : callN pg (n + 1) "_law_least" [.int (a : Nat), .int (b : Nat)] st = some (q2 (cut a b), st) := by
  rw [r__law_least, runB_ev rfl]
  have top := least_top (st := st) hb h1 h2
  obtain ⟨j, hj, hg, ht⟩ := top
  unfold b__law_least
  generalize (fIf (gCmp .Gt (fVar 0) (fC (.int 0))) (fBlt bMin (fCons (fVar 0) (fCons (fVar 1) (fNil)))) (fVar 1)) = T at ht ⊢
  have rg : rngOf [.int ((j + 1 : Nat) : Int), .int 1, .int (-1)] = some (rngD ((j + 1 : Nat) : Int) j (-1)) := by
    have e : (((j + 1 : Nat) : Int) - 1).toNat = j := by omega
    rw [rng3 (inR_of (by omega) (by omega)) (inR_of (by omega) (by omega)), e]
  have L := least_loop (st := st) hb j none hj hg
  change (Option.bind ((sSeq (sFor (iRng (fCons T (fCons (fC (.int 1)) (fCons (fNeg (fC (.int 1))) (fNil))))) (gvName 2) leastB)
    (sSeq (sRet (fTup (fCons (fVar 0) (fCons (fVar 1) (fNil)))))
    (sNil))) [some (.int (a : Nat)), some (.int (b : Nat)), none] st) _) = _
  generalize ((j + 1 : Nat) : Int) = J at *
  have hi := least_src ht rg
  rcases L with L | ⟨hc, o', L⟩
  · rw [sSeq_ev, sFor_ev, hi]
    show (Option.bind (Option.bind (forGo (gvName 2) leastB none _ _ _) _) _) = _
    rw [L]; rfl
  · rw [hc, sSeq_ev, sFor_ev, hi]
    show (Option.bind (Option.bind (forGo (gvName 2) leastB none _ _ _) _) _) = _
    rw [L]
    unfold q2
    simp
theorem e_draw {n : Nat} {st : Sto} {f g : Nat} {ns : List Int} {t : Nat} (h : FeedAt st f g ns t) (hfg : f ≠ g) {m : Int} (hm : 0 < m) (hM : m < 2 ^ 60) (ht : t + 1 < 2 ^ 60) :
    ∃ (r : Nat) (st' : Sto), callN pg (n + 1) "_law_draw" [.ref f, .int m] st = some (.int (r : Nat), st') ∧ (r : Int) < m ∧ FeedAt st' f g ns (t + 1) ∧ Keep f st st' := by
  obtain ⟨r, st', h1, h2, h3, h4, h5⟩ := draw_run (dd := d__law_draw) h hfg hm hM ht rfl rfl
  have e : r = ((r.toNat : Nat) : Int) := by omega
  refine ⟨r.toNat, st', ?_, by omega, h4, h5⟩
  rw [r__law_draw, ← e]
  exact h1
theorem pick {a b c : Int} {w : Nat} {st : Sto} (h : w < 3) (ha : 0 < a ∧ a ≤ 101) (hb : 0 < b ∧ b ≤ 101) (hc : 0 < c ∧ c ≤ 101) : ∃ x : Int, (∀ st : Sto, ix (.tup [.int a, .int b, .int c]) (.int (w : Nat)) st = some (.int x)) ∧ 0 < x ∧ x ≤ 101 := by
  match w, h with
  | 0, _ => exact ⟨a, fun _ => ix_tup0, ha⟩
  | 1, _ => exact ⟨b, fun _ => ix_tup1, hb⟩
  | 2, _ => exact ⟨c, fun _ => ix_tup2, hc⟩
theorem pick100 {a b c : Int} {w : Nat} {st : Sto} (h : w < 3) (ha : 0 < a ∧ a ≤ 100) (hb : 0 < b ∧ b ≤ 100) (hc : 0 < c ∧ c ≤ 100) : ∃ x : Int, (∀ st : Sto, ix (.tup [.int a, .int b, .int c]) (.int (w : Nat)) st = some (.int x)) ∧ 0 < x ∧ x ≤ 100 := by
  match w, h with
  | 0, _ => exact ⟨a, fun _ => ix_tup0, ha⟩
  | 1, _ => exact ⟨b, fun _ => ix_tup1, hb⟩
  | 2, _ => exact ⟨c, fun _ => ix_tup2, hc⟩
/-- at most 100, over at most 100, in lowest terms -/
structure Sm (p : Nat × Nat) : Prop where
  a : p.1 ≤ 100
  b : p.2 ≤ 100
  z : 0 < p.2
  c : p.1.gcd p.2 = 1
theorem Sm.lo {p : Nat × Nat} (h : Sm p) : Lo p := ⟨Nat.lt_of_le_of_lt h.a (by decide), Nat.lt_of_le_of_lt h.b (by decide), h.z, h.c⟩
theorem e_fraction {n : Nat} {st : Sto} {f g : Nat} {ns : List Int} {t : Nat} (h : FeedAt st f g ns t) (hfg : f ≠ g) (ht : t + 3 < 2 ^ 60) :
    ∃ (p : Nat × Nat) (st' : Sto), callN pg (n + 2) "_law_fraction" [.ref f] st = some (q2 p, st') ∧ Sm p ∧ FeedAt st' f g ns (t + 3) ∧ Keep f st st' := by
  obtain ⟨w, s1, d1, l1, F1, K1⟩ := e_draw (n := n) h hfg (m := 4) (by decide) (by decide) (by omega)
  have hw : w % 3 < 3 := Nat.mod_lt _ (by decide)
  have mw : ∀ st : Sto, binop .Mod (.int (w : Nat)) (.int 3) st = some (.int ((w % 3 : Nat) : Int), st) := fun st => mod_nat (b := 3) (by decide)
  obtain ⟨x, ex, x0, x1⟩ := pick (a := 3) (b := 13) (c := 101) (st := s1) hw (by decide) (by decide) (by decide)
  obtain ⟨y, ey, y0, y1⟩ := pick100 (a := 2) (b := 12) (c := 100) (st := s1) hw (by decide) (by decide) (by decide)
  generalize w % 3 = v at *
  obtain ⟨a, s2, d2, l2, F2, K2⟩ := e_draw (n := n) F1 hfg (m := x) x0 (by omega) (by omega)
  obtain ⟨b, s3, d3, l3, F3, K3⟩ := e_draw (n := n) F2 hfg (m := y) y0 (by omega) (by omega)
  have e := e_least (n := n) (st := s3) (a := a) (b := 1 + b) (by omega) (by omega) (by omega)
  rw [Int.natCast_add, show ((1 : Nat) : Int) = 1 from rfl] at e
  refine ⟨cut a (1 + b), s3, ?_, ⟨Nat.le_trans cut_le1 (by omega), Nat.le_trans cut_le2 (by omega), cut_pos (by omega), cut_co (by omega)⟩, F3, (K1.trans K2).trans K3⟩
  rw [r__law_fraction, runB_ev rfl]
  have s1' : (sAsg (fCall (callN pg (n + 1)) "_law_draw" (fCons (fVar 0) (fCons (fC (.int 4)) (fNil)))) (gvName 1)) [some (.ref f), none, none, none] st = some (.nx [some (.ref f), some (.int (w : Nat)), none, none], s1) := by
    simp [d1]
  have i1 : (fIx (fTup (fCons (fC (.int 3)) (fCons (fC (.int 13)) (fCons (fC (.int 101)) (fNil))))) (fBin .Mod (fVar 1) (fC (.int 3)))) [some (.ref f), some (.int (w : Nat)), none, none] s1 = some (.int x, s1) := by
    simp [mw, ex]
  have i2 : (fIx (fTup (fCons (fC (.int 2)) (fCons (fC (.int 12)) (fCons (fC (.int 100)) (fNil))))) (fBin .Mod (fVar 1) (fC (.int 3)))) [some (.ref f), some (.int (w : Nat)), none, none] s2 = some (.int y, s2) := by
    simp [mw, ey]
  unfold b__law_fraction
  generalize (fIx (fTup (fCons (fC (.int 3)) (fCons (fC (.int 13)) (fCons (fC (.int 101)) (fNil))))) (fBin .Mod (fVar 1) (fC (.int 3)))) = I1 at *
  generalize (fIx (fTup (fCons (fC (.int 2)) (fCons (fC (.int 12)) (fCons (fC (.int 100)) (fNil))))) (fBin .Mod (fVar 1) (fC (.int 3)))) = I2 at *
  show (Option.bind (sSeq _ _ [some (.ref f), none, none, none] st) _) = _
  rw [sSeq_ev, s1']
  simp [i1, i2, d2, d3, e]
theorem cut_ints (ns : List Int) (lo hi : Option Int) : ∃ ms : List Int, cutD (ns.map .int) lo hi = ms.map .int := by
  unfold cutD
  rw [List.length_map, ← List.map_drop, ← List.map_take]
  exact ⟨_, rfl⟩
theorem e_feed {n : Nat} {ns : List Int} {o : O} (ho : o = .lst (ns.map .int) ∨ o = .frz (ns.map .int)) : ∃ (st : Sto) (ms : List Int), callN pg (n + 1) "_law_feed" [.ref 0] [o] = some (.ref 2, st) ∧ FeedAt st 2 1 ms 0 := by
  obtain ⟨ms, e⟩ := cut_ints ns none (some 63)
  have s : slD (.ref 0) none (some 63) [o] = some (.ref 1, [o, .lst (ms.map .int)]) := by
    rcases ho with rfl | rfl
    · show Sim.alloc (.lst (cutD _ _ _)) _ = _
      rw [e]; rfl
    · show Sim.alloc (.lst (cutD _ _ _)) _ = _
      rw [e]; rfl
  refine ⟨[o, .lst (ms.map .int), fd 1 0 0 0], ms, ?_, ⟨0, 0, 0, rfl, rfl, by decide, by decide, by decide⟩⟩
  rw [r__law_feed, runB_ev rfl]
  simp [b__law_feed, d__law_feed, s, Sim.alloc, fd]
end K03

namespace Sim
/-! ### fractions in lowest terms, reckoned with -/
abbrev NN := Nat × Nat
def ad (p q : NN) : NN := cut (p.1 * q.2 + q.1 * p.2) (p.2 * q.2)
def ml (p q : NN) : NN := cut (p.1 * q.1) (p.2 * q.2)
def sb (p q : NN) : NN := cut (p.1 * q.2 - q.1 * p.2) (p.2 * q.2)
def lt (p q : NN) : Prop := p.1 * q.2 < q.1 * p.2
instance (p q : NN) : Decidable (lt p q) := Nat.decLt _ _
structure Fr (p : NN) : Prop where
  z : 0 < p.2
  c : p.1.gcd p.2 = 1
theorem Fr.cut {a b : Nat} (h : 0 < b) : Fr (cut a b) := ⟨cut_pos h, cut_co h⟩
theorem Fr.self {p : NN} (h : Fr p) : Sim.cut p.1 p.2 = p := cut_self h.c
theorem Fr.ad {p q : NN} (h : Fr p) (k : Fr q) : Fr (ad p q) := Fr.cut (Nat.mul_pos h.z k.z)
theorem Fr.ml {p q : NN} (h : Fr p) (k : Fr q) : Fr (ml p q) := Fr.cut (Nat.mul_pos h.z k.z)
theorem Fr.sb {p q : NN} (h : Fr p) (k : Fr q) : Fr (sb p q) := Fr.cut (Nat.mul_pos h.z k.z)
theorem Fr.eq {p q : NN} (h : Fr p) (k : Fr q) (e : p.1 * q.2 = q.1 * p.2) : p = q := by
  obtain ⟨e1, e2⟩ := co_eq h.z k.z h.c k.c e
  exact Prod.ext e1 e2
/-- a fraction as it was cut from: some part k left out -/
theorem cut_ex {a b : Nat} (h : 0 < b) : ∃ k, 0 < k ∧ a = (cut a b).1 * k ∧ b = (cut a b).2 * k :=
  ⟨a.gcd b, gcd_pos h, (Nat.div_mul_cancel (Nat.gcd_dvd_left a b)).symm, (Nat.div_mul_cancel (Nat.gcd_dvd_right a b)).symm⟩
theorem cut_scale {a b k : Nat} (hb : 0 < b) (hk : 0 < k) : cut (a * k) (b * k) = cut a b :=
  cut_eq (Nat.mul_pos hb hk) hb (by rw [Nat.mul_right_comm, Nat.mul_assoc])
theorem ad_cut {a b c d : Nat} (hb : 0 < b) (hd : 0 < d) : ad (cut a b) (cut c d) = cut (a * d + c * b) (b * d) := by
  obtain ⟨k, k0, e1, e2⟩ := cut_ex (a := a) hb
  obtain ⟨m, m0, e3, e4⟩ := cut_ex (a := c) hd
  have z1 := cut_pos (a := a) hb
  have z2 := cut_pos (a := c) hd
  unfold ad
  generalize (cut a b).1 = x at *
  generalize (cut a b).2 = y at *
  generalize (cut c d).1 = u at *
  generalize (cut c d).2 = v at *
  subst e1 e2 e3 e4
  rw [← cut_scale (k := k * m) (Nat.mul_pos z1 z2) (Nat.mul_pos k0 m0)]
  congr 1
  · rw [Nat.add_mul]; congr 1 <;> simp only [Nat.mul_assoc, Nat.mul_comm, Nat.mul_left_comm]
  · simp only [Nat.mul_assoc, Nat.mul_comm, Nat.mul_left_comm]
theorem ml_cut {a b c d : Nat} (hb : 0 < b) (hd : 0 < d) : ml (cut a b) (cut c d) = cut (a * c) (b * d) := by
  obtain ⟨k, k0, e1, e2⟩ := cut_ex (a := a) hb
  obtain ⟨m, m0, e3, e4⟩ := cut_ex (a := c) hd
  have z1 := cut_pos (a := a) hb
  have z2 := cut_pos (a := c) hd
  unfold ml
  generalize (cut a b).1 = x at *
  generalize (cut a b).2 = y at *
  generalize (cut c d).1 = u at *
  generalize (cut c d).2 = v at *
  subst e1 e2 e3 e4
  rw [← cut_scale (k := k * m) (Nat.mul_pos z1 z2) (Nat.mul_pos k0 m0)]
  congr 1 <;> simp only [Nat.mul_assoc, Nat.mul_comm, Nat.mul_left_comm]
theorem sb_cut {a b c d : Nat} (hb : 0 < b) (hd : 0 < d) : sb (cut a b) (cut c d) = cut (a * d - c * b) (b * d) := by
  obtain ⟨k, k0, e1, e2⟩ := cut_ex (a := a) hb
  obtain ⟨m, m0, e3, e4⟩ := cut_ex (a := c) hd
  have z1 := cut_pos (a := a) hb
  have z2 := cut_pos (a := c) hd
  unfold sb
  generalize (cut a b).1 = x at *
  generalize (cut a b).2 = y at *
  generalize (cut c d).1 = u at *
  generalize (cut c d).2 = v at *
  subst e1 e2 e3 e4
  rw [← cut_scale (k := k * m) (Nat.mul_pos z1 z2) (Nat.mul_pos k0 m0)]
  congr 1
  · rw [Nat.sub_mul]; congr 1 <;> simp only [Nat.mul_assoc, Nat.mul_comm, Nat.mul_left_comm]
  · simp only [Nat.mul_assoc, Nat.mul_comm, Nat.mul_left_comm]
theorem lt_cut {a b c d : Nat} (hb : 0 < b) (hd : 0 < d) : lt (cut a b) (cut c d) ↔ a * d < c * b := by
  obtain ⟨k, k0, e1, e2⟩ := cut_ex (a := a) hb
  obtain ⟨m, m0, e3, e4⟩ := cut_ex (a := c) hd
  unfold lt
  generalize (cut a b).1 = x at *
  generalize (cut a b).2 = y at *
  generalize (cut c d).1 = u at *
  generalize (cut c d).2 = v at *
  subst e1 e2 e3 e4
  have q1 : x * k * (v * m) = x * v * (k * m) := by simp only [Nat.mul_assoc, Nat.mul_comm, Nat.mul_left_comm]
  have q2 : u * m * (y * k) = u * y * (k * m) := by simp only [Nat.mul_assoc, Nat.mul_comm, Nat.mul_left_comm]
  rw [q1, q2]
  exact (Nat.mul_lt_mul_right (Nat.mul_pos k0 m0)).symm
theorem ad_cutL {a b : Nat} {q : NN} (hb : 0 < b) (hq : Fr q) : ad (cut a b) q = cut (a * q.2 + q.1 * b) (b * q.2) := by
  have h := ad_cut (a := a) (c := q.1) hb hq.z
  rwa [hq.self] at h
theorem ad_cutR {c d : Nat} {p : NN} (hd : 0 < d) (hp : Fr p) : ad p (cut c d) = cut (p.1 * d + c * p.2) (p.2 * d) := by
  have h := ad_cut (a := p.1) (c := c) hp.z hd
  rwa [hp.self] at h
theorem ml_cutL {a b : Nat} {q : NN} (hb : 0 < b) (hq : Fr q) : ml (cut a b) q = cut (a * q.1) (b * q.2) := by
  have h := ml_cut (a := a) (c := q.1) hb hq.z
  rwa [hq.self] at h
theorem ml_cutR {c d : Nat} {p : NN} (hd : 0 < d) (hp : Fr p) : ml p (cut c d) = cut (p.1 * c) (p.2 * d) := by
  have h := ml_cut (a := p.1) (c := c) hp.z hd
  rwa [hp.self] at h
theorem sb_cutL {a b : Nat} {q : NN} (hb : 0 < b) (hq : Fr q) : sb (cut a b) q = cut (a * q.2 - q.1 * b) (b * q.2) := by
  have h := sb_cut (a := a) (c := q.1) hb hq.z
  rwa [hq.self] at h
section
variable {a b c : NN}
theorem ad_comm : ad a b = ad b a := by
  unfold ad
  rw [Nat.add_comm, Nat.mul_comm a.2]
theorem ml_comm : ml a b = ml b a := by
  unfold ml
  rw [Nat.mul_comm, Nat.mul_comm a.2]
theorem ad_assoc (ha : Fr a) (hb : Fr b) (hc : Fr c) : ad (ad a b) c = ad a (ad b c) := by
  have e1 := ad_cutL (a := a.1 * b.2 + b.1 * a.2) (Nat.mul_pos ha.z hb.z) hc
  have e2 := ad_cutR (c := b.1 * c.2 + c.1 * b.2) (Nat.mul_pos hb.z hc.z) ha
  refine e1.trans (Eq.trans ?_ e2.symm)
  congr 1
  · have q1 : (a.1 * b.2 + b.1 * a.2) * c.2 = a.1 * (b.2 * c.2) + b.1 * c.2 * a.2 := by
      rw [Nat.add_mul]; congr 1 <;> simp only [Nat.mul_assoc, Nat.mul_comm, Nat.mul_left_comm]
    have q2 : (b.1 * c.2 + c.1 * b.2) * a.2 = b.1 * c.2 * a.2 + c.1 * (a.2 * b.2) := by
      rw [Nat.add_mul]; congr 1; simp only [Nat.mul_assoc, Nat.mul_comm, Nat.mul_left_comm]
    rw [q1, q2, Nat.add_assoc]
  · rw [Nat.mul_assoc]
theorem ml_assoc (ha : Fr a) (hb : Fr b) (hc : Fr c) : ml (ml a b) c = ml a (ml b c) := by
  have e1 := ml_cutL (a := a.1 * b.1) (Nat.mul_pos ha.z hb.z) hc
  have e2 := ml_cutR (c := b.1 * c.1) (Nat.mul_pos hb.z hc.z) ha
  refine e1.trans (Eq.trans ?_ e2.symm)
  rw [Nat.mul_assoc, Nat.mul_assoc]
theorem ml_ad (ha : Fr a) (hb : Fr b) (hc : Fr c) : ml a (ad b c) = ad (ml a b) (ml a c) := by
  have e1 := ml_cutR (c := b.1 * c.2 + c.1 * b.2) (Nat.mul_pos hb.z hc.z) ha
  have e2 := ad_cut (a := a.1 * b.1) (c := a.1 * c.1) (Nat.mul_pos ha.z hb.z) (Nat.mul_pos ha.z hc.z)
  refine e1.trans (Eq.trans ?_ e2.symm)
  rw [← cut_scale (k := a.2) (Nat.mul_pos ha.z (Nat.mul_pos hb.z hc.z)) ha.z]
  congr 1
  · have q1 : a.1 * (b.1 * c.2 + c.1 * b.2) * a.2 = a.1 * b.1 * (a.2 * c.2) + a.1 * c.1 * (a.2 * b.2) := by
      rw [Nat.mul_add, Nat.add_mul]; congr 1 <;> simp only [Nat.mul_assoc, Nat.mul_comm, Nat.mul_left_comm]
    exact q1
  · simp only [Nat.mul_assoc, Nat.mul_comm, Nat.mul_left_comm]
theorem lt_trans' (ha : Fr a) (hb : Fr b) (hc : Fr c) (h1 : lt a b) (h2 : lt b c) : lt a c := by
  unfold lt at *
  have k1 : a.1 * b.2 * c.2 < b.1 * a.2 * c.2 := (Nat.mul_lt_mul_right hc.z).mpr h1
  have k2 : b.1 * c.2 * a.2 < c.1 * b.2 * a.2 := (Nat.mul_lt_mul_right ha.z).mpr h2
  have q1 : a.1 * b.2 * c.2 = a.1 * c.2 * b.2 := by simp only [Nat.mul_assoc, Nat.mul_comm, Nat.mul_left_comm]
  have q2 : b.1 * a.2 * c.2 = b.1 * c.2 * a.2 := by simp only [Nat.mul_assoc, Nat.mul_comm, Nat.mul_left_comm]
  have q3 : c.1 * b.2 * a.2 = c.1 * a.2 * b.2 := by simp only [Nat.mul_assoc, Nat.mul_comm, Nat.mul_left_comm]
  have k3 : a.1 * c.2 * b.2 < c.1 * a.2 * b.2 := by omega
  exact (Nat.mul_lt_mul_right hb.z).mp k3
theorem lt_ad (ha : Fr a) (hb : Fr b) (hc : Fr c) : lt (ad a c) (ad b c) ↔ lt a b := by
  unfold ad
  rw [lt_cut (Nat.mul_pos ha.z hc.z) (Nat.mul_pos hb.z hc.z)]
  unfold lt
  have q1 : (a.1 * c.2 + c.1 * a.2) * (b.2 * c.2) = a.1 * b.2 * (c.2 * c.2) + c.1 * a.2 * (b.2 * c.2) := by
    rw [Nat.add_mul]; congr 1; simp only [Nat.mul_assoc, Nat.mul_comm, Nat.mul_left_comm]
  have q2 : (b.1 * c.2 + c.1 * b.2) * (a.2 * c.2) = b.1 * a.2 * (c.2 * c.2) + c.1 * a.2 * (b.2 * c.2) := by
    rw [Nat.add_mul]; congr 1 <;> simp only [Nat.mul_assoc, Nat.mul_comm, Nat.mul_left_comm]
  rw [q1, q2, Nat.add_lt_add_iff_right]
  exact Nat.mul_lt_mul_right (Nat.mul_pos hc.z hc.z)
theorem lt_ml (ha : Fr a) (hb : Fr b) (hc : Fr c) (h0 : c ≠ (0, 1)) : lt (ml a c) (ml b c) ↔ lt a b := by
  have c1 : 0 < c.1 := by
    rcases Nat.eq_zero_or_pos c.1 with e | e
    · have h := hc.c
      rw [e, Nat.gcd_zero_left] at h
      exact absurd (Prod.ext e h) h0
    · exact e
  unfold ml
  rw [lt_cut (Nat.mul_pos ha.z hc.z) (Nat.mul_pos hb.z hc.z)]
  unfold lt
  have q1 : (a.1 * c.1) * (b.2 * c.2) = a.1 * b.2 * (c.1 * c.2) := by simp only [Nat.mul_assoc, Nat.mul_comm, Nat.mul_left_comm]
  have q2 : (b.1 * c.1) * (a.2 * c.2) = b.1 * a.2 * (c.1 * c.2) := by simp only [Nat.mul_assoc, Nat.mul_comm, Nat.mul_left_comm]
  rw [q1, q2]
  exact Nat.mul_lt_mul_right (Nat.mul_pos c1 hc.z)
theorem sb_ad (ha : Fr a) (hb : Fr b) : sb (ad a b) b = a := by
  have e1 := sb_cutL (a := a.1 * b.2 + b.1 * a.2) (Nat.mul_pos ha.z hb.z) hb
  refine e1.trans (Eq.trans ?_ ha.self)
  have e : (a.1 * b.2 + b.1 * a.2) * b.2 - b.1 * (a.2 * b.2) = a.1 * (b.2 * b.2) := by
    rw [Nat.add_mul, Nat.mul_assoc b.1, Nat.add_sub_cancel, Nat.mul_assoc]
  rw [e, Nat.mul_assoc]
  exact cut_scale ha.z (Nat.mul_pos hb.z hb.z)
theorem ad_sb (ha : Fr a) (hb : Fr b) (h : ¬ lt a b) : ad (sb a b) b = a := by
  unfold lt at h
  have e1 := ad_cutL (a := a.1 * b.2 - b.1 * a.2) (Nat.mul_pos ha.z hb.z) hb
  refine e1.trans (Eq.trans ?_ ha.self)
  have e : (a.1 * b.2 - b.1 * a.2) * b.2 + b.1 * (a.2 * b.2) = a.1 * (b.2 * b.2) := by
    have q : b.1 * (a.2 * b.2) = b.1 * a.2 * b.2 := by rw [Nat.mul_assoc]
    rw [q, ← Nat.add_mul, Nat.sub_add_cancel (by omega), Nat.mul_assoc]
  rw [e, Nat.mul_assoc]
  exact cut_scale ha.z (Nat.mul_pos hb.z hb.z)
theorem lt_tri (ha : Fr a) (hb : Fr b) : (lt a b ∧ a ≠ b ∧ ¬ lt b a) ∨ (¬ lt a b ∧ a = b ∧ ¬ lt b a) ∨ (¬ lt a b ∧ a ≠ b ∧ lt b a) := by
  unfold lt
  rcases Nat.lt_trichotomy (a.1 * b.2) (b.1 * a.2) with h | h | h
  · exact .inl ⟨h, fun e => by subst e; omega, by omega⟩
  · exact .inr (.inl ⟨by omega, ha.eq hb h, by omega⟩)
  · exact .inr (.inr ⟨by omega, fun e => by subst e; omega, h⟩)
theorem ad_zero (ha : Fr a) : ad a (0, 1) = a := by
  unfold ad
  simp only [Nat.mul_one, Nat.zero_mul, Nat.add_zero]
  exact ha.self
theorem ml_one (ha : Fr a) : ml a (1, 1) = a := by
  unfold ml
  simp only [Nat.mul_one]
  exact ha.self
theorem cut_zero {b : Nat} (h : 0 < b) : cut 0 b = (0, 1) := by
  unfold cut
  rw [Nat.gcd_zero_left, Nat.zero_div, Nat.div_self h]
theorem ml_zero (ha : Fr a) : ml a (0, 1) = (0, 1) := by
  unfold ml
  simp only [Nat.mul_zero, Nat.mul_one]
  exact cut_zero ha.z
theorem sb_self (ha : Fr a) : sb a a = (0, 1) := by
  unfold sb
  rw [Nat.sub_self]
  exact cut_zero (Nat.mul_pos ha.z ha.z)
theorem cut_one {b : Nat} (h : 0 < b) : cut b b = (1, 1) := by
  unfold cut
  rw [Nat.gcd_self, Nat.div_self h]
theorem ml_inv (ha : Fr a) (h : 0 < a.1) : ml a (a.2, a.1) = (1, 1) := by
  unfold ml
  show cut (a.1 * a.2) (a.2 * a.1) = _
  rw [Nat.mul_comm a.2]
  exact cut_one (Nat.mul_pos h ha.z)
end
end Sim

namespace K03
open PySem Sim
def bp (b : Bool) : D × PyData := (.bl b, .bool b)
theorem dle (a b : Bool) : PySem.W.dataLe false (fun p : D × PyData => p.2) (bp a) (bp b) = (!a || b) := by
  cases a <;> cases b <;> rfl
theorem sort3 {x y z : Bool} (h : (x = true ∧ y = false ∧ z = false) ∨ (x = false ∧ y = true ∧ z = false) ∨ (x = false ∧ y = false ∧ z = true)) : sortD [bp x, bp y, bp z] = [.bl false, .bl false, .bl true] := by
  have p : ([bp x, bp y, bp z].mergeSort (PySem.W.dataLe false (·.2))) = [bp false, bp false, bp true] := by
    rcases h with ⟨rfl, rfl, rfl⟩ | ⟨rfl, rfl, rfl⟩ | ⟨rfl, rfl, rfl⟩ <;> simp [List.mergeSort, List.MergeSort.Internal.splitInTwo, List.merge, dle]
  unfold sortD
  rw [p]; rfl
theorem e_sorted {x y z : Bool} {st : Sto} {n : Nat} (h : (x = true ∧ y = false ∧ z = false) ∨ (x = false ∧ y = true ∧ z = false) ∨ (x = false ∧ y = false ∧ z = true)) (hn : st[n]? = some (.lst [.bl x, .bl y, .bl z])) :
    bSorted [.ref n] st = some (.ref st.length, st ++ [.lst [.bl false, .bl false, .bl true]]) := by
  have e1 : lstOf (.ref n) st = some [.bl x, .bl y, .bl z] := by
    show items (.ref n) st = _
    unfold items
    simp only [hn]
  have e2 : pairUp st [.bl x, .bl y, .bl z] = some [bp x, bp y, bp z] := rfl
  have e3 : sortable ([bp x, bp y, bp z].map (·.2)) = true := by
    cases x <;> cases y <;> cases z <;> decide
  show (lstOf (.ref n) st).bind _ = _
  rw [e1, Option.bind_some, e2, Option.bind_some, if_pos e3, sort3 h]
  rfl
@[simp] theorem eq_qq {p q : NN} {st : Sto} : cmpop .Eq (q2 p) (q2 q) st = some (decide (p = q)) := by
  rw [eq_data (d := qp p) (e := qp q) rfl rfl rfl rfl]
  congr 1
  have e : PyData.eqv (qp p) (qp q) = (((p.1 : Int) == (q.1 : Int)) && (((p.2 : Int) == (q.2 : Int)) && true)) := rfl
  rw [e, Bool.eq_iff_iff]
  obtain ⟨a, b⟩ := p
  obtain ⟨c, d⟩ := q
  simp [Prod.ext_iff]
  omega
@[simp] theorem ne_qq {p q : NN} {st : Sto} : cmpop .NotEq (q2 p) (q2 q) st = some (!decide (p = q)) := by
  show (cmpop .Eq (q2 p) (q2 q) st).map _ = _
  rw [eq_qq]; rfl
@[simp] theorem ne_bb {x y : Bool} {st : Sto} : cmpop .NotEq (.bl x) (.bl y) st = some (!(x == y)) := by
  show (cmpop .Eq (.bl x) (.bl y) st).map _ = _
  rw [eq_data (d := .bool x) (e := .bool y) rfl rfl rfl rfl]; rfl
theorem in_qq {p q r : NN} {st : Sto} (h : p = q ∨ p = r) : cmpop .NotIn (q2 p) (.tup [q2 q, q2 r]) st = some false := by
  have e : cmpop .In (q2 p) (.tup [q2 q, q2 r]) st = some true := by
    have e0 : cmpop .In (q2 p) (.tup [q2 q, q2 r]) st = inD (q2 p) (.tup [q2 q, q2 r]) st := rfl
    rw [e0]
    have e1 : inD (q2 p) (.tup [q2 q, q2 r]) st = inDeep (q2 p) (.tup [q2 q, q2 r]) st := rfl
    rw [e1]
    have e2 : inDeep (q2 p) (.tup [q2 q, q2 r]) st = some ([qp q, qp r].any fun z => PyData.eqv z (qp p)) := rfl
    rw [e2]
    have er : ∀ x : NN, PyData.eqv (qp x) (qp x) = true := fun x => PySem.SeqAt.eqv_refl _ rfl
    rcases h with rfl | rfl
    · simp [er]
    · simp [er]
  have e5 : cmpop .NotIn (q2 p) (.tup [q2 q, q2 r]) st = (cmpop .In (q2 p) (.tup [q2 q, q2 r]) st).map (!·) := rfl
  rw [e5, e]; rfl
/-- below 2^k, in lowest terms -/
structure Lb (k : Nat) (p : NN) : Prop where
  a : p.1 < 2 ^ k
  b : p.2 < 2 ^ k
  f : Fr p
theorem Lb.w {k : Nat} {p : NN} (h : Lb k p) (hk : k ≤ 98) : Lw p := by
  have : 2 ^ k ≤ 2 ^ 98 := Nat.pow_le_pow_right (by decide) hk
  exact ⟨Nat.lt_of_lt_of_le h.a this, Nat.lt_of_lt_of_le h.b this, h.f.z⟩
theorem Lb.up {k m : Nat} {p : NN} (h : Lb k p) (hk : k ≤ m) : Lb m p := by
  have : 2 ^ k ≤ 2 ^ m := Nat.pow_le_pow_right (by decide) hk
  exact ⟨Nat.lt_of_lt_of_le h.a this, Nat.lt_of_lt_of_le h.b this, h.f⟩
theorem mulp {k m a b : Nat} (ha : a < 2 ^ k) (hb : b < 2 ^ m) : a * b < 2 ^ (k + m) := by
  have := Nat.mul_lt_mul'' ha hb
  rwa [← Nat.pow_add] at this
theorem Lb.ad {k m : Nat} {p q : NN} (h : Lb k p) (g : Lb m q) : Lb (k + m + 1) (ad p q) := by
  have h1 := mulp h.a g.b
  have h2 := mulp g.a h.b
  have h3 := mulp h.b g.b
  rw [Nat.add_comm m k] at h2
  have e : 2 ^ (k + m + 1) = 2 ^ (k + m) * 2 := Nat.pow_succ ..
  exact ⟨by rw [e]; exact Nat.lt_of_le_of_lt cut_le1 (by omega), by rw [e]; exact Nat.lt_of_le_of_lt cut_le2 (by omega), h.f.ad g.f⟩
theorem Lb.ml {k m : Nat} {p q : NN} (h : Lb k p) (g : Lb m q) : Lb (k + m) (ml p q) :=
  ⟨Nat.lt_of_le_of_lt cut_le1 (mulp h.a g.a), Nat.lt_of_le_of_lt cut_le2 (mulp h.b g.b), h.f.ml g.f⟩
theorem Lb.sb {k m : Nat} {p q : NN} (h : Lb k p) (g : Lb m q) : Lb (k + m) (sb p q) :=
  ⟨Nat.lt_of_le_of_lt cut_le1 (Nat.lt_of_le_of_lt (Nat.sub_le _ _) (mulp h.a g.b)), Nat.lt_of_le_of_lt cut_le2 (mulp h.b g.b), h.f.sb g.f⟩
section
variable {n k m : Nat} {p q : NN} {st : Sto}
theorem f_ad (hp : Lb k p) (hq : Lb m q) (h1 : k ≤ 98) (h2 : m ≤ 98) : callN pg (n + 2) "plus" [q2 p, q2 q] st = some (q2 (ad p q), st) := e_plus (hp.w h1) (hq.w h2)
theorem f_ml (hp : Lb k p) (hq : Lb m q) (h1 : k ≤ 98) (h2 : m ≤ 98) : callN pg (n + 2) "times" [q2 p, q2 q] st = some (q2 (ml p q), st) := e_times (hp.w h1) (hq.w h2)
theorem f_lt (hp : Lb k p) (hq : Lb m q) (h1 : k ≤ 98) (h2 : m ≤ 98) : callN pg (n + 1) "is_less" [q2 p, q2 q] st = some (.bl (decide (lt p q)), st) := e_is_less (hp.w h1) (hq.w h2)
theorem f_sb (hp : Lb k p) (hq : Lb m q) (h1 : k ≤ 98) (h2 : m ≤ 98) : callN pg (n + 2) "minus" [q2 p, q2 q] st = some (if lt p q then .non else q2 (sb p q), st) := e_minus (hp.w h1) (hq.w h2)
theorem f_le (hp : Lb k p) (hq : Lb m q) (h1 : k ≤ 98) (h2 : m ≤ 98) : callN pg (n + 2) "lesser" [q2 p, q2 q] st = some (q2 (if lt q p then q else p), st) := by
  have e := e_lesser (n := n) (st := st) (hp.w h1) (hq.w h2)
  rw [e]
  have c : (q.1 * p.2 < p.1 * q.2) = lt q p := rfl
  by_cases h : lt q p
  · rw [if_pos h, if_pos (c ▸ h)]
  · rw [if_neg h, if_neg (c ▸ h)]
theorem f_num (x : Nat) : callN pg (n + 1) "is_number" [.int (x : Nat)] st = some (.bl true, st) := by
  rw [r_is_number, runB_ev rfl]
  have i1 : isInst "int" (.int (x : Nat)) st = some true := rfl
  have i2 : isInst "bool" (.int (x : Nat)) st = some false := rfl
  have i3 : (0 : Int) ≤ (x : Nat) := by omega
  simp [b_is_number, d_is_number, i1, i2]
theorem f_row : callN pg (n + 1) "is_row" [q2 p, .int 2] st = some (.bl true, st) := by
  rw [r_is_row, runB_ev rfl]
  have i1 : isInst "tuple" (q2 p) st = some true := rfl
  have i2 : bLen [q2 p] st = some (.int 2, st) := rfl
  simp [b_is_row, d_is_row, i1, i2]
theorem f_frac (hp : Fr p) : callN pg (n + 2) "is_fraction" [q2 p] st = some (.bl true, st) := by
  rw [r_is_fraction, runB_ev rfl]
  have i1 := f_row (n := n) (p := p) (st := st)
  have i2 := f_num (n := n) (st := st) p.1
  have i3 := f_num (n := n) (st := st) p.2
  have i4 : bGcd [.int (p.1 : Nat), .int (p.2 : Nat)] st = some (.int 1, st) := by
    show some (D.int ((Nat.gcd (p.1 : Int).natAbs (p.2 : Int).natAbs : Nat) : Int), st) = _
    rw [Int.natAbs_natCast, Int.natAbs_natCast, hp.c]; rfl
  have i5 : ∀ η, gvTup (gvCons (gvName 1) (gvCons (gvName 2) (gvNil))) (q2 p) η = some ((η.set 1 (some (.int (p.1 : Nat)))).set 2 (some (.int (p.2 : Nat)))) := fun _ => rfl
  have z := hp.z
  simp [b_is_fraction, d_is_fraction, i1, i2, i3, i4, i5, z]
end
end K03

namespace K03
open PySem Sim
theorem if_no {g : SemT} {f r : SemS} {η : LocD} {st st' : Sto} (h : g η st = some (false, st')) : sSeq (sIf g f sNil) r η st = r η st' := by
  rw [sSeq_ev, sIf_ev, h]; rfl
theorem seq_nx {f g : SemS} {η η' : LocD} {st st' : Sto} (h : f η st = some (.nx η', st')) : sSeq f g η st = g η' st' := by
  rw [sSeq_ev, h]; rfl
theorem lt200 {x : Nat} (h : x < 2 ^ 98) : x < 2 ^ 200 := Nat.lt_trans h (by decide)
def Ext (st st' : Sto) : Prop := ∀ (n : Nat) (o : O), st[n]? = some o → st'[n]? = some o
theorem Ext.refl (st : Sto) : Ext st st := fun _ _ h => h
theorem Ext.trans {a b c : Sto} (h : Ext a b) (k : Ext b c) : Ext a c := fun n o q => k n o (h n o q)
theorem Ext.app {st : Sto} {o : O} : Ext st (st ++ [o]) := fun n o' h => get_app h
theorem Ext.feed {st st' : Sto} {f g : Nat} {ns : List Int} {t : Nat} (e : Ext st st') (h : FeedAt st f g ns t) : FeedAt st' f g ns t := by
  obtain ⟨i, c, k, h1, h2, h3⟩ := h.ex
  exact ⟨i, c, k, e _ _ h1, e _ _ h2, h3⟩
theorem c01 : D.tup [.int 0, .int 1] = q2 (0, 1) := rfl
theorem c11 : D.tup [.int 1, .int 1] = q2 (1, 1) := rfl
theorem fr01 : Fr (0, 1) := ⟨by decide, by decide⟩
theorem fr11 : Fr (1, 1) := ⟨by decide, by decide⟩
theorem lb01 : Lb 1 (0, 1) := ⟨by decide, by decide, fr01⟩
theorem lb11 : Lb 1 (1, 1) := ⟨by decide, by decide, fr11⟩
theorem not_lt_ad {p q : NN} (hp : Fr p) (hq : Fr q) : ¬ lt (ad p q) q := by
  have h := lt_cut (a := p.1 * q.2 + q.1 * p.2) (c := q.1) (Nat.mul_pos hp.z hq.z) hq.z
  rw [hq.self] at h
  intro k
  have k2 := h.mp k
  have e : (p.1 * q.2 + q.1 * p.2) * q.2 = p.1 * q.2 * q.2 + q.1 * (p.2 * q.2) := by rw [Nat.add_mul, Nat.mul_assoc q.1]
  rw [e] at k2
  omega
theorem lt_irr {p : NN} : ¬ lt p p := Nat.lt_irrefl _
theorem frac_loop {n : Nat} {e0 e1 e2 e4 e5 : Option D} {st : Sto} : ∀ (ps : List NN) (o : Option D), (∀ p ∈ ps, Fr p) → ∃ o', forGo (gvName 3) (sSeq (sIf (gCmp .IsNot (fCall (callN pg (n + 2)) "is_fraction" (fCons (fVar 3) (fNil))) (fC (.bl true)))
          (sSeq (sRet (fC (.bl false)))
            (sNil))
          (sNil))
        (sNil)) none (ps.map q2) [e0, e1, e2, o, e4, e5] st = some (.nx [e0, e1, e2, o', e4, e5], st)
  | [], o, _ => ⟨o, forGo_nil⟩
  | p :: r, o, h => by
    have e := f_frac (n := n) (st := st) (h p List.mem_cons_self)
    obtain ⟨o', ih⟩ := frac_loop r (some (q2 p)) (fun q hq => h q (List.mem_cons_of_mem _ hq)) (n := n) (st := st) (e0 := e0) (e1 := e1) (e2 := e2) (e4 := e4) (e5 := e5)
    refine ⟨o', Eq.trans (forGo_nx (η2 := [e0, e1, e2, some (q2 p), e4, e5]) rfl ?_) ih⟩
    have c : cmpop .IsNot (.bl true) (.bl true) st = some false := rfl
    simp [e, c]
theorem e_two {n : Nat} {p q : NN} {st : Sto} (hp : Lb 20 p) (hq : Lb 20 q) : ∃ st', callN pg (n + 3) "_law_two_right" [q2 p, q2 q] st = some (.bl true, st') ∧ Ext st st' := by
  have fp := hp.f
  have fq := hq.f
  have tri := lt_tri fp fq
  have lpq := fun s : Sto => f_lt (n := n + 1) (st := s) hp hq (by decide) (by decide)
  have lqp := fun s : Sto => f_lt (n := n + 1) (st := s) hq hp (by decide) (by decide)
  have apq := fun s : Sto => f_ad (n := n) (st := s) hp hq (by decide) (by decide)
  have aqp := fun s : Sto => f_ad (n := n) (st := s) hq hp (by decide) (by decide)
  have mpq := fun s : Sto => f_ml (n := n) (st := s) hp hq (by decide) (by decide)
  have mqp := fun s : Sto => f_ml (n := n) (st := s) hq hp (by decide) (by decide)
  have spq := fun s : Sto => f_sb (n := n) (st := s) hp hq (by decide) (by decide)
  have gpq := fun s : Sto => f_le (n := n) (st := s) hp hq (by decide) (by decide)
  have hl : Lb 20 (if lt q p then q else p) := by split <;> assumption
  have lpl := fun s : Sto => f_lt (n := n + 1) (st := s) hp hl (by decide) (by decide)
  have lql := fun s : Sto => f_lt (n := n + 1) (st := s) hq hl (by decide) (by decide)
  have sa := fun s : Sto => f_sb (n := n) (st := s) (hp.ad hq) hq (by decide) (by decide)
  have ff := fun s : Sto => f_frac (n := n) (st := s) (fp.sb fq)
  have as := fun s : Sto => f_ad (n := n) (st := s) (hp.sb hq) hq (by decide) (by decide)
  have az := fun s : Sto => f_ad (n := n) (st := s) hp lb01 (by decide) (by decide)
  have mo := fun s : Sto => f_ml (n := n) (st := s) hp lb11 (by decide) (by decide)
  have mz := fun s : Sto => f_ml (n := n) (st := s) hp lb01 (by decide) (by decide)
  have sp := fun s : Sto => f_sb (n := n) (st := s) hp hp (by decide) (by decide)
  rw [ad_zero fp] at az
  rw [ml_one fp] at mo
  rw [ml_zero fp] at mz
  simp only [if_neg (lt_irr (p := p)), sb_self fp] at sp
  simp only [if_neg (not_lt_ad fp fq), sb_ad fp fq] at sa
  rw [ad_comm (a := q)] at aqp
  rw [ml_comm (a := q)] at mqp
  have nl1 : ¬ lt p (if lt q p then q else p) := by
    rcases tri with ⟨h1, h2, h3⟩ | ⟨h1, h2, h3⟩ | ⟨h1, h2, h3⟩
    · rw [if_neg h3]; exact lt_irr
    · rw [if_neg h3]; exact lt_irr
    · rw [if_pos h3]; exact h1
  have nl2 : ¬ lt q (if lt q p then q else p) := by
    split
    · exact lt_irr
    · assumption
  have inn : ∀ s : Sto, cmpop .NotIn (q2 (if lt q p then q else p)) (.tup [q2 p, q2 q]) s = some false := fun s => in_qq (by split <;> simp)
  have frl : Fr (if lt q p then q else p) := hl.f
  generalize (if lt q p then q else p) = l at *
  -- the three told
  have s1 : (sAsg (fLst (fCons (fCall (callN pg (n + 2)) "is_less" (fCons (fVar 0) (fCons (fVar 1) (fNil)))) (fCons (fCmp .Eq (fVar 0) (fVar 1)) (fCons (fCall (callN pg (n + 2)) "is_less" (fCons (fVar 1) (fCons (fVar 0) (fNil)))) (fNil))))) (gvName 2)) [some (q2 p), some (q2 q), none, none, none, none] st =
      some (.nx [some (q2 p), some (q2 q), some (.ref st.length), none, none, none], st ++ [.lst [.bl (decide (lt p q)), .bl (decide (p = q)), .bl (decide (lt q p))]]) := by
    simp [lpq, lqp, Sim.alloc]
  have g1 : (st ++ [O.lst [.bl (decide (lt p q)), .bl (decide (p = q)), .bl (decide (lt q p))]])[st.length]? = some (.lst [.bl (decide (lt p q)), .bl (decide (p = q)), .bl (decide (lt q p))]) := by
    rw [List.getElem?_append_right (Nat.le_refl _)]; simp
  have x1 : Ext st (st ++ [O.lst [.bl (decide (lt p q)), .bl (decide (p = q)), .bl (decide (lt q p))]]) := Ext.app
  generalize st ++ [O.lst [.bl (decide (lt p q)), .bl (decide (p = q)), .bl (decide (lt q p))]] = t1 at *
  have so := e_sorted (st := t1) (x := decide (lt p q)) (y := decide (p = q)) (z := decide (lt q p)) (by
    rcases tri with ⟨h1, h2, h3⟩ | ⟨h1, h2, h3⟩ | ⟨h1, h2, h3⟩
    · exact .inl ⟨decide_eq_true h1, decide_eq_false h2, decide_eq_false h3⟩
    · exact .inr (.inl ⟨decide_eq_false h1, decide_eq_true h2, decide_eq_false h3⟩)
    · exact .inr (.inr ⟨decide_eq_false h1, decide_eq_false h2, decide_eq_true h3⟩)) g1
  have g2 : (t1 ++ [O.lst [.bl false, .bl false, .bl true]])[t1.length]? = some (.lst [.bl false, .bl false, .bl true]) := by
    rw [List.getElem?_append_right (Nat.le_refl _)]; simp
  have x2 : Ext t1 (t1 ++ [O.lst [.bl false, .bl false, .bl true]]) := Ext.app
  generalize t1 ++ [O.lst [.bl false, .bl false, .bl true]] = t2 at *
  have g3 : (t2 ++ [O.lst [.bl false, .bl false, .bl true]])[t2.length]? = some (.lst [.bl false, .bl false, .bl true]) := by
    rw [List.getElem?_append_right (Nat.le_refl _)]; simp
  have x3 : Ext t2 (t2 ++ [O.lst [.bl false, .bl false, .bl true]]) := Ext.app
  have al : Sim.alloc (.lst [.bl false, .bl false, .bl true]) t2 = some (.ref t2.length, t2 ++ [O.lst [.bl false, .bl false, .bl true]]) := rfl
  generalize t2 ++ [O.lst [.bl false, .bl false, .bl true]] = t3 at *
  have g4 := x3 _ _ g2
  have g5 := x3 _ _ (x2 _ _ g1)
  have ne3 : cmpop .NotEq (.ref t1.length) (.ref t2.length) t3 = some false := by
    have e : cmpop .Eq (.ref t1.length) (.ref t2.length) t3 = some true := by
      have k : ∀ m : Nat, t3[m]? = some (.lst [.bl false, .bl false, .bl true]) → toP t3 40 (.ref m) = some (.list [.bool false, .bool false, .bool true]) := fun m h => by
        unfold toP
        rw [h]; rfl
      rw [eq_data (k _ g4) (k _ g3) rfl rfl]; rfl
    have e5 : cmpop .NotEq (.ref t1.length) (.ref t2.length) t3 = (cmpop .Eq (.ref t1.length) (.ref t2.length) t3).map (!·) := rfl
    rw [e5, e]; rfl
  have s2 : (gCmp .NotEq (fBlt bSorted (fCons (fVar 2) (fNil))) (fLst (fCons (fC (.bl false)) (fCons (fC (.bl false)) (fCons (fC (.bl true)) (fNil)))))) [some (q2 p), some (q2 q), some (.ref st.length), none, none, none] t1 = some (false, t3) := by
    simp [so, al, ne3]
  refine ⟨t3, ?_, (x1.trans x2).trans x3⟩
  obtain ⟨o3, lo⟩ := frac_loop (n := n) (st := t3) (e0 := some (q2 p)) (e1 := some (q2 q)) (e2 := some (.ref st.length)) (e4 := none) (e5 := none) [ad p q, ml p q, l] none (fun x hx => by
    simp only [List.mem_cons, List.not_mem_nil, or_false] at hx
    rcases hx with rfl | rfl | rfl
    · exact fp.ad fq
    · exact fp.ml fq
    · exact frl)
  have s3 : (sFor (iPlain (fTup (fCons (fCall (callN pg (n + 2)) "plus" (fCons (fVar 0) (fCons (fVar 1) (fNil)))) (fCons (fCall (callN pg (n + 2)) "times" (fCons (fVar 0) (fCons (fVar 1) (fNil)))) (fCons (fCall (callN pg (n + 2)) "lesser" (fCons (fVar 0) (fCons (fVar 1) (fNil)))) (fNil)))))) (gvName 3)
      (sSeq (sIf (gCmp .IsNot (fCall (callN pg (n + 2)) "is_fraction" (fCons (fVar 3) (fNil))) (fC (.bl true)))
          (sSeq (sRet (fC (.bl false)))
            (sNil))
          (sNil))
        (sNil))) [some (q2 p), some (q2 q), some (.ref st.length), none, none, none] t3 = some (.nx [some (q2 p), some (q2 q), some (.ref st.length), o3, none, none], t3) := by
    have src : (iPlain (fTup (fCons (fCall (callN pg (n + 2)) "plus" (fCons (fVar 0) (fCons (fVar 1) (fNil)))) (fCons (fCall (callN pg (n + 2)) "times" (fCons (fVar 0) (fCons (fVar 1) (fNil)))) (fCons (fCall (callN pg (n + 2)) "lesser" (fCons (fVar 0) (fCons (fVar 1) (fNil)))) (fNil)))))) [some (q2 p), some (q2 q), some (.ref st.length), none, none, none] t3 = some (⟨[ad p q, ml p q, l].map q2, none⟩, t3) := by
      simp [apq, mpq, gpq]
    rw [sFor_ev, src]
    exact lo
  have s4 : (gOr (gCmp .NotEq (fCall (callN pg (n + 2)) "plus" (fCons (fVar 0) (fCons (fVar 1) (fNil)))) (fCall (callN pg (n + 2)) "plus" (fCons (fVar 1) (fCons (fVar 0) (fNil))))) (gCmp .NotEq (fCall (callN pg (n + 2)) "times" (fCons (fVar 0) (fCons (fVar 1) (fNil)))) (fCall (callN pg (n + 2)) "times" (fCons (fVar 1) (fCons (fVar 0) (fNil)))))) [some (q2 p), some (q2 q), some (.ref st.length), o3, none, none] t3 = some (false, t3) := by
    simp [apq, aqp, mpq, mqp]
  have ix0 : ix (.ref st.length) (.int 0) t3 = some (.bl (decide (lt p q))) := ix_ref (j := 0) g5 rfl
  have s5 : ∃ m : D, (sPar2 4 5 (fCons (fCall (callN pg (n + 2)) "minus" (fCons (fVar 0) (fCons (fVar 1) (fNil)))) (fCons (fCall (callN pg (n + 2)) "lesser" (fCons (fVar 0) (fCons (fVar 1) (fNil)))) (fNil)))) [some (q2 p), some (q2 q), some (.ref st.length), o3, none, none] t3 = some (.nx [some (q2 p), some (q2 q), some (.ref st.length), o3, some m, some (q2 l)], t3) ∧
      (gOr (gCmp .NotEq (fCmp .Is (fVar 4) (fC .non)) (fIx (fVar 2) (fC (.int 0)))) (gAnd (gCmp .IsNot (fVar 4) (fC .non)) (gOr (gCmp .IsNot (fCall (callN pg (n + 2)) "is_fraction" (fCons (fVar 4) (fNil))) (fC (.bl true))) (gCmp .NotEq (fCall (callN pg (n + 2)) "plus" (fCons (fVar 4) (fCons (fVar 1) (fNil)))) (fVar 0))))) [some (q2 p), some (q2 q), some (.ref st.length), o3, some m, some (q2 l)] t3 = some (false, t3) := by
    by_cases h : lt p q
    · refine ⟨.non, by simp [spq, gpq, h], ?_⟩
      have i1 : cmpop .Is .non .non t3 = some true := rfl
      have i2 : cmpop .IsNot .non .non t3 = some false := rfl
      simp [ix0, h, i1, i2]
    · refine ⟨q2 (sb p q), by simp [spq, gpq, h], ?_⟩
      have i1 : cmpop .Is (q2 (sb p q)) .non t3 = some false := rfl
      have i2 : cmpop .IsNot (q2 (sb p q)) .non t3 = some true := rfl
      have i3 : cmpop .IsNot (.bl true) (.bl true) t3 = some false := rfl
      have i4 := ad_sb fp fq h
      simp [ix0, h, i1, i2, i3, ff, as, i4]
  obtain ⟨m, s5, s6⟩ := s5
  have s7 : (gOr (gCmp .NotEq (fCall (callN pg (n + 2)) "minus" (fCons (fCall (callN pg (n + 2)) "plus" (fCons (fVar 0) (fCons (fVar 1) (fNil)))) (fCons (fVar 1) (fNil)))) (fVar 0)) (gCmp .NotIn (fVar 5) (fTup (fCons (fVar 0) (fCons (fVar 1) (fNil)))))) [some (q2 p), some (q2 q), some (.ref st.length), o3, some m, some (q2 l)] t3 = some (false, t3) := by
    simp [apq, sa, inn]
  have s8 : (gOr (gTru (fCall (callN pg (n + 2)) "is_less" (fCons (fVar 0) (fCons (fVar 5) (fNil))))) (gTru (fCall (callN pg (n + 2)) "is_less" (fCons (fVar 1) (fCons (fVar 5) (fNil)))))) [some (q2 p), some (q2 q), some (.ref st.length), o3, some m, some (q2 l)] t3 = some (false, t3) := by
    simp [lpl, lql, nl1, nl2]
  have s9 : (gOr (gCmp .NotEq (fCall (callN pg (n + 2)) "plus" (fCons (fVar 0) (fCons (fTup (fCons (fC (.int 0)) (fCons (fC (.int 1)) (fNil)))) (fNil)))) (fVar 0)) (gCmp .NotEq (fCall (callN pg (n + 2)) "times" (fCons (fVar 0) (fCons (fTup (fCons (fC (.int 1)) (fCons (fC (.int 1)) (fNil)))) (fNil)))) (fVar 0))) [some (q2 p), some (q2 q), some (.ref st.length), o3, some m, some (q2 l)] t3 = some (false, t3) := by
    simp [c01, c11, az, mo]
  have s10 : (gOr (gCmp .NotEq (fCall (callN pg (n + 2)) "times" (fCons (fVar 0) (fCons (fTup (fCons (fC (.int 0)) (fCons (fC (.int 1)) (fNil)))) (fNil)))) (fTup (fCons (fC (.int 0)) (fCons (fC (.int 1)) (fNil))))) (gCmp .NotEq (fCall (callN pg (n + 2)) "minus" (fCons (fVar 0) (fCons (fVar 0) (fNil)))) (fTup (fCons (fC (.int 0)) (fCons (fC (.int 1)) (fNil)))))) [some (q2 p), some (q2 q), some (.ref st.length), o3, some m, some (q2 l)] t3 = some (false, t3) := by
    simp [c01, mz, sp]
  have s11 : (fOrV (fCmp .Eq (fIx (fVar 0) (fC (.int 0))) (fC (.int 0))) (fCmp .Eq (fCall (callN pg (n + 2)) "times" (fCons (fVar 0) (fCons (fCall (callN pg (n + 2)) "fraction_of" (fCons (fIx (fVar 0) (fC (.int 1))) (fCons (fIx (fVar 0) (fC (.int 0))) (fNil)))) (fNil)))) (fTup (fCons (fC (.int 1)) (fCons (fC (.int 1)) (fNil)))))) [some (q2 p), some (q2 q), some (.ref st.length), o3, some m, some (q2 l)] t3 = some (.bl true, t3) := by
    by_cases h : p.1 = 0
    · simp [h]
    · have h0 : 0 < p.1 := by omega
      have lp := hp.w (by decide)
      have e := e_fraction_of (n := n + 1) (a := p.2) (b := p.1) (st := t3) h0 (lt200 lp.a)
      have ei : cut p.2 p.1 = (p.2, p.1) := cut_self (by rw [Nat.gcd_comm]; exact fp.c)
      rw [ei] at e
      have hi : Lb 20 (p.2, p.1) := ⟨hp.b, hp.a, ⟨h0, by rw [Nat.gcd_comm]; exact fp.c⟩⟩
      have em := f_ml (n := n) (st := t3) hp hi (by decide) (by decide)
      rw [ml_inv fp h0] at em
      have h1 : ¬ ((p.1 : Int) = 0) := by omega
      simp [h, e, em, c11]
  have e0 : ∀ c : SemS, runB c d__law_two_right [q2 p, q2 q] st = (c [some (q2 p), some (q2 q), none, none, none, none] st).bind fun p => match p.1 with
      | .rt v => some (v, p.2)
      | .nx _ => some (.non, p.2)
      | _ => none := fun c => runB_ev rfl
  rw [r__law_two_right, e0]
  unfold b__law_two_right
  rw [seq_nx s1, if_no s2, seq_nx s3, if_no s4, seq_nx s5, if_no s6, if_no s7, if_no s8, if_no s9, if_no s10, sSeq_ev, sRet_ev, s11]
  rfl
end K03

namespace K03
open PySem Sim
/-- all added, from t on -/
def sumF (t : NN) (ps : List NN) : NN := ps.foldl ad t
def bitsOf (ps : List (Nat × NN)) : Nat := (ps.map fun x => x.1 + 1).sum
theorem sum_lb : ∀ {k : Nat} {t : NN} (ps : List (Nat × NN)), Lb k t → (∀ x ∈ ps, Lb x.1 x.2) → Lb (k + bitsOf ps) (sumF t (ps.map (·.2)))
  | _, _, [], h, _ => h
  | k, t, x :: r, h, hs => by
    have ih := sum_lb r (h.ad (hs x List.mem_cons_self)) fun y hy => hs y (List.mem_cons_of_mem _ hy)
    have e : k + bitsOf (x :: r) = k + x.1 + 1 + bitsOf r := by
      unfold bitsOf
      rw [List.map_cons, List.sum_cons]
      omega
    rw [e]
    exact ih
theorem total_loop {n : Nat} {fr : D} {st : Sto} : ∀ {k : Nat} {t : NN} (ps : List (Nat × NN)) (o : Option D), Lb k t → (∀ x ∈ ps, Lb x.1 x.2) → k + bitsOf ps ≤ 98 →
    ∃ o', forGo (gvName 2) (sSeq (sAsg (fCall (callN pg (n + 2)) "plus" (fCons (fVar 1) (fCons (fVar 2) (fNil)))) (gvName 1))
        (sNil)) none (ps.map fun x => q2 x.2) [some fr, some (q2 t), o] st = some (.nx [some fr, some (q2 (sumF t (ps.map (·.2)))), o'], st)
  | _, _, [], o, _, _, _ => ⟨o, forGo_nil⟩
  | k, t, x :: r, o, h, hs, hl => by
    have e : k + bitsOf (x :: r) = k + x.1 + 1 + bitsOf r := by
      unfold bitsOf
      rw [List.map_cons, List.sum_cons]
      omega
    rw [e] at hl
    have hx := hs x List.mem_cons_self
    have ea := f_ad (n := n) (st := st) h hx (by omega) (by omega)
    obtain ⟨o', ih⟩ := total_loop r (some (q2 x.2)) (h.ad hx) (fun y hy => hs y (List.mem_cons_of_mem _ hy)) (by omega) (fr := fr) (st := st) (n := n)
    refine ⟨o', Eq.trans (forGo_nx (η2 := [some fr, some (q2 t), some (q2 x.2)]) rfl ?_) ih⟩
    simp [ea]
theorem e_total {n : Nat} {st : Sto} (ps : List (Nat × NN)) (hs : ∀ x ∈ ps, Lb x.1 x.2) (hl : 1 + bitsOf ps ≤ 98) : callN pg (n + 3) "total_of" [.tup (ps.map fun x => q2 x.2)] st = some (q2 (sumF (0, 1) (ps.map (·.2))), st) := by
  obtain ⟨o', e⟩ := total_loop (n := n) (fr := .tup (ps.map fun x => q2 x.2)) (st := st) ps none lb01 hs hl
  rw [r_total_of, runB_ev rfl]
  unfold b_total_of
  generalize (sSeq (sAsg (fCall (callN pg (n + 2)) "plus" (fCons (fVar 1) (fCons (fVar 2) (fNil)))) (gvName 1))
        (sNil)) = B at *
  generalize q2 (sumF (0, 1) (ps.map (·.2))) = R at *
  rw [← c01] at e
  simp [d_total_of, e]
theorem ad_zeroL {p : NN} (hp : Fr p) : ad (0, 1) p = p := by
  rw [ad_comm]; exact ad_zero hp
theorem e_three {n : Nat} {a b c : NN} {st : Sto} (ha : Lb 20 a) (hb : Lb 20 b) (hc : Lb 20 c) : callN pg (n + 4) "_law_three_right" [q2 a, q2 b, q2 c] st = some (.bl true, st) := by
  have fa := ha.f
  have fb := hb.f
  have fc := hc.f
  have aab := f_ad (n := n + 1) (st := st) ha hb (by decide) (by decide)
  have abc := f_ad (n := n + 1) (st := st) hb hc (by decide) (by decide)
  have aac := f_ad (n := n + 1) (st := st) ha hc (by decide) (by decide)
  have mab := f_ml (n := n + 1) (st := st) ha hb (by decide) (by decide)
  have mbc := f_ml (n := n + 1) (st := st) hb hc (by decide) (by decide)
  have mac := f_ml (n := n + 1) (st := st) ha hc (by decide) (by decide)
  have a1 := f_ad (n := n + 1) (st := st) (ha.ad hb) hc (by decide) (by decide)
  have a2 := f_ad (n := n + 1) (st := st) ha (hb.ad hc) (by decide) (by decide)
  have m1 := f_ml (n := n + 1) (st := st) (ha.ml hb) hc (by decide) (by decide)
  have m2 := f_ml (n := n + 1) (st := st) ha (hb.ml hc) (by decide) (by decide)
  have d1 := f_ml (n := n + 1) (st := st) ha (hb.ad hc) (by decide) (by decide)
  have d2 := f_ad (n := n + 1) (st := st) (ha.ml hb) (ha.ml hc) (by decide) (by decide)
  have lab := f_lt (n := n + 2) (st := st) ha hb (by decide) (by decide)
  have lbc := f_lt (n := n + 2) (st := st) hb hc (by decide) (by decide)
  have lac := f_lt (n := n + 2) (st := st) ha hc (by decide) (by decide)
  have l1 := f_lt (n := n + 2) (st := st) (ha.ad hc) (hb.ad hc) (by decide) (by decide)
  have l2 := f_lt (n := n + 2) (st := st) (ha.ml hc) (hb.ml hc) (by decide) (by decide)
  have t1 := e_total (n := n) (st := st) [(20, a), (20, b), (20, c)] (by
    intro x hx
    simp only [List.mem_cons, List.not_mem_nil, or_false] at hx
    rcases hx with rfl | rfl | rfl <;> assumption) (by show 1 + (20 + 1 + (20 + 1 + (20 + 1 + 0))) ≤ 98; decide)
  have t2 := e_total (n := n) (st := st) [(20, c), (20, a), (20, b)] (by
    intro x hx
    simp only [List.mem_cons, List.not_mem_nil, or_false] at hx
    rcases hx with rfl | rfl | rfl <;> assumption) (by show 1 + (20 + 1 + (20 + 1 + (20 + 1 + 0))) ≤ 98; decide)
  have w1 : sumF (0, 1) ([(20, a), (20, b), (20, c)].map (·.2)) = ad (ad a b) c := by
    show ad (ad (ad (0, 1) a) b) c = _
    rw [ad_zeroL fa]
  have w2 : sumF (0, 1) ([(20, c), (20, a), (20, b)].map (·.2)) = ad (ad a b) c := by
    show ad (ad (ad (0, 1) c) a) b = _
    rw [ad_zeroL fc, ad_assoc fc fa fb, ad_comm]
  rw [w1] at t1
  rw [w2] at t2
  have t1' : callN pg (n + 3) "total_of" [.tup [q2 a, q2 b, q2 c]] st = _ := t1
  have t2' : callN pg (n + 3) "total_of" [.tup [q2 c, q2 a, q2 b]] st = _ := t2
  rw [← ad_assoc fa fb fc] at a2
  rw [← ml_assoc fa fb fc] at m2
  rw [ml_ad fa fb fc] at d1
  have s1 : (gOr (gCmp .NotEq (fCall (callN pg (n + 3)) "plus" (fCons (fCall (callN pg (n + 3)) "plus" (fCons (fVar 0) (fCons (fVar 1) (fNil)))) (fCons (fVar 2) (fNil)))) (fCall (callN pg (n + 3)) "plus" (fCons (fVar 0) (fCons (fCall (callN pg (n + 3)) "plus" (fCons (fVar 1) (fCons (fVar 2) (fNil)))) (fNil))))) (gCmp .NotEq (fCall (callN pg (n + 3)) "times" (fCons (fCall (callN pg (n + 3)) "times" (fCons (fVar 0) (fCons (fVar 1) (fNil)))) (fCons (fVar 2) (fNil)))) (fCall (callN pg (n + 3)) "times" (fCons (fVar 0) (fCons (fCall (callN pg (n + 3)) "times" (fCons (fVar 1) (fCons (fVar 2) (fNil)))) (fNil)))))) [some (q2 a), some (q2 b), some (q2 c)] st = some (false, st) := by
    simp [aab, a1, abc, a2, mab, m1, mbc, m2]
  have s2 : (gCmp .NotEq (fCall (callN pg (n + 3)) "times" (fCons (fVar 0) (fCons (fCall (callN pg (n + 3)) "plus" (fCons (fVar 1) (fCons (fVar 2) (fNil)))) (fNil)))) (fCall (callN pg (n + 3)) "plus" (fCons (fCall (callN pg (n + 3)) "times" (fCons (fVar 0) (fCons (fVar 1) (fNil)))) (fCons (fCall (callN pg (n + 3)) "times" (fCons (fVar 0) (fCons (fVar 2) (fNil)))) (fNil))))) [some (q2 a), some (q2 b), some (q2 c)] st = some (false, st) := by
    simp [abc, d1, mab, mac, d2]
  have s3 : (gAnd (gTru (fCall (callN pg (n + 3)) "is_less" (fCons (fVar 0) (fCons (fVar 1) (fNil))))) (gAnd (gTru (fCall (callN pg (n + 3)) "is_less" (fCons (fVar 1) (fCons (fVar 2) (fNil))))) (gNot (gTru (fCall (callN pg (n + 3)) "is_less" (fCons (fVar 0) (fCons (fVar 2) (fNil)))))))) [some (q2 a), some (q2 b), some (q2 c)] st = some (false, st) := by
    by_cases h1 : lt a b
    · by_cases h2 : lt b c
      · have h3 := lt_trans' fa fb fc h1 h2
        simp [lab, lbc, lac, h1, h2, h3]
      · simp [lab, lbc, h1, h2]
    · simp [lab, h1]
  have s4 : (gCmp .NotEq (fCall (callN pg (n + 3)) "is_less" (fCons (fVar 0) (fCons (fVar 1) (fNil)))) (fCall (callN pg (n + 3)) "is_less" (fCons (fCall (callN pg (n + 3)) "plus" (fCons (fVar 0) (fCons (fVar 2) (fNil)))) (fCons (fCall (callN pg (n + 3)) "plus" (fCons (fVar 1) (fCons (fVar 2) (fNil)))) (fNil))))) [some (q2 a), some (q2 b), some (q2 c)] st = some (false, st) := by
    have h := lt_ad fa fb fc
    simp [lab, aac, abc, l1, h]
  have s5 : (gAnd (gCmp .NotEq (fVar 2) (fTup (fCons (fC (.int 0)) (fCons (fC (.int 1)) (fNil))))) (gCmp .NotEq (fCall (callN pg (n + 3)) "is_less" (fCons (fVar 0) (fCons (fVar 1) (fNil)))) (fCall (callN pg (n + 3)) "is_less" (fCons (fCall (callN pg (n + 3)) "times" (fCons (fVar 0) (fCons (fVar 2) (fNil)))) (fCons (fCall (callN pg (n + 3)) "times" (fCons (fVar 1) (fCons (fVar 2) (fNil)))) (fNil)))))) [some (q2 a), some (q2 b), some (q2 c)] st = some (false, st) := by
    by_cases h0 : c = (0, 1)
    · simp [c01, h0]
    · have h := lt_ml fa fb fc h0
      simp [c01, h0, lab, mac, mbc, l2, h]
  have s6 : (fCh .Eq .Eq (fCall (callN pg (n + 3)) "total_of" (fCons (fTup (fCons (fVar 0) (fCons (fVar 1) (fCons (fVar 2) (fNil))))) (fNil))) (fCall (callN pg (n + 3)) "plus" (fCons (fCall (callN pg (n + 3)) "plus" (fCons (fVar 0) (fCons (fVar 1) (fNil)))) (fCons (fVar 2) (fNil)))) (fCall (callN pg (n + 3)) "total_of" (fCons (fTup (fCons (fVar 2) (fCons (fVar 0) (fCons (fVar 1) (fNil))))) (fNil)))) [some (q2 a), some (q2 b), some (q2 c)] st = some (.bl true, st) := by
    simp [t1', t2', aab, a1]
  have e0 : ∀ k : SemS, runB k d__law_three_right [q2 a, q2 b, q2 c] st = (k [some (q2 a), some (q2 b), some (q2 c)] st).bind fun p => match p.1 with
      | .rt v => some (v, p.2)
      | .nx _ => some (.non, p.2)
      | _ => none := fun k => runB_ev rfl
  rw [r__law_three_right, e0]
  unfold b__law_three_right
  rw [if_no s1, if_no s2, if_no s3, if_no s4, if_no s5, sSeq_ev, sRet_ev, s6]
  rfl
end K03

namespace K03
open PySem Sim
theorem rng_src {fs : SemA} {η : LocD} {st st' : Sto} {ds xs : List D} (h : fs η st = some (ds, st')) (rg : rngOf ds = some xs) : iRng fs η st = some (⟨xs, none⟩, st') := by
  rw [iRng_ev, h]
  show (rngOf ds).map _ = _
  rw [rg]; rfl
/-! ### near one another -/
theorem hun_lt {j : Nat} (h : j ≤ 10) : 100 ^ j < 2 ^ 70 := Nat.lt_of_le_of_lt (Nat.pow_le_pow_right (by decide) h) (by decide)
theorem lb_tiny {j : Nat} (h : j ≤ 10) : Lb 70 (1, 100 ^ j) := ⟨(by decide : (1 : Nat) < 2 ^ 70), hun_lt h, ⟨Nat.pow_pos (by decide), Nat.gcd_one_left _⟩⟩
theorem lb_hun : Lb 7 (1, 100) := ⟨by decide, by decide, ⟨by decide, by decide⟩⟩
theorem ml_tiny {j : Nat} : ml (1, 100 ^ j) (1, 100) = (1, 100 ^ (j + 1)) := by
  unfold ml
  show cut (1 * 1) (100 ^ j * 100) = _
  rw [← Nat.pow_succ]
  exact cut_self (Nat.gcd_one_left _)
abbrev T1 : NN := (1, 100000000000000000000)
abbrev P1 : NN := (1, 200000000000000000000)
abbrev O1 : NN := (99999999999999999999, 100000000000000000000)
abbrev O2 : NN := (199999999999999999999, 200000000000000000000)
theorem lT : Lb 70 T1 := ⟨by decide +kernel, by decide +kernel, ⟨by decide +kernel, by decide +kernel⟩⟩
theorem lP : Lb 70 P1 := ⟨by decide +kernel, by decide +kernel, ⟨by decide +kernel, by decide +kernel⟩⟩
theorem lO1 : Lb 70 O1 := ⟨by decide +kernel, by decide +kernel, ⟨by decide +kernel, by decide +kernel⟩⟩
theorem lO2 : Lb 70 O2 := ⟨by decide +kernel, by decide +kernel, ⟨by decide +kernel, by decide +kernel⟩⟩
theorem lH : Lb 2 (1, 2) := ⟨by decide, by decide, ⟨by decide, by decide⟩⟩
theorem c1h : D.tup [.int 1, .int 100] = q2 (1, 100) := rfl
theorem c12 : D.tup [.int 1, .int 2] = q2 (1, 2) := rfl
theorem e_near {n : Nat} {st : Sto} : callN pg (n + 4) "_law_near_right" [] st = some (.bl true, st) := by
  obtain ⟨η1, s1, l1, i1⟩ := forGo_rng (g := gvName 1) (fb := (sSeq (sAsg (fCall (callN pg (n + 3)) "times" (fCons (fVar 0) (fCons (fTup (fCons (fC (.int 1)) (fCons (fC (.int 100)) (fNil)))) (fNil)))) (gvName 0))
        (sNil))) (P := fun j η s => s = st ∧ ∃ o : Option D, η = [some (q2 (1, 100 ^ j)), o, none, none, none]) 10 0 [some (q2 (1, 1)), none, none, none, none] st
    (fun j η s _ hj h => by
      obtain ⟨rfl, o, rfl⟩ := h
      have e := f_ml (n := n + 1) (st := s) (lb_tiny (j := j) (by omega)) lb_hun (by decide) (by decide)
      rw [ml_tiny] at e
      refine ⟨_, [some (q2 (1, 100 ^ (j + 1))), some (.int (j : Nat)), none, none, none], s, rfl, ?_, rfl, _, rfl⟩
      generalize (1, 100 ^ (j + 1)) = X at *
      generalize (1, 100 ^ j) = Y at *
      simp [c1h, e]) ⟨rfl, none, rfl⟩
  obtain ⟨rfl, o, rfl⟩ := i1
  have eT : ((1 : Nat), 100 ^ (0 + 10)) = T1 := by decide +kernel
  rw [eT] at l1
  have r1 : (iRng (fCons (fC (.int 10)) (fNil))) [some (q2 (1, 1)), none, none, none, none] s1 = some (⟨rngD ((0 : Nat) : Int) 10 1, none⟩, s1) := rng_src (ds := [.int 10]) rfl (rng1 (inR_of (by decide) (by decide)))
  have a1 := f_ml (n := n + 1) (st := s1) lT lH (by decide) (by decide)
  have a2 := f_sb (n := n + 1) (st := s1) lb11 lT (by decide) (by decide)
  have a3 := f_sb (n := n + 1) (st := s1) lb11 lP (by decide) (by decide)
  have a4 := f_lt (n := n + 2) (st := s1) lO1 lO2 (by decide) (by decide)
  have a5 := f_lt (n := n + 2) (st := s1) lO2 lO1 (by decide) (by decide)
  have a6 := f_le (n := n + 1) (st := s1) lO1 lO2 (by decide) (by decide)
  have a7 := f_le (n := n + 1) (st := s1) lO2 lO1 (by decide) (by decide)
  have a8 := f_sb (n := n + 1) (st := s1) lO2 lO1 (by decide) (by decide)
  have a9 := f_ad (n := n + 1) (st := s1) lO1 lT (by decide) (by decide)
  have b1 : ml T1 (1, 2) = P1 := by decide +kernel
  have b2 : sb (1, 1) T1 = O1 := by decide +kernel
  have b2' : ¬ lt (1, 1) T1 := by decide +kernel
  have b3 : sb (1, 1) P1 = O2 := by decide +kernel
  have b3' : ¬ lt (1, 1) P1 := by decide +kernel
  have b4 : lt O1 O2 := by decide +kernel
  have b5 : ¬ lt O2 O1 := by decide +kernel
  have b8 : sb O2 O1 = P1 := by decide +kernel
  have b9 : ad O1 T1 = (1, 1) := by decide +kernel
  have tt : ∃ v, callN pg (n + 3) "total_of" [.tup [q2 O1, q2 P1]] s1 = some (q2 v, s1) ∧ v = O2 := by
    have d : ad O1 P1 = O2 := by decide +kernel
    have w1 := f_ad (n := n) (st := s1) lb01 lO1 (by decide) (by decide)
    have w2 := f_ad (n := n) (st := s1) lO1 lP (by decide) (by decide)
    rw [ad_zeroL lO1.f] at w1
    rw [d] at w2
    refine ⟨O2, ?_, rfl⟩
    have L : forGo (gvName 2) (sSeq (sAsg (fCall (callN pg (n + 2)) "plus" (fCons (fVar 1) (fCons (fVar 2) (fNil)))) (gvName 1))
        (sNil)) none [q2 O1, q2 P1] [some (.tup [q2 O1, q2 P1]), some (q2 (0, 1)), none] s1 = some (.nx [some (.tup [q2 O1, q2 P1]), some (q2 O2), some (q2 P1)], s1) := by
      generalize O1 = x at *
      generalize P1 = y at *
      generalize O2 = z at *
      refine Eq.trans (forGo_nx (η2 := [some (.tup [q2 x, q2 y]), some (q2 (0, 1)), some (q2 x)]) (η' := [some (.tup [q2 x, q2 y]), some (q2 x), some (q2 x)]) (st' := s1) rfl (by simp [w1])) ?_
      refine Eq.trans (forGo_nx (η2 := [some (.tup [q2 x, q2 y]), some (q2 x), some (q2 y)]) (η' := [some (.tup [q2 x, q2 y]), some (q2 z), some (q2 y)]) (st' := s1) rfl (by simp [w2])) ?_
      exact forGo_nil
    rw [r_total_of, runB_ev rfl]
    unfold b_total_of
    generalize (sSeq (sAsg (fCall (callN pg (n + 2)) "plus" (fCons (fVar 1) (fCons (fVar 2) (fNil)))) (gvName 1))
        (sNil)) = B at *
    generalize O1 = x at *
    generalize P1 = y at *
    generalize O2 = z at *
    rw [← c01] at L
    simp [d_total_of, L]
  obtain ⟨v, t1, rfl⟩ := tt
  rw [b1] at a1
  rw [b2, if_neg b2'] at a2
  rw [b3, if_neg b3'] at a3
  rw [decide_eq_true b4] at a4
  rw [decide_eq_false b5] at a5
  rw [if_neg b5] at a6
  rw [if_pos b4] at a7
  rw [b8, if_neg b5] at a8
  rw [b9] at a9
  clear eT b1 b2 b2' b3 b3' b4 b5 b8 b9
  generalize T1 = tt at *
  generalize P1 = pp at *
  generalize O1 = o1 at *
  generalize O2 = o2 at *
  have z1 : (sAsg (fTup (fCons (fC (.int 1)) (fCons (fC (.int 1)) (fNil)))) (gvName 0)) [none, none, none, none, none] s1 = some (.nx [some (q2 (1, 1)), none, none, none, none], s1) := by
    simp [c11]
  have z2 : (sFor (iRng (fCons (fC (.int 10)) (fNil))) (gvName 1)
      (sSeq (sAsg (fCall (callN pg (n + 3)) "times" (fCons (fVar 0) (fCons (fTup (fCons (fC (.int 1)) (fCons (fC (.int 100)) (fNil)))) (fNil)))) (gvName 0))
        (sNil))) [some (q2 (1, 1)), none, none, none, none] s1 = some (.nx [some (q2 tt), o, none, none, none], s1) := by
    rw [sFor_ev, r1]
    exact l1
  have z3 : (sAsg (fCall (callN pg (n + 3)) "times" (fCons (fVar 0) (fCons (fTup (fCons (fC (.int 1)) (fCons (fC (.int 2)) (fNil)))) (fNil)))) (gvName 2)) [some (q2 tt), o, none, none, none] s1 = some (.nx [some (q2 tt), o, some (q2 pp), none, none], s1) := by
    simp [c12, a1]
  have z4 : (sPar2 3 4 (fCons (fCall (callN pg (n + 3)) "minus" (fCons (fTup (fCons (fC (.int 1)) (fCons (fC (.int 1)) (fNil)))) (fCons (fVar 0) (fNil)))) (fCons (fCall (callN pg (n + 3)) "minus" (fCons (fTup (fCons (fC (.int 1)) (fCons (fC (.int 1)) (fNil)))) (fCons (fVar 2) (fNil)))) (fNil)))) [some (q2 tt), o, some (q2 pp), none, none] s1 = some (.nx [some (q2 tt), o, some (q2 pp), some (q2 o1), some (q2 o2)], s1) := by
    simp [c11, a2, a3]
  have z5 : (gOr (gNot (gTru (fCall (callN pg (n + 3)) "is_less" (fCons (fVar 3) (fCons (fVar 4) (fNil)))))) (gOr (gTru (fCall (callN pg (n + 3)) "is_less" (fCons (fVar 4) (fCons (fVar 3) (fNil))))) (gOr (gCmp .NotEq (fCall (callN pg (n + 3)) "lesser" (fCons (fVar 3) (fCons (fVar 4) (fNil)))) (fVar 3)) (gCmp .NotEq (fCall (callN pg (n + 3)) "lesser" (fCons (fVar 4) (fCons (fVar 3) (fNil)))) (fVar 3))))) [some (q2 tt), o, some (q2 pp), some (q2 o1), some (q2 o2)] s1 = some (false, s1) := by
    simp [a4, a5, a6, a7]
  have z6 : (fAndV (fCmp .Eq (fCall (callN pg (n + 3)) "minus" (fCons (fVar 4) (fCons (fVar 3) (fNil)))) (fVar 2)) (fAndV (fCmp .Eq (fCall (callN pg (n + 3)) "plus" (fCons (fVar 3) (fCons (fVar 0) (fNil)))) (fTup (fCons (fC (.int 1)) (fCons (fC (.int 1)) (fNil))))) (fCmp .Eq (fCall (callN pg (n + 3)) "total_of" (fCons (fTup (fCons (fVar 3) (fCons (fVar 2) (fNil)))) (fNil))) (fVar 4)))) [some (q2 tt), o, some (q2 pp), some (q2 o1), some (q2 o2)] s1 = some (.bl true, s1) := by
    simp [a8, a9, t1, c11]
  have e0 : ∀ k : SemS, runB k d__law_near_right [] s1 = (k [none, none, none, none, none] s1).bind fun p => match p.1 with
      | .rt v => some (v, p.2)
      | .nx _ => some (.non, p.2)
      | _ => none := fun k => runB_ev rfl
  rw [r__law_near_right, e0]
  unfold b__law_near_right
  rw [seq_nx z1, seq_nx z2, seq_nx z3, seq_nx z4, if_no z5, sSeq_ev, sRet_ev, z6]
  rfl
end K03

namespace K03
open PySem Sim
theorem lc_loop {n f g d : Nat} {ns : List Int} {e0 e2 e3 e4 e5 e6 : Option D} (hfg : f ≠ g) (hdf : d ≠ f) (hdg : d ≠ g) : ∀ (xs : List D) (st : Sto) (t : Nat) (acc : List D), FeedAt st f g ns t → st[d]? = some (.lst acc) → acc.length + xs.length ≤ 99999 → t + 3 * xs.length + 3 < 2 ^ 60 →
    ∃ (ps : List NN) (st' : Sto), lcGo (gvName 7) (gYes) (fCall (callN pg (n + 2)) "_law_fraction" (fCons (fVar 1) (fNil))) [e0, some (.ref f), e2, e3, e4, e5, e6, none] none d xs st = some st' ∧
      st'[d]? = some (.lst (acc ++ ps.map q2)) ∧ ps.length = xs.length ∧ (∀ p ∈ ps, Sm p) ∧ FeedAt st' f g ns (t + 3 * xs.length) ∧ (∀ m o, m ≠ f → m ≠ d → st[m]? = some o → st'[m]? = some o)
  | [], st, t, acc, hF, hd, _, _ => ⟨[], st, by rw [lcGo, if_pos okGd_none], by rw [List.map_nil, List.append_nil]; exact hd, rfl, (fun _ h => nomatch h), hF, fun _ _ _ _ h => h⟩
  | x :: r, st, t, acc, hF, hd, ha, ht => by
    rw [List.length_cons] at ha ht
    obtain ⟨p, s1, e, hp, F1, K1⟩ := e_fraction (n := n) hF hfg (by omega)
    have hd1 := K1 d _ hdf hd
    have hd2 : (s1.set d (O.lst (acc ++ [q2 p])))[d]? = some (.lst (acc ++ [q2 p])) := set_self hd1
    obtain ⟨ps, s2, h1, h2, h3, h4, h5, h6⟩ := lc_loop (n := n) hfg hdf hdg r (s1.set d (.lst (acc ++ [q2 p]))) (t + 3) (acc ++ [q2 p]) (F1.set hdf hdg) hd2 (by rw [List.length_append, List.length_singleton]; omega) (by omega) (e0 := e0) (e2 := e2) (e3 := e3) (e4 := e4) (e5 := e5) (e6 := e6)
    refine ⟨p :: ps, s2, ?_, by rw [h2, List.map_cons, List.append_assoc]; rfl, by rw [List.length_cons, List.length_cons, h3], fun q hq => ?_, h5.mono (by rw [List.length_cons]; omega), fun m o m1 m2 hm => h6 m o m1 m2 (by rw [List.getElem?_set_ne (Ne.symm m2)]; exact K1 m o m1 hm)⟩
    · rw [lcGo, if_pos okGd_none]
      simp [e, hd1, show acc.length < 100000 by omega]
      exact h1
    · rcases List.mem_cons.mp hq with rfl | hq
      · exact hp
      · exact h4 q hq
theorem Sm.lb {p : NN} (h : Sm p) : Lb 7 p := ⟨Nat.lt_of_le_of_lt h.a (by decide), Nat.lt_of_le_of_lt h.b (by decide), ⟨h.z, h.c⟩⟩
/-- adding up from two ends -/
theorem sum_ad : ∀ (ys : List NN) (t u : NN), Fr t → Fr u → (∀ y ∈ ys, Fr y) → sumF (ad t u) ys = ad t (sumF u ys)
  | [], _, _, _, _, _ => rfl
  | y :: r, t, u, ht, hu, hy => by
    have fy := hy y List.mem_cons_self
    show sumF (ad (ad t u) y) r = ad t (sumF (ad u y) r)
    rw [ad_assoc ht hu fy]
    exact sum_ad r t (ad u y) ht (hu.ad fy) fun z hz => hy z (List.mem_cons_of_mem _ hz)
theorem sum_fr : ∀ (ys : List NN) (t : NN), Fr t → (∀ y ∈ ys, Fr y) → Fr (sumF t ys)
  | [], _, h, _ => h
  | y :: r, t, h, hy => sum_fr r (ad t y) (h.ad (hy y List.mem_cons_self)) fun z hz => hy z (List.mem_cons_of_mem _ hz)
theorem sum_app (xs ys : List NN) (hx : ∀ x ∈ xs, Fr x) (hy : ∀ y ∈ ys, Fr y) : sumF (0, 1) (xs ++ ys) = ad (sumF (0, 1) xs) (sumF (0, 1) ys) := by
  have e : sumF (0, 1) (xs ++ ys) = sumF (sumF (0, 1) xs) ys := List.foldl_append ..
  have f := sum_fr xs (0, 1) fr01 hx
  rw [e, ← sum_ad ys _ _ f fr01 hy, ad_zero f]
theorem bits_take (ps : List (Nat × NN)) (k : Nat) : bitsOf (ps.take k) ≤ bitsOf ps := by
  have e : bitsOf ps = bitsOf (ps.take k) + bitsOf (ps.drop k) := by
    unfold bitsOf
    rw [← List.sum_append, ← List.map_append, List.take_append_drop]
  omega
theorem bits_drop (ps : List (Nat × NN)) (k : Nat) : bitsOf (ps.drop k) ≤ bitsOf ps := by
  have e : bitsOf ps = bitsOf (ps.take k) + bitsOf (ps.drop k) := by
    unfold bitsOf
    rw [← List.sum_append, ← List.map_append, List.take_append_drop]
  omega
/-- the nine: what stands in the law's list -/
structure Nine (W : List (Nat × NN)) : Prop where
  len : W.length = 9
  lb : ∀ x ∈ W, Lb x.1 x.2
  le : ∀ x ∈ W, x.1 ≤ 20
  bits : 1 + bitsOf W ≤ 98
theorem Nine.at' {W : List (Nat × NN)} (h : Nine W) {i : Nat} (hi : i < 9) : ∃ p, Lb 20 p ∧ (W.map fun x => q2 x.2)[i]? = some (q2 p) := by
  have hi2 : i < W.length := by rw [h.len]; exact hi
  have hm : W[i] ∈ W := List.getElem_mem hi2
  exact ⟨W[i].2, (h.lb _ hm).up (h.le _ hm), by rw [List.getElem?_map, List.getElem?_eq_getElem hi2]; rfl⟩
noncomputable def bodyI (cf : CallF) : SemS := (sSeq (sAsg (fIx (fVar 2) (fBin .Mod (fBin .Add (fBin .Add (fVar 3) (fBin .Mult (fC (.int 2)) (fVar 5))) (fC (.int 2))) (fC (.int 9)))) (gvName 6))
            (sSeq (sIf (gOr (gNot (gTru (fCall cf "_law_two_right" (fCons (fIx (fVar 2) (fVar 3)) (fCons (fIx (fVar 2) (fVar 5)) (fNil)))))) (gNot (gTru (fCall cf "_law_three_right" (fCons (fIx (fVar 2) (fVar 3)) (fCons (fIx (fVar 2) (fVar 5)) (fCons (fVar 6) (fNil))))))))
              (sSeq (sRet (fC (.bl false)))
                (sNil))
              (sNil))
            (sNil)))
noncomputable def bodyO (cf : CallF) : SemS := (sSeq (sFor (iRng (fCons (fC (.int 9)) (fNil))) (gvName 5)
          (bodyI cf))
        (sNil))
def InvI (f g r i : Nat) (ns : List Int) (t : Nat) (W : List (Nat × NN)) (j : Nat) (η : LocD) (st : Sto) : Prop := ∃ (e0 e4 e5 e6 e7 : Option D), η = [e0, some (.ref f), some (.ref r), some (.int (i : Nat)), e4, e5, e6, e7] ∧ FeedAt st f g ns t ∧ st[r]? = some (.lst (W.map fun x => q2 x.2))
theorem stepI {n f g r i t : Nat} {ns : List Int} {W : List (Nat × NN)} (h9 : Nine W) (hi : i < 9) {j : Nat} (hj : j < 9) {η : LocD} {st : Sto} (h : InvI f g r i ns t W j η st) : ∃ η2 η' st', gvName 5 (.int (j : Nat)) η = some η2 ∧ bodyI (callN pg (n + 4)) η2 st = some (.nx η', st') ∧ InvI f g r i ns t W (j + 1) η' st' := by
  obtain ⟨e0, e4, e5, e6, e7, rfl, hF, hr⟩ := h
  have hm : (i + 2 * j + 2) % 9 < 9 := Nat.mod_lt _ (by decide)
  obtain ⟨a, la, ea⟩ := h9.at' hi
  obtain ⟨b, lb, eb⟩ := h9.at' hj
  obtain ⟨c, lc, ec⟩ := h9.at' hm
  have ia := fun s : Sto => fun h : s[r]? = some (.lst (W.map fun x => q2 x.2)) => ix_ref h ea
  have ib := fun s : Sto => fun h : s[r]? = some (.lst (W.map fun x => q2 x.2)) => ix_ref h eb
  have ic := ix_ref hr ec
  obtain ⟨s1, e2, x2⟩ := e_two (n := n + 1) (st := st) la lb
  have e3 := e_three (n := n) (st := s1) la lb lc
  have hr1 := x2 _ _ hr
  have ia0 := ia _ hr
  have ib0 := ib _ hr
  have ia1 := ia _ hr1
  have ib1 := ib _ hr1
  have m1 : binop .Mult (.int 2) (.int (j : Nat)) st = some (.int ((2 * j : Nat) : Int), st) := by
    have := mul_nat (a := 2) (b := j) (st := st) (by decide) (Nat.lt_of_lt_of_le hj (by decide))
    exact this
  have m2 : binop .Mod (.int ((i : Int) + ((2 * j : Nat) : Int) + 2)) (.int 9) st = some (.int (((i + 2 * j + 2) % 9 : Nat) : Int), st) := by
    have := mod_nat (a := i + 2 * j + 2) (b := 9) (st := st) (by decide)
    rw [Int.natCast_add, Int.natCast_add] at this
    exact this
  refine ⟨_, [e0, some (.ref f), some (.ref r), some (.int (i : Nat)), e4, some (.int (j : Nat)), some (q2 c), e7], s1, rfl, ?_, ⟨_, _, _, _, _, rfl, x2.feed hF, hr1⟩⟩
  clear ia ib ea eb ec
  generalize ((2 * j : Nat) : Int) = J2 at *
  generalize (i + 2 * j + 2) % 9 = M at *
  simp [bodyI, ia0, ib0, ia1, ib1, ic, e2, e3, m1, m2]
def InvO (f g r : Nat) (ns : List Int) (t : Nat) (W : List (Nat × NN)) (j : Nat) (η : LocD) (st : Sto) : Prop := ∃ (e0 e3 e4 e5 e6 e7 : Option D), η = [e0, some (.ref f), some (.ref r), e3, e4, e5, e6, e7] ∧ FeedAt st f g ns t ∧ st[r]? = some (.lst (W.map fun x => q2 x.2))
theorem stepO {n f g r t : Nat} {ns : List Int} {W : List (Nat × NN)} (h9 : Nine W) {i : Nat} (hi : i < 9) {η : LocD} {st : Sto} (h : InvO f g r ns t W i η st) : ∃ η2 η' st', gvName 3 (.int (i : Nat)) η = some η2 ∧ bodyO (callN pg (n + 4)) η2 st = some (.nx η', st') ∧ InvO f g r ns t W (i + 1) η' st' := by
  obtain ⟨e0, e3, e4, e5, e6, e7, rfl, hF, hr⟩ := h
  obtain ⟨η1, s1, l1, i1⟩ := forGo_rng (g := gvName 5) (fb := bodyI (callN pg (n + 4))) (P := InvI f g r i ns t W) 9 0 [e0, some (.ref f), some (.ref r), some (.int (i : Nat)), e4, e5, e6, e7] st
    (fun j η s _ hj h => stepI h9 hi (by omega) h) ⟨_, _, _, _, _, rfl, hF, hr⟩
  obtain ⟨e0', e4', e5', e6', e7', rfl, F1, R1⟩ := i1
  have r1 : (iRng (fCons (fC (.int 9)) (fNil))) [e0, some (.ref f), some (.ref r), some (.int (i : Nat)), e4, e5, e6, e7] st = some (⟨rngD ((0 : Nat) : Int) 9 1, none⟩, st) := rng_src (ds := [.int 9]) rfl (rng1 (inR_of (by decide) (by decide)))
  refine ⟨[e0, some (.ref f), some (.ref r), some (.int (i : Nat)), e4, e5, e6, e7], [e0', some (.ref f), some (.ref r), some (.int (i : Nat)), e4', e5', e6', e7'], s1, rfl, ?_, ⟨_, _, _, _, _, _, rfl, F1, R1⟩⟩
  have z : (sFor (iRng (fCons (fC (.int 9)) (fNil))) (gvName 5) (bodyI (callN pg (n + 4)))) [e0, some (.ref f), some (.ref r), some (.int (i : Nat)), e4, e5, e6, e7] st = some (.nx [e0', some (.ref f), some (.ref r), some (.int (i : Nat)), e4', e5', e6', e7'], s1) := by
    rw [sFor_ev, r1]
    exact l1
  unfold bodyO
  rw [seq_nx z]
  rfl
end K03

namespace K03
open PySem Sim
noncomputable def s_some (cf : CallF) : SemS := (sAsg (fBin .Add (fLst (fCons (fTup (fCons (fC (.int 0)) (fCons (fC (.int 1)) (fNil)))) (fCons (fTup (fCons (fC (.int 1)) (fCons (fC (.int 1)) (fNil)))) (fNil)))) (fLc (iRng (fCons (fC (.int 4)) (fNil))) (gvName 7) (gYes) (fCall cf "_law_fraction" (fCons (fVar 1) (fNil))) [7])) (gvName 2))
noncomputable def s_ext (cf : CallF) : SemS := (sExpr (fExt (fVar 2) (fLst (fCons (fCall cf "plus" (fCons (fIx (fVar 2) (fC (.int 2))) (fCons (fIx (fVar 2) (fC (.int 3))) (fNil)))) (fCons (fCall cf "times" (fCons (fIx (fVar 2) (fC (.int 4))) (fCons (fIx (fVar 2) (fC (.int 5))) (fNil)))) (fNil))))))
noncomputable def s_app (cf : CallF) : SemS := (sExpr (fApp (fVar 2) (fCall cf "fraction_of" (fCons (fBin .Add (fC (.int 1)) (fCall cf "_law_draw" (fCons (fVar 1) (fCons (fBin .Pow (fC (.int 10)) (fC (.int 6))) (fNil))))) (fCons (fBin .Add (fC (.int 1)) (fCall cf "_law_draw" (fCons (fVar 1) (fCons (fBin .Pow (fC (.int 10)) (fC (.int 6))) (fNil))))) (fNil))))))
noncomputable def e_last (cf : CallF) : SemE := (fCmp .Eq (fCall cf "total_of" (fCons (fBlt bTuple (fCons (fVar 2) (fNil))) (fNil))) (fCall cf "plus" (fCons (fCall cf "total_of" (fCons (fBlt bTuple (fCons (fSl (fVar 2) (oNone) (oSome (fVar 4))) (fNil))) (fNil))) (fCons (fCall cf "total_of" (fCons (fBlt bTuple (fCons (fSl (fVar 2) (oSome (fVar 4)) (oNone)) (fNil))) (fNil))) (fNil)))))
theorem b_law_eq (cf : CallF) : b_law cf = sSeq (sAsg (fCall cf "_law_feed" (fCons (fVar 0) (fNil))) (gvName 1)) (sSeq (s_some cf) (sSeq (s_ext cf) (sSeq (s_app cf)
    (sSeq (sFor (iRng (fCons (fC (.int 9)) (fNil))) (gvName 3) (bodyO cf))
    (sSeq (sAsg (fCall cf "_law_draw" (fCons (fVar 1) (fCons (fC (.int 9)) (fNil)))) (gvName 4))
    (sSeq (sIf (gNot (gTru (fCall cf "_law_near_right" (fNil))))
      (sSeq (sRet (fC (.bl false)))
        (sNil))
      (sNil))
    (sSeq (sRet (e_last cf))
    (sNil)))))))) := rfl
@[simp] theorem pow_6 {st : Sto} : binop .Pow (.int 10) (.int 6) st = some (.int 1000000, st) := rfl
/-- the list's beginning -/
theorem r_some {n : Nat} {s0 : Sto} {ms : List Int} (F0 : FeedAt s0 2 1 ms 0) : ∃ (p1 p2 p3 p4 : NN) (r : Nat) (st : Sto), s_some (callN pg (n + 2)) [some (.ref 0), some (.ref 2), none, none, none, none, none, none] s0 = some (.nx [some (.ref 0), some (.ref 2), some (.ref r), none, none, none, none, none], st) ∧
    Sm p1 ∧ Sm p2 ∧ Sm p3 ∧ Sm p4 ∧ FeedAt st 2 1 ms 12 ∧ r ≠ 2 ∧ r ≠ 1 ∧ st[r]? = some (.lst [q2 (0, 1), q2 (1, 1), q2 p1, q2 p2, q2 p3, q2 p4]) := by
  obtain ⟨i0, c0, k0, f1, f2, _⟩ := F0.ex
  have lf : 2 < s0.length := (List.getElem?_eq_some_iff.mp f1).1
  have A0 : (s0 ++ [O.lst [q2 (0, 1), q2 (1, 1)]])[s0.length]? = some (.lst [q2 (0, 1), q2 (1, 1)]) := by rw [List.getElem?_append_right (Nat.le_refl _)]; simp
  have F1 : FeedAt (s0 ++ [O.lst [q2 (0, 1), q2 (1, 1)]]) 2 1 ms 0 := F0.app
  have L1 : (s0 ++ [O.lst [q2 (0, 1), q2 (1, 1)]]).length = s0.length + 1 := List.length_append
  have al : Sim.alloc (.lst [q2 (0, 1), q2 (1, 1)]) s0 = some (.ref s0.length, s0 ++ [O.lst [q2 (0, 1), q2 (1, 1)]]) := rfl
  generalize s0 ++ [O.lst [q2 (0, 1), q2 (1, 1)]] = s1 at *
  have hd : (s1 ++ [O.lst []])[s1.length]? = some (.lst []) := by rw [List.getElem?_append_right (Nat.le_refl _)]; simp
  obtain ⟨ps, s2, h1, h2, h3, h4, h5, h6⟩ := lc_loop (n := n) (f := 2) (g := 1) (d := s1.length) (by decide) (by omega) (by omega) (rngD ((0 : Nat) : Int) 4 1) (s1 ++ [.lst []]) 0 [] F1.app hd (by rw [rngD_len]; decide) (by rw [rngD_len]; decide) (e0 := some (.ref 0)) (e2 := none) (e3 := none) (e4 := none) (e5 := none) (e6 := none)
  rw [rngD_len] at h3 h5
  have A2 : s2[s0.length]? = some (.lst [q2 (0, 1), q2 (1, 1)]) := h6 _ _ (by omega) (by omega) (get_app A0)
  match ps, h3 with
  | [p1, p2, p3, p4], _ =>
    have ad : opAdd (.ref s0.length) (.ref s1.length) s2 = some (.ref s2.length, s2 ++ [O.lst [q2 (0, 1), q2 (1, 1), q2 p1, q2 p2, q2 p3, q2 p4]]) := by
      show (match s2[s0.length]?, s2[s1.length]? with
        | some (.lst xs), some (.lst ys) => if xs.length + ys.length ≤ most then Sim.alloc (.lst (xs ++ ys)) s2 else none
        | _, _ => none) = _
      rw [A2, h2]
      rfl
    have len2 : s1.length < s2.length := (List.getElem?_eq_some_iff.mp h2).1
    refine ⟨p1, p2, p3, p4, s2.length, s2 ++ [O.lst [q2 (0, 1), q2 (1, 1), q2 p1, q2 p2, q2 p3, q2 p4]], ?_, h4 _ (by simp), h4 _ (by simp), h4 _ (by simp), h4 _ (by simp), h5.app, by omega, by omega, by rw [List.getElem?_append_right (Nat.le_refl _)]; simp⟩
    have r1 : (iRng (fCons (fC (.int 4)) (fNil))) [some (.ref 0), some (.ref 2), none, none, none, none, none, none] s1 = some (⟨rngD ((0 : Nat) : Int) 4 1, none⟩, s1) := rng_src (ds := [.int 4]) rfl (rng1 (inR_of (by decide) (by decide)))
    have lc : (fLc (iRng (fCons (fC (.int 4)) (fNil))) (gvName 7) (gYes) (fCall (callN pg (n + 2)) "_law_fraction" (fCons (fVar 1) (fNil))) [7]) [some (.ref 0), some (.ref 2), none, none, none, none, none, none] s1 = some (.ref s1.length, s2) := by
      rw [fLc_ev, r1]
      show (lcGo (gvName 7) gYes _ [some (.ref 0), some (.ref 2), none, none, none, none, none, none] none s1.length (rngD ((0 : Nat) : Int) 4 1) (s1 ++ [.lst []])).map _ = _
      rw [h1]; rfl
    have fl : (fLst (fCons (fTup (fCons (fC (.int 0)) (fCons (fC (.int 1)) (fNil)))) (fCons (fTup (fCons (fC (.int 1)) (fCons (fC (.int 1)) (fNil)))) (fNil)))) [some (.ref 0), some (.ref 2), none, none, none, none, none, none] s0 = some (.ref s0.length, s1) := by
      simp [c01, c11, al]
    unfold s_some
    rw [sAsg_ev, fBin_ev, fl, Option.bind_some, lc, Option.bind_some]
    have bo : binop .Add (.ref s0.length) (.ref s1.length) s2 = opAdd (.ref s0.length) (.ref s1.length) s2 := rfl
    rw [bo, ad]
    rfl
theorem law_ok : LawOk pg 6 := by
  intro ns o _ ho
  obtain ⟨s0, ms, ef, F0⟩ := e_feed (n := 4) ho
  have hfg : (2 : Nat) ≠ 1 := by decide
  obtain ⟨p1, p2, p3, p4, r, s1, hs, h1, h2, h3, h4, F1, hr2, hr1, R1⟩ := r_some (n := 3) F0
  -- extended
  have ea := f_ad (n := 3) (st := s1) h1.lb h2.lb (by decide) (by decide)
  have em := f_ml (n := 3) (st := s1) h3.lb h4.lb (by decide) (by decide)
  have i2 : ix (.ref r) (.int 2) s1 = some (q2 p1) := ix_ref (j := 2) R1 rfl
  have i3 : ix (.ref r) (.int 3) s1 = some (q2 p2) := ix_ref (j := 3) R1 rfl
  have i4 : ix (.ref r) (.int 4) s1 = some (q2 p3) := ix_ref (j := 4) R1 rfl
  have i5 : ix (.ref r) (.int 5) s1 = some (q2 p4) := ix_ref (j := 5) R1 rfl
  have lr : r < s1.length := (List.getElem?_eq_some_iff.mp R1).1
  have X1 : (s1 ++ [O.lst [q2 (ad p1 p2), q2 (ml p3 p4)]])[r]? = some (.lst [q2 (0, 1), q2 (1, 1), q2 p1, q2 p2, q2 p3, q2 p4]) := get_app R1
  have X2 : (s1 ++ [O.lst [q2 (ad p1 p2), q2 (ml p3 p4)]])[s1.length]? = some (.lst [q2 (ad p1 p2), q2 (ml p3 p4)]) := by rw [List.getElem?_append_right (Nat.le_refl _)]; simp
  have al : Sim.alloc (.lst [q2 (ad p1 p2), q2 (ml p3 p4)]) s1 = some (.ref s1.length, s1 ++ [O.lst [q2 (ad p1 p2), q2 (ml p3 p4)]]) := rfl
  have F1' : FeedAt (s1 ++ [O.lst [q2 (ad p1 p2), q2 (ml p3 p4)]]) 2 1 ms 12 := F1.app
  generalize s1 ++ [O.lst [q2 (ad p1 p2), q2 (ml p3 p4)]] = s1' at *
  have hx : s_ext (callN pg 5) [some (.ref 0), some (.ref 2), some (.ref r), none, none, none, none, none] s1 = some (.nx [some (.ref 0), some (.ref 2), some (.ref r), none, none, none, none, none], s1'.set r (.lst [q2 (0, 1), q2 (1, 1), q2 p1, q2 p2, q2 p3, q2 p4, q2 (ad p1 p2), q2 (ml p3 p4)])) := by
    simp [s_ext, fExt, R1, i2, i3, i4, i5, ea, em, al, X1, X2]
  have R2 : (s1'.set r (O.lst [q2 (0, 1), q2 (1, 1), q2 p1, q2 p2, q2 p3, q2 p4, q2 (ad p1 p2), q2 (ml p3 p4)]))[r]? = some (.lst [q2 (0, 1), q2 (1, 1), q2 p1, q2 p2, q2 p3, q2 p4, q2 (ad p1 p2), q2 (ml p3 p4)]) := set_self X1
  have F2 : FeedAt (s1'.set r (O.lst [q2 (0, 1), q2 (1, 1), q2 p1, q2 p2, q2 p3, q2 p4, q2 (ad p1 p2), q2 (ml p3 p4)])) 2 1 ms 12 := F1'.set hr2 hr1
  generalize s1'.set r (O.lst [q2 (0, 1), q2 (1, 1), q2 p1, q2 p2, q2 p3, q2 p4, q2 (ad p1 p2), q2 (ml p3 p4)]) = s2 at *
  -- appended
  obtain ⟨a, s3, da, la, F3, K3⟩ := e_draw (n := 4) F2 hfg (m := 1000000) (by decide) (by decide) (by decide)
  obtain ⟨b, s4, db, lb, F4, K4⟩ := e_draw (n := 4) F3 hfg (m := 1000000) (by decide) (by decide) (by decide)
  have R3 := K4 _ _ hr2 (K3 _ _ hr2 R2)
  have ec := e_fraction_of (n := 4) (a := 1 + a) (b := 1 + b) (st := s4) (by omega) (by omega)
  rw [Int.natCast_add, Int.natCast_add, show ((1 : Nat) : Int) = 1 from rfl] at ec
  have hbig : Lb 20 (cut (1 + a) (1 + b)) := ⟨Nat.lt_of_le_of_lt cut_le1 (by omega), Nat.lt_of_le_of_lt cut_le2 (by omega), Fr.cut (by omega)⟩
  generalize cut (1 + a) (1 + b) = big at *
  have hy : s_app (callN pg 5) [some (.ref 0), some (.ref 2), some (.ref r), none, none, none, none, none] s2 = some (.nx [some (.ref 0), some (.ref 2), some (.ref r), none, none, none, none, none], s4.set r (.lst [q2 (0, 1), q2 (1, 1), q2 p1, q2 p2, q2 p3, q2 p4, q2 (ad p1 p2), q2 (ml p3 p4), q2 big])) := by
    simp [s_app, fApp, R2, R3, da, db, ec]
  have R4 : (s4.set r (O.lst [q2 (0, 1), q2 (1, 1), q2 p1, q2 p2, q2 p3, q2 p4, q2 (ad p1 p2), q2 (ml p3 p4), q2 big]))[r]? = some (.lst [q2 (0, 1), q2 (1, 1), q2 p1, q2 p2, q2 p3, q2 p4, q2 (ad p1 p2), q2 (ml p3 p4), q2 big]) := set_self R3
  have F4' : FeedAt (s4.set r (O.lst [q2 (0, 1), q2 (1, 1), q2 p1, q2 p2, q2 p3, q2 p4, q2 (ad p1 p2), q2 (ml p3 p4), q2 big])) 2 1 ms 14 := F4.set hr2 hr1
  generalize s4.set r (O.lst [q2 (0, 1), q2 (1, 1), q2 p1, q2 p2, q2 p3, q2 p4, q2 (ad p1 p2), q2 (ml p3 p4), q2 big]) = s5 at *
  -- the nine
  obtain ⟨W, hW, hw⟩ : ∃ W : List (Nat × NN), Nine W ∧ [q2 (0, 1), q2 (1, 1), q2 p1, q2 p2, q2 p3, q2 p4, q2 (ad p1 p2), q2 (ml p3 p4), q2 big] = W.map fun x => q2 x.2 := by
    refine ⟨[(1, (0, 1)), (1, (1, 1)), (7, p1), (7, p2), (7, p3), (7, p4), (15, ad p1 p2), (14, ml p3 p4), (20, big)], ⟨rfl, fun x hx => ?_, fun x hx => ?_, ?_⟩, rfl⟩
    · simp only [List.mem_cons, List.not_mem_nil, or_false] at hx
      rcases hx with rfl | rfl | rfl | rfl | rfl | rfl | rfl | rfl | rfl
      · exact lb01
      · exact lb11
      · exact h1.lb
      · exact h2.lb
      · exact h3.lb
      · exact h4.lb
      · exact h1.lb.ad h2.lb
      · exact h3.lb.ml h4.lb
      · exact hbig
    · simp only [List.mem_cons, List.not_mem_nil, or_false] at hx
      rcases hx with rfl | rfl | rfl | rfl | rfl | rfl | rfl | rfl | rfl <;> simp
    · show 1 + (1 + 1 + (1 + 1 + (7 + 1 + (7 + 1 + (7 + 1 + (7 + 1 + (15 + 1 + (14 + 1 + (20 + 1 + 0))))))))) ≤ 98
      decide
  rw [hw] at R4
  obtain ⟨η1, s6, l6, i6⟩ := forGo_rng (g := gvName 3) (fb := bodyO (callN pg 5)) (P := InvO 2 1 r ms 14 W) 9 0 [some (.ref 0), some (.ref 2), some (.ref r), none, none, none, none, none] s5
    (fun j η s _ hj h => stepO (n := 1) hW (by omega) h) ⟨_, _, _, _, _, _, rfl, F4', R4⟩
  obtain ⟨e0, e3, e4, e5, e6, e7, rfl, F6, R6⟩ := i6
  obtain ⟨k, s7, dk, lk, F7, K7⟩ := e_draw (n := 4) F6 hfg (m := 9) (by decide) (by decide) (by decide)
  have R7 := K7 _ _ hr2 R6
  have hn := e_near (n := 1) (st := s7)
  -- the last total
  have hk : k ≤ 9 := by omega
  have tk : cutD (W.map fun x => q2 x.2) none (some (k : Nat)) = (W.take k).map fun x => q2 x.2 := by
    unfold cutD
    rw [HT.sIx_none, HT.sIx_nat, List.length_map, hW.len, List.drop_zero, Nat.sub_zero, Nat.min_eq_left hk, List.map_take]
  have dk' : cutD (W.map fun x => q2 x.2) (some (k : Nat)) none = (W.drop k).map fun x => q2 x.2 := by
    unfold cutD
    rw [HT.sIx_none, HT.sIx_nat, List.length_map, hW.len, Nat.min_eq_left hk, List.map_drop, List.take_of_length_le (by rw [List.length_drop, List.length_map, hW.len]; exact Nat.le_refl _)]
  have b1 := bits_take W k
  have b2 := bits_drop W k
  have hb := hW.bits
  have t1 := e_total (n := 2) (st := s7) W hW.lb hb
  have hl2 : ∀ x ∈ W.take k, Lb x.1 x.2 := fun x hx => hW.lb x (List.mem_of_mem_take hx)
  have hl3 : ∀ x ∈ W.drop k, Lb x.1 x.2 := fun x hx => hW.lb x (List.mem_of_mem_drop hx)
  let s8 := s7 ++ [O.lst ((W.take k).map fun x => q2 x.2)]
  let s9 := s8 ++ [O.lst ((W.drop k).map fun x => q2 x.2)]
  have t2 := e_total (n := 2) (st := s8) (W.take k) hl2 (by omega)
  have t3 := e_total (n := 2) (st := s9) (W.drop k) hl3 (by omega)
  have L2' := sum_lb (W.take k) lb01 hl2
  have L3' := sum_lb (W.drop k) lb01 hl3
  have t4 := f_ad (n := 3) (st := s9) L2' L3' (by omega) (by omega)
  have sm : sumF (0, 1) (W.map (·.2)) = ad (sumF (0, 1) ((W.take k).map (·.2))) (sumF (0, 1) ((W.drop k).map (·.2))) := by
    rw [← sum_app]
    · rw [← List.map_append, List.take_append_drop]
    · intro x hx
      obtain ⟨y, hy, rfl⟩ := List.mem_map.mp hx
      exact (hl2 y hy).f
    · intro x hx
      obtain ⟨y, hy, rfl⟩ := List.mem_map.mp hx
      exact (hl3 y hy).f
  rw [← sm] at t4
  have u1 : bTuple [.ref r] s7 = some (.tup (W.map fun x => q2 x.2), s7) := by
    show (items _ _).map _ = _
    unfold items
    simp only [R7]; rfl
  have v1 : slD (.ref r) none (some (k : Nat)) s7 = some (.ref s7.length, s8) := by
    unfold slD
    simp only [R7, tk]; rfl
  have R8 : s8[r]? = some (.lst (W.map fun x => q2 x.2)) := get_app R7
  have q8 : s8[s7.length]? = some (.lst ((W.take k).map fun x => q2 x.2)) := by
    show (s7 ++ [O.lst ((W.take k).map fun x => q2 x.2)])[s7.length]? = _
    rw [List.getElem?_append_right (Nat.le_refl _)]; simp
  have u2 : bTuple [.ref s7.length] s8 = some (.tup ((W.take k).map fun x => q2 x.2), s8) := by
    show (items _ _).map _ = _
    unfold items
    simp only [q8]; rfl
  have v2 : slD (.ref r) (some (k : Nat)) none s8 = some (.ref s8.length, s9) := by
    unfold slD
    simp only [R8, dk']; rfl
  have q9 : s9[s8.length]? = some (.lst ((W.drop k).map fun x => q2 x.2)) := by
    show (s8 ++ [O.lst ((W.drop k).map fun x => q2 x.2)])[s8.length]? = _
    rw [List.getElem?_append_right (Nat.le_refl _)]; simp
  have u3 : bTuple [.ref s8.length] s9 = some (.tup ((W.drop k).map fun x => q2 x.2), s9) := by
    show (items _ _).map _ = _
    unfold items
    simp only [q9]; rfl
  generalize hs8 : s8 = S8 at *
  generalize hs9 : s9 = S9 at *
  clear hs8 hs9 q8 q9 R8 tk dk' b1 b2 hb hl2 hl3 L2' L3' sm
  generalize (W.map fun x => q2 x.2) = w0 at *
  generalize ((W.take k).map fun x => q2 x.2) = w1 at *
  generalize ((W.drop k).map fun x => q2 x.2) = w2 at *
  generalize sumF (0, 1) (W.map (·.2)) = x0 at *
  generalize sumF (0, 1) ((W.take k).map (·.2)) = x1 at *
  generalize sumF (0, 1) ((W.drop k).map (·.2)) = x2 at *
  refine ⟨S9, ?_⟩
  have zl : e_last (callN pg 5) [e0, some (.ref 2), some (.ref r), e3, some (.int (k : Nat)), e5, e6, e7] s7 = some (.bl true, S9) := by
    simp [e_last, u1, t1, v1, u2, t2, v2, u3, t3, t4]
  have z0 : (sAsg (fCall (callN pg 5) "_law_feed" (fCons (fVar 0) (fNil))) (gvName 1)) [some (.ref 0), none, none, none, none, none, none, none] [o] = some (.nx [some (.ref 0), some (.ref 2), none, none, none, none, none, none], s0) := by
    simp [ef]
  have r1 : (iRng (fCons (fC (.int 9)) (fNil))) [some (.ref 0), some (.ref 2), some (.ref r), none, none, none, none, none] s5 = some (⟨rngD ((0 : Nat) : Int) 9 1, none⟩, s5) := rng_src (ds := [.int 9]) rfl (rng1 (inR_of (by decide) (by decide)))
  have z4 : (sFor (iRng (fCons (fC (.int 9)) (fNil))) (gvName 3) (bodyO (callN pg 5))) [some (.ref 0), some (.ref 2), some (.ref r), none, none, none, none, none] s5 = some (.nx [e0, some (.ref 2), some (.ref r), e3, e4, e5, e6, e7], s6) := by
    rw [sFor_ev, r1]
    exact l6
  have z5 : (sAsg (fCall (callN pg 5) "_law_draw" (fCons (fVar 1) (fCons (fC (.int 9)) (fNil)))) (gvName 4)) [e0, some (.ref 2), some (.ref r), e3, e4, e5, e6, e7] s6 = some (.nx [e0, some (.ref 2), some (.ref r), e3, some (.int (k : Nat)), e5, e6, e7], s7) := by
    simp [dk]
  have z6 : (gNot (gTru (fCall (callN pg 5) "_law_near_right" (fNil)))) [e0, some (.ref 2), some (.ref r), e3, some (.int (k : Nat)), e5, e6, e7] s7 = some (false, s7) := by
    simp [hn]
  have e00 : ∀ c : SemS, runB c d_law [.ref 0] [o] = (c [some (.ref 0), none, none, none, none, none, none, none] [o]).bind fun p => match p.1 with
      | .rt v => some (v, p.2)
      | .nx _ => some (.non, p.2)
      | _ => none := fun c => runB_ev rfl
  rw [r_law, b_law_eq, e00, seq_nx z0, seq_nx hs, seq_nx hx, seq_nx hy, seq_nx z4, seq_nx z5, if_no z6, sSeq_ev, sRet_ev, zl]
  rfl
end K03

namespace K03
open PySem L2 Sim
theorem s_is_number : FnScope d_is_number.N d_is_number.ps (defScope d_is_number.st) := ⟨rfl, rfl, rfl, by decide +kernel, rfl, by decide +kernel, by decide +kernel⟩
theorem bd_is_number {K : Frg} {fa : Addr} {fd : FuncData} (F : Fun K d_is_number.name d_is_number.name d_is_number.st fa fd) : Binds K fd d_is_number.ps [] := F.binds (ps := d_is_number.ps) fun _ _ _ _ _ _ us hl => match us, hl with | [_], _ => rfl
theorem s_is_row : FnScope d_is_row.N d_is_row.ps (defScope d_is_row.st) := ⟨rfl, rfl, rfl, by decide +kernel, rfl, by decide +kernel, by decide +kernel⟩
theorem bd_is_row {K : Frg} {fa : Addr} {fd : FuncData} (F : Fun K d_is_row.name d_is_row.name d_is_row.st fa fd) : Binds K fd d_is_row.ps [] := F.binds (ps := d_is_row.ps) fun _ _ _ _ _ _ us hl => match us, hl with | [_, _], _ => rfl
theorem s_is_fraction : FnScope d_is_fraction.N d_is_fraction.ps (defScope d_is_fraction.st) := ⟨rfl, rfl, rfl, by decide +kernel, rfl, by decide +kernel, by decide +kernel⟩
theorem bd_is_fraction {K : Frg} {fa : Addr} {fd : FuncData} (F : Fun K d_is_fraction.name d_is_fraction.name d_is_fraction.st fa fd) : Binds K fd d_is_fraction.ps [] := F.binds (ps := d_is_fraction.ps) fun _ _ _ _ _ _ us hl => match us, hl with | [_], _ => rfl
theorem s_fraction_of : FnScope d_fraction_of.N d_fraction_of.ps (defScope d_fraction_of.st) := ⟨rfl, rfl, rfl, by decide +kernel, rfl, by decide +kernel, by decide +kernel⟩
theorem bd_fraction_of {K : Frg} {fa : Addr} {fd : FuncData} (F : Fun K d_fraction_of.name d_fraction_of.name d_fraction_of.st fa fd) : Binds K fd d_fraction_of.ps [] := F.binds (ps := d_fraction_of.ps) fun _ _ _ _ _ _ us hl => match us, hl with | [_, _], _ => rfl
theorem s_plus : FnScope d_plus.N d_plus.ps (defScope d_plus.st) := ⟨rfl, rfl, rfl, by decide +kernel, rfl, by decide +kernel, by decide +kernel⟩
theorem bd_plus {K : Frg} {fa : Addr} {fd : FuncData} (F : Fun K d_plus.name d_plus.name d_plus.st fa fd) : Binds K fd d_plus.ps [] := F.binds (ps := d_plus.ps) fun _ _ _ _ _ _ us hl => match us, hl with | [_, _], _ => rfl
theorem s_times : FnScope d_times.N d_times.ps (defScope d_times.st) := ⟨rfl, rfl, rfl, by decide +kernel, rfl, by decide +kernel, by decide +kernel⟩
theorem bd_times {K : Frg} {fa : Addr} {fd : FuncData} (F : Fun K d_times.name d_times.name d_times.st fa fd) : Binds K fd d_times.ps [] := F.binds (ps := d_times.ps) fun _ _ _ _ _ _ us hl => match us, hl with | [_, _], _ => rfl
theorem s_minus : FnScope d_minus.N d_minus.ps (defScope d_minus.st) := ⟨rfl, rfl, rfl, by decide +kernel, rfl, by decide +kernel, by decide +kernel⟩
theorem bd_minus {K : Frg} {fa : Addr} {fd : FuncData} (F : Fun K d_minus.name d_minus.name d_minus.st fa fd) : Binds K fd d_minus.ps [] := F.binds (ps := d_minus.ps) fun _ _ _ _ _ _ us hl => match us, hl with | [_, _], _ => rfl
theorem s_is_less : FnScope d_is_less.N d_is_less.ps (defScope d_is_less.st) := ⟨rfl, rfl, rfl, by decide +kernel, rfl, by decide +kernel, by decide +kernel⟩
theorem bd_is_less {K : Frg} {fa : Addr} {fd : FuncData} (F : Fun K d_is_less.name d_is_less.name d_is_less.st fa fd) : Binds K fd d_is_less.ps [] := F.binds (ps := d_is_less.ps) fun _ _ _ _ _ _ us hl => match us, hl with | [_, _], _ => rfl
theorem s_lesser : FnScope d_lesser.N d_lesser.ps (defScope d_lesser.st) := ⟨rfl, rfl, rfl, by decide +kernel, rfl, by decide +kernel, by decide +kernel⟩
theorem bd_lesser {K : Frg} {fa : Addr} {fd : FuncData} (F : Fun K d_lesser.name d_lesser.name d_lesser.st fa fd) : Binds K fd d_lesser.ps [] := F.binds (ps := d_lesser.ps) fun _ _ _ _ _ _ us hl => match us, hl with | [_, _], _ => rfl
theorem s_total_of : FnScope d_total_of.N d_total_of.ps (defScope d_total_of.st) := ⟨rfl, rfl, rfl, by decide +kernel, rfl, by decide +kernel, by decide +kernel⟩
theorem bd_total_of {K : Frg} {fa : Addr} {fd : FuncData} (F : Fun K d_total_of.name d_total_of.name d_total_of.st fa fd) : Binds K fd d_total_of.ps [] := F.binds (ps := d_total_of.ps) fun _ _ _ _ _ _ us hl => match us, hl with | [_], _ => rfl
theorem s__law_feed : FnScope d__law_feed.N d__law_feed.ps (defScope d__law_feed.st) := ⟨rfl, rfl, rfl, by decide +kernel, rfl, by decide +kernel, by decide +kernel⟩
theorem bd__law_feed {K : Frg} {fa : Addr} {fd : FuncData} (F : Fun K d__law_feed.name d__law_feed.name d__law_feed.st fa fd) : Binds K fd d__law_feed.ps [] := F.binds (ps := d__law_feed.ps) fun _ _ _ _ _ _ us hl => match us, hl with | [_], _ => rfl
theorem s__law_draw : FnScope d__law_draw.N d__law_draw.ps (defScope d__law_draw.st) := ⟨rfl, rfl, rfl, by decide +kernel, rfl, by decide +kernel, by decide +kernel⟩
theorem bd__law_draw {K : Frg} {fa : Addr} {fd : FuncData} (F : Fun K d__law_draw.name d__law_draw.name d__law_draw.st fa fd) : Binds K fd d__law_draw.ps [] := F.binds (ps := d__law_draw.ps) fun _ _ _ _ _ _ us hl => match us, hl with | [_, _], _ => rfl
theorem s__law_least : FnScope d__law_least.N d__law_least.ps (defScope d__law_least.st) := ⟨rfl, rfl, rfl, by decide +kernel, rfl, by decide +kernel, by decide +kernel⟩
theorem bd__law_least {K : Frg} {fa : Addr} {fd : FuncData} (F : Fun K d__law_least.name d__law_least.name d__law_least.st fa fd) : Binds K fd d__law_least.ps [] := F.binds (ps := d__law_least.ps) fun _ _ _ _ _ _ us hl => match us, hl with | [_, _], _ => rfl
theorem s__law_fraction : FnScope d__law_fraction.N d__law_fraction.ps (defScope d__law_fraction.st) := ⟨rfl, rfl, rfl, by decide +kernel, rfl, by decide +kernel, by decide +kernel⟩
theorem bd__law_fraction {K : Frg} {fa : Addr} {fd : FuncData} (F : Fun K d__law_fraction.name d__law_fraction.name d__law_fraction.st fa fd) : Binds K fd d__law_fraction.ps [] := F.binds (ps := d__law_fraction.ps) fun _ _ _ _ _ _ us hl => match us, hl with | [_], _ => rfl
theorem s__law_two_right : FnScope d__law_two_right.N d__law_two_right.ps (defScope d__law_two_right.st) := ⟨rfl, rfl, rfl, by decide +kernel, rfl, by decide +kernel, by decide +kernel⟩
theorem bd__law_two_right {K : Frg} {fa : Addr} {fd : FuncData} (F : Fun K d__law_two_right.name d__law_two_right.name d__law_two_right.st fa fd) : Binds K fd d__law_two_right.ps [] := F.binds (ps := d__law_two_right.ps) fun _ _ _ _ _ _ us hl => match us, hl with | [_, _], _ => rfl
theorem s__law_three_right : FnScope d__law_three_right.N d__law_three_right.ps (defScope d__law_three_right.st) := ⟨rfl, rfl, rfl, by decide +kernel, rfl, by decide +kernel, by decide +kernel⟩
theorem bd__law_three_right {K : Frg} {fa : Addr} {fd : FuncData} (F : Fun K d__law_three_right.name d__law_three_right.name d__law_three_right.st fa fd) : Binds K fd d__law_three_right.ps [] := F.binds (ps := d__law_three_right.ps) fun _ _ _ _ _ _ us hl => match us, hl with | [_, _, _], _ => rfl
theorem s__law_near_right : FnScope d__law_near_right.N d__law_near_right.ps (defScope d__law_near_right.st) := ⟨rfl, rfl, rfl, by decide +kernel, rfl, by decide +kernel, by decide +kernel⟩
theorem bd__law_near_right {K : Frg} {fa : Addr} {fd : FuncData} (F : Fun K d__law_near_right.name d__law_near_right.name d__law_near_right.st fa fd) : Binds K fd d__law_near_right.ps [] := F.binds (ps := d__law_near_right.ps) fun _ _ _ _ _ _ us hl => match us, hl with | [], _ => rfl
theorem s_law : FnScope d_law.N d_law.ps (defScope d_law.st) := ⟨rfl, rfl, rfl, by decide +kernel, rfl, by decide +kernel, by decide +kernel⟩
theorem bd_law {K : Frg} {fa : Addr} {fd : FuncData} (F : Fun K d_law.name d_law.name d_law.st fa fd) : Binds K fd d_law.ps [] := F.binds (ps := d_law.ps) fun _ _ _ _ _ _ us hl => match us, hl with | [_], _ => rfl
theorem mk_is_number {K : Frg} {h : Heap} {mg : Str → Option Value} (X : K.In h) (G : h.Ns mainGlobals mg) {f : Addr} {od an : Option Addr} {sl : Array (Option Value)} {oc kV dc pm cd ct : Value}
    (a : PySem.W.nsIn K mainGlobals "is_number" = some (some (.ref f))) (l : K.lookup f = some ⟨oc, od, .func (PySem.W.fnOf "is_number" "is_number" (defArgs d_is_number.st) (defBody d_is_number.st) (defScope d_is_number.st) .none kV dc pm an cd ct), sl⟩)
    (c : PySem.W.codeIn K cd "is_number" = true) (k : PySem.W.keepIn K (.ref f) = true) : ∃ fa fd, DefOk d_is_number K mg fa fd :=
  ⟨f, _, PySem.W.mg_of X G a, fun_mk (x := "is_number") (qual := "is_number") (st := d_is_number.st) l c k, bd_is_number (fun_mk (x := "is_number") (qual := "is_number") (st := d_is_number.st) l c k), s_is_number⟩
theorem mk_is_row {K : Frg} {h : Heap} {mg : Str → Option Value} (X : K.In h) (G : h.Ns mainGlobals mg) {f : Addr} {od an : Option Addr} {sl : Array (Option Value)} {oc kV dc pm cd ct : Value}
    (a : PySem.W.nsIn K mainGlobals "is_row" = some (some (.ref f))) (l : K.lookup f = some ⟨oc, od, .func (PySem.W.fnOf "is_row" "is_row" (defArgs d_is_row.st) (defBody d_is_row.st) (defScope d_is_row.st) .none kV dc pm an cd ct), sl⟩)
    (c : PySem.W.codeIn K cd "is_row" = true) (k : PySem.W.keepIn K (.ref f) = true) : ∃ fa fd, DefOk d_is_row K mg fa fd :=
  ⟨f, _, PySem.W.mg_of X G a, fun_mk (x := "is_row") (qual := "is_row") (st := d_is_row.st) l c k, bd_is_row (fun_mk (x := "is_row") (qual := "is_row") (st := d_is_row.st) l c k), s_is_row⟩
theorem mk_is_fraction {K : Frg} {h : Heap} {mg : Str → Option Value} (X : K.In h) (G : h.Ns mainGlobals mg) {f : Addr} {od an : Option Addr} {sl : Array (Option Value)} {oc kV dc pm cd ct : Value}
    (a : PySem.W.nsIn K mainGlobals "is_fraction" = some (some (.ref f))) (l : K.lookup f = some ⟨oc, od, .func (PySem.W.fnOf "is_fraction" "is_fraction" (defArgs d_is_fraction.st) (defBody d_is_fraction.st) (defScope d_is_fraction.st) .none kV dc pm an cd ct), sl⟩)
    (c : PySem.W.codeIn K cd "is_fraction" = true) (k : PySem.W.keepIn K (.ref f) = true) : ∃ fa fd, DefOk d_is_fraction K mg fa fd :=
  ⟨f, _, PySem.W.mg_of X G a, fun_mk (x := "is_fraction") (qual := "is_fraction") (st := d_is_fraction.st) l c k, bd_is_fraction (fun_mk (x := "is_fraction") (qual := "is_fraction") (st := d_is_fraction.st) l c k), s_is_fraction⟩
theorem mk_fraction_of {K : Frg} {h : Heap} {mg : Str → Option Value} (X : K.In h) (G : h.Ns mainGlobals mg) {f : Addr} {od an : Option Addr} {sl : Array (Option Value)} {oc kV dc pm cd ct : Value}
    (a : PySem.W.nsIn K mainGlobals "fraction_of" = some (some (.ref f))) (l : K.lookup f = some ⟨oc, od, .func (PySem.W.fnOf "fraction_of" "fraction_of" (defArgs d_fraction_of.st) (defBody d_fraction_of.st) (defScope d_fraction_of.st) .none kV dc pm an cd ct), sl⟩)
    (c : PySem.W.codeIn K cd "fraction_of" = true) (k : PySem.W.keepIn K (.ref f) = true) : ∃ fa fd, DefOk d_fraction_of K mg fa fd :=
  ⟨f, _, PySem.W.mg_of X G a, fun_mk (x := "fraction_of") (qual := "fraction_of") (st := d_fraction_of.st) l c k, bd_fraction_of (fun_mk (x := "fraction_of") (qual := "fraction_of") (st := d_fraction_of.st) l c k), s_fraction_of⟩
theorem mk_plus {K : Frg} {h : Heap} {mg : Str → Option Value} (X : K.In h) (G : h.Ns mainGlobals mg) {f : Addr} {od an : Option Addr} {sl : Array (Option Value)} {oc kV dc pm cd ct : Value}
    (a : PySem.W.nsIn K mainGlobals "plus" = some (some (.ref f))) (l : K.lookup f = some ⟨oc, od, .func (PySem.W.fnOf "plus" "plus" (defArgs d_plus.st) (defBody d_plus.st) (defScope d_plus.st) .none kV dc pm an cd ct), sl⟩)
    (c : PySem.W.codeIn K cd "plus" = true) (k : PySem.W.keepIn K (.ref f) = true) : ∃ fa fd, DefOk d_plus K mg fa fd :=
  ⟨f, _, PySem.W.mg_of X G a, fun_mk (x := "plus") (qual := "plus") (st := d_plus.st) l c k, bd_plus (fun_mk (x := "plus") (qual := "plus") (st := d_plus.st) l c k), s_plus⟩
theorem mk_times {K : Frg} {h : Heap} {mg : Str → Option Value} (X : K.In h) (G : h.Ns mainGlobals mg) {f : Addr} {od an : Option Addr} {sl : Array (Option Value)} {oc kV dc pm cd ct : Value}
    (a : PySem.W.nsIn K mainGlobals "times" = some (some (.ref f))) (l : K.lookup f = some ⟨oc, od, .func (PySem.W.fnOf "times" "times" (defArgs d_times.st) (defBody d_times.st) (defScope d_times.st) .none kV dc pm an cd ct), sl⟩)
    (c : PySem.W.codeIn K cd "times" = true) (k : PySem.W.keepIn K (.ref f) = true) : ∃ fa fd, DefOk d_times K mg fa fd :=
  ⟨f, _, PySem.W.mg_of X G a, fun_mk (x := "times") (qual := "times") (st := d_times.st) l c k, bd_times (fun_mk (x := "times") (qual := "times") (st := d_times.st) l c k), s_times⟩
theorem mk_minus {K : Frg} {h : Heap} {mg : Str → Option Value} (X : K.In h) (G : h.Ns mainGlobals mg) {f : Addr} {od an : Option Addr} {sl : Array (Option Value)} {oc kV dc pm cd ct : Value}
    (a : PySem.W.nsIn K mainGlobals "minus" = some (some (.ref f))) (l : K.lookup f = some ⟨oc, od, .func (PySem.W.fnOf "minus" "minus" (defArgs d_minus.st) (defBody d_minus.st) (defScope d_minus.st) .none kV dc pm an cd ct), sl⟩)
    (c : PySem.W.codeIn K cd "minus" = true) (k : PySem.W.keepIn K (.ref f) = true) : ∃ fa fd, DefOk d_minus K mg fa fd :=
  ⟨f, _, PySem.W.mg_of X G a, fun_mk (x := "minus") (qual := "minus") (st := d_minus.st) l c k, bd_minus (fun_mk (x := "minus") (qual := "minus") (st := d_minus.st) l c k), s_minus⟩
theorem mk_is_less {K : Frg} {h : Heap} {mg : Str → Option Value} (X : K.In h) (G : h.Ns mainGlobals mg) {f : Addr} {od an : Option Addr} {sl : Array (Option Value)} {oc kV dc pm cd ct : Value}
    (a : PySem.W.nsIn K mainGlobals "is_less" = some (some (.ref f))) (l : K.lookup f = some ⟨oc, od, .func (PySem.W.fnOf "is_less" "is_less" (defArgs d_is_less.st) (defBody d_is_less.st) (defScope d_is_less.st) .none kV dc pm an cd ct), sl⟩)
    (c : PySem.W.codeIn K cd "is_less" = true) (k : PySem.W.keepIn K (.ref f) = true) : ∃ fa fd, DefOk d_is_less K mg fa fd :=
  ⟨f, _, PySem.W.mg_of X G a, fun_mk (x := "is_less") (qual := "is_less") (st := d_is_less.st) l c k, bd_is_less (fun_mk (x := "is_less") (qual := "is_less") (st := d_is_less.st) l c k), s_is_less⟩
theorem mk_lesser {K : Frg} {h : Heap} {mg : Str → Option Value} (X : K.In h) (G : h.Ns mainGlobals mg) {f : Addr} {od an : Option Addr} {sl : Array (Option Value)} {oc kV dc pm cd ct : Value}
    (a : PySem.W.nsIn K mainGlobals "lesser" = some (some (.ref f))) (l : K.lookup f = some ⟨oc, od, .func (PySem.W.fnOf "lesser" "lesser" (defArgs d_lesser.st) (defBody d_lesser.st) (defScope d_lesser.st) .none kV dc pm an cd ct), sl⟩)
    (c : PySem.W.codeIn K cd "lesser" = true) (k : PySem.W.keepIn K (.ref f) = true) : ∃ fa fd, DefOk d_lesser K mg fa fd :=
  ⟨f, _, PySem.W.mg_of X G a, fun_mk (x := "lesser") (qual := "lesser") (st := d_lesser.st) l c k, bd_lesser (fun_mk (x := "lesser") (qual := "lesser") (st := d_lesser.st) l c k), s_lesser⟩
theorem mk_total_of {K : Frg} {h : Heap} {mg : Str → Option Value} (X : K.In h) (G : h.Ns mainGlobals mg) {f : Addr} {od an : Option Addr} {sl : Array (Option Value)} {oc kV dc pm cd ct : Value}
    (a : PySem.W.nsIn K mainGlobals "total_of" = some (some (.ref f))) (l : K.lookup f = some ⟨oc, od, .func (PySem.W.fnOf "total_of" "total_of" (defArgs d_total_of.st) (defBody d_total_of.st) (defScope d_total_of.st) .none kV dc pm an cd ct), sl⟩)
    (c : PySem.W.codeIn K cd "total_of" = true) (k : PySem.W.keepIn K (.ref f) = true) : ∃ fa fd, DefOk d_total_of K mg fa fd :=
  ⟨f, _, PySem.W.mg_of X G a, fun_mk (x := "total_of") (qual := "total_of") (st := d_total_of.st) l c k, bd_total_of (fun_mk (x := "total_of") (qual := "total_of") (st := d_total_of.st) l c k), s_total_of⟩
theorem mk__law_feed {K : Frg} {h : Heap} {mg : Str → Option Value} (X : K.In h) (G : h.Ns mainGlobals mg) {f : Addr} {od an : Option Addr} {sl : Array (Option Value)} {oc kV dc pm cd ct : Value}
    (a : PySem.W.nsIn K mainGlobals "_law_feed" = some (some (.ref f))) (l : K.lookup f = some ⟨oc, od, .func (PySem.W.fnOf "_law_feed" "_law_feed" (defArgs d__law_feed.st) (defBody d__law_feed.st) (defScope d__law_feed.st) .none kV dc pm an cd ct), sl⟩)
    (c : PySem.W.codeIn K cd "_law_feed" = true) (k : PySem.W.keepIn K (.ref f) = true) : ∃ fa fd, DefOk d__law_feed K mg fa fd :=
  ⟨f, _, PySem.W.mg_of X G a, fun_mk (x := "_law_feed") (qual := "_law_feed") (st := d__law_feed.st) l c k, bd__law_feed (fun_mk (x := "_law_feed") (qual := "_law_feed") (st := d__law_feed.st) l c k), s__law_feed⟩
theorem mk__law_draw {K : Frg} {h : Heap} {mg : Str → Option Value} (X : K.In h) (G : h.Ns mainGlobals mg) {f : Addr} {od an : Option Addr} {sl : Array (Option Value)} {oc kV dc pm cd ct : Value}
    (a : PySem.W.nsIn K mainGlobals "_law_draw" = some (some (.ref f))) (l : K.lookup f = some ⟨oc, od, .func (PySem.W.fnOf "_law_draw" "_law_draw" (defArgs d__law_draw.st) (defBody d__law_draw.st) (defScope d__law_draw.st) .none kV dc pm an cd ct), sl⟩)
    (c : PySem.W.codeIn K cd "_law_draw" = true) (k : PySem.W.keepIn K (.ref f) = true) : ∃ fa fd, DefOk d__law_draw K mg fa fd :=
  ⟨f, _, PySem.W.mg_of X G a, fun_mk (x := "_law_draw") (qual := "_law_draw") (st := d__law_draw.st) l c k, bd__law_draw (fun_mk (x := "_law_draw") (qual := "_law_draw") (st := d__law_draw.st) l c k), s__law_draw⟩
theorem mk__law_least {K : Frg} {h : Heap} {mg : Str → Option Value} (X : K.In h) (G : h.Ns mainGlobals mg) {f : Addr} {od an : Option Addr} {sl : Array (Option Value)} {oc kV dc pm cd ct : Value}
    (a : PySem.W.nsIn K mainGlobals "_law_least" = some (some (.ref f))) (l : K.lookup f = some ⟨oc, od, .func (PySem.W.fnOf "_law_least" "_law_least" (defArgs d__law_least.st) (defBody d__law_least.st) (defScope d__law_least.st) .none kV dc pm an cd ct), sl⟩)
    (c : PySem.W.codeIn K cd "_law_least" = true) (k : PySem.W.keepIn K (.ref f) = true) : ∃ fa fd, DefOk d__law_least K mg fa fd :=
  ⟨f, _, PySem.W.mg_of X G a, fun_mk (x := "_law_least") (qual := "_law_least") (st := d__law_least.st) l c k, bd__law_least (fun_mk (x := "_law_least") (qual := "_law_least") (st := d__law_least.st) l c k), s__law_least⟩
theorem mk__law_fraction {K : Frg} {h : Heap} {mg : Str → Option Value} (X : K.In h) (G : h.Ns mainGlobals mg) {f : Addr} {od an : Option Addr} {sl : Array (Option Value)} {oc kV dc pm cd ct : Value}
    (a : PySem.W.nsIn K mainGlobals "_law_fraction" = some (some (.ref f))) (l : K.lookup f = some ⟨oc, od, .func (PySem.W.fnOf "_law_fraction" "_law_fraction" (defArgs d__law_fraction.st) (defBody d__law_fraction.st) (defScope d__law_fraction.st) .none kV dc pm an cd ct), sl⟩)
    (c : PySem.W.codeIn K cd "_law_fraction" = true) (k : PySem.W.keepIn K (.ref f) = true) : ∃ fa fd, DefOk d__law_fraction K mg fa fd :=
  ⟨f, _, PySem.W.mg_of X G a, fun_mk (x := "_law_fraction") (qual := "_law_fraction") (st := d__law_fraction.st) l c k, bd__law_fraction (fun_mk (x := "_law_fraction") (qual := "_law_fraction") (st := d__law_fraction.st) l c k), s__law_fraction⟩
theorem mk__law_two_right {K : Frg} {h : Heap} {mg : Str → Option Value} (X : K.In h) (G : h.Ns mainGlobals mg) {f : Addr} {od an : Option Addr} {sl : Array (Option Value)} {oc kV dc pm cd ct : Value}
    (a : PySem.W.nsIn K mainGlobals "_law_two_right" = some (some (.ref f))) (l : K.lookup f = some ⟨oc, od, .func (PySem.W.fnOf "_law_two_right" "_law_two_right" (defArgs d__law_two_right.st) (defBody d__law_two_right.st) (defScope d__law_two_right.st) .none kV dc pm an cd ct), sl⟩)
    (c : PySem.W.codeIn K cd "_law_two_right" = true) (k : PySem.W.keepIn K (.ref f) = true) : ∃ fa fd, DefOk d__law_two_right K mg fa fd :=
  ⟨f, _, PySem.W.mg_of X G a, fun_mk (x := "_law_two_right") (qual := "_law_two_right") (st := d__law_two_right.st) l c k, bd__law_two_right (fun_mk (x := "_law_two_right") (qual := "_law_two_right") (st := d__law_two_right.st) l c k), s__law_two_right⟩
theorem mk__law_three_right {K : Frg} {h : Heap} {mg : Str → Option Value} (X : K.In h) (G : h.Ns mainGlobals mg) {f : Addr} {od an : Option Addr} {sl : Array (Option Value)} {oc kV dc pm cd ct : Value}
    (a : PySem.W.nsIn K mainGlobals "_law_three_right" = some (some (.ref f))) (l : K.lookup f = some ⟨oc, od, .func (PySem.W.fnOf "_law_three_right" "_law_three_right" (defArgs d__law_three_right.st) (defBody d__law_three_right.st) (defScope d__law_three_right.st) .none kV dc pm an cd ct), sl⟩)
    (c : PySem.W.codeIn K cd "_law_three_right" = true) (k : PySem.W.keepIn K (.ref f) = true) : ∃ fa fd, DefOk d__law_three_right K mg fa fd :=
  ⟨f, _, PySem.W.mg_of X G a, fun_mk (x := "_law_three_right") (qual := "_law_three_right") (st := d__law_three_right.st) l c k, bd__law_three_right (fun_mk (x := "_law_three_right") (qual := "_law_three_right") (st := d__law_three_right.st) l c k), s__law_three_right⟩
theorem mk__law_near_right {K : Frg} {h : Heap} {mg : Str → Option Value} (X : K.In h) (G : h.Ns mainGlobals mg) {f : Addr} {od an : Option Addr} {sl : Array (Option Value)} {oc kV dc pm cd ct : Value}
    (a : PySem.W.nsIn K mainGlobals "_law_near_right" = some (some (.ref f))) (l : K.lookup f = some ⟨oc, od, .func (PySem.W.fnOf "_law_near_right" "_law_near_right" (defArgs d__law_near_right.st) (defBody d__law_near_right.st) (defScope d__law_near_right.st) .none kV dc pm an cd ct), sl⟩)
    (c : PySem.W.codeIn K cd "_law_near_right" = true) (k : PySem.W.keepIn K (.ref f) = true) : ∃ fa fd, DefOk d__law_near_right K mg fa fd :=
  ⟨f, _, PySem.W.mg_of X G a, fun_mk (x := "_law_near_right") (qual := "_law_near_right") (st := d__law_near_right.st) l c k, bd__law_near_right (fun_mk (x := "_law_near_right") (qual := "_law_near_right") (st := d__law_near_right.st) l c k), s__law_near_right⟩
theorem mk_law {K : Frg} {h : Heap} {mg : Str → Option Value} (X : K.In h) (G : h.Ns mainGlobals mg) {f : Addr} {od an : Option Addr} {sl : Array (Option Value)} {oc kV dc pm cd ct : Value}
    (a : PySem.W.nsIn K mainGlobals "law" = some (some (.ref f))) (l : K.lookup f = some ⟨oc, od, .func (PySem.W.fnOf "law" "law" (defArgs d_law.st) (defBody d_law.st) (defScope d_law.st) .none kV dc pm an cd ct), sl⟩)
    (c : PySem.W.codeIn K cd "law" = true) (k : PySem.W.keepIn K (.ref f) = true) : ∃ fa fd, DefOk d_law K mg fa fd :=
  ⟨f, _, PySem.W.mg_of X G a, fun_mk (x := "law") (qual := "law") (st := d_law.st) l c k, bd_law (fun_mk (x := "law") (qual := "law") (st := d_law.st) l c k), s_law⟩
theorem pg_mk {K : Frg} {h : Heap} {mg : Str → Option Value} (X : K.In h) (G : h.Ns mainGlobals mg)
    (m0 : ∃ fa fd, DefOk d_is_number K mg fa fd)
    (m1 : ∃ fa fd, DefOk d_is_row K mg fa fd)
    (m2 : ∃ fa fd, DefOk d_is_fraction K mg fa fd)
    (m3 : ∃ fa fd, DefOk d_fraction_of K mg fa fd)
    (m4 : ∃ fa fd, DefOk d_plus K mg fa fd)
    (m5 : ∃ fa fd, DefOk d_times K mg fa fd)
    (m6 : ∃ fa fd, DefOk d_minus K mg fa fd)
    (m7 : ∃ fa fd, DefOk d_is_less K mg fa fd)
    (m8 : ∃ fa fd, DefOk d_lesser K mg fa fd)
    (m9 : ∃ fa fd, DefOk d_total_of K mg fa fd)
    (m10 : ∃ fa fd, DefOk d__law_feed K mg fa fd)
    (m11 : ∃ fa fd, DefOk d__law_draw K mg fa fd)
    (m12 : ∃ fa fd, DefOk d__law_least K mg fa fd)
    (m13 : ∃ fa fd, DefOk d__law_fraction K mg fa fd)
    (m14 : ∃ fa fd, DefOk d__law_two_right K mg fa fd)
    (m15 : ∃ fa fd, DefOk d__law_three_right K mg fa fd)
    (m16 : ∃ fa fd, DefOk d__law_near_right K mg fa fd)
    (m17 : ∃ fa fd, DefOk d_law K mg fa fd)
    (z0 : PySem.W.nsIn K mainGlobals "bool" = some none)
    (z1 : PySem.W.nsIn K mainGlobals "int" = some none)
    (z2 : PySem.W.nsIn K mainGlobals "isinstance" = some none)
    (z3 : PySem.W.nsIn K mainGlobals "len" = some none)
    (z4 : PySem.W.nsIn K mainGlobals "min" = some none)
    (z5 : PySem.W.nsIn K mainGlobals "range" = some none)
    (z6 : PySem.W.nsIn K mainGlobals "sorted" = some none)
    (z7 : PySem.W.nsIn K mainGlobals "tuple" = some none)
    (g0 : PySem.W.nsIn K mainGlobals "gcd" = some (some (.builtin "math.gcd")))
    : PgOk pg K mg := by
  refine ⟨fun d hd => ?_, fun x hx => ?_, fun hm => ?_, fun d hd => ?_⟩
  · simp only [pg, List.mem_cons, List.not_mem_nil, or_false] at hd
    rcases hd with rfl | rfl | rfl | rfl | rfl | rfl | rfl | rfl | rfl | rfl | rfl | rfl | rfl | rfl | rfl | rfl | rfl | rfl
    · exact m0
    · exact m1
    · exact m2
    · exact m3
    · exact m4
    · exact m5
    · exact m6
    · exact m7
    · exact m8
    · exact m9
    · exact m10
    · exact m11
    · exact m12
    · exact m13
    · exact m14
    · exact m15
    · exact m16
    · exact m17
  · simp only [pg, List.mem_cons, List.not_mem_nil, or_false] at hx
    rcases hx with rfl | rfl | rfl | rfl | rfl | rfl | rfl | rfl
    · exact PySem.W.mg_none_of X G z0
    · exact PySem.W.mg_none_of X G z1
    · exact PySem.W.mg_none_of X G z2
    · exact PySem.W.mg_none_of X G z3
    · exact PySem.W.mg_none_of X G z4
    · exact PySem.W.mg_none_of X G z5
    · exact PySem.W.mg_none_of X G z6
    · exact PySem.W.mg_none_of X G z7
  · exact PySem.W.mg_of X G g0
  · simp only [pg, List.mem_cons, List.not_mem_nil, or_false] at hd
    rcases hd with rfl | rfl | rfl | rfl | rfl | rfl | rfl | rfl | rfl | rfl | rfl | rfl | rfl | rfl | rfl | rfl | rfl | rfl <;> decide
theorem law_binds {K : Frg} {mg : Str → Option Value} {fa : Addr} {fd : FuncData} (D : DefOk d_law K mg fa fd) (s : Shared) (u : Value) : BindsTo s fd ⟨[u], []⟩ [("_law_script", u)] := by
  obtain ⟨oc, od, kV, dc, pm, an, cd, ct, sl, e, _, _⟩ := D.fn.ex
  rw [e]
  exact .of_eq rfl
end K03
open PySem PySem.W PyProof.Rows
set_option maxRecDepth 100000 in
set_option maxHeartbeats 0 in
theorem PySem.Challenge.cw_twicecalls_k03_whole_fractions_holds : PySem.Challenge.rw_twicecalls_k03_whole_fractions.Holds := by
  w_on; o_law; k_head; (case hw => w_witness2)
  k_fill
  refine Sim.finish (P := K03.pg) (n := 6) K03.law_ok (dl := K03.d_law) rfl rfl (l := PySem.Challenge.rw_twicecalls_k03_whole_fractions) rfl rfl ⟨rfl, by decide, by decide⟩ (fun w h Y => PySem.W.kIn_of Y) rfl ?F ?B
  case F =>
    intro w mg h KX G
    refine' K03.pg_mk KX G (K03.mk_is_number KX G ?a0 ?l0 ?c0 ?k0) (K03.mk_is_row KX G ?a1 ?l1 ?c1 ?k1) (K03.mk_is_fraction KX G ?a2 ?l2 ?c2 ?k2) (K03.mk_fraction_of KX G ?a3 ?l3 ?c3 ?k3) (K03.mk_plus KX G ?a4 ?l4 ?c4 ?k4) (K03.mk_times KX G ?a5 ?l5 ?c5 ?k5) (K03.mk_minus KX G ?a6 ?l6 ?c6 ?k6) (K03.mk_is_less KX G ?a7 ?l7 ?c7 ?k7) (K03.mk_lesser KX G ?a8 ?l8 ?c8 ?k8) (K03.mk_total_of KX G ?a9 ?l9 ?c9 ?k9) (K03.mk__law_feed KX G ?a10 ?l10 ?c10 ?k10) (K03.mk__law_draw KX G ?a11 ?l11 ?c11 ?k11) (K03.mk__law_least KX G ?a12 ?l12 ?c12 ?k12) (K03.mk__law_fraction KX G ?a13 ?l13 ?c13 ?k13) (K03.mk__law_two_right KX G ?a14 ?l14 ?c14 ?k14) (K03.mk__law_three_right KX G ?a15 ?l15 ?c15 ?k15) (K03.mk__law_near_right KX G ?a16 ?l16 ?c16 ?k16) (K03.mk_law KX G ?a17 ?l17 ?c17 ?k17) ?z0 ?z1 ?z2 ?z3 ?z4 ?z5 ?z6 ?z7 ?g0
    (case a0 => k_is); (case l0 => k_is); (case c0 => k_is); (case k0 => k_is)
    (case a1 => k_is); (case l1 => k_is); (case c1 => k_is); (case k1 => k_is)
    (case a2 => k_is); (case l2 => k_is); (case c2 => k_is); (case k2 => k_is)
    (case a3 => k_is); (case l3 => k_is); (case c3 => k_is); (case k3 => k_is)
    (case a4 => k_is); (case l4 => k_is); (case c4 => k_is); (case k4 => k_is)
    (case a5 => k_is); (case l5 => k_is); (case c5 => k_is); (case k5 => k_is)
    (case a6 => k_is); (case l6 => k_is); (case c6 => k_is); (case k6 => k_is)
    (case a7 => k_is); (case l7 => k_is); (case c7 => k_is); (case k7 => k_is)
    (case a8 => k_is); (case l8 => k_is); (case c8 => k_is); (case k8 => k_is)
    (case a9 => k_is); (case l9 => k_is); (case c9 => k_is); (case k9 => k_is)
    (case a10 => k_is); (case l10 => k_is); (case c10 => k_is); (case k10 => k_is)
    (case a11 => k_is); (case l11 => k_is); (case c11 => k_is); (case k11 => k_is)
    (case a12 => k_is); (case l12 => k_is); (case c12 => k_is); (case k12 => k_is)
    (case a13 => k_is); (case l13 => k_is); (case c13 => k_is); (case k13 => k_is)
    (case a14 => k_is); (case l14 => k_is); (case c14 => k_is); (case k14 => k_is)
    (case a15 => k_is); (case l15 => k_is); (case c15 => k_is); (case k15 => k_is)
    (case a16 => k_is); (case l16 => k_is); (case c16 => k_is); (case k16 => k_is)
    (case a17 => k_is); (case l17 => k_is); (case c17 => k_is); (case k17 => k_is)
    (case z0 => k_is)
    (case z1 => k_is)
    (case z2 => k_is)
    (case z3 => k_is)
    (case z4 => k_is)
    (case z5 => k_is)
    (case z6 => k_is)
    (case z7 => k_is)
    (case g0 => k_is)
  case B =>
    intro w mg fa fd D s u
    exact K03.law_binds D s u
#print axioms PySem.Challenge.cw_twicecalls_k03_whole_fractions_holds
