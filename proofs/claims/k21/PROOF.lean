import PyProof.Rows.All
import Wide.All
import OpenK.AllK
import Wide.FinOn
import HandS.Defaults
import HandS.ForMost
import HandS.Gcd
import HandS.Wide
import HandS.Flow
import HandS.IsInst
import HandS.Conv
import HandS.TupAny
import HandS.Steps
import HandS.RaiseMore
import HandS.ExcCtx
import HandS.ExcInit
import HandS.TryMany
import HandS.Lambda
import HandS.TupMul
import HandS.Codes
import HandS.Style
import PyProof.Rows.IntBool
import PyProof.FactsAll.bool_2
import HandS.Deep
import KE.SortKeyed
import HandS.Iter
import KE.GoesEnum
import HandS.Walk
import HandS.Zip
import HandS.GenList
import HandS.WrittenGet
import HandS.SetKeys
import HandS.Star
import HandS.DictTup
import HandS.TupLen
import HandS.DictComp
import PyProof.DictMoreH
import HandS.More
import HandS.WordsDict
import HandS.Replace
import KE.DataMinMax
import HandS.Strs
import KE.KDictPairs
import HandS.EndTab
import KE.SortKeyHeap
import HandS.ExcIs
import HandS.ExcField
import PyProof.ReprLen
import PySem.Challenge.RW_twicecalls_k21_needs
set_option Elab.async false
set_option linter.all false
set_option maxRecDepth 100000
set_option maxHeartbeats 4000000
namespace Sim
open PySem L2

/-! ### values and the store of what may change -/
inductive D where
  | non | bl (b : Bool) | int (i : Int) | str (s : Str) | tup (xs : List D) | ref (n : Nat) | ktup (xs : List D) | fn (x : Str)
/-- what stays where it is: the table of the code objects of the def x (they bear the name q) -/
inductive Stk where
  | tab (x q : Str)
inductive O where
  | stk (k : Stk) | lst (xs : List D) | frz (xs : List D) | dct (kvs : List (Key × D)) | dtp (kvs : List (List Key × D)) | frd (kvs : List (Key × D))
abbrev Sto := List O
abbrev Rho := List Addr
abbrev Frg := PySem.W.Frag

/-- a tuple of the module's own text -/
def KTp (K : Frg) (H : Hp) (a : Addr) (vs : List V) : Prop := (∃ (o : Obj) (its : Array Value) (n : Nat), K.lookup a = some o ∧ o.cls = .type "tuple" ∧ o.dict = none ∧ o.data = .seq its n ∧ its.size ≤ sizeLine ∧ Vals vs its.toList) ∨ ∃ o : Obj, H a = some (.frz o (.tup vs)) ∧ o.dict = none
theorem KTp.sq {K : Frg} {H : Hp} {a : Addr} {vs : List V} (h : KTp K H a vs) : SqT K H a vs := by
  rcases h with ⟨o, its, n, h1, h2, _, h3, h4, h5⟩ | ⟨o, h, _⟩
  · exact .inr ⟨o, its, n, h1, h2, h3, h4, h5⟩
  · exact .inl (.inr ⟨o, h⟩)
theorem KTp.frz {K : Frg} {H H' : Hp} (g : ∀ (a : Addr) (o : Obj) (u : HO), H a = some (.frz o u) → H' a = some (.frz o u)) {a : Addr} {vs : List V} (h : KTp K H a vs) : KTp K H' a vs := by
  rcases h with h | ⟨o, h1, h2⟩
  · exact .inl h
  · exact .inr ⟨o, g _ _ _ h1, h2⟩
mutual
inductive DR (K : Frg) (ρ : Rho) (H : Hp) : D → V → Prop
  | non : DR K ρ H .non .non
  | bl (b : Bool) : DR K ρ H (.bl b) (.bl b)
  | int (i : Int) : DR K ρ H (.int i) (.int i)
  | str (x : Str) : DR K ρ H (.str x) (.str x)
  | tup {a : Addr} {xs : List D} {vs : List V} : H a = some (.tup vs) → DRs K ρ H xs vs → DR K ρ H (.tup xs) (.ref a)
  | ktup {a : Addr} {xs : List D} {vs : List V} : KTp K H a vs → DRs K ρ H xs vs → DR K ρ H (.ktup xs) (.ref a)
  | fn {x : Str} {a : Addr} : PySem.W.nsIn K mainGlobals x = some (some (.ref a)) → DR K ρ H (.fn x) (.ref a)
  | ref {n : Nat} {a : Addr} : ρ[n]? = some a → DR K ρ H (.ref n) (.ref a)
inductive DRs (K : Frg) (ρ : Rho) (H : Hp) : List D → List V → Prop
  | nil : DRs K ρ H [] []
  | cons {d : D} {v : V} {ds : List D} {vs : List V} : DR K ρ H d v → DRs K ρ H ds vs → DRs K ρ H (d :: ds) (v :: vs)
end

/-- the heap grows: addresses stay, tuples stay -/
structure Gr (K : Frg) (ρ : Rho) (H : Hp) (ρ' : Rho) (H' : Hp) : Prop where
  rho : ∀ (n : Nat) (a : Addr), ρ[n]? = some a → ρ'[n]? = some a
  tup : ∀ (a : Addr) (vs : List V), H a = some (.tup vs) → H' a = some (.tup vs)
  frz : ∀ (a : Addr) (o : Obj) (u : HO), H a = some (.frz o u) → H' a = some (.frz o u)
theorem Gr.refl (K : Frg) (ρ : Rho) (H : Hp) : Gr K ρ H ρ H := ⟨fun _ _ h => h, fun _ _ h => h, fun _ _ _ h => h⟩
theorem Gr.trans {K : Frg} {ρ ρ1 ρ2 : Rho} {H H1 H2 : Hp} (a : Gr K ρ H ρ1 H1) (b : Gr K ρ1 H1 ρ2 H2) : Gr K ρ H ρ2 H2 :=
  ⟨fun n x h => b.rho n x (a.rho n x h), fun n x h => b.tup n x (a.tup n x h), fun n x u h => b.frz n x u (a.frz n x u h)⟩

mutual
theorem DR.mono {K : Frg} {ρ ρ' : Rho} {H H' : Hp} (g : Gr K ρ H ρ' H') : ∀ {d : D} {v : V}, DR K ρ H d v → DR K ρ' H' d v
  | _, _, .non => .non
  | _, _, .bl b => .bl b
  | _, _, .int i => .int i
  | _, _, .str x => .str x
  | _, _, .tup s h => .tup (g.tup _ _ s) (DRs.mono g h)
  | _, _, .ktup s h => .ktup (s.frz g.frz) (DRs.mono g h)
  | _, _, .fn h => .fn h
  | _, _, .ref h => .ref (g.rho _ _ h)
theorem DRs.mono {K : Frg} {ρ ρ' : Rho} {H H' : Hp} (g : Gr K ρ H ρ' H') : ∀ {ds : List D} {vs : List V}, DRs K ρ H ds vs → DRs K ρ' H' ds vs
  | _, _, .nil => .nil
  | _, _, .cons h t => .cons (DR.mono g h) (DRs.mono g t)
end
section
variable {K : Frg} {ρ : Rho} {H : Hp}
theorem DRs.length : ∀ {ds : List D} {vs : List V}, DRs K ρ H ds vs → ds.length = vs.length
  | _, _, .nil => rfl
  | _, _, .cons _ t => congrArg Nat.succ (DRs.length t)
theorem DRs.app : ∀ {ds es : List D} {vs ws : List V}, DRs K ρ H ds vs → DRs K ρ H es ws → DRs K ρ H (ds ++ es) (vs ++ ws)
  | _, _, _, _, .nil, s => s
  | _, _, _, _, .cons h t, s => .cons h (DRs.app t s)
theorem DRs.get : ∀ {ds : List D} {vs : List V} {i : Nat} {d : D}, DRs K ρ H ds vs → ds[i]? = some d → ∃ v, vs[i]? = some v ∧ DR K ρ H d v
  | _, _, _, _, .nil, e => by simp at e
  | _, _, 0, _, .cons h _, e => by simp at e; subst e; exact ⟨_, rfl, h⟩
  | _, _, i + 1, _, .cons _ t, e => by
    obtain ⟨v, h1, h2⟩ := DRs.get (i := i) t (by simpa using e)
    exact ⟨v, by simpa using h1, h2⟩
theorem DRs.getV : ∀ {ds : List D} {vs : List V} {i : Nat} {v : V}, DRs K ρ H ds vs → vs[i]? = some v → ∃ d, ds[i]? = some d ∧ DR K ρ H d v
  | _, _, _, _, .nil, e => by simp at e
  | _, _, 0, _, .cons h _, e => by simp at e; subst e; exact ⟨_, rfl, h⟩
  | _, _, i + 1, _, .cons _ t, e => by
    obtain ⟨v, h1, h2⟩ := DRs.getV (i := i) t (by simpa using e)
    exact ⟨v, by simpa using h1, h2⟩
theorem DRs.drop : ∀ {ds : List D} {vs : List V} (n : Nat), DRs K ρ H ds vs → DRs K ρ H (ds.drop n) (vs.drop n)
  | _, _, 0, r => r
  | _, _, _ + 1, .nil => .nil
  | _, _, n + 1, .cons _ t => DRs.drop n t
theorem DRs.take : ∀ {ds : List D} {vs : List V} (n : Nat), DRs K ρ H ds vs → DRs K ρ H (ds.take n) (vs.take n)
  | _, _, 0, _ => .nil
  | _, _, _ + 1, .nil => .nil
  | _, _, n + 1, .cons r t => .cons r (DRs.take n t)
theorem DRs.set {x : D} {u : V} (r : DR K ρ H x u) : ∀ {ds : List D} {vs : List V} (i : Nat), DRs K ρ H ds vs → DRs K ρ H (ds.set i x) (vs.set i u)
  | _, _, _, .nil => .nil
  | _, _, 0, .cons _ t => .cons r t
  | _, _, i + 1, .cons q t => .cons q (DRs.set r i t)
theorem DRs.dropLast : ∀ {ds : List D} {vs : List V}, DRs K ρ H ds vs → DRs K ρ H ds.dropLast vs.dropLast
  | _, _, .nil => .nil
  | _, _, .cons _ .nil => .nil
  | _, _, .cons a (.cons b t) => .cons a (DRs.dropLast (.cons b t))
theorem DRs.reverse : ∀ {ds : List D} {vs : List V}, DRs K ρ H ds vs → DRs K ρ H ds.reverse vs.reverse
  | _, _, .nil => .nil
  | _, _, .cons h t => by
    rw [List.reverse_cons, List.reverse_cons]
    exact DRs.app (DRs.reverse t) (.cons h .nil)
theorem DRs.eraseIdx : ∀ {ds : List D} {vs : List V} (i : Nat), DRs K ρ H ds vs → DRs K ρ H (ds.eraseIdx i) (vs.eraseIdx i)
  | _, _, _, .nil => .nil
  | _, _, 0, .cons _ t => t
  | _, _, i + 1, .cons q t => .cons q (DRs.eraseIdx i t)
theorem DRs.ints : ∀ {ns : List Int} {vs : List V}, DRs K ρ H (ns.map D.int) vs → vs = ns.map V.int
  | [], _, h => by cases h; rfl
  | n :: ns, _, h => by
    cases h with
    | cons a t => cases a; rw [DRs.ints t]; rfl
end

/-! ### the store -/
def KSq (K : Frg) (a : Addr) (xs : List V) : Prop :=
  ∃ (o : Obj) (its : Array Value) (n : Nat), K.lookup a = some o ∧ o.cls = .type "list" ∧ o.dict = none ∧ o.data = .seq its n ∧ its.size ≤ sizeLine ∧ Vals xs its.toList
abbrev KDR (K : Frg) (ρ : Rho) (H : Hp) : List (Key × D) → List (Key × V) → Prop := Paired fun p q => p.1 = q.1 ∧ DR K ρ H p.2 q.2
abbrev TDR (K : Frg) (ρ : Rho) (H : Hp) : List (List Key × D) → List (List Key × V) → Prop := Paired fun p q => p.1 = q.1 ∧ DR K ρ H p.2 q.2
/-- the table of a def's code object, as K has it -/
def TabOf (K : Frg) (x : Str) (a : Addr) : Prop := ∃ c, PySem.W.tabIn K x = some (c, a)
theorem TabOf.one {K : Frg} {x : Str} {a b : Addr} (h : TabOf K x a) (k : TabOf K x b) : a = b := by
  obtain ⟨c, h⟩ := h
  obtain ⟨e, k⟩ := k
  rw [h] at k; cases k; rfl
def StkR (K : Frg) (H : Hp) : Stk → Addr → Prop
  | .tab x q, a => TabOf K x a ∧ LamX.TabS H a q
def offStk : HO → Bool
  | .tbl _ => false
  | .ext _ => false
  | _ => true
theorem StkR.ext {K : Frg} {H H' : Hp} (e : ∀ b o, H b = some o → offStk o = false → H' b = some o) : ∀ {k : Stk} {a : Addr}, StkR K H k a → StkR K H' k a
  | .tab x q, a, h => by
    obtain ⟨ps, h1, h2, h3⟩ := h.2
    refine ⟨h.1, ps, e _ _ h1 rfl, h2, fun pos cv hc => ?_⟩
    obtain ⟨c, e1, e2⟩ := h3 pos cv hc
    exact ⟨c, e1, e _ _ e2 rfl⟩
theorem StkR.new {K : Frg} {H : Hp} {p : Addr} {u : HO} (hp : H p = none) {k : Stk} {a : Addr} (h : StkR K H k a) : StkR K (upd H p u) k a :=
  h.ext fun b o e _ => by rw [upd_ne (fun z => by subst z; rw [hp] at e; cases e)]; exact e
theorem StkR.upd {K : Frg} {H : Hp} {p : Addr} {o u : HO} (hp : H p = some u) (hu : offStk u = true) {k : Stk} {a : Addr} (h : StkR K H k a) : StkR K (L2.upd H p o) k a :=
  h.ext fun b x e ho => by rw [upd_ne (fun z => by subst z; rw [hp] at e; cases e; rw [hu] at ho; cases ho)]; exact e
def OR (K : Frg) (ρ : Rho) (H : Hp) : O → Addr → Prop
  | .stk k, a => StkR K H k a
  | .lst xs, a => ∃ vs, H a = some (.lst vs) ∧ DRs K ρ H xs vs
  | .frz xs, a => ∃ vs, ((∃ o, H a = some (.frz o (.lst vs))) ∨ KSq K a vs) ∧ DRs K ρ H xs vs
  | .dct kvs, a => ∃ vs, H a = some (.dK vs) ∧ KDR K ρ H kvs vs
  | .dtp kvs, a => ∃ vs, H a = some (.dT vs) ∧ TDR K ρ H kvs vs
  | .frd kvs, a => ∃ o vs, H a = some (.frz o (.dK vs)) ∧ KDR K ρ H kvs vs
def O.mut : O → Bool
  | .stk _ => false
  | .frz _ => false
  | .frd _ => false
  | _ => true
/-- no other one of the store stands where it does -/
def O.own : O → Bool
  | .stk _ => false
  | .frz _ => false
  | _ => true
theorem O.own_of {o : O} (h : o.mut = true) : o.own = true := by cases o <;> first | rfl | cases h
def isTab : O → Bool
  | .stk _ => true
  | _ => false
theorem O.tab_of {o : O} (h : o.mut = true) : isTab o = false := by cases o <;> first | rfl | cases h
/-- the tables stand side by side, from the second place on -/
def TabsF (st : Sto) : Prop := ∀ (n : Nat) (o : O), st[n + 2]? = some o → isTab o = true → ∃ o', st[n + 1]? = some o' ∧ isTab o' = true
theorem TabsF.app {st : Sto} (h : TabsF st) {o : O} (ho : isTab o = false) : TabsF (st ++ [o]) := fun n x hx hb => by
  by_cases c : n + 2 < st.length
  · rw [List.getElem?_append_left c] at hx
    obtain ⟨y, h1, h2⟩ := h n x hx hb
    exact ⟨y, by rw [List.getElem?_append_left (by omega)]; exact h1, h2⟩
  · rw [List.getElem?_append_right (by omega)] at hx
    cases e : n + 2 - st.length with
    | zero => rw [e] at hx; cases hx; rw [ho] at hb; cases hb
    | succ k => rw [e] at hx; cases hx
theorem TabsF.set {st : Sto} (h : TabsF st) {n : Nat} {o o' : O} (h0 : st[n]? = some o) (h1 : isTab o = false) (h2 : isTab o' = false) : TabsF (st.set n o') := fun k x hx hb => by
  have hn := (List.getElem?_eq_some_iff.mp h0).1
  by_cases c : n = k + 2
  · subst c
    rw [List.getElem?_set_self hn] at hx
    cases hx
    rw [h2] at hb; cases hb
  · rw [List.getElem?_set_ne c] at hx
    obtain ⟨y, e1, e2⟩ := h k x hx hb
    have d : n ≠ k + 1 := fun z => by subst z; rw [h0] at e1; cases e1; rw [h1] at e2; cases e2
    exact ⟨y, by rw [List.getElem?_set_ne d]; exact e1, e2⟩
structure SR (K : Frg) (ρ : Rho) (st : Sto) (H : Hp) : Prop where
  len : ρ.length = st.length
  at' : ∀ (n : Nat) (o : O) (a : Addr), st[n]? = some o → ρ[n]? = some a → OR K ρ H o a
  nd : ∀ (n m : Nat) (o o' : O) (a : Addr), st[n]? = some o → st[m]? = some o' → o.own = true → o'.own = true → ρ[n]? = some a → ρ[m]? = some a → n = m
  tf : TabsF st

theorem SR.addr {K : Frg} {ρ : Rho} {st : Sto} {H : Hp} (S : SR K ρ st H) {n : Nat} {o : O} (h : st[n]? = some o) : ∃ a, ρ[n]? = some a ∧ OR K ρ H o a := by
  have hl : n < ρ.length := by rw [S.len]; exact (List.getElem?_eq_some_iff.mp h).1
  exact ⟨ρ[n], List.getElem?_eq_getElem hl, S.at' n o _ h (List.getElem?_eq_getElem hl)⟩
theorem KDR.mono {K : Frg} {ρ ρ' : Rho} {H H' : Hp} (g : Gr K ρ H ρ' H') {l : List (Key × D)} {m : List (Key × V)} (h : KDR K ρ H l m) : KDR K ρ' H' l m :=
  Paired.mapP h fun _ _ z => ⟨z.1, z.2.mono g⟩

theorem TDR.mono {K : Frg} {ρ ρ' : Rho} {H H' : Hp} (g : Gr K ρ H ρ' H') {l : List (List Key × D)} {m : List (List Key × V)} (h : TDR K ρ H l m) : TDR K ρ' H' l m :=
  Paired.mapP h fun _ _ z => ⟨z.1, z.2.mono g⟩
theorem tup_new {H : Hp} {p : Addr} {o : HO} (hp : H p = none) {a : Addr} {vs : List V} (h : H a = some (.tup vs)) : upd H p o a = some (.tup vs) := by
  rw [upd_ne (ne_of_none h hp)]; exact h
theorem frz_new {H : Hp} {p : Addr} {o : HO} (hp : H p = none) {a : Addr} {ob : Obj} {w : HO} (h : H a = some (.frz ob w)) : upd H p o a = some (.frz ob w) := by
  rw [upd_ne (ne_of_none h hp)]; exact h
theorem Gr.new {K : Frg} {ρ : Rho} {H : Hp} {p : Addr} {o : HO} (hp : H p = none) : Gr K ρ H ρ (upd H p o) := ⟨fun _ _ h => h, fun _ _ h => tup_new hp h, fun _ _ _ h => frz_new hp h⟩
/-- what may be stored at an address of the store -/
def isMu : HO → Bool
  | .lst _ => true
  | .dK _ => true
  | .dT _ => true
  | _ => false
theorem frz_upd {H : Hp} {p : Addr} {o u : HO} (hp : H p = some u) (hu : isMu u = true) {a : Addr} {ob : Obj} {w : HO} (h : H a = some (.frz ob w)) : L2.upd H p o a = some (.frz ob w) := by
  have : a ≠ p := fun e => by subst e; rw [hp] at h; cases h; cases hu
  rw [upd_ne this]; exact h
theorem tup_upd {H : Hp} {p : Addr} {o u : HO} (hp : H p = some u) (hu : isMu u = true) {a : Addr} {vs : List V} (h : H a = some (.tup vs)) : L2.upd H p o a = some (.tup vs) := by
  have : a ≠ p := fun e => by subst e; rw [hp] at h; cases h; cases hu
  rw [upd_ne this]; exact h
theorem Gr.upd {K : Frg} {ρ : Rho} {H : Hp} {p : Addr} {o u : HO} (hp : H p = some u) (hu : isMu u = true) : Gr K ρ H ρ (L2.upd H p o) := ⟨fun _ _ h => h, fun _ _ h => tup_upd hp hu h, fun _ _ _ h => frz_upd hp hu h⟩
theorem OR.new {K : Frg} {ρ : Rho} {H : Hp} {p : Addr} {u : HO} (hp : H p = none) {o : O} {a : Addr} (h : OR K ρ H o a) : OR K ρ (upd H p u) o a := by
  have g : Gr K ρ H ρ (upd H p u) := Gr.new hp
  cases o with
  | stk k => exact StkR.new hp h
  | lst xs => obtain ⟨vs, e, r⟩ := h; exact ⟨vs, by rw [upd_ne (ne_of_none e hp)]; exact e, r.mono g⟩
  | frz xs =>
    obtain ⟨vs, e, r⟩ := h
    refine ⟨vs, ?_, r.mono g⟩
    rcases e with ⟨w, e⟩ | e
    · exact .inl ⟨w, by rw [upd_ne (ne_of_none e hp)]; exact e⟩
    · exact .inr e
  | dct kvs => obtain ⟨vs, e, r⟩ := h; exact ⟨vs, by rw [upd_ne (ne_of_none e hp)]; exact e, KDR.mono g r⟩
  | dtp kvs => obtain ⟨vs, e, r⟩ := h; exact ⟨vs, by rw [upd_ne (ne_of_none e hp)]; exact e, TDR.mono g r⟩
  | frd kvs => obtain ⟨u, vs, e, r⟩ := h; exact ⟨u, vs, by rw [upd_ne (ne_of_none e hp)]; exact e, KDR.mono g r⟩
theorem OR.rho {K : Frg} {ρ ρ' : Rho} {H : Hp} (g : Gr K ρ H ρ' H) {o : O} {a : Addr} (h : OR K ρ H o a) : OR K ρ' H o a := by
  cases o with
  | stk k => exact h
  | lst xs => obtain ⟨vs, e, r⟩ := h; exact ⟨vs, e, r.mono g⟩
  | frz xs => obtain ⟨vs, e, r⟩ := h; exact ⟨vs, e, r.mono g⟩
  | dct kvs => obtain ⟨vs, e, r⟩ := h; exact ⟨vs, e, KDR.mono g r⟩
  | dtp kvs => obtain ⟨vs, e, r⟩ := h; exact ⟨vs, e, TDR.mono g r⟩
  | frd kvs => obtain ⟨u, vs, e, r⟩ := h; exact ⟨u, vs, e, KDR.mono g r⟩
/-- a new immutable object -/
theorem SR.new {K : Frg} {ρ : Rho} {st : Sto} {H : Hp} (S : SR K ρ st H) {p : Addr} {u : HO} (hp : H p = none) : SR K ρ st (upd H p u) :=
  ⟨S.len, fun n o a h r => (S.at' n o a h r).new hp, S.nd, S.tf⟩
theorem OR.some {K : Frg} {ρ : Rho} {H : Hp} {o : O} {a : Addr} (h : OR K ρ H o a) (m : o.mut = true) : ∃ u, H a = some u ∧ isMu u = true := by
  cases o with
  | stk k => cases m
  | lst xs => obtain ⟨vs, e, r⟩ := h; exact ⟨_, e, rfl⟩
  | frz xs => cases m
  | dct kvs => obtain ⟨vs, e, r⟩ := h; exact ⟨_, e, rfl⟩
  | dtp kvs => obtain ⟨vs, e, r⟩ := h; exact ⟨_, e, rfl⟩
  | frd kvs => cases m
theorem app_get {α : Type} {l : List α} {x y : α} {n : Nat} (h : (l ++ [x])[n]? = some y) : l[n]? = some y ∨ (n = l.length ∧ x = y) := by
  by_cases q : n < l.length
  · rw [List.getElem?_append_left q] at h; exact .inl h
  · rw [List.getElem?_append_right (by omega)] at h
    by_cases z : n = l.length
    · subst z; simp at h; exact .inr ⟨rfl, h⟩
    · have : n - l.length = (n - l.length - 1) + 1 := by omega
      rw [this] at h; simp at h
theorem get_app {α : Type} {l : List α} {x y : α} {n : Nat} (h : l[n]? = some y) : (l ++ [x])[n]? = some y := by
  rw [List.getElem?_append_left (List.getElem?_eq_some_iff.mp h).1]; exact h
theorem OR.someO {K : Frg} {ρ : Rho} {H : Hp} {o : O} {a : Addr} (h : OR K ρ H o a) (m : o.own = true) : ∃ u, H a = Option.some u := by
  cases o with
  | stk k => cases m
  | lst xs => obtain ⟨vs, e, r⟩ := h; exact ⟨_, e⟩
  | frz xs => cases m
  | dct kvs => obtain ⟨vs, e, r⟩ := h; exact ⟨_, e⟩
  | dtp kvs => obtain ⟨vs, e, r⟩ := h; exact ⟨_, e⟩
  | frd kvs => obtain ⟨u, vs, e, r⟩ := h; exact ⟨_, e⟩
/-- a new object of the store -/
theorem SR.alloc {K : Frg} {ρ : Rho} {st : Sto} {H : Hp} (S : SR K ρ st H) {p : Addr} {u : HO} {o : O} (hp : H p = none) (hu : isMu u = true)
    (ho : OR K (ρ ++ [p]) (upd H p u) o p) : SR K (ρ ++ [p]) (st ++ [o]) (upd H p u) ∧ Gr K ρ H (ρ ++ [p]) (upd H p u) := by
  have g : Gr K ρ H (ρ ++ [p]) (upd H p u) := ⟨fun n a h => get_app h, fun _ _ h => tup_new hp h, fun _ _ _ h => frz_new hp h⟩
  refine ⟨⟨by rw [List.length_append, List.length_append, S.len]; rfl, fun n x a h r => ?_, fun n m x y a h1 h2 m1 m2 r1 r2 => ?_, S.tf.app ?_⟩, g⟩
  · rcases app_get h with h | ⟨rfl, rfl⟩
    · rcases app_get r with r | ⟨rfl, rfl⟩
      · exact ((S.at' n x a h r).new hp).rho ⟨fun n a h => get_app h, fun _ _ h => h, fun _ _ _ h => h⟩
      · have := (List.getElem?_eq_some_iff.mp h).1; rw [S.len] at this; omega
    · rcases app_get r with r | ⟨_, rfl⟩
      · have := (List.getElem?_eq_some_iff.mp r).1; rw [S.len] at this; omega
      · exact ho
  · rcases app_get h1 with h1 | ⟨rfl, rfl⟩ <;> rcases app_get h2 with h2 | ⟨rfl, rfl⟩
    · rcases app_get r1 with r1 | ⟨rfl, rfl⟩ <;> rcases app_get r2 with r2 | ⟨rfl, e⟩
      · exact S.nd n m x y a h1 h2 m1 m2 r1 r2
      · have := (List.getElem?_eq_some_iff.mp h2).1; rw [S.len] at this; omega
      · have := (List.getElem?_eq_some_iff.mp h1).1; rw [S.len] at this; omega
      · rfl
    · rcases app_get r1 with r1 | ⟨rfl, rfl⟩
      · obtain ⟨w, e⟩ := (S.at' n x a h1 r1).someO m1
        rcases app_get r2 with r2 | ⟨_, rfl⟩
        · have := (List.getElem?_eq_some_iff.mp r2).1; rw [S.len] at this; omega
        · rw [hp] at e; cases e
      · have := (List.getElem?_eq_some_iff.mp h1).1; rw [S.len] at this; omega
    · rcases app_get r2 with r2 | ⟨rfl, rfl⟩
      · obtain ⟨w, e⟩ := (S.at' m y a h2 r2).someO m2
        rcases app_get r1 with r1 | ⟨_, rfl⟩
        · have := (List.getElem?_eq_some_iff.mp r1).1; rw [S.len] at this; omega
        · rw [hp] at e; cases e
      · have := (List.getElem?_eq_some_iff.mp h2).1; rw [S.len] at this; omega
    · rfl
  · cases o with
    | stk k =>
      cases k with
      | tab x q =>
        obtain ⟨ps, h1, _⟩ := ho.2
        rw [upd_same] at h1
        cases h1; cases hu
    | _ => rfl
/-- an object of the store is changed -/
theorem SR.set {K : Frg} {ρ : Rho} {st : Sto} {H : Hp} (S : SR K ρ st H) {n : Nat} {a : Addr} {u : HO} {o o' : O} (ho : st[n]? = some o) (ha : ρ[n]? = some a) (hm : o.mut = true) (hm' : o'.mut = true)
    (h' : OR K ρ (upd H a u) o' a) : SR K ρ (st.set n o') (upd H a u) ∧ Gr K ρ H ρ (upd H a u) := by
  obtain ⟨w, ew, hw⟩ := (S.at' n o a ho ha).some hm
  have g : Gr K ρ H ρ (upd H a u) := Gr.upd ew hw
  have hn := (List.getElem?_eq_some_iff.mp ho).1
  refine ⟨⟨by rw [List.length_set]; exact S.len, fun m x b h r => ?_, fun m k x y b h1 h2 m1 m2 r1 r2 => ?_, S.tf.set ho (O.tab_of hm) (O.tab_of hm')⟩, g⟩
  · by_cases e : n = m
    · subst e
      rw [List.getElem?_set_self hn] at h
      cases h
      rw [ha] at r; cases r
      exact h'
    · rw [List.getElem?_set_ne e] at h
      have q := S.at' m x b h r
      cases x with
      | stk k => exact StkR.upd ew (by cases w <;> first | rfl | cases hw) q
      | lst xs =>
        obtain ⟨vs, e2, r2⟩ := q
        have : b ≠ a := fun z => e (S.nd n m o _ a ho h (O.own_of hm) rfl ha (z ▸ r))
        exact ⟨vs, by rw [upd_ne this]; exact e2, r2.mono g⟩
      | dct xs =>
        obtain ⟨vs, e2, r2⟩ := q
        have : b ≠ a := fun z => e (S.nd n m o _ a ho h (O.own_of hm) rfl ha (z ▸ r))
        exact ⟨vs, by rw [upd_ne this]; exact e2, KDR.mono g r2⟩
      | dtp xs =>
        obtain ⟨vs, e2, r2⟩ := q
        have : b ≠ a := fun z => e (S.nd n m o _ a ho h (O.own_of hm) rfl ha (z ▸ r))
        exact ⟨vs, by rw [upd_ne this]; exact e2, TDR.mono g r2⟩
      | frd xs =>
        obtain ⟨u2, vs, e2, r2⟩ := q
        refine ⟨u2, vs, ?_, KDR.mono g r2⟩
        rw [upd_ne (fun q => by subst q; rw [ew] at e2; cases e2; cases hw)]
        exact e2
      | frz xs =>
        obtain ⟨vs, e2, r2⟩ := q
        refine ⟨vs, ?_, r2.mono g⟩
        rcases e2 with ⟨z, e2⟩ | e2
        · refine .inl ⟨z, ?_⟩
          rw [upd_ne (fun q => by subst q; rw [ew] at e2; cases e2; cases hw)]
          exact e2
        · exact .inr e2
  · have back : ∀ (k : Nat) (x : O), (st.set n o')[k]? = some x → x.own = true → ∃ x', st[k]? = some x' ∧ x'.own = true := fun k x h m => by
      by_cases e : n = k
      · subst e; exact ⟨o, ho, O.own_of hm⟩
      · rw [List.getElem?_set_ne e] at h; exact ⟨x, h, m⟩
    obtain ⟨x', q1, q2⟩ := back m x h1 m1
    obtain ⟨y', q3, q4⟩ := back k y h2 m2
    exact S.nd m k x' y' b q1 q3 q2 q4 r1 r2
end Sim

namespace Sim
open PySem L2 PySem.Spec PyProof.Rows

/-! ### defs, called where no text is being made (repr asks that) -/
structure FnG (P : Program) (w : World) (K : Frg) (mg : Str → Option Value) (base : Heap) (CX : CXT) (k : Nat) (f : Addr) (fd : FuncData) (ps : List Str) (sp : Sp) : Prop where
  len : ∀ (vs : List V) (H : Hp) (Q : VK) (E : XK), sp vs H Q E → vs.length = ps.length
  run : ∀ (A : Around) (outer : List Env) (s : Shared) (H : Hp) (args : Args) (us : List Value) (vs : List V) (Q : VK) (E : XK), Room k A → A.guards = some [] →
    Env0 P w K mg base A outer s H → BindsTo s fd args (ps.zip us) → Vals vs us → sp vs H Q E → codeAny (model P w) A (.call (.ref f) args) (CR CX outer P w H s Q E) s

section
variable {CX : CXT} {P : Program} {w : World} {K : Frg} {mg : Str → Option Value} {base : Heap}
/-- a def as it stands behind the top, its defaults at dV -/
structure FunE (K : Frg) (x qual : Str) (st : Stmt) (dV : Value) (f : Addr) (fd : FuncData) : Prop where
  ex : ∃ (oc : Value) (od : Option Addr) (kV doc pm : Value) (an : Option Addr) (cdv ct : Value) (osl : Array (Option Value)),
    fd = PySem.W.fnOf x qual (defArgs st) (defBody st) (defScope st) dV kV doc pm an cdv ct ∧ K.lookup f = some ⟨oc, od, .func fd, osl⟩ ∧ PySem.W.codeIn K cdv qual = true
  kp : PySem.W.keepIn K (.ref f) = true
theorem funE_mk {x qual : Str} {st : Stmt} {f : Addr} {oc dV : Value} {od an : Option Addr} {osl : Array (Option Value)} {kV doc pm cdv ct : Value} (l : K.lookup f = some ⟨oc, od, .func (PySem.W.fnOf x qual (defArgs st) (defBody st) (defScope st) dV kV doc pm an cdv ct), osl⟩)
    (c : PySem.W.codeIn K cdv qual = true) (k : PySem.W.keepIn K (.ref f) = true) : FunE K x qual st dV f (PySem.W.fnOf x qual (defArgs st) (defBody st) (defScope st) dV kV doc pm an cdv ct) :=
  ⟨⟨oc, od, kV, doc, pm, an, cdv, ct, osl, rfl, l, c⟩, k⟩
/-- no defaults: all is written -/
theorem FunE.binds {x qual : Str} {st : Stmt} {f : Addr} {fd : FuncData} {ps : List Str} (F : FunE K x qual st .none f fd)
    (h : ∀ (kV doc pm : Value) (an : Option Addr) (cdv ct : Value) (us : List Value), us.length = ps.length → bindArgs (PySem.W.fnOf x qual (defArgs st) (defBody st) (defScope st) .none kV doc pm an cdv ct) ⟨us, []⟩ = pure (ps.zip us)) : Binds K fd ps [] := by
  obtain ⟨oc, od, kV, doc, pm, an, cdv, ct, osl, rfl, lk, hcd⟩ := F.ex
  exact .all (h kV doc pm an cdv ct)
/-- defaults: those behind the first j fill up -/
theorem FunE.bindsD {x qual : Str} {st : Stmt} {T f : Addr} {o : Obj} {its : List Value} {m : Nat} {dvs : List V} {fd : FuncData} {ps : List Str} (F : FunE K x qual st (.ref T) f fd) (lT : K.lookup T = some o) (oT : o.data = .seq its.toArray m) (rT : Vals dvs its)
    (n j : Nat) (hn : n + (dvs.length - j) = ps.length)
    (h : ∀ (kV doc pm : Value) (an : Option Addr) (cdv ct : Value) (us zs : List Value), us.length = n → zs.length = dvs.length →
      ∃ k, bindArgs (PySem.W.fnOf x qual (defArgs st) (defBody st) (defScope st) (.ref T) kV doc pm an cdv ct) ⟨us, []⟩ = seqItems? (.ref T) >>= k ∧ k (some zs.toArray) = pure (ps.zip (us ++ zs.drop j))) : ∃ ds, Vals (dvs.drop j) ds ∧ Binds K fd ps ds := by
  obtain ⟨oc, od, kV, doc, pm, an, cdv, ct, osl, rfl, lk, hcd⟩ := F.ex
  refine ⟨its.drop j, rT.drop j, fun s us X hlen => ?_⟩
  have l1 : its.length = dvs.length := rT.length.symm
  have l2 : us.length = n := by
    rw [List.length_append, List.length_drop, l1] at hlen
    omega
  obtain ⟨k, e1, e2⟩ := h kV doc pm an cdv ct us its l2 l1
  refine BindsTo.of_looks fun M => ?_
  rw [e1]
  exact looks_items X lT oT (.of_pure e2)
theorem FunE.okG {x qual : Str} {st : Stmt} {dV : Value} {f : Addr} {fd : FuncData} {N ps : List Str} {k : Nat} {sp : Sp} (F : FunE K x qual st dV f fd) (S : FnScope N ps (defScope st))
    (len : ∀ (vs : List V) (H : Hp) (Q : VK) (E : XK), sp vs H Q E → vs.length = ps.length)
    (hbody : ∀ (cdv : Value) (A : Around) (outer : List Env) (s : Shared) (H : Hp) (vs : List V) (Q : VK) (E : XK), (∃ (o : Obj) (fdd : FuncData), K.lookup f = some o ∧ o.data = .func fdd ∧ fdd.code = cdv) → A.guards = some [] → Room k (A.deeper (envOfC qual (defScope st) s.heap.objs.size f cdv)) → sp vs H Q E →
      ∃ t, PSs (cxOf CX P w K mg base N qual (defScope st) f cdv A outer s H E) (defBody st) t ∧ t { nx := fun _ H' => Q .non H', rt := Q } (start N vs) H) :
    FnG P w K mg base CX (k + 1) f fd ps sp := by
  obtain ⟨oc, od, kV, doc, pm, an, cdv, ct, osl, rfl, look, code⟩ := F.ex
  constructor
  · exact len
  intro A outer s H args us vs Q E room gu e0 bind rel hsp
  have ll := len vs H Q E hsp
  have keptK : ∀ b o, base.get? b = some o → s.heap.get? b = some o := fun b o e => (e0.bs b o e).1
  have KX := e0.mod.kin.keeps keptK
  have lim := e0.mod.nolimit.keeps keptK
  have kinds : ∀ y ∈ ps.zip us, (defScope st).names.lookup y.1 = some .local ∨
      ((defScope st).names.lookup y.1 = some .cell ∧ ((cellsFrom (s.heap.objs.size + 1) (defScope st).names []).lookup y.1).isSome = true) := by
    rintro ⟨n, v⟩ hy
    cases S.par n (List.of_mem_zip hy).1 with
    | inl q => exact Or.inl q
    | inr q => exact Or.inr ⟨q, PySem.W.cellsFrom_some _ _ _ (Or.inl q)⟩
  apply codeAny_call_function room.depth (KX _ _ look) rfl S.co S.gen rfl (PySem.W.codeRec_of KX code)
  apply bind
  apply wpAny_newFunctionEnv_cells S.kind kinds
  rintro env rfl s1 x
  constructor
  · exact lim.keeps x.toInCall.keep
  apply codeAny_func
  obtain ⟨t, ht, hq⟩ := hbody cdv A outer s H vs Q E ⟨_, _, look, rfl, rfl⟩ gu (room.deeper _) hsp
  have I := inv_start (CX := CX) (E := E) S room.hd e0 ll rel x
  apply wpAny_mono (ht.run [] s1 (start N vs) H _ I hq)
  · intro fl s' hs
    cases fl with
    | ret u =>
      obtain ⟨v, σ', H', J, rv, q⟩ := hs
      exact ⟨v, H', J.os, J.bare, J.base, J.hok, rv, q⟩
    | next =>
      obtain ⟨σ', H', J, q⟩ := hs
      exact ⟨V.non, H', J.os, J.bare, J.base, J.hok, rfl, q⟩
    | brk => exact hs.elim fun _ z => z.elim fun _ z => z.2.elim
    | cont => exact hs.elim fun _ z => z.elim fun _ z => z.2.elim
  · intro e s' hs
    exact hs
end

section
variable {X : Cx} {CX : CXT} {k : Nat} {f : Addr} {fd : FuncData} {ps : List Str} {sp : Sp} {dvs : List V} {ds : List Value} {E : XK}
theorem runG {pins : List (Addr × Obj)} {σ : L2.St} {H : Hp} {s : Shared} {Q : VK} {us : List Value} {vs : List V} (F : FnG X.prog X.w X.K X.mg X.base CX k f fd ps sp) (room : Room k X.A) (gu : X.A.guards = some [])
    (bind : Binds X.K fd ps ds) (hd : Vals dvs ds) (pass : Passes CX X E) (I : Inv X pins σ H s) (rel : Vals vs us) (h : sp (vs ++ dvs) H Q E) : wpAny (model X.prog X.w) X.A (call (.ref f) us) (EP X pins σ Q) X.xe s := by
  have both := rel.append hd
  have le : (us ++ ds).length = ps.length := both.length.symm.trans (F.len _ _ _ _ h)
  apply wpAny_call
  apply codeAny_mono (F.run X.A X.stack s H ⟨us, []⟩ (us ++ ds) (vs ++ dvs) Q E room gu I.env0 (bind s us I.kIn le) both h)
  rintro (e | fl) s' hq
  · exact pass pins σ H s e s' I hq
  · cases fl with
    | ret u => exact I.after hq
    | next => cases hq
    | brk => cases hq
    | cont => cases hq
theorem pe_callG {x : Str} {p pos : Pos} {e : Expr} {es : List Expr} {t : TA} (F : FnG X.prog X.w X.K X.mg X.base CX k f fd ps sp) (room : Room k X.A) (gu : X.A.guards = some []) (glob : Gl X x) (at' : X.mg x = some (.ref f)) (keep : PySem.W.keepIn X.K (.ref f) = true)
    (bind : Binds X.K fd ps ds) (hd : Vals dvs ds) (pass : Passes CX X E) (ha : PA X (e :: es) t) (nodeb : (x == ("__debug__" : Str)) = false) (st : starEach (e :: es) X.env = (false, eval e X.env) :: starEach es X.env)
    (pl : (backTo pos (starEach es X.env)).any (·.1) = false) : PE X (.Call (.Name x p) (e :: es) [] pos) (tCall sp dvs E t) := by
  constructor
  intro pins s σ H Q I h
  apply wpAny_Call_Name_kw (ld_glob I glob at' ?_ nodeb)
  apply PySem.W.callWith_K (h₀ := X.base) I.ok.mod.kin keep ?_ st pl
  apply thn (ha.run pos pins s σ H _ I h)
  rintro us s1 ⟨vs, H1, I1, r, q⟩
  exact ⟨I1.kIn, runG F room gu bind hd pass I1 r q⟩
theorem pe_callG0 {x : Str} {p pos : Pos} (F : FnG X.prog X.w X.K X.mg X.base CX k f fd ps sp) (room : Room k X.A) (gu : X.A.guards = some []) (glob : Gl X x) (at' : X.mg x = some (.ref f)) (keep : PySem.W.keepIn X.K (.ref f) = true)
    (bind : Binds X.K fd ps ds) (hd : Vals dvs ds) (pass : Passes CX X E) (nodeb : (x == ("__debug__" : Str)) = false) : PE X (.Call (.Name x p) [] [] pos) (tCall sp dvs E tNil) := by
  constructor
  intro pins s σ H Q I h
  apply wpAny_Call_Name_kw (ld_glob I glob at' ?_ nodeb)
  apply PySem.W.callWith_K0 I.kIn keep
  exact runG (us := []) F room gu bind hd pass I .nil h
end

/-! ### the law's end -/
theorem lawG {P : Program} {w : World} {K : Frg} {mg mb : Str → Option Value} {s₁ : Shared} {fa a : Addr} {fd : FuncData} {x : Str} {vs : List Value} {ns : List Int} {k : Nat} {CX : CXT} {sp : Sp} (KX : K.In s₁.heap)
    (hns : s₁.heap.Ns mainGlobals mg) (hb : s₁.heap.Ns builtinsNs mb) (hbb : ∀ x : Str, x ≠ "__name__" → mb x = bootBuiltins x) (lim : s₁.heap.NoLimit) (hg : s₁.gens = #[])
    (ha : s₁.heap.get? a = some { cls := .type "list", data := .seq vs.toArray }) (hi : IntsAre vs ns) (hl : ns.length ≤ sizeLine) (room : Room k callerA)
    (F : ∀ b : Heap, K.In b → b.Ns mainGlobals mg → FnG P w K mg b CX k fa fd [x] sp) (bind : ∀ (s : Shared) (u : Value), BindsTo s fd ⟨[u], []⟩ [(x, u)])
    (hsp : ∀ H : Hp, Only H → SqL K H a (ns.map V.int) → sp [.ref a] H (fun v _ => v = .bl true) fun _ _ _ => False) (hCX : ∀ (H : Hp) (e : Value) (s' : Shared), CX [] H s₁ (fun _ _ _ => False) e s' → False) :
    codeAny (model P w) callerA (.call (.ref fa) ⟨[.ref a], []⟩) (fun r s' => r = .ok (.ret (.bool true)) ∧ OldK s₁.heap s'.heap ∧ s'.os = s₁.os ∧ AllBare s'.gens) s₁ := by
  have rv : Vals (ns.map V.int) vs := vals_of_ints hi
  have lv : vs.length = ns.length := by rw [← rv.length, List.length_map]
  -- whatever heap of known things: the script alone, frozen, or nothing
  suffices core : ∀ H : Hp, Only H → SqL K H a (ns.map V.int) → HOk P w H s₁.heap → (∀ b, H b ≠ none → b = a) → ((∃ b, H b ≠ none) → K.lookup a = none) →
      codeAny (model P w) callerA (.call (.ref fa) ⟨[.ref a], []⟩) (fun r s' => r = .ok (.ret (.bool true)) ∧ OldK s₁.heap s'.heap ∧ s'.os = s₁.os ∧ AllBare s'.gens) s₁ by
    cases q : K.lookup a with
    | some o =>
      have e := (KX a o q).symm.trans ha
      cases e
      exact core (fun _ => none) (fun _ => Or.inl rfl) (Or.inr ⟨_, vs.toArray, _, q, rfl, rfl, rfl, by rw [List.size_toArray, lv]; exact hl, by rw [List.toList_toArray]; exact rv⟩) (fun b u z => by cases z) (fun b z => (z rfl).elim)
        (fun z => z.elim fun _ z => (z rfl).elim)
    | none =>
      let H : Hp := L2.upd (fun _ => none) a (.frz { cls := .type "list", data := .seq vs.toArray } (.lst (ns.map V.int)))
      have H1 : H a = some (.frz { cls := .type "list", data := .seq vs.toArray } (.lst (ns.map V.int))) := upd_same
      have H2 : ∀ b, b ≠ a → H b = none := fun b hb => upd_ne hb
      refine core H (fun b => ?_) (Or.inl (Or.inr ⟨_, H1⟩)) (fun b u z => ?_) (fun b z => Classical.byContradiction fun hb => z (H2 b hb)) fun _ => q
      · by_cases hb : b = a
        · rw [hb]; exact Or.inr ⟨_, _, H1⟩
        · exact Or.inl (H2 b hb)
      · by_cases hb : b = a
        · subst hb
          rw [H1] at z
          cases z
          exact ⟨ha, by rw [List.length_map]; exact hl, vs, _, rv, ha⟩
        · rw [H2 b hb] at z
          cases z
  intro H hO hS hok hA hK
  have thin : ∀ (b : Addr) (o : Obj), s₁.heap.get? b = some o → H b = none → (hidT s₁.heap H).get? b = some o := fun b o e n => hidT_get e n
  have dictFree : ∀ (b : Addr) (o : Obj) (es : Array DictEntry) (ep : Nat), s₁.heap.get? b = some o → o.data = .dict es ep → H b = none := by
    intro b o es ep e d
    refine Classical.byContradiction fun q => ?_
    rw [hA b q, ha] at e
    cases e
    cases d
  have names : ∀ (b : Addr) (m : Str → Option Value), s₁.heap.Ns b m → (hidT s₁.heap H).Ns b m := by
    rintro b m ⟨o, es, ep, e, d, r⟩
    exact ⟨o, es, ep, thin b o e (dictFree b o es ep e d), d, r⟩
  have KB : K.In (hidT s₁.heap H) := by
    intro b o e
    refine thin b o (KX b o e) (Classical.byContradiction fun q => ?_)
    rw [hA b q, hK ⟨b, q⟩] at e
    cases e
  have M : Mod K mg (hidT s₁.heap H) := by
    refine ⟨KB, names _ _ hns, ⟨mb, names _ _ hb, hbb⟩, ?_⟩
    obtain ⟨mc, z1, z2⟩ := lim
    exact ⟨mc, names _ _ z1, z2⟩
  have e0 : Env0 P w K mg (hidT s₁.heap H) callerA [] s₁ H :=
    { frames := rfl, mod := M, bs := fun b o e => of_hidT e, bsz := Nat.le_of_eq (hidT_size _ _), funs := trivial, frf := (fun b z => absurd (show b ∈ ([] : List Addr) from z) (by simp)), hok := hok, bare := AllBare.of_eq hg }
  apply codeAny_mono ((F _ KB (names _ _ hns)).run callerA [] s₁ H ⟨[.ref a], []⟩ [.ref a] [.ref a] _ _ room rfl e0 (bind s₁ (.ref a)) (.cons rfl .nil) (hsp H hO hS))
  rintro (e | fl) s' h
  · exact (hCX H e s' h).elim
  cases fl with
  | next => cases h
  | brk => cases h
  | cont => cases h
  | ret u =>
    obtain ⟨v, H', os, bare, un, hok', r', q⟩ := h
    cases (show v = .bl true from q)
    cases (show u = Value.bool true from r')
    refine ⟨rfl, OldK.of_keep fun b o e => ?_, os, bare⟩
    cases hO b with
    | inl q => exact un.keep b o e q (fun z => by cases z) (fun z => by cases z)
    | inr q =>
      obtain ⟨ob, xs, z⟩ := q
      have f1 := (hok b _ z).1
      have f2 := (hok' b _ (un.frzs b ob _ z)).1
      rw [e] at f1
      cases f1
      exact f2

theorem walkG {l : PySem.W.OpenLaw} {n k : Nat} {q : Program} {loose : List Str} {XP : (Str → Option Value) → Heap → Prop} {YP : World → Heap → Prop} {d : DefRec} {K : Params → Frg} {CX : World → CXT} {sp : World → Sp} {x : Str}
    (hn : l.most = some n) (hn2 : n ≤ sizeLine) (hdf : d.params.defaults = []) (room : Room k callerA) (hY : ∀ (w : World) (h : Heap), YP w h → (K w.params).In h)
    (F : ∀ (w : World) (mg : Str → Option Value) (fa : Addr) (h : Heap), (K w.params).In h → h.Ns mainGlobals mg → mg d.name = some (.ref fa) →
      ∃ fd : FuncData, (∀ (s : Shared) (u : Value), BindsTo s fd ⟨[u], []⟩ [(x, u)]) ∧ ∀ b : Heap, (K w.params).In b → b.Ns mainGlobals mg → FnG l.prog w (K w.params) mg b (CX w) k fa fd [x] (sp w))
    (hsp : ∀ (w : World) (H : Hp) (a : Addr) (ns : List Int), ns.length ≤ n → Only H → SqL (K w.params) H a (ns.map V.int) → sp w [.ref a] H (fun v _ => v = .bl true) fun _ _ _ => False)
    (hCX : ∀ (w : World) (H : Hp) (s : Shared) (e : Value) (s' : Shared), CX w [] H s (fun _ _ _ => False) e s' → False) : PySem.W.WalkO q loose XP YP l.row.toRowW d [] (fun f vs => PySem.call f vs) := by
  apply Att.attach_call hn hdf
  intro w s₀ s₁ mg mb fa o pm cd doc a vs ns G Y ho hd hcd hmg hobj hints hlen hg
  obtain ⟨fd, bind, FF⟩ := F w mg fa _ (hY w _ Y) G.T.g hmg
  exact lawG (hY w _ Y) G.T.g G.T.b G.T.builtins G.T.nolimit hg hobj hints (Nat.le_trans hlen hn2) room FF bind (fun H => hsp w H a ns hlen) fun H => hCX w H s₁
end Sim

namespace Sim
open PySem L2

abbrev LocD := List (Option D)
abbrev R := Option (D × Sto)
abbrev SemE := LocD → Sto → R
abbrev SemA := LocD → Sto → Option (List D × Sto)
abbrev SemT := LocD → Sto → Option (Bool × Sto)
abbrev CallF := Str → List D → Sto → R
def most : Nat := 100000
theorem most_line {n : Nat} (h : n ≤ most) : n ≤ sizeLine := Nat.le_trans h (by decide)
theorem most_lt {n : Nat} (h : n < most) : n < sizeLine := Nat.lt_of_lt_of_le h (by decide)

/-! ### what the operations do -/
def mapO {α β : Type} (f : α → Option β) : List α → Option (List β)
  | [] => some []
  | x :: xs => (f x).bind fun y => (mapO f xs).map fun ys => y :: ys
/-- a value as data -/
def toP (st : Sto) : Nat → D → Option PyData
  | 0, _ => none
  | _ + 1, .non => some .none
  | _ + 1, .bl b => some (.bool b)
  | _ + 1, .int i => some (.int i)
  | _ + 1, .str s => some (.str s)
  | n + 1, .tup xs => (mapO (fun x => toP st n x) xs).map .tuple
  | n + 1, .ktup xs => (mapO (fun x => toP st n x) xs).map .tuple
  | _ + 1, .fn _ => none
  | n + 1, .ref k => match st[k]? with
    | some (.lst xs) => (mapO (fun x => toP st n x) xs).map .list
    | some (.frz xs) => (mapO (fun x => toP st n x) xs).map .list
    | _ => none
def eqSS : D → D → Option Bool
  | .str a, .str b => some (a == b)
  | _, _ => none
def eqP (x y : D) (st : Sto) : Option Bool :=
  (toP st 40 x).bind fun d => (toP st 40 y).bind fun e => if SeqAt.shaped d && SeqAt.shaped e then some (PyData.eqv d e) else none
def eqD (x y : D) (st : Sto) : Option Bool :=
  match eqSS x y with
  | some b => some b
  | none => eqP x y st
/-- a list's items, a tuple's -/
def items (x : D) (st : Sto) : Option (List D) :=
  match x with
  | .tup xs => some xs
  | .ktup xs => some xs
  | .ref n => match st[n]? with
    | some (.lst xs) => some xs
    | some (.frz xs) => some xs
    | _ => none
  | _ => none
def truth (x : D) (st : Sto) : Option Bool :=
  match x with
  | .non => some false
  | .bl b => some b
  | .int i => some (i != 0)
  | .str s => if s.length ≤ most then some ((s.length : Int) != 0) else none
  | .tup xs => some (!xs.isEmpty)
  | .ktup xs => some (!xs.isEmpty)
  | .fn _ => none
  | .ref n => match st[n]? with
    | some (.lst xs) => some (!xs.isEmpty)
    | some (.frz xs) => some (!xs.isEmpty)
    | some (.dct kvs) => some (!kvs.isEmpty)
    | some (.dtp _) => none
    | some (.frd _) => none
    | some (.stk _) => none
    | none => none
def alloc (o : O) (st : Sto) : R := some (.ref st.length, st ++ [o])

def opAdd (x y : D) (st : Sto) : R :=
  match x, y with
  | .int i, .int j => some (.int (i + j), st)
  | .bl a, .int j => some (.int ((if a = true then (1 : Int) else 0) + j), st)
  | .tup xs, .tup ys => if xs.length + ys.length ≤ most then some (.tup (xs ++ ys), st) else none
  | .ktup xs, .tup ys => if (xs.isEmpty || !ys.isEmpty) = true ∧ xs.length + ys.length ≤ most then some (.tup (xs ++ ys), st) else none
  | .str a, .str b => if a.length + b.length ≤ most then some (.str (a ++ b), st) else none
  | .ref n, .ref m => match st[n]?, st[m]? with
    | some (.lst xs), some (.lst ys) => if xs.length + ys.length ≤ most then alloc (.lst (xs ++ ys)) st else none
    | _, _ => none
  | _, _ => none
def opI (g : Int → Int → Option Int) (x y : D) (st : Sto) : R :=
  match x, y with
  | .int i, .int j => (g i j).map fun k => (.int k, st)
  | _, _ => none
def gMul (i j : Int) : Option Int := if i.natAbs.log2 + j.natAbs.log2 < 1000000 then some (i * j) else none
def gMod (i j : Int) : Option Int := if 0 < j then some (i % j) else none
def gDiv (i j : Int) : Option Int := if 0 < j ∧ j.natAbs.log2 < 9000 then some (i / j) else none
def gPow (i j : Int) : Option Int := if 0 ≤ j ∧ j ≤ 1000000 ∧ i.natAbs < 2 ^ 64 then some (i ^ j.toNat) else none
def opSub (x y : D) (st : Sto) : R :=
  match x, y with
  | .int i, .int j => some (.int (i - j), st)
  | .bl a, .int j => some (.int ((if a = true then (1 : Int) else 0) - j), st)
  | _, _ => none
/-- a tuple so many times -/
def repT (xs : List D) (k : Int) (st : Sto) : R :=
  if xs ≠ [] ∧ -1000 ≤ k ∧ k ≤ 1000 ∧ xs.length ≤ 1000 then some (.tup (List.replicate k.toNat xs).flatten, st) else none
/-- a text so many times -/
def repS (a : Str) (k : Int) : Str := if k < 1 then Str.empty else if (k == 1 || a.length == 0) = true then a else ⟨(List.replicate k.toNat a.cps).foldl (· ++ ·) #[]⟩
def opMul (x y : D) (st : Sto) : R :=
  match x, y with
  | .int i, .int j => (gMul i j).map fun k => (.int k, st)
  | .tup xs, .int k => repT xs k st
  | .str a, .int k => if -1000 ≤ k ∧ k ≤ 1000 ∧ a.length ≤ 1000 then some (.str (repS a k), st) else none
  | .ref n, .int k => match st[n]? with
    | some (.lst xs) => if -1000 ≤ k ∧ k ≤ 1000 ∧ xs.length ≤ 1000 then alloc (.lst (List.replicate k.toNat xs).flatten) st else none
    | _ => none
  | _, _ => none
def binop (op : Operator) (x y : D) (st : Sto) : R :=
  match op with
  | .Add => opAdd x y st
  | .Sub => opSub x y st
  | .Mult => opMul x y st
  | .Mod => opI gMod x y st
  | .FloorDiv => opI gDiv x y st
  | .Pow => opI gPow x y st
  | _ => none
def cmpI (p : Int → Int → Bool) (x y : D) : Option Bool :=
  match x, y with
  | .int i, .int j => some (p i j)
  | _, _ => none
def isD (x y : D) : Option Bool :=
  match y with
  | .non => some (match x with | .non => true | _ => false)
  | .bl b => match x with
    | .bl a => some (decide (a = b))
    | _ => none
  | _ => none
def flatD : D → Bool
  | .non | .bl _ | .int _ | .str _ => true
  | _ => false
def eqF : D → D → Bool
  | .non, .non => true
  | .bl a, .bl b => a == b
  | .bl a, .int b => (if a then 1 else 0) == b
  | .int a, .bl b => a == (if b then 1 else 0)
  | .int a, .int b => a == b
  | .str a, .str b => a == b
  | _, _ => false
/-- a key of a dict -/
def keyD : D → Option Key
  | .int i => some (.inl i)
  | .str s => some (.inr s)
  | _ => none
/-- a tuple as a key -/
def keyT : D → Option (List Key)
  | .tup xs => mapO keyD xs
  | _ => none
def getK {κ : Type} [DecidableEq κ] (kvs : List (κ × D)) (k : κ) : Option D := (kvs.find? fun kv => decide (kv.1 = k)).map (·.2)
/-- what a dict has at a key -/
def dlook (x y : D) (st : Sto) : Option (Option D) :=
  match x with
  | .ref n => match st[n]? with
    | some (.dct kvs) => (keyD y).map fun k => getK kvs k
    | some (.frd kvs) => (keyD y).map fun k => getK kvs k
    | some (.dtp kvs) => (keyT y).map fun k => getK kvs k
    | _ => none
  | _ => none
/-- among data of any depth -/
def inDeep (x y : D) (st : Sto) : Option Bool :=
  (toP st 40 x).bind fun d => (toP st 40 y).bind fun e => match e with
    | .list ds => if SeqAt.shaped d && SeqAt.shaped (.list ds) then some (ds.any fun z => PyData.eqv z d) else none
    | .tuple ds => if SeqAt.shaped d && SeqAt.shaped (.list ds) then some (ds.any fun z => PyData.eqv z d) else none
    | _ => none
def inS (x y : D) (st : Sto) : Option Bool :=
  match y with
  | .str z => match x with
    | .str s => match s.cps.toList with
      | [c] => some (decide (c ∈ z.cps.toList))
      | _ => none
    | _ => none
  | _ => (items y st).bind fun xs => if flatD x && xs.all flatD then some (xs.any fun z => eqF z x) else inDeep x y st
def dinD (x y : D) (st : Sto) : Option Bool := (dlook y x st).map fun o => o.isSome
def inD (x y : D) (st : Sto) : Option Bool :=
  match inS x y st with
  | some b => some b
  | none => dinD x y st
theorem in_of {x y : D} {b : Bool} {st : Sto} (h : inS x y st = some b) : inD x y st = some b := by
  unfold inD; rw [h]
def cmpop (op : CmpOp) (x y : D) (st : Sto) : Option Bool :=
  match op with
  | .Eq => eqD x y st
  | .NotEq => (eqD x y st).map (!·)
  | .Lt => cmpI (fun i j => decide (i < j)) x y
  | .LtE => cmpI (fun i j => decide (i ≤ j)) x y
  | .Gt => cmpI (fun i j => decide (j < i)) x y
  | .GtE => cmpI (fun i j => decide (j ≤ i)) x y
  | .Is => isD x y
  | .IsNot => (isD x y).map (!·)
  | .In => inD x y st
  | .NotIn => (inD x y st).map (!·)
def ixS (x y : D) (st : Sto) : Option D :=
  match x, y with
  | .str z, .int i => if z.length ≤ most then (atI z.cps.toList i).map fun c => .str ⟨#[c]⟩ else none
  | _, .int i => (items x st).bind fun xs => atI xs i
  | _, _ => none
/-- the same by a key that is a known tuple -/
def dgetK (x : D) (ys : List D) (st : Sto) : Option D := match x with
  | .ref n => match st[n]? with
    | some (.dtp kvs) => (mapO keyD ys).bind fun k => getK kvs k
    | _ => none
  | _ => none
def dgetD (x y : D) (st : Sto) : Option D := match y with
  | .ktup ys => dgetK x ys st
  | y => (dlook x y st).bind fun o => o
def ix (x y : D) (st : Sto) : Option D :=
  match ixS x y st with
  | some d => some d
  | none => dgetD x y st
theorem ix_of {x y d : D} {st : Sto} (h : ixS x y st = some d) : ix x y st = some d := by
  unfold ix; rw [h]
def cutD (xs : List D) (lo hi : Option Int) : List D := (xs.drop (HT.sIx xs.length 0 lo)).take (HT.sIx xs.length xs.length hi - HT.sIx xs.length 0 lo)
def slD (x : D) (lo hi : Option Int) (st : Sto) : R :=
  match x with
  | .str z => if z.length ≤ most then some (.str (Txt.slice z lo hi), st) else none
  | .tup xs => some (.tup (cutD xs lo hi), st)
  | .ktup [] => some (.ktup [], st)
  | .ref n => match st[n]? with
    | some (.lst xs) => alloc (.lst (cutD xs lo hi)) st
    | some (.frz xs) => alloc (.lst (cutD xs lo hi)) st
    | _ => none
  | _ => none

/-- x[::-1] -/
def revD (x : D) (st : Sto) : R :=
  match x with
  | .tup xs => some (.tup xs.reverse, st)
  | .ref n => match st[n]? with
    | some (.lst xs) => alloc (.lst xs.reverse) st
    | some (.frz xs) => alloc (.lst xs.reverse) st
    | _ => none
  | _ => none
/-! ### the combinators -/
def fC (d : D) : SemE := fun _ st => some (d, st)
def fVar (i : Nat) : SemE := fun η st => match η[i]? with
  | some (some d) => some (d, st)
  | _ => none
def fBin (op : Operator) (fa fb : SemE) : SemE := fun η st => (fa η st).bind fun p => (fb η p.2).bind fun q => binop op p.1 q.1 q.2
def fCmp (op : CmpOp) (fa fb : SemE) : SemE := fun η st => (fa η st).bind fun p => (fb η p.2).bind fun q => (cmpop op p.1 q.1 q.2).map fun b => (.bl b, q.2)
def fIx (fa fb : SemE) : SemE := fun η st => (fa η st).bind fun p => (fb η p.2).bind fun q => (ix p.1 q.1 q.2).map fun d => (d, q.2)
def fNil : SemA := fun _ st => some ([], st)
def fCons (fa : SemE) (fr : SemA) : SemA := fun η st => (fa η st).bind fun p => (fr η p.2).map fun q => (p.1 :: q.1, q.2)
def fTup (fs : SemA) : SemE := fun η st => (fs η st).bind fun p => if p.1.length ≤ most then some (.tup p.1, p.2) else none
def fLst (fs : SemA) : SemE := fun η st => (fs η st).bind fun p => if p.1.length ≤ most then alloc (.lst p.1) p.2 else none
def fCall (cf : CallF) (x : Str) (fs : SemA) : SemE := fun η st => (fs η st).bind fun p => cf x p.1 p.2
def fBlt (g : List D → Sto → R) (fs : SemA) : SemE := fun η st => (fs η st).bind fun p => g p.1 p.2
def fNeg (fa : SemE) : SemE := fun η st => (fa η st).bind fun p => match p.1 with
  | .int i => some (.int (-i), p.2)
  | .bl b => some (.int (-(if b = true then (1 : Int) else 0)), p.2)
  | _ => none
def fRev (fa : SemE) : SemE := fun η st => (fa η st).bind fun p => revD p.1 p.2
/-- nothing is said of it: where it is reached, nothing is told -/
def fStuck : SemE := fun _ _ => none
def fIf (ft : SemT) (fa fb : SemE) : SemE := fun η st => (ft η st).bind fun p => if p.1 = true then fa η p.2 else fb η p.2
def fNotV (fa : SemE) : SemE := fun η st => (fa η st).bind fun p => (truth p.1 p.2).map fun b => (.bl (!b), p.2)
def fAndV (fa fb : SemE) : SemE := fun η st => (fa η st).bind fun p => (truth p.1 p.2).bind fun b => if b = true then fb η p.2 else some p
def fOrV (fa fb : SemE) : SemE := fun η st => (fa η st).bind fun p => (truth p.1 p.2).bind fun b => if b = true then some p else fb η p.2
def gTru (fa : SemE) : SemT := fun η st => (fa η st).bind fun p => (truth p.1 p.2).map fun b => (b, p.2)
def gNot (ft : SemT) : SemT := fun η st => (ft η st).map fun p => (!p.1, p.2)
def gAnd (ft fu : SemT) : SemT := fun η st => (ft η st).bind fun p => if p.1 = true then fu η p.2 else some (false, p.2)
def gOr (ft fu : SemT) : SemT := fun η st => (ft η st).bind fun p => if p.1 = true then some (true, p.2) else fu η p.2
def gCmp (op : CmpOp) (fa fb : SemE) : SemT := fun η st => (fa η st).bind fun p => (fb η p.2).bind fun q => (cmpop op p.1 q.1 q.2).map fun b => (b, q.2)
def gCh (o1 o2 : CmpOp) (fa fb fc : SemE) : SemT := fun η st => (fa η st).bind fun p => (fb η p.2).bind fun q => (cmpop o1 p.1 q.1 q.2).bind fun b =>
  if b = true then (fc η q.2).bind fun r => (cmpop o2 q.1 r.1 r.2).map fun c => (c, r.2) else some (false, q.2)
def fCh (o1 o2 : CmpOp) (fa fb fc : SemE) : SemE := fun η st => (gCh o1 o2 fa fb fc η st).map fun p => (.bl p.1, p.2)
abbrev SemO := LocD → Sto → Option (Option Int × Sto)
def oNone : SemO := fun _ st => some (none, st)
def oSome (fa : SemE) : SemO := fun η st => (fa η st).bind fun p => match p.1 with
  | .int i => some (some i, p.2)
  | _ => none
def fSl (fa : SemE) (fl fh : SemO) : SemE := fun η st => (fa η st).bind fun p => (fl η p.2).bind fun l => (fh η l.2).bind fun h => slD p.1 l.1 h.1 h.2

/-! ### readings -/
def ER (K : Frg) (ρ : Rho) (H : Hp) (η : LocD) (σ : L2.St) : Prop := σ.length = η.length ∧ ∀ (i : Nat) (d : D), η[i]? = some (some d) → ∃ v, σ[i]? = some (some v) ∧ DR K ρ H d v
theorem ER.mono {K : Frg} {ρ ρ' : Rho} {H H' : Hp} (g : Gr K ρ H ρ' H') {η : LocD} {σ : L2.St} (h : ER K ρ H η σ) : ER K ρ' H' η σ :=
  ⟨h.1, fun i d e => let ⟨v, a, b⟩ := h.2 i d e; ⟨v, a, b.mono g⟩⟩
/-- what is left to be wanted behind an evaluation -/
def Then (K : Frg) (ρ : Rho) (H : Hp) (d : D) (st : Sto) (Q : VK) : Prop := ∀ (ρ' : Rho) (H' : Hp) (v : V), Gr K ρ H ρ' H' → SR K ρ' st H' → DR K ρ' H' d v → Q v H'
def tEv (K : Frg) (f : SemE) : TE := fun σ H Q => ∃ ρ η st d st', ER K ρ H η σ ∧ SR K ρ st H ∧ f η st = some (d, st') ∧ Then K ρ H d st' Q
def tAv (K : Frg) (f : SemA) : TA := fun σ H Q => ∃ ρ η st ds st', ER K ρ H η σ ∧ SR K ρ st H ∧ f η st = some (ds, st') ∧
  ∀ (ρ' : Rho) (H' : Hp) (vs : List V), Gr K ρ H ρ' H' → SR K ρ' st' H' → DRs K ρ' H' ds vs → Q vs H'
def tTv (K : Frg) (f : SemT) : TT := fun σ H Q => ∃ ρ η st b st', ER K ρ H η σ ∧ SR K ρ st H ∧ f η st = some (b, st') ∧
  ∀ (ρ' : Rho) (H' : Hp), Gr K ρ H ρ' H' → SR K ρ' st' H' → Q b H'
def tOv (K : Frg) (f : SemO) : TO := fun σ H Q => ∃ ρ η st o st', ER K ρ H η σ ∧ SR K ρ st H ∧ f η st = some (o, st') ∧
  ∀ (ρ' : Rho) (H' : Hp), Gr K ρ H ρ' H' → SR K ρ' st' H' → Q o H'
/-- values in, a value out -/
def rB (K : Frg) (g : List D → Sto → R) : List V → Hp → VK → Prop := fun vs H Q => ∃ ρ st ds d st', SR K ρ st H ∧ DRs K ρ H ds vs ∧ g ds st = some (d, st') ∧ Then K ρ H d st' Q
def r2 (K : Frg) (g : D → D → Sto → R) : R2 := fun x y H Q => ∃ ρ st a b d st', SR K ρ st H ∧ DR K ρ H a x ∧ DR K ρ H b y ∧ g a b st = some (d, st') ∧ Then K ρ H d st' Q

theorem Then.now {K : Frg} {ρ : Rho} {H : Hp} {d : D} {st : Sto} {Q : VK} (h : Then K ρ H d st Q) (S : SR K ρ st H) {v : V} (r : DR K ρ H d v) : Q v H := h ρ H v (Gr.refl K ρ H) S r
theorem Then.pre {K : Frg} {ρ ρ' : Rho} {H H' : Hp} {d : D} {st : Sto} {Q : VK} (h : Then K ρ H d st Q) (g : Gr K ρ H ρ' H') : Then K ρ' H' d st Q := fun ρ2 H2 v g2 s r => h ρ2 H2 v (g.trans g2) s r
/-- a new tuple -/
theorem Then.tup {K : Frg} {ρ : Rho} {H : Hp} {ds : List D} {vs : List V} {st : Sto} {Q : VK} (h : Then K ρ H (.tup ds) st Q) (S : SR K ρ st H) (r : DRs K ρ H ds vs) : ∀ p, H p = none → Q (.ref p) (upd H p (.tup vs)) := fun p hp =>
  h ρ _ _ (Gr.new hp) (S.new hp) (.tup upd_same (r.mono (Gr.new hp)))
/-- a new list -/
theorem Then.lst {K : Frg} {ρ : Rho} {H : Hp} {ds : List D} {vs : List V} {st : Sto} {Q : VK} (h : Then K ρ H (.ref st.length) (st ++ [.lst ds]) Q) (S : SR K ρ st H) (r : DRs K ρ H ds vs) : ∀ p, H p = none → Q (.ref p) (upd H p (.lst vs)) := fun p hp => by
  have g : Gr K ρ H (ρ ++ [p]) (upd H p (.lst vs)) := ⟨fun n a h => get_app h, fun _ _ h => tup_new hp h, fun _ _ _ h => frz_new hp h⟩
  obtain ⟨S', g'⟩ := S.alloc (o := .lst ds) hp (u := .lst vs) rfl ⟨vs, upd_same, r.mono g⟩
  exact h _ _ _ g S' (.ref (by rw [← S.len, List.getElem?_append_right (Nat.le_refl _)]; simp))

theorem PE.imp {X : Cx} {e : Expr} {t t' : TE} (h : PE X e t) (k : ∀ σ H Q, t' σ H Q → t σ H Q) : PE X e t' := ⟨fun pins s σ H Q I q => h.run pins s σ H Q I (k σ H Q q)⟩
theorem PT.imp {X : Cx} {e : Expr} {t t' : TT} (h : PT X e t) (k : ∀ σ H Q, t' σ H Q → t σ H Q) : PT X e t' := ⟨fun pins s σ H Q I q => h.run pins s σ H Q I (k σ H Q q)⟩
theorem PW.imp {X : Cx} {e : Expr} {t t' : TT} (h : PW X e t) (k : ∀ σ H Q, t' σ H Q → t σ H Q) : PW X e t' := ⟨fun wh pins s σ H Q I q => h.run wh pins s σ H Q I (k σ H Q q)⟩
theorem PA.imp {X : Cx} {es : List Expr} {t t' : TA} (h : PA X es t) (k : ∀ σ H Q, t' σ H Q → t σ H Q) : PA X es t' := ⟨fun pos pins s σ H Q I q => h.run pos pins s σ H Q I (k σ H Q q)⟩
theorem PO.imp {X : Cx} {e : Option Expr} {t t' : TO} (h : PO X e t) (k : ∀ σ H Q, t' σ H Q → t σ H Q) : PO X e t' := by
  cases h with
  | mk run => exact ⟨fun pins s σ H Q I q => run pins s σ H Q I (k σ H Q q)⟩

theorem bind_some {α β : Type} {o : Option α} {k : α → Option β} {b : β} (h : o.bind k = some b) : ∃ a, o = some a ∧ k a = some b := by
  cases o with
  | none => cases h
  | some a => exact ⟨a, rfl, h⟩
theorem map_some' {α β : Type} {o : Option α} {k : α → β} {b : β} (h : o.map k = some b) : ∃ a, o = some a ∧ k a = b := by
  cases o with
  | none => cases h
  | some a => exact ⟨a, rfl, Option.some.inj h⟩
theorem ite_some {α : Type} {c : Prop} [Decidable c] {x : Option α} {b : α} (h : (if c then x else none) = some b) : c ∧ x = some b := by
  by_cases q : c
  · rw [if_pos q] at h; exact ⟨q, h⟩
  · rw [if_neg q] at h; cases h

/-- two expressions, an operation on values -/
theorem two {K : Frg} {fa fb : SemE} {g : D → D → Sto → R} {σ : L2.St} {H : Hp} {Q : VK} {r : R2} (hr : ∀ x y H Q, r2 K g x y H Q → r x y H Q)
    (h : tEv K (fun η st => (fa η st).bind fun p => (fb η p.2).bind fun q => g p.1 q.1 q.2) σ H Q) : tOp r (tEv K fa) (tEv K fb) σ H Q := by
  obtain ⟨ρ, η, st, d, st', E, S, e, k⟩ := h
  obtain ⟨p, e1, e⟩ := bind_some e
  obtain ⟨q, e2, e⟩ := bind_some e
  refine ⟨ρ, η, st, p.1, p.2, E, S, e1, fun ρ1 H1 v1 g1 S1 r1 => ⟨ρ1, η, p.2, q.1, q.2, E.mono g1, S1, e2, fun ρ2 H2 v2 g2 S2 r2 => hr _ _ _ _ ?_⟩⟩
  exact ⟨ρ2, q.2, p.1, q.1, d, st', S2, r1.mono g2, r2, e, k.pre (g1.trans g2)⟩
end Sim

namespace Sim
open PySem L2 PySem.Spec PyProof.Rows HT

/-! ### rules that the hand layer lacks: truths in sums, tuples many times, tuples backwards -/
section
variable {prog : Program} {w : World} {A : Around} {E : Value → Shared → Prop} {s : Shared}
theorem neg_bool {a : Bool} {Q : Value → Shared → Prop} (h : Q (.int (-(if a = true then (1 : Int) else 0)) s.toks) { s with toks := s.toks + 1 }) : wpAny (model prog w) A (unaryOp .USub (.bool a)) Q E s := by
  unfold unaryOp
  refine wpAny_holding ?_
  refine wpAny_bind (m := callSpecial? (.bool a) (Str.ofString "__neg__")) (wpAny_callSpecial?_slot (name := Str.ofString "__neg__") rfl F.slot_bool_neg
    (wpAny_call_entry F.slot_bool_neg rfl F.entry_int_neg ?_ (F.args_int_neg_1 _)))
  show wpAny _ _ (do ret (← mkInt (-(if a = true then (1 : Int) else 0)))) _ _ s
  exact wpAny_ret_mkInt (wpAny_pure h)

theorem tuple_mulOne (l : Addr) (items : Array Value) (n : Nat) (dd : Option Addr) (sl : Array (Option Value)) (u : Tok) :
    Meets (Builtin.«tuple.__mul__» ⟨[.ref l, .int 1 u], []⟩) (fun _ R s => s.heap.get? l = some { cls := .type "tuple", dict := dd, data := .seq items n, slots := sl } ∧ R (.ok (.ret (Value.ref l))) s) :=
  .of_wp fun prog w A R s h => by
    obtain ⟨hp, g, d, tk, os⟩ := s
    obtain ⟨hl, h⟩ := h
    have f1 := AutoSeq1.idx_int
    have c0 : (decide ((1 : Int) < -(2 ^ 63)) || decide ((1 : Int) ≥ 2 ^ 63)) = false := by decide
    have c1 : (items.isEmpty || (1 : Int) == 1) = true := by cases items.isEmpty <;> rfl
    wp_walk using wpAny_loadPart' hl
    repeat (first
      | (refine wpAny_ite_false (decide_eq_false (by rw [c0]; exact Bool.false_ne_true)) ?_; wp_walk using wpAny_loadPart' hl)
      | (refine wpAny_ite_true (decide_eq_true c1) ?_; wp_walk using wpAny_loadPart' hl))
    exact ⟨_, rfl, h⟩
theorem tuple_mulNone (l : Addr) (items : Array Value) (n : Nat) (dd : Option Addr) (sl : Array (Option Value)) (x : Int) (u : Tok) (hx : x ≤ 0) (hx2 : -(2 ^ 63) ≤ x) (hi : items.isEmpty = false) :
    Meets (Builtin.«tuple.__mul__» ⟨[.ref l, .int x u], []⟩) (fun _ R s => s.heap.get? l = some { cls := .type "tuple", dict := dd, data := .seq items n, slots := sl } ∧
      R (.ok (.ret (Value.ref s.heap.objs.size))) { s with heap := s.heap.push { cls := Value.type "tuple", data := Data.seq #[] }, toks := s.toks }) :=
  .of_wp fun prog w A R s h => by
    obtain ⟨hp, g, d, tk, os⟩ := s
    obtain ⟨hl, h⟩ := h
    have f1 := AutoSeq1.idx_int
    have c0 : (decide (x < -(2 ^ 63)) || decide (x ≥ 2 ^ 63)) = false := by
      rw [decide_eq_false (by omega), decide_eq_false (by omega)] <;> rfl
    have c1 : (items.isEmpty || x == 1) = false := by
      rw [hi, Bool.false_or]
      exact beq_eq_false_iff_ne.mpr (by omega)
    have c2 : (decide (x ≤ 0) || items.isEmpty) = true := by
      rw [decide_eq_true hx] <;> rfl
    wp_walk using wpAny_loadPart' hl
    repeat (first
      | (refine wpAny_ite_false (decide_eq_false (by rw [c0]; exact Bool.false_ne_true)) ?_; wp_walk using wpAny_loadPart' hl)
      | (refine wpAny_ite_false (decide_eq_false (by rw [c1]; exact Bool.false_ne_true)) ?_; wp_walk using wpAny_loadPart' hl)
      | (refine wpAny_ite_true (decide_eq_true c2) ?_; wp_walk using wpAny_loadPart' hl))
    exact ⟨_, rfl, h⟩
end

section
variable {X : Cx}
def rRepA (K : PySem.W.Frag) : R2 := fun x y H Q => ∃ l k xs, x = .ref l ∧ y = .int k ∧ SqT K H l xs ∧ xs ≠ [] ∧ -1000 ≤ k ∧ k ≤ 1000 ∧ xs.length ≤ 1000 ∧
  (k ≤ 0 → ∀ p, H p = none → Q (.ref p) (upd H p (.tup []))) ∧ (k = 1 → Q (.ref l) H) ∧ (2 ≤ k → ∀ p, H p = none → Q (.ref p) (upd H p (.tup (List.replicate k.toNat xs).flatten)))
theorem op_repA : OpR X (binaryOp .Mult) (rRepA X.K) := by
  intro pins s σ H x y v u Q I rx ry h
  obtain ⟨l, k, xs, rfl, rfl, hT, hne, h0, h1, hz, q0, q1, q2⟩ := h
  by_cases k2 : 2 ≤ k
  · exact op_repT pins s σ H _ _ v u Q I rx ry ⟨l, k, xs, rfl, rfl, hT, hne, k2, h1, hz, q2 k2⟩
  cases rx
  obtain ⟨t, rfl⟩ := ry
  obtain ⟨its, r, ⟨⟨cls, dd, data, sl⟩, ho, hc, n, hd⟩, hs⟩ := I.tuple hT
  simp only at hc hd
  subst hc hd
  have hle : its.length = xs.length := r.length.symm
  have hn : its ≠ [] := fun e => hne (by
    rw [e] at hle
    exact List.eq_nil_of_length_eq_zero hle.symm)
  have hi : its.toArray.isEmpty = false := by
    cases its with
    | nil => exact absurd rfl hn
    | cons a b => rfl
  by_cases k1 : k = 1
  · subst k1
    refine wpAny_binaryOp_repeat_ref (T := "tuple") (U := "int") (by decide) ⟨_, ho, rfl⟩ (fun s' => typeIs_int s' 1 t) noFill_tuple_mul F.fills_int_mul F.slot_int_rmul repeat_tuple F.slot_int_index.lookup
      (call_meets F.slot_int_rmul (typeIs_int s 1 t) F.entry_int_rmul (F.args_int_rmul_2 _ _) (int_rmul_tuple 1 t l its.toArray n dd sl)
        ⟨ho, rfl, ⟨_, ho, rfl⟩, call_meets F.slot_tuple_mul ⟨_, ho, rfl⟩ F.entry_tuple_mul (F.args_tuple_mul_2 _ _) (tuple_mulOne l its.toArray n dd sl t) ⟨ho, ?_⟩⟩)
    exact ⟨.ref l, H, I, rfl, q1 rfl⟩
  · refine wpAny_binaryOp_repeat_ref (T := "tuple") (U := "int") (by decide) ⟨_, ho, rfl⟩ (fun s' => typeIs_int s' k t) noFill_tuple_mul F.fills_int_mul F.slot_int_rmul repeat_tuple F.slot_int_index.lookup
      (call_meets F.slot_int_rmul (typeIs_int s k t) F.entry_int_rmul (F.args_int_rmul_2 _ _) (int_rmul_tuple k t l its.toArray n dd sl)
        ⟨ho, rfl, ⟨_, ho, rfl⟩, call_meets F.slot_tuple_mul ⟨_, ho, rfl⟩ F.entry_tuple_mul (F.args_tuple_mul_2 _ _) (tuple_mulNone l its.toArray n dd sl k t (by omega) (by omega) hi) ⟨ho, ?_⟩⟩)
    refine ⟨.ref s.heap.objs.size, _, I.laid (t' := s.toks) (o := .tup []) (fun b ob q => Heap.get?_push_of_some _ q) (Nat.le_refl _) ?_, rfl, q0 (by omega) _ (I.hok.fresh (Nat.le_refl _))⟩
    exact ⟨by rw [List.length_nil]; exact Nat.zero_le _, [], .nil, IsTup.new _ _⟩
end

/-! ### t[::-1] -/
section
variable {prog : Program} {w : World} {A : Around} {E : Value → Shared → Prop} {s : Shared}
theorem places_rev (n : Nat) : Builtin.Slice.slicePlaces ((n : Int) - 1) (-1) (-1) = n := by
  unfold Builtin.Slice.slicePlaces
  rw [if_neg (by decide)]
  by_cases h : n = 0
  · subst h; rfl
  · rw [if_pos (by omega), show (-(-1 : Int)) = 1 by decide, Int.ediv_one]; omega
theorem sliceApplied_rev {sl : Addr} {vl vu vs : Value} {n : Nat} {Q : Int × Int × Nat → Shared → Prop} (hs : s.heap.IsSliceOf sl vl vu vs) (pl : IsPart vl none) (pu : IsPart vu none) (ps : IsPart vs (some (-1)))
    (h : Q ((n : Int) - 1, -1, n) s) : wpAny (model prog w) A (Builtin.Slice.sliceApplied (.ref sl) (pure (n : Int))) Q E s := by
  obtain ⟨os, hos, hcs, hds⟩ := id hs
  unfold Builtin.Slice.sliceApplied Builtin.Slice.sliceFields
  refine wpAny_bind (wpAny_bind (wpAny_field hos hds (x := vl) rfl (wpAny_bind (wpAny_field hos hds (x := vu) rfl (wpAny_bind (wpAny_field hos hds (x := vs) rfl (wpAny_pure ?_)))))))
  refine wpAny_bind (slicePart_ ps ?_)
  show wpAny _ _ (if ((-1 : Int) == 0) = true then _ else _) _ _ s
  rw [if_neg (by decide)]
  refine wpAny_bind (slicePart_ pl (wpAny_bind (slicePart_ pu (wpAny_bind (wpAny_pure ?_)))))
  show wpAny _ _ (pure ((n : Int) - 1, (-1 : Int), Builtin.Slice.slicePlaces ((n : Int) - 1) (-1) (-1))) _ _ s
  rw [places_rev]
  exact wpAny_pure h
theorem fm_congr {α β : Type} {f g : α → Option β} : ∀ {l : List α}, (∀ x ∈ l, f x = g x) → l.filterMap f = l.filterMap g
  | [], _ => rfl
  | x :: l, h => by
    rw [List.filterMap_cons, List.filterMap_cons, h x List.mem_cons_self, fm_congr fun y hy => h y (List.mem_cons_of_mem _ hy)]
theorem pick_rev (xs : Array Value) : ((List.range xs.size).filterMap fun (m : Nat) => xs[(((xs.size : Int) - 1) + (m : Int) * (-1)).toNat]?).toArray = xs.toList.reverse.toArray := by
  have e := PySem.W.krv_pick xs
  unfold slicePick at e
  rw [PySem.W.krv_bounds] at e
  have e : ((sliceRange ((xs.size : Int) - 1) (-1) (-1)).filterMap (xs[·]?)).toArray = xs.toList.reverse.toArray := e
  rw [PySem.W.krv_sliceRange, List.filterMap_map] at e
  rw [← e]
  congr 1
  refine fm_congr fun m hm => ?_
  have := List.mem_range.mp hm
  show xs[_]? = xs[xs.size - 1 - m]?
  congr 1
  omega
theorem getItem_tuple_rev {t sl : Addr} {items : Array Value} {vl vu vs : Value} {Q : Value → Shared → Prop} (ht : IsTup s.heap t items) (hs : s.heap.IsSliceOf sl vl vu vs) (pl : IsPart vl none) (pu : IsPart vu none) (ps : IsPart vs (some (-1)))
    (h : Q (.ref s.heap.objs.size) { s with heap := s.heap.push { cls := .type "tuple", data := .seq items.toList.reverse.toArray } })
    (hsz : items.size ≤ sizeLine) : wpAny (model prog w) A (getItem (.ref t) (.ref sl)) Q E s := by
  have htake : sizeOk (.seq items.toList.reverse.toArray) := by
    show items.toList.reverse.toArray.size ≤ sizeLine
    rw [List.size_toArray, List.length_reverse, Array.length_toList]
    exact hsz
  obtain ⟨os, hos, hcs, hds⟩ := id hs
  have hTs : s.TypeIs (.ref sl) "slice" := ⟨os, hos, hcs⟩
  unfold getItem
  try with_reducible refine wpAny_holding ?_
  first | refine wpAny_bind (wpAny_pure ?_) | skip
  refine wpAny_bind (wpAny_sequenceKey ht.typeIs (by decide) ?_)
  refine wpAny_bind (wpAny_callSpecial?_slot (name := Str.ofString "__getitem__") ht.typeIs PyProof.Rows.slot_tuple_getitem
    (wpAny_call_entry PyProof.Rows.slot_tuple_getitem ht.typeIs entry_tuple_getitem ?_ (args_tuple_getitem _ _)))
  show wpAny _ _ (Builtin.Tuple.tupleItemsOf (.ref t) >>= _) _ _ s
  refine wpAny_bind (tupleItemsOf_ ht ?_)
  refine wpAny_bind (wpAny_typeOf hTs ?_)
  rw [if_pos (by decide)]
  refine wpAny_bind (sliceApplied_rev hs pl pu ps ?_)
  have hno : ¬ (((((items.size : Nat) : Int) - 1) == 0 && (-1 : Int) == 1 && items.size == items.size) = true) := by
    intro q
    rw [Bool.and_eq_true, Bool.and_eq_true] at q
    exact absurd q.1.2 (by decide)
  show wpAny _ _ (if ((((items.size : Nat) : Int) - 1) == 0 && (-1 : Int) == 1 && items.size == items.size) = true then _ else _) _ _ s
  rw [if_neg hno, pick_rev]
  first
    | exact wpAny_bind (m := Builtin.Tuple.tupleExact _) (wpAny_newObj_type (wpAny_pure ⟨_, rfl, wpAny_pure h⟩) htake)
    | exact wpAny_bind (m := Builtin.Tuple.tupleExact _) (wpAny_newObj_type (wpAny_bind (wpAny_pure (wpAny_pure ⟨_, rfl, wpAny_pure h⟩))) htake)
    | exact wpAny_bind (wpAny_bind (m := Builtin.Tuple.tupleExact _) (wpAny_newObj_type (wpAny_pure (wpAny_pure ⟨_, rfl, wpAny_pure h⟩)) htake))
    | exact wpAny_bind (wpAny_bind (m := Builtin.Tuple.tupleExact _) (wpAny_newObj_type (wpAny_pure ⟨_, rfl, wpAny_pure h⟩) htake))
end
section
variable {X : Cx}
def tRevA (K : PySem.W.Frag) (te : TE) : TE := fun σ H Q => te σ H fun x H1 => ∃ a xs, x = .ref a ∧
  ((SqL K H1 a xs ∧ ∀ p, H1 p = none → Q (.ref p) (upd H1 p (.lst xs.reverse))) ∨ (SqT K H1 a xs ∧ ∀ p, H1 p = none → Q (.ref p) (upd H1 p (.tup xs.reverse))))
theorem pe_revA {e : Expr} {te : TE} {k : Nat} {p1 p2 p3 pos : Pos} (he : PE X e te) : PE X (.Subscript e (.Slice none none (some (.UnaryOp .USub (.Constant (.int 1) k p1) p2)) p3) pos) (tRevA X.K te) := by
  refine ⟨fun pins s σ H Q I h => ?_⟩
  refine Subscript_ (thn (he.run pins s σ H _ I h) fun v s1 ⟨x, H1, I1, r1, q1⟩ => ?_)
  obtain ⟨a, xs, ex, q⟩ := q1
  subst ex
  cases r1
  have hst : PO X (some (.UnaryOp .USub (.Constant (.int 1) k p1) p2)) (tPart (tUn (rU fun i => .int (-i)) (tC (.int 1)))) := po_some (pe_un un_neg pe_int)
  refine wpAny_Slice (thn (po_none.run pins s1 σ H1 (fun o H2 => o = none ∧ H2 = H1) I1 ⟨rfl, rfl⟩) fun vl s2 ⟨l, H2, I2, pl, el, e2⟩ => ?_)
  subst el e2
  refine thn (po_none.run pins s2 σ H2 (fun o H3 => o = none ∧ H3 = H2) I2 ⟨rfl, rfl⟩) fun vu s3 ⟨u, H3, I3, pu, eu, e3⟩ => ?_
  subst eu e3
  refine thn (hst.run pins s3 σ H3 (fun o H4 => o = some (-1) ∧ H4 = H3) I3 ⟨1, rfl, -1, rfl, rfl, rfl⟩) fun vs s4 ⟨o, H4, I4, ps, eo, e4⟩ => ?_
  subst eo e4
  have I5 : Inv X pins σ H4 { s4 with heap := s4.heap.push { cls := .type "slice", data := .fields #[vl, vu, vs] } } := I4.kept (t' := s4.toks) fun b ob q => Heap.get?_push_of_some _ q
  rcases q with ⟨hx, q⟩ | ⟨hx, q⟩
  · obtain ⟨its, r, ht, hz⟩ := I5.list hx
    have hlen := r.length
    show wpAny (model X.prog X.w) X.A (subscriptTail e (.Slice none none (some (.UnaryOp .USub (.Constant (.int 1) k p1) p2)) p3) (.ref a) (.ref s4.heap.objs.size)) (EP X pins σ Q) X.xe { s4 with heap := s4.heap.push { cls := .type "slice", data := .fields #[vl, vu, vs] } }
    refine tail_any (ops := [.ref a, .ref s4.heap.objs.size]) ht.isList.typeIs (PySem.slot_list_getitem.lookup) ?_ (by with_unfolding_all rfl)
    refine wpAny_getItem_list_slice ht.isList (Heap.IsSliceOf.new _ vl vu vs) pl pu ps (by decide) ?_ (by rw [List.size_toArray]; omega)
    rw [PySem.W.krv_pick]
    refine ⟨.ref _, _, I5.laid (t' := s4.toks) (o := .lst xs.reverse) (fun b ob q => Heap.get?_push_of_some _ q) (Nat.le_refl _) ?_, rfl, q _ (I5.hok.fresh (Nat.le_refl _))⟩
    exact ⟨by rw [List.length_reverse]; exact hz, _, 0, r.reverse, Heap.get?_push_size _ rfl⟩
  · obtain ⟨its, r, ht, hz⟩ := I5.tuple hx
    have hlen := r.length
    show wpAny (model X.prog X.w) X.A (subscriptTail e (.Slice none none (some (.UnaryOp .USub (.Constant (.int 1) k p1) p2)) p3) (.ref a) (.ref s4.heap.objs.size)) (EP X pins σ Q) X.xe { s4 with heap := s4.heap.push { cls := .type "slice", data := .fields #[vl, vu, vs] } }
    refine tail_any (ops := [.ref a, .ref s4.heap.objs.size]) ht.typeIs (PyProof.Rows.slot_tuple_getitem.lookup) ?_ (by with_unfolding_all rfl)
    refine getItem_tuple_rev ht (Heap.IsSliceOf.new _ vl vu vs) pl pu ps ?_ (by rw [List.size_toArray]; omega)
    refine ⟨.ref _, _, I5.laid (t' := s4.toks) (o := .tup xs.reverse) (fun b ob q => Heap.get?_push_of_some _ q) (Nat.le_refl _) ?_, rfl, q _ (I5.hok.fresh (Nat.le_refl _))⟩
    exact ⟨by rw [List.length_reverse]; exact hz, _, r.reverse, IsTup.new _ _⟩
end
end Sim

namespace Sim
open PySem L2

section
variable {K : Frg} {ρ : Rho} {st : Sto} {H : Hp}
theorem OR.sqL {xs : List D} {a : Addr} (h : OR K ρ H (.lst xs) a ∨ OR K ρ H (.frz xs) a) : ∃ vs, SqL K H a vs ∧ DRs K ρ H xs vs := by
  rcases h with ⟨vs, e, r⟩ | ⟨vs, e, r⟩
  · exact ⟨vs, .inl (.inl e), r⟩
  · rcases e with ⟨o, e⟩ | e
    · exact ⟨vs, .inl (.inr ⟨o, e⟩), r⟩
    · exact ⟨vs, .inr e, r⟩
theorem SR.seq (S : SR K ρ st H) {n : Nat} {a : Addr} {xs : List D} (h : st[n]? = some (.lst xs) ∨ st[n]? = some (.frz xs)) (ha : ρ[n]? = some a) : ∃ vs, SqL K H a vs ∧ DRs K ρ H xs vs := by
  rcases h with h | h
  · exact OR.sqL (.inl (S.at' n _ a h ha))
  · exact OR.sqL (.inr (S.at' n _ a h ha))
theorem items_ok (S : SR K ρ st H) {x : D} {v : V} {xs : List D} (r : DR K ρ H x v) (h : items x st = some xs) : ∃ a vs, v = .ref a ∧ (SqL K H a vs ∨ SqT K H a vs) ∧ DRs K ρ H xs vs := by
  cases r with
  | tup s t => cases h; exact ⟨_, _, rfl, .inr (.of s), t⟩
  | ktup s t => cases h; exact ⟨_, _, rfl, .inr s.sq, t⟩
  | @ref n a e =>
    unfold items at h
    cases q : st[n]? with
    | none => simp only [q] at h; cases h
    | some o =>
      cases o with
      | lst ys =>
        simp only [q] at h; cases h
        obtain ⟨vs, s, t⟩ := S.seq (.inl q) e
        exact ⟨a, vs, rfl, .inl s, t⟩
      | frz ys =>
        simp only [q] at h; cases h
        obtain ⟨vs, s, t⟩ := S.seq (.inr q) e
        exact ⟨a, vs, rfl, .inl s, t⟩
      | dct kvs => simp only [q] at h; cases h
      | dtp kvs => simp only [q] at h; cases h
      | frd kvs => simp only [q] at h; cases h
      | stk k => simp only [q] at h; cases h
  | _ => cases h
mutual
theorem toP_ok (S : SR K ρ st H) : ∀ (n : Nat) (x : D) (v : V) (p : PyData), toP st n x = some p → DR K ρ H x v → Dp K H v p
  | 0, _, _, _, h, _ => by cases h
  | n + 1, .non, _, _, h, r => by cases h; cases r; exact .non
  | n + 1, .bl b, _, _, h, r => by cases h; cases r; exact .bl b
  | n + 1, .int i, _, _, h, r => by cases h; cases r; exact .int i
  | n + 1, .str s, _, _, h, r => by cases h; cases r; exact .str s
  | n + 1, .tup xs, _, _, h, r => by
    cases r with
    | tup s t =>
      obtain ⟨ps, e, rfl⟩ := map_some' h
      exact .tup (.of s) (toPs_ok S n xs _ ps e t)
  | n + 1, .ktup xs, _, _, h, r => by
    cases r with
    | ktup s t =>
      obtain ⟨ps, e, rfl⟩ := map_some' h
      exact .tup s.sq (toPs_ok S n xs _ ps e t)
  | n + 1, .ref k, _, _, h, r => by
    cases r with
    | @ref k a e =>
      unfold toP at h
      cases q : st[k]? with
      | none => simp only [q] at h; cases h
      | some o =>
        cases o with
        | lst ys =>
          simp only [q] at h
          obtain ⟨vs, s, t⟩ := S.seq (.inl q) e
          obtain ⟨ps, e2, rfl⟩ := map_some' h
          exact .lst s (toPs_ok S n ys _ ps e2 t)
        | frz ys =>
          simp only [q] at h
          obtain ⟨vs, s, t⟩ := S.seq (.inr q) e
          obtain ⟨ps, e2, rfl⟩ := map_some' h
          exact .lst s (toPs_ok S n ys _ ps e2 t)
        | dct kvs => simp only [q] at h; cases h
        | dtp kvs => simp only [q] at h; cases h
        | frd kvs => simp only [q] at h; cases h
        | stk k => simp only [q] at h; cases h
  | n + 1, .fn _, _, _, h, _ => by cases h
theorem toPs_ok (S : SR K ρ st H) : ∀ (n : Nat) (xs : List D) (vs : List V) (ps : List PyData), mapO (fun x => toP st n x) xs = some ps → DRs K ρ H xs vs → DpAll K H vs ps
  | _, [], _, _, h, r => by cases h; cases r; exact .nil
  | n, x :: xs, _, _, h, r => by
    cases r with
    | cons r1 r2 =>
      unfold mapO at h
      obtain ⟨p, e1, h⟩ := bind_some h
      obtain ⟨ps, e2, rfl⟩ := map_some' h
      exact .cons (toP_ok S n x _ p e1 r1) (toPs_ok S n xs _ ps e2 r2)
end
theorem eqD_ok (S : SR K ρ st H) {x y : D} {v u : V} {b : Bool} (rx : DR K ρ H x v) (ry : DR K ρ H y u) (h : eqP x y st = some b) :
    ∃ d e, Dp K H v d ∧ Dp K H u e ∧ SeqAt.shaped d = true ∧ SeqAt.shaped e = true ∧ b = PyData.eqv d e := by
  unfold eqP at h
  obtain ⟨d, e1, h⟩ := bind_some h
  obtain ⟨e, e2, h⟩ := bind_some h
  obtain ⟨c, h⟩ := ite_some h
  rw [Bool.and_eq_true] at c
  cases h
  exact ⟨d, e, toP_ok S _ _ _ _ e1 rx, toP_ok S _ _ _ _ e2 ry, c.1, c.2, rfl⟩
theorem eqD_split {x y : D} {b : Bool} (h : eqD x y st = some b) : (∃ i j : Str, x = .str i ∧ y = .str j ∧ b = (i == j)) ∨ eqP x y st = some b := by
  unfold eqD at h
  cases e : eqSS x y with
  | none => rw [e] at h; exact .inr h
  | some c =>
    rw [e] at h
    cases h
    unfold eqSS at e
    split at e
    · cases e; exact .inl ⟨_, _, rfl, rfl, rfl⟩
    · cases e
theorem truth_ok (S : SR K ρ st H) {x : D} {v : V} {b : Bool} (r : DR K ρ H x v) (h : truth x st = some b) : TruV K v H b := by
  cases r with
  | non => cases h; rfl
  | bl b => cases h; rfl
  | int i => cases h; rfl
  | str s =>
    obtain ⟨c, h⟩ := ite_some h
    cases h
    exact ⟨most_line c, rfl⟩
  | tup s t =>
    cases h
    refine .inr (.inl ⟨_, .of s, ?_⟩)
    cases t <;> rfl
  | ktup s t =>
    cases h
    refine .inr (.inl ⟨_, s.sq, ?_⟩)
    cases t <;> rfl
  | @ref n a e =>
    unfold truth at h
    cases q : st[n]? with
    | none => simp only [q] at h; cases h
    | some o =>
      cases o with
      | lst ys =>
        simp only [q] at h; cases h
        obtain ⟨vs, s, t⟩ := S.seq (.inl q) e
        exact .inl ⟨vs, s, by cases t <;> rfl⟩
      | frz ys =>
        simp only [q] at h; cases h
        obtain ⟨vs, s, t⟩ := S.seq (.inr q) e
        exact .inl ⟨vs, s, by cases t <;> rfl⟩
      | dct kvs =>
        simp only [q] at h; cases h
        obtain ⟨vs, s, t⟩ := S.at' n _ a q e
        exact .inr (.inr ⟨vs, s, by cases t <;> rfl⟩)
      | dtp kvs => simp only [q] at h; cases h
      | frd kvs => simp only [q] at h; cases h
      | stk k => simp only [q] at h; cases h
  | fn _ => cases h
theorem flat_ok {x : D} {v : V} (r : DR K ρ H x v) (h : flatD x = true) : flatV v = true := by cases r <;> first | rfl | cases h
theorem flats_ok : ∀ {xs : List D} {vs : List V}, DRs K ρ H xs vs → xs.all flatD = true → vs.all flatV = true
  | _, _, .nil, _ => rfl
  | _, _, .cons r t, h => by
    rw [List.all_cons, Bool.and_eq_true] at h
    rw [List.all_cons, flat_ok r h.1, flats_ok t h.2]; rfl
theorem eqF_ok {x y : D} {v u : V} (rx : DR K ρ H x v) (ry : DR K ρ H y u) (hx : flatD x = true) (hy : flatD y = true) : eqV v u = eqF x y := by
  cases rx <;> first | (cases hx; done) | (cases ry <;> first | (cases hy; done) | rfl)
theorem anyF_ok {x : D} {v : V} (rx : DR K ρ H x v) (hx : flatD x = true) : ∀ {xs : List D} {vs : List V}, DRs K ρ H xs vs → xs.all flatD = true → inV v vs = xs.any fun z => eqF z x
  | _, _, .nil, _ => rfl
  | _, _, .cons r t, h => by
    rw [List.all_cons, Bool.and_eq_true] at h
    have ih := anyF_ok rx hx t h.2
    unfold inV at ih ⊢
    rw [List.any_cons, List.any_cons, ih, eqF_ok r rx h.1 hx]
end

section
variable {X : Cx}
theorem DRs.rep {K : Frg} {ρ : Rho} {H : Hp} {xs : List D} {vs : List V} (t : DRs K ρ H xs vs) : ∀ n : Nat, DRs K ρ H (List.replicate n xs).flatten (List.replicate n vs).flatten
  | 0 => .nil
  | n + 1 => by
    rw [List.replicate_succ, List.replicate_succ, List.flatten_cons, List.flatten_cons]
    exact t.app (DRs.rep t n)
theorem ok_sub : OpR X (binaryOp .Sub) (r2 X.K (binop .Sub)) := by
  rintro pins s σ H x y v u Q I rx ry ⟨ρ, st, a, b, d, st', S, ra, rb, e, k⟩
  cases ra with
  | int i =>
    cases rb <;> first | (cases e; done) | skip
    cases e
    exact op_sub pins s σ H _ _ v u Q I rx ry ⟨_, _, rfl, rfl, k.now S (.int _)⟩
  | bl c =>
    cases rb <;> first | (cases e; done) | skip
    cases e
    cases (show v = Value.bool c from rx)
    obtain ⟨t, rfl⟩ := ry
    exact IntBool.sub_bool_int ⟨.int _, H, I.tok _, ⟨_, rfl⟩, k.now S (.int _)⟩
  | _ => cases e
theorem size_foldRep (c : Array Nat) : ∀ (k : Nat) (acc : Array Nat), (List.foldl (fun x1 x2 => x1 ++ x2) acc (List.replicate k c)).size = acc.size + k * c.size
  | 0, acc => by simp
  | k + 1, acc => by
    rw [List.replicate_succ, List.foldl_cons, size_foldRep c k, Array.size_append, Nat.succ_mul]
    omega
theorem op_repS : OpR X (binaryOp .Mult) (fun x y H Q => ∃ (a : Str) (k : Int), x = .str a ∧ y = .int k ∧ -1000 ≤ k ∧ k ≤ 1000 ∧ a.length ≤ 1000 ∧ Q (.str (repS a k)) H) := by
  rintro pins s σ H x y v u Q I rx ry ⟨a, k, rfl, rfl, h1, h2, h3, q⟩
  obtain ⟨t, rfl⟩ := rx
  obtain ⟨t2, rfl⟩ := ry
  refine PySem.P.mul_str ?_ (fun c1 c2 c3 => ?_) (fun c1 c2 => ?_) ?_
  · rw [decide_eq_false (by omega), decide_eq_false (by omega)]; rfl
  · have hk : 1 ≤ k := by omega
    have : (9223372036854775 : Int) ≤ (2 ^ 63 - 1) / k := by
      refine (Int.le_ediv_iff_mul_le (by omega)).mpr ?_
      omega
    have c3 : (2 ^ 63 - 1) / k < (a.length : Int) := c3
    omega
  · have a1 : a.length * k.toNat ≤ 1000 * 1000 := Nat.mul_le_mul h3 (by omega)
    unfold Builtin.Str.tooLong
    refine decide_eq_false ?_
    rw [sizeLine_eq]
    omega
  · unfold repS at q
    by_cases c1 : k < 1
    · rw [if_pos c1] at q ⊢
      exact ⟨by decide, .str Str.empty, H, I.tok _, ⟨_, rfl⟩, q⟩
    · rw [if_neg c1] at q ⊢
      by_cases c2 : (k == 1 || a.length == 0) = true
      · rw [if_pos c2] at q ⊢
        exact ⟨.str a, H, I, ⟨t, rfl⟩, q⟩
      · rw [if_neg c2] at q ⊢
        refine ⟨?_, .str _, H, I.tok _, ⟨_, rfl⟩, q⟩
        show (List.foldl (fun x1 x2 => x1 ++ x2) #[] (List.replicate k.toNat a.cps)).size ≤ sizeLine
        rw [size_foldRep, sizeLine_eq]
        have a1 : k.toNat * a.cps.size ≤ 1000 * 1000 := Nat.mul_le_mul (by omega) h3
        simp
        omega
theorem ok_mul : OpR X (binaryOp .Mult) (r2 X.K (binop .Mult)) := by
  rintro pins s σ H x y v u Q I rx ry ⟨ρ, st, a, b, d, st', S, ra, rb, e, k⟩
  cases ra with
  | int i =>
    refine op_mulW pins s σ H _ y v u Q I rx ry ?_
    cases rb <;> first | (cases e; done) | skip
    obtain ⟨z, e1, e2⟩ := map_some' (show (gMul _ _).map _ = some _ from e)
    obtain ⟨c, e1⟩ := ite_some e1
    cases e1; cases e2
    exact ⟨_, _, rfl, rfl, c, k.now S (.int _)⟩
  | @tup a xs vs sa ta =>
    cases rb with
    | int j =>
      obtain ⟨⟨c1, c2, c3, c4⟩, e⟩ := ite_some (show repT xs j st = some (d, st') from e)
      cases e
      have hl := ta.length
      refine op_repA pins s σ H _ _ v u Q I rx ry ⟨a, j, vs, rfl, rfl, .of sa, fun h => c1 ?_, c2, c3, by omega, ?_, ?_, ?_⟩
      · subst h; exact List.eq_nil_of_length_eq_zero hl
      · intro h p hp
        have : j.toNat = 0 := by omega
        rw [this] at k
        exact k.tup S .nil p hp
      · intro h
        subst h
        refine k.now S ?_
        have : (List.replicate (1 : Int).toNat xs).flatten = xs := by simp
        rw [this]; exact .tup sa ta
      · intro h p hp
        exact k.tup S (DRs.rep ta j.toNat) p hp
    | _ => cases e
  | str a =>
    cases rb with
    | int j =>
      obtain ⟨⟨c1, c2, c3⟩, e⟩ := ite_some (show (if -1000 ≤ j ∧ j ≤ 1000 ∧ a.length ≤ 1000 then some (D.str (repS a j), st) else none) = some (d, st') from e)
      cases e
      exact op_repS pins s σ H _ _ v u Q I rx ry ⟨a, j, rfl, rfl, c1, c2, c3, k.now S (.str _)⟩
    | _ => cases e
  | @ref n a ea =>
    cases rb with
    | int j =>
      have e : (match st[n]? with
        | some (.lst xs) => if -1000 ≤ j ∧ j ≤ 1000 ∧ xs.length ≤ 1000 then alloc (.lst (List.replicate j.toNat xs).flatten) st else none
        | _ => none) = some (d, st') := e
      split at e
      · rename_i xs hx
        obtain ⟨⟨c1, c2, c3⟩, e⟩ := ite_some e
        cases e
        obtain ⟨vs, s1, t1⟩ := S.at' n _ a hx ea
        refine op_rep pins s σ H _ _ v u Q I rx ry ⟨a, j, vs, rfl, rfl, s1, by omega, by omega, ?_, fun p hp => k.lst S (DRs.rep t1 j.toNat) p hp⟩
        rw [← t1.length, sizeLine_eq]
        have a1 : xs.length * j.toNat ≤ 1000 * 1000 := Nat.mul_le_mul c3 (by omega)
        omega
      · cases e
    | _ => cases e
  | _ => cases e
theorem ok_mod : OpR X (binaryOp .Mod) (r2 X.K (binop .Mod)) := by
  rintro pins s σ H x y v u Q I rx ry ⟨ρ, st, a, b, d, st', S, ra, rb, e, k⟩
  refine op_mod pins s σ H x y v u Q I rx ry ?_
  cases ra <;> cases rb <;> first | (cases e; done) | skip
  obtain ⟨z, e1, e2⟩ := map_some' (show (gMod _ _).map _ = some _ from e)
  obtain ⟨c, e1⟩ := ite_some e1
  cases e1; cases e2
  exact ⟨_, _, rfl, rfl, c, k.now S (.int _)⟩
theorem ok_div : OpR X (binaryOp .FloorDiv) (r2 X.K (binop .FloorDiv)) := by
  rintro pins s σ H x y v u Q I rx ry ⟨ρ, st, a, b, d, st', S, ra, rb, e, k⟩
  refine op_fdivW pins s σ H x y v u Q I rx ry ?_
  cases ra <;> cases rb <;> first | (cases e; done) | skip
  obtain ⟨z, e1, e2⟩ := map_some' (show (gDiv _ _).map _ = some _ from e)
  obtain ⟨c, e1⟩ := ite_some e1
  cases e1; cases e2
  exact ⟨_, _, rfl, rfl, c, k.now S (.int _)⟩
theorem ok_pow : OpR X (binaryOp .Pow) (r2 X.K (binop .Pow)) := by
  rintro pins s σ H x y v u Q I rx ry ⟨ρ, st, a, b, d, st', S, ra, rb, e, k⟩
  refine op_pow pins s σ H x y v u Q I rx ry ?_
  cases ra <;> cases rb <;> first | (cases e; done) | skip
  obtain ⟨z, e1, e2⟩ := map_some' (show (gPow _ _).map _ = some _ from e)
  obtain ⟨c, e1⟩ := ite_some e1
  cases e1; cases e2
  exact ⟨_, _, rfl, rfl, c, k.now S (.int _)⟩
theorem ok_add : OpR X (binaryOp .Add) (r2 X.K (binop .Add)) := by
  rintro pins s σ H x y v u Q I rx ry ⟨ρ, st, a, b, d, st', S, ra, rb, e, k⟩
  cases ra with
  | int i =>
    cases rb <;> first | (cases e; done) | skip
    cases e
    exact op_add pins s σ H _ _ v u Q I rx ry ⟨_, _, rfl, rfl, k.now S (.int _)⟩
  | bl c =>
    cases rb <;> first | (cases e; done) | skip
    cases e
    cases (show v = Value.bool c from rx)
    obtain ⟨t, rfl⟩ := ry
    exact IntBool.add_bool_int ⟨.int _, H, I.tok _, ⟨_, rfl⟩, k.now S (.int _)⟩
  | str i =>
    cases rb <;> first | (cases e; done) | skip
    obtain ⟨c, e⟩ := ite_some e
    cases e
    exact op_add_str pins s σ H _ _ v u Q I rx ry ⟨_, _, rfl, rfl, most_line c, k.now S (.str _)⟩
  | @tup a xs vs sa ta =>
    cases rb with
    | @tup b ys ws sb tb =>
      obtain ⟨c, e⟩ := ite_some e
      cases e
      refine op_catA pins s σ H _ _ v u Q I rx ry ⟨a, b, vs, ws, rfl, rfl, .of sa, .of sb, ?_, ?_, ?_, ?_⟩
      · rw [← ta.length, ← tb.length]; exact most_line c
      · intro h; subst h
        cases ta
        exact k.now S (.tup sb tb)
      · intro h h0; subst h0
        cases tb
        rw [List.append_nil] at k
        exact k.now S (.tup sa ta)
      · intro h0 h1 p hp
        exact k.tup S (ta.app tb) p hp
    | _ => cases e
  | @ktup a xs vs sa ta =>
    cases rb with
    | @tup b ys ws sb tb =>
      obtain ⟨⟨c0, c⟩, e⟩ := ite_some e
      cases e
      refine op_catA pins s σ H _ _ v u Q I rx ry ⟨a, b, vs, ws, rfl, rfl, sa.sq, .of sb, ?_, ?_, ?_, ?_⟩
      · rw [← ta.length, ← tb.length]; exact most_line c
      · intro h; subst h
        cases ta
        exact k.now S (.tup sb tb)
      · intro h h0; subst h0
        cases tb
        cases ta with
        | nil => exact absurd rfl h
        | cons _ _ => cases c0
      · intro h0 h1 p hp
        exact k.tup S (ta.app tb) p hp
    | _ => cases e
  | @ref n a ea =>
    cases rb with
    | @ref m b eb =>
      have e : (match st[n]?, st[m]? with
        | some (.lst xs), some (.lst ys) => if xs.length + ys.length ≤ most then alloc (.lst (xs ++ ys)) st else none
        | _, _ => none) = some (d, st') := e
      cases q1 : st[n]? with
      | none => simp only [q1] at e; cases e
      | some o1 =>
        cases o1 <;> simp only [q1] at e <;> first | (cases e; done) | skip
        cases q2 : st[m]? with
        | none => simp only [q2] at e; cases e
        | some o2 =>
          cases o2 <;> simp only [q2] at e <;> first | (cases e; done) | skip
          obtain ⟨c, e⟩ := ite_some e
          cases e
          obtain ⟨vs, s1, t1⟩ := S.at' n _ a q1 ea
          obtain ⟨ws, s2, t2⟩ := S.at' m _ b q2 eb
          refine op_cat pins s σ H _ _ v u Q I rx ry ⟨a, b, vs, ws, rfl, rfl, s1, s2, ?_, fun p hp => k.lst S (t1.app t2) p hp⟩
          rw [← t1.length, ← t2.length]; exact most_line c
    | _ => cases e
  | _ => cases e
theorem ok_bin (op : Operator) (h : op = .Add ∨ op = .Sub ∨ op = .Mult ∨ op = .Mod ∨ op = .FloorDiv ∨ op = .Pow) : OpR X (binaryOp op) (r2 X.K (binop op)) := by
  rcases h with rfl | rfl | rfl | rfl | rfl | rfl
  · exact ok_add
  · exact ok_sub
  · exact ok_mul
  · exact ok_mod
  · exact ok_div
  · exact ok_pow

/-! ### comparisons -/
def cmpR (op : CmpOp) (x y : D) (st : Sto) : R := (cmpop op x y st).map fun b => (.bl b, st)
theorem ok_cmpI {op : CmpOp} {p : Int → Int → Bool} (ho : OpR X (compareOp op) (rI0 fun i j => .bl (p i j))) (hc : ∀ x y st, cmpop op x y st = cmpI p x y) : OpR X (compareOp op) (r2 X.K (cmpR op)) := by
  rintro pins s σ H x y v u Q I rx ry ⟨ρ, st, a, b, d, st', S, ra, rb, e, k⟩
  refine ho pins s σ H x y v u Q I rx ry ?_
  obtain ⟨c, e1, e2⟩ := map_some' e
  rw [hc] at e1
  cases ra <;> cases rb <;> first | (cases e1; done) | skip
  cases e1; cases e2
  exact ⟨_, _, rfl, rfl, k.now S (.bl _)⟩
theorem ok_is : OpR X (compareOp .Is) (r2 X.K (cmpR .Is)) := by
  rintro pins s σ H x y v u Q I rx ry ⟨ρ, st, a, b, d, st', S, ra, rb, e, k⟩
  obtain ⟨c, e1, e2⟩ := map_some' e
  cases e2
  cases rb <;> first | (cases e1; done) | skip
  · refine op_isN pins s σ H _ _ v u Q I rx ry ⟨rfl, ?_⟩
    cases ra <;> (cases e1; exact k.now S (.bl _))
  · cases ra <;> first | (cases e1; done) | skip
    cases e1
    exact op_isBl pins s σ H _ _ v u Q I rx ry ⟨_, _, rfl, rfl, k.now S (.bl _)⟩
theorem ok_isnot : OpR X (compareOp .IsNot) (r2 X.K (cmpR .IsNot)) := by
  rintro pins s σ H x y v u Q I rx ry ⟨ρ, st, a, b, d, st', S, ra, rb, e, k⟩
  obtain ⟨c, e1, e2⟩ := map_some' e
  cases e2
  obtain ⟨c2, e3, e4⟩ := map_some' (show (isD a b).map _ = some c from e1)
  subst e4
  cases rb <;> first | (cases e3; done) | skip
  · refine op_notN pins s σ H _ _ v u Q I rx ry ⟨rfl, ?_⟩
    cases ra <;> (cases e3; exact k.now S (.bl _))
  · cases ra <;> first | (cases e3; done) | skip
    cases e3
    exact op_notBl pins s σ H _ _ v u Q I rx ry ⟨_, _, rfl, rfl, k.now S (.bl _)⟩
theorem ok_eq (hu : X.A.units + 64 < cLine) : OpR X (compareOp .Eq) (r2 X.K (cmpR .Eq)) := by
  rintro pins s σ H x y v u Q I rx ry ⟨ρ, st, a, b, d, st', S, ra, rb, e, k⟩
  obtain ⟨c, e1, e2⟩ := map_some' e
  cases e2
  rcases eqD_split e1 with ⟨i, j, rfl, rfl, rfl⟩ | e1
  · cases ra; cases rb
    exact op_eq pins s σ H _ _ v u Q I rx ry ⟨rfl, by rw [dec_str]; exact k.now S (.bl _)⟩
  obtain ⟨d1, d2, h1, h2, h3, h4, rfl⟩ := eqD_ok S ra rb e1
  exact op_eqD hu pins s σ H _ _ v u Q I rx ry ⟨d1, d2, h1, h2, h3, h4, k.now S (.bl _)⟩
theorem ok_ne (hu : X.A.units + 64 < cLine) : OpR X (compareOp .NotEq) (r2 X.K (cmpR .NotEq)) := by
  rintro pins s σ H x y v u Q I rx ry ⟨ρ, st, a, b, d, st', S, ra, rb, e, k⟩
  obtain ⟨c, e1, e2⟩ := map_some' e
  cases e2
  obtain ⟨c2, e3, e4⟩ := map_some' (show (eqD a b st).map _ = some c from e1)
  subst e4
  rcases eqD_split e3 with ⟨i, j, rfl, rfl, rfl⟩ | e3
  · cases ra; cases rb
    exact op_ne pins s σ H _ _ v u Q I rx ry ⟨rfl, by rw [dec_str]; exact k.now S (.bl _)⟩
  obtain ⟨d1, d2, h1, h2, h3, h4, rfl⟩ := eqD_ok S ra rb e3
  exact op_neD hu pins s σ H _ _ v u Q I rx ry ⟨d1, d2, h1, h2, h3, h4, k.now S (.bl _)⟩
theorem keyD_ok {K : Frg} {ρ : Rho} {H : Hp} {y : D} {v : V} {k : Key} (r : DR K ρ H y v) (h : keyD y = some k) : v = kV k := by
  cases r <;> cases h <;> rfl
theorem keys_ok {K : Frg} {ρ : Rho} {H : Hp} : ∀ {xs : List D} {vs : List V} {ks : List Key}, DRs K ρ H xs vs → mapO keyD xs = some ks → vs = ks.map kV
  | [], _, _, r, h => by cases h; cases r; rfl
  | x :: xs, _, _, r, h => by
    cases r with
    | cons a t =>
      obtain ⟨k, e1, e2⟩ := bind_some (show (keyD x).bind _ = some _ from h)
      obtain ⟨ks, e3, e4⟩ := map_some' e2
      subst e4
      rw [keyD_ok a e1, keys_ok t e3]; rfl
theorem keyT_ok {K : Frg} {ρ : Rho} {H : Hp} {y : D} {v : V} {k : List Key} (r : DR K ρ H y v) (h : keyT y = some k) : ∃ b, v = .ref b ∧ H b = some (.tup (k.map kV)) := by
  cases r with
  | tup s t =>
    have := keys_ok t (show mapO keyD _ = some k from h)
    subst this
    exact ⟨_, rfl, s⟩
  | _ => cases h
abbrev PDR {κ : Type} (K : Frg) (ρ : Rho) (H : Hp) : List (κ × D) → List (κ × V) → Prop := Paired fun p q => p.1 = q.1 ∧ DR K ρ H p.2 q.2
def RelOD (K : Frg) (ρ : Rho) (H : Hp) (r : Option D) (o : Option V) : Prop := (r = none ∧ o = none) ∨ ∃ d v, r = some d ∧ o = some v ∧ DR K ρ H d v
theorem valV_ok {κ : Type} [DecidableEq κ] {K : Frg} {ρ : Rho} {H : Hp} {k : κ} : ∀ {kvs : List (κ × D)} {vs : List (κ × V)}, PDR K ρ H kvs vs → RelOD K ρ H (getK kvs k) (valV vs k)
  | _, _, .nil => .inl ⟨rfl, rfl⟩
  | (k1, d1) :: r, (k2, v2) :: s, .cons h t => by
    obtain ⟨e, rd⟩ := h
    have e : k1 = k2 := e
    subst e
    unfold getK valV
    rw [List.find?_cons, List.find?_cons]
    by_cases c : k1 = k
    · have c2 : decide (k1 = k) = true := decide_eq_true c
      simp only [c2]
      exact .inr ⟨d1, v2, rfl, rfl, rd⟩
    · have c2 : decide (k1 = k) = false := decide_eq_false c
      simp only [c2]
      exact valV_ok t
theorem dlook_ok {K : Frg} {ρ : Rho} {H : Hp} {st : Sto} (S : SR K ρ st H) {x y : D} {v u : V} {r : Option D} (rx : DR K ρ H x v) (ry : DR K ρ H y u) (h : dlook x y st = some r) : ∃ a o, v = .ref a ∧ DGet H a u o ∧ RelOD K ρ H r o := by
  unfold dlook at h
  split at h
  · split at h
    · rename_i n kvs q
      obtain ⟨k, e1, e2⟩ := map_some' h
      subst e2
      cases rx with
      | ref e =>
        obtain ⟨vs, h1, h2⟩ := S.at' _ _ _ q e
        have := keyD_ok ry e1
        subst this
        exact ⟨_, _, rfl, DGet.k h1, valV_ok h2⟩
    · rename_i n kvs q
      obtain ⟨k, e1, e2⟩ := map_some' h
      subst e2
      cases rx with
      | ref e =>
        obtain ⟨o, vs, h1, h2⟩ := S.at' _ _ _ q e
        have := keyD_ok ry e1
        subst this
        exact ⟨_, _, rfl, .inl ⟨vs, k, .inr ⟨o, h1⟩, rfl, rfl⟩, valV_ok h2⟩
    · rename_i n kvs q
      obtain ⟨k, e1, e2⟩ := map_some' h
      subst e2
      cases rx with
      | ref e =>
        obtain ⟨vs, h1, h2⟩ := S.at' _ _ _ q e
        obtain ⟨b, rfl, h3⟩ := keyT_ok ry e1
        exact ⟨_, _, rfl, DGet.t h1 h3, valV_ok h2⟩
    · cases h
  · cases h
/-- what the dict at a holds at the key y, a key that stands in the module too -/
def DGet2 (K : Frg) (H : Hp) (a : Addr) (y : V) (r : Option V) : Prop := DGet H a y r ∨ ∃ kvs k b, Rd H a (.dT kvs) ∧ y = .ref b ∧ KTp K H b (k.map kV) ∧ r = valV kvs k
theorem dgetD_ok {K : Frg} {ρ : Rho} {H : Hp} {st : Sto} (S : SR K ρ st H) {x y d : D} {v u : V} (rx : DR K ρ H x v) (ry : DR K ρ H y u) (h : dgetD x y st = some d) : ∃ a w, v = .ref a ∧ DGet2 K H a u (some w) ∧ DR K ρ H d w := by
  have old : ∀ r, dlook x y st = some r → r = some d → ∃ a w, v = .ref a ∧ DGet2 K H a u (some w) ∧ DR K ρ H d w := fun r e1 e2 => by
    subst e2
    obtain ⟨a, o, rfl, g, ro⟩ := dlook_ok S rx ry e1
    rcases ro with ⟨z, _⟩ | ⟨d2, w, z, rfl, rw'⟩
    · cases z
    · cases z; exact ⟨a, w, rfl, .inl g, rw'⟩
  unfold dgetD at h
  split at h
  · rename_i ys
    unfold dgetK at h
    split at h
    · rename_i n
      split at h
      · rename_i kvs q
        obtain ⟨k, e1, e2⟩ := bind_some h
        cases rx with
        | ref e =>
          cases ry with
          | ktup sy ty =>
            obtain ⟨vs, h1, h2⟩ := S.at' _ _ _ q e
            have := keys_ok ty e1
            subst this
            rcases valV_ok (k := k) h2 with ⟨z, _⟩ | ⟨d2, w, z, hw, rw'⟩
            · rw [e2] at z; cases z
            · rw [e2] at z; cases z
              exact ⟨_, w, rfl, .inr ⟨vs, k, _, .inl h1, rfl, sy, hw.symm⟩, rw'⟩
      · cases h
    · cases h
  · obtain ⟨r, e1, e2⟩ := bind_some h
    exact old r e1 e2
theorem inD_split {x y : D} {st : Sto} {b : Bool} (h : inS x y st = some b) :
    (∃ s z c, x = .str s ∧ y = .str z ∧ s.cps.toList = [c] ∧ b = decide (c ∈ z.cps.toList)) ∨ (∃ xs, items y st = some xs ∧ flatD x = true ∧ xs.all flatD = true ∧ b = xs.any fun z => eqF z x) ∨ inDeep x y st = some b := by
  unfold inS at h
  split at h
  · split at h
    · split at h
      · cases h; exact .inl ⟨_, _, _, rfl, rfl, by assumption, rfl⟩
      · cases h
    · cases h
  · obtain ⟨xs, e, h2⟩ := bind_some h
    by_cases c : (flatD x && xs.all flatD) = true
    · rw [if_pos c] at h2
      rw [Bool.and_eq_true] at c
      cases h2
      exact .inr (.inl ⟨xs, e, c.1, c.2, rfl⟩)
    · rw [if_neg c] at h2
      exact .inr (.inr h2)
theorem inDeep_ok {K : Frg} {ρ : Rho} {H : Hp} {st : Sto} (S : SR K ρ st H) {x y : D} {v u : V} {b : Bool} (rx : DR K ρ H x v) (ry : DR K ρ H y u) (h : inDeep x y st = some b) :
    ∃ d ds, Dp K H v d ∧ (Dp K H u (.list ds) ∨ Dp K H u (.tuple ds)) ∧ SeqAt.shaped d = true ∧ SeqAt.shaped (.list ds) = true ∧ b = ds.any fun z => PyData.eqv z d := by
  unfold inDeep at h
  obtain ⟨d, e1, h2⟩ := bind_some h
  obtain ⟨e, e2, h3⟩ := bind_some h2
  have k1 := toP_ok S _ _ _ _ e1 rx
  have k2 := toP_ok S _ _ _ _ e2 ry
  split at h3
  · obtain ⟨c, h4⟩ := ite_some h3
    rw [Bool.and_eq_true] at c
    cases h4
    exact ⟨d, _, k1, .inl k2, c.1, c.2, rfl⟩
  · obtain ⟨c, h4⟩ := ite_some h3
    rw [Bool.and_eq_true] at c
    cases h4
    exact ⟨d, _, k1, .inr k2, c.1, c.2, rfl⟩
  · cases h3
theorem str_one {s : Str} {c : Nat} (h : s.cps.toList = [c]) : s = ⟨#[c]⟩ := by
  cases s with
  | mk a => cases a with | mk l => cases (show l = [c] from h); rfl
theorem op_inT (hu : X.A.units + 65 < cLine) : OpR X (compareOp .In) (fun x y H Q => ∃ d ds, Dp X.K H x d ∧ Dp X.K H y (.tuple ds) ∧ SeqAt.shaped d = true ∧ SeqAt.shaped (.list ds) = true ∧ Q (.bl (ds.any fun z => PyData.eqv z d)) H) := by
  intro pins s σ H x y v u Q I rx ry h
  obtain ⟨d, ds, hd, he, sd, se, q⟩ := h
  obtain ⟨as, r1⟩ := Dp.reads I d x v hd rx
  obtain ⟨bs, r2⟩ := Dp.reads I (.tuple ds) y u he ry
  exact SeqAt.in_tuple_reads r2 r1 (SeqAt.canLay_of_shaped se) (SeqAt.canLay_of_shaped sd) (PyProof.Rows.room_in_shaped sd hu) ⟨.bl _, H, I, rfl, q⟩
theorem op_notInT (hu : X.A.units + 65 < cLine) : OpR X (compareOp .NotIn) (fun x y H Q => ∃ d ds, Dp X.K H x d ∧ Dp X.K H y (.tuple ds) ∧ SeqAt.shaped d = true ∧ SeqAt.shaped (.list ds) = true ∧ Q (.bl (!ds.any fun z => PyData.eqv z d)) H) := by
  intro pins s σ H x y v u Q I rx ry h
  obtain ⟨d, ds, hd, he, sd, se, q⟩ := h
  obtain ⟨as, r1⟩ := Dp.reads I d x v hd rx
  obtain ⟨bs, r2⟩ := Dp.reads I (.tuple ds) y u he ry
  exact SeqAt.notIn_tuple_reads r2 r1 (SeqAt.canLay_of_shaped se) (SeqAt.canLay_of_shaped sd) (PyProof.Rows.room_in_shaped sd hu) ⟨.bl _, H, I, rfl, q⟩
theorem ok_inS (hu : X.A.units + 65 < cLine) : OpR X (compareOp .In) (r2 X.K fun x y st => (inS x y st).map fun b => (.bl b, st)) := by
  rintro pins s σ H x y v u Q I rx ry ⟨ρ, st, a, b, d, st', S, ra, rb, e, k⟩
  obtain ⟨c, e1, e2⟩ := map_some' e
  cases e2
  rcases inD_split e1 with ⟨s1, z, c1, rfl, rfl, h, rfl⟩ | ⟨xs, h, hx, hxs, rfl⟩ | hd
  · cases ra; cases rb
    rw [str_one h] at rx
    exact op_in_sign pins s σ H _ _ v u Q I rx ry ⟨c1, z, rfl, rfl, k.now S (.bl _)⟩
  · obtain ⟨p, vs, rfl, sq, t⟩ := items_ok S rb h
    refine op_in_seq pins s σ H _ _ v u Q I rx ry ⟨p, vs, rfl, sq, flat_ok ra hx, flats_ok t hxs, ?_⟩
    rw [if_neg Bool.false_ne_true, anyF_ok ra hx t hxs]
    exact k.now S (.bl _)
  · obtain ⟨d, ds, h1, h2, h3, h4, rfl⟩ := inDeep_ok S ra rb hd
    rcases h2 with h2 | h2
    · exact op_inD hu pins s σ H _ _ v u Q I rx ry ⟨d, ds, h1, h2, h3, h4, k.now S (.bl _)⟩
    · exact op_inT hu pins s σ H _ _ v u Q I rx ry ⟨d, ds, h1, h2, h3, h4, k.now S (.bl _)⟩
theorem ok_notinS (hu : X.A.units + 65 < cLine) : OpR X (compareOp .NotIn) (r2 X.K fun x y st => (inS x y st).map fun b => (.bl (!b), st)) := by
  rintro pins s σ H x y v u Q I rx ry ⟨ρ, st, a, b, d, st', S, ra, rb, e, k⟩
  obtain ⟨c, e1, e2⟩ := map_some' e
  cases e2
  rcases inD_split e1 with ⟨s1, z, c1, rfl, rfl, h, rfl⟩ | ⟨xs, h, hx, hxs, rfl⟩ | hd
  · cases ra; cases rb
    rw [str_one h] at rx
    exact op_notIn_sign pins s σ H _ _ v u Q I rx ry ⟨c1, z, rfl, rfl, k.now S (.bl _)⟩
  · obtain ⟨p, vs, rfl, sq, t⟩ := items_ok S rb h
    refine op_notIn_seq pins s σ H _ _ v u Q I rx ry ⟨p, vs, rfl, sq, flat_ok ra hx, flats_ok t hxs, ?_⟩
    rw [if_pos rfl, anyF_ok ra hx t hxs]
    exact k.now S (.bl _)
  · obtain ⟨d, ds, h1, h2, h3, h4, rfl⟩ := inDeep_ok S ra rb hd
    rcases h2 with h2 | h2
    · exact op_notInD hu pins s σ H _ _ v u Q I rx ry ⟨d, ds, h1, h2, h3, h4, k.now S (.bl _)⟩
    · exact op_notInT hu pins s σ H _ _ v u Q I rx ry ⟨d, ds, h1, h2, h3, h4, k.now S (.bl _)⟩
theorem op_in_dct (hu : X.A.units + 1 < cLine) : OpR X (compareOp .In) (fun y x H Q => ∃ a o, x = V.ref a ∧ DGet H a y o ∧ Q (.bl o.isSome) H) := by
  intro pins s σ H y x iv u Q I ry rx h
  obtain ⟨a, ov, rfl, g, q2⟩ := h
  obtain rfl : u = Value.ref a := rx
  exact d_in hu I g ry fun s3 I3 => ⟨.bl ov.isSome, H, I3, rfl, q2⟩
theorem op_notin_dct (hu : X.A.units + 1 < cLine) : OpR X (compareOp .NotIn) (fun y x H Q => ∃ a o, x = V.ref a ∧ DGet H a y o ∧ Q (.bl (!o.isSome)) H) := by
  intro pins s σ H y x iv u Q I ry rx h
  obtain ⟨a, ov, rfl, g, q2⟩ := h
  obtain rfl : u = Value.ref a := rx
  exact d_notIn hu I g ry fun s3 I3 => ⟨.bl (!ov.isSome), H, I3, rfl, q2⟩
theorem dinD_ok {K : Frg} {ρ : Rho} {H : Hp} {st : Sto} (S : SR K ρ st H) {x y : D} {v u : V} {b : Bool} (rx : DR K ρ H x v) (ry : DR K ρ H y u) (h : dinD x y st = some b) : ∃ a o, u = V.ref a ∧ DGet H a v o ∧ b = o.isSome := by
  obtain ⟨r, e1, e2⟩ := map_some' h
  obtain ⟨a, o, rfl, g, ro⟩ := dlook_ok S ry rx e1
  refine ⟨a, o, rfl, g, ?_⟩
  rw [← e2]
  rcases ro with ⟨rfl, rfl⟩ | ⟨d, w, rfl, rfl, _⟩ <;> rfl
theorem ok_in (hu : X.A.units + 65 < cLine) : OpR X (compareOp .In) (r2 X.K (cmpR .In)) := by
  rintro pins s σ H x y v u Q I rx ry ⟨ρ, st, a, b, d, st', S, ra, rb, e, k⟩
  obtain ⟨c, e1, e2⟩ := map_some' e
  cases e2
  have e1 : inD a b st = some c := e1
  cases e0 : inS a b st with
  | some c2 =>
    rw [in_of e0] at e1
    cases e1
    exact ok_inS hu pins s σ H x y v u Q I rx ry ⟨ρ, st, a, b, _, st, S, ra, rb, by show (inS a b st).map _ = _; rw [e0]; rfl, k⟩
  | none =>
    unfold inD at e1
    rw [e0] at e1
    obtain ⟨ad, o, rfl, g, rfl⟩ := dinD_ok S ra rb e1
    exact op_in_dct (by omega) pins s σ H _ _ v u Q I rx ry ⟨ad, o, rfl, g, k.now S (.bl _)⟩
theorem ok_notin (hu : X.A.units + 65 < cLine) : OpR X (compareOp .NotIn) (r2 X.K (cmpR .NotIn)) := by
  rintro pins s σ H x y v u Q I rx ry ⟨ρ, st, a, b, d, st', S, ra, rb, e, k⟩
  obtain ⟨c, e1, e2⟩ := map_some' e
  cases e2
  obtain ⟨c3, e3, e4⟩ := map_some' (show (inD a b st).map _ = some c from e1)
  subst e4
  cases e0 : inS a b st with
  | some c2 =>
    rw [in_of e0] at e3
    cases e3
    exact ok_notinS hu pins s σ H x y v u Q I rx ry ⟨ρ, st, a, b, _, st, S, ra, rb, by show (inS a b st).map _ = _; rw [e0]; rfl, k⟩
  | none =>
    unfold inD at e3
    rw [e0] at e3
    obtain ⟨ad, o, rfl, g, rfl⟩ := dinD_ok S ra rb e3
    exact op_notin_dct (by omega) pins s σ H _ _ v u Q I rx ry ⟨ad, o, rfl, g, k.now S (.bl _)⟩
theorem ok_cmp (hu : X.A.units + 65 < cLine) : ∀ op : CmpOp, OpR X (compareOp op) (r2 X.K (cmpR op))
  | .Eq => ok_eq (by omega)
  | .NotEq => ok_ne (by omega)
  | .Lt => ok_cmpI op_lt fun _ _ _ => rfl
  | .LtE => ok_cmpI op_le fun _ _ _ => rfl
  | .Gt => ok_cmpI op_gt fun _ _ _ => rfl
  | .GtE => ok_cmpI op_ge fun _ _ _ => rfl
  | .Is => ok_is
  | .IsNot => ok_isnot
  | .In => ok_in hu
  | .NotIn => ok_notin hu

/-! ### items, slices -/
theorem atI_DRs {K : Frg} {ρ : Rho} {H : Hp} {xs : List D} {vs : List V} {i : Int} {d : D} (t : DRs K ρ H xs vs) (h : atI xs i = some d) : ∃ v, atI vs i = some v ∧ DR K ρ H d v := by
  unfold atI at h ⊢
  obtain ⟨j, e, h⟩ := bind_some h
  obtain ⟨v, e2, r⟩ := t.get h
  exact ⟨v, by rw [← t.length, e]; exact e2, r⟩
theorem ok_ixS : IxR X (r2 X.K fun x y st => (ixS x y st).map fun d => (d, st)) := by
  rintro value slice pins s σ H x y v u Q I rx ry ⟨ρ, st, a, b, d, st', S, ra, rb, e, k⟩ hs
  refine ix_seq value slice pins s σ H x y v u Q I rx ry ?_ hs
  obtain ⟨c, e1, e2⟩ := map_some' e
  cases e2
  unfold ixS at e1
  split at e1
  · obtain ⟨c1, e1⟩ := ite_some e1
    obtain ⟨c2, e4, e5⟩ := map_some' e1
    subst e5
    cases ra; cases rb
    exact .inr (.inr ⟨_, _, _, rfl, rfl, most_line c1, e4, k.now S (.str _)⟩)
  · obtain ⟨xs, e3, e1⟩ := bind_some e1
    cases rb
    obtain ⟨p, vs, rfl, sq, t⟩ := items_ok S ra e3
    obtain ⟨w, hw, hrw⟩ := atI_DRs t e1
    rcases sq with sq | sq
    · exact .inl ⟨p, vs, _, w, rfl, rfl, sq, hw, k.now S hrw⟩
    · exact .inr (.inl ⟨p, vs, _, w, rfl, rfl, sq, hw, k.now S hrw⟩)
  · cases e1
section
open PySem.Spec PyProof.Rows
theorem key_ofK {pins : List (Addr × Obj)} {σ : L2.St} {H : Hp} {s : Shared} (I : Inv X pins σ H s) {b : Addr} {ks : List Key} (kt : KTp X.K H b (ks.map kV)) : (tupleKind (mixKind X.prog X.w)).is s.heap ks b := by
  rcases kt with ⟨o, its, n, h1, h2, _, h3, h4, h5⟩ | ⟨o, h, _⟩
  · exact ⟨o, its, n, I.kIn _ _ h1, h2, h3, by simpa using items_are h5⟩
  · obtain ⟨e1, e2⟩ := I.hok _ _ h
    obtain ⟨_, its, r, o2, q1, q2, n, q3⟩ := e2
    exact ⟨o2, its.toArray, n, q1, q2, q3, by simpa using items_are r⟩
theorem d_getItem2 {pins : List (Addr × Obj)} {σ : L2.St} {H : Hp} {s : Shared} {a : Addr} {y v : V} {u : Value} {A : Around} {E : Value → Shared → Prop} {Q : Value → Shared → Prop} (hu : A.units + 1 < cLine) (I : Inv X pins σ H s) (g : DGet2 X.K H a y (some v)) (ry : RelV y u) (h : ∀ w' s', Inv X pins σ H s' → RelV v w' → Q w' s') :
    wpAny (model X.prog X.w) A (getItem (.ref a) u) Q E s := by
  rcases g with g | ⟨kvs, k, b, e, ey, kt, l⟩
  · exact d_getItem hu I g ry h
  · subst ey
    cases (show u = Value.ref b from ry)
    obtain ⟨z, hd, xs, rel, dd⟩ := dt_rd I.hok e
    obtain ⟨w', hw, rw'⟩ := RelO.some_of (v := v) (o := (atKey xs k).map (·.2)) (by rw [l]; exact rel.val k)
    obtain ⟨p, hp, hp2⟩ := Option.map_eq_some_iff.mp hw
    refine wpAny_getItem_heap (tupleKind_room_in1 hu) (key_ofK I kt) dd hp ?_
    rw [hp2]
    exact h w' _ (I.tok _) rw'
theorem dict_typeIs2 {pins : List (Addr × Obj)} {σ : L2.St} {H : Hp} {s : Shared} {a : Addr} {y : V} {o : Option V} (I : Inv X pins σ H s) (g : DGet2 X.K H a y o) : s.TypeIs (.ref a) "dict" := by
  rcases g with g | ⟨kvs, k, b, e, ey, kt, l⟩
  · exact dict_typeIs I g
  · obtain ⟨z, hd, xs, rel, dd⟩ := dt_rd I.hok e
    obtain ⟨o, es, ep, h1, h2, _⟩ := dd
    exact ⟨o, h1, h2.1⟩
/-- d[y], a dict of ours, as a subscript by values -/
theorem ix_dict (hu : X.A.units + 1 < cLine) : IxR X (fun x y H Q => ∃ a v, x = V.ref a ∧ DGet2 X.K H a y (some v) ∧ Q v H) := by
  intro value slice pins s σ H x y v u Q I rx ry h hs
  obtain ⟨a, z, rfl, g, q⟩ := h
  cases rx
  have fin : wpAny (model X.prog X.w) X.A (subscripted slice false (.ref a) u) (fun r s₃ => wpAny (model X.prog X.w) X.A (letTemporaryGo value (.ref a) r >>= fun _ => pure r) (EP X pins σ Q) X.xe s₃) X.xe s := by
    rw [hs]
    exact wpAny_operating (d_getItem2 hu I g ry fun w' s3 I3 rw' => wpAny_bind (wpAny_letTemporaryGo (wpAny_pure ⟨z, H, I3, rw', q⟩)))
  unfold subscriptTail
  refine wpAny_bind ?_
  rw [getitemInPython_of_ne (dict_typeIs2 I g).not_modules]
  refine wpAny_bind (wpAny_specialOf (dict_typeIs2 I g) PySem.F.slot_dict_getitem.lookup ?_)
  first
    | exact wpAny_pure (wpAny_bind fin)
    | exact wpAny_bind (wpAny_pure (wpAny_bind fin))
    | exact wpAny_bind fin
end
theorem ok_ix (hu : X.A.units + 1 < cLine) : IxR X (r2 X.K fun x y st => (ix x y st).map fun d => (d, st)) := by
  rintro value slice pins s σ H x y v u Q I rx ry ⟨ρ, st, a, b, d, st', S, ra, rb, e, k⟩ hs
  have e : (ix a b st).map _ = _ := e
  cases e0 : ixS a b st with
  | some c =>
    rw [ix_of e0] at e
    exact ok_ixS value slice pins s σ H x y v u Q I rx ry ⟨ρ, st, a, b, d, st', S, ra, rb, by show (ixS a b st).map _ = _; rw [e0]; exact e, k⟩ hs
  | none =>
    obtain ⟨c, e1, e2⟩ := map_some' e
    cases e2
    unfold ix at e1
    rw [e0] at e1
    obtain ⟨ad, w, rfl, g, rw'⟩ := dgetD_ok S ra rb (show dgetD a b st = some d from e1)
    exact ix_dict hu value slice pins s σ H _ _ v u Q I rx ry ⟨ad, w, rfl, g, k.now S rw'⟩ hs
theorem cut_DRs {K : Frg} {ρ : Rho} {H : Hp} {xs : List D} {vs : List V} (t : DRs K ρ H xs vs) (lo hi : Option Int) : DRs K ρ H (cutD xs lo hi) (cutV vs lo hi) := by
  unfold cutD cutV
  rw [t.length]
  exact (t.drop _).take _
def rSl (K : Frg) : V → Option Int → Option Int → Hp → VK → Prop := fun x lo hi H Q => ∃ ρ st a d st', SR K ρ st H ∧ DR K ρ H a x ∧ slD a lo hi st = some (d, st') ∧ Then K ρ H d st' Q
theorem ok_sl : SlR X (rSl X.K) := by
  rintro pins s σ H x v vl vu lo hi sl Q I rx hs pl pu ⟨ρ, st, a, d, st', S, ra, e, k⟩
  cases ra with
  | str z =>
    obtain ⟨c, e⟩ := ite_some e
    cases e
    exact C8.sl_txt pins s σ H _ v vl vu lo hi sl Q I rx hs pl pu ⟨z, rfl, most_line c, k.now S (.str _)⟩
  | tup sa ta =>
    cases e
    refine sl_tupA pins s σ H _ v vl vu lo hi sl Q I rx hs pl pu ⟨_, _, rfl, .of sa, ?_, ?_⟩
    · intro h
      refine k.now S (.tup sa ?_)
      have c := cut_DRs ta lo hi
      unfold cutV at c
      rw [h.1, h.2, Nat.sub_zero, List.drop_zero, List.take_length] at c
      exact c
    · intro h p hp
      exact k.tup S (cut_DRs ta lo hi) p hp
  | @ktup a xs vs sa ta =>
    cases ta with
    | cons _ _ => cases e
    | nil =>
      cases e
      refine sl_tupA pins s σ H _ v vl vu lo hi sl Q I rx hs pl pu ⟨_, _, rfl, sa.sq, ?_, ?_⟩
      · intro h
        exact k.now S (.ktup sa .nil)
      · intro h p hp
        exact absurd ⟨Nat.le_zero.mp (HT.sIx_le 0 0 (Nat.le_refl _) lo), Nat.le_zero.mp (HT.sIx_le 0 0 (Nat.le_refl _) hi)⟩ h
  | @ref n a ea =>
    have e : (match st[n]? with
      | some (.lst xs) => alloc (.lst (cutD xs lo hi)) st
      | some (.frz xs) => alloc (.lst (cutD xs lo hi)) st
      | _ => none) = some (d, st') := e
    cases q : st[n]? with
    | none => simp only [q] at e; cases e
    | some o =>
      cases o <;> simp only [q] at e <;> first | (cases e; done) | skip
      · cases e
        obtain ⟨vs, sq, t⟩ := S.seq (.inl q) ea
        exact sl_list pins s σ H _ v vl vu lo hi sl Q I rx hs pl pu ⟨a, vs, rfl, sq, fun p hp => k.lst S (cut_DRs t lo hi) p hp⟩
      · cases e
        obtain ⟨vs, sq, t⟩ := S.seq (.inr q) ea
        exact sl_list pins s σ H _ v vl vu lo hi sl Q I rx hs pl pu ⟨a, vs, rfl, sq, fun p hp => k.lst S (cut_DRs t lo hi) p hp⟩
  | _ => cases e
end
end Sim

namespace Sim
open PySem L2

/-! ### what built-ins do -/
def bLen1 (ds : List D) (st : Sto) : R :=
  match ds with
  | [.str s] => if s.length ≤ most then some (.int s.length, st) else none
  | [x] => (items x st).map fun xs => (.int xs.length, st)
  | _ => none
/-- the number of a sign -/
def bOrd (ds : List D) (st : Sto) : R :=
  match ds with
  | [.str s] => if s.length = 1 then some (.int (s.cps.getD 0 0 : Nat), st) else none
  | _ => none
def shows (p : PyData) : Bool := p.showable && !p.hasDict && decide (p.depth ≤ 60) && decide (p.shown.length ≤ 1000000)
def bRepr (ds : List D) (st : Sto) : R :=
  match ds with
  | [x] => (toP st 60 x).bind fun p => if shows p = true then some (.str p.shown, st) else none
  | _ => none
def bGcd (ds : List D) (st : Sto) : R :=
  match ds with
  | [.int a, .int b] => some (.int ((Nat.gcd a.natAbs b.natAbs : Nat) : Int), st)
  | _ => none
def bMin2 (ds : List D) (st : Sto) : R :=
  match ds with
  | [.int i, .int j] => some (.int (if j < i then j else i), st)
  | _ => none
def bMax2 (ds : List D) (st : Sto) : R :=
  match ds with
  | [.int i, .int j] => some (.int (if j > i then j else i), st)
  | _ => none
def bTuple (ds : List D) (st : Sto) : R :=
  match ds with
  | [.ktup xs] => some (.ktup xs, st)
  | [x] => (items x st).map fun xs => (.tup xs, st)
  | _ => none
def bList (ds : List D) (st : Sto) : R :=
  match ds with
  | [x] => (items x st).bind fun xs => alloc (.lst xs) st
  | _ => none
def intD : D → Option Int
  | .int i => some i
  | _ => none
def blD : D → Option Bool
  | .bl b => some b
  | _ => none
/-- the items of a list (no tuple) -/
def lstOf (x : D) (st : Sto) : Option (List D) :=
  match x with
  | .ref _ => items x st
  | _ => none
def bSumL (ds : List D) (st : Sto) : R :=
  match ds with
  | [x] => (lstOf x st).bind fun xs => (mapO intD xs).map fun ns => (.int ns.sum, st)
  | _ => none
def bAll (ds : List D) (st : Sto) : R :=
  match ds with
  | [x] => (lstOf x st).bind fun xs => (mapO blD xs).map fun bs => (.bl (bs.all id), st)
  | _ => none
def bAny (ds : List D) (st : Sto) : R :=
  match ds with
  | [x] => (lstOf x st).bind fun xs => (mapO blD xs).map fun bs => (.bl (bs.any id), st)
  | _ => none
def maxL : List Int → Option Int
  | [] => none
  | x :: xs => some (xs.foldl max x)
def minL : List Int → Option Int
  | [] => none
  | x :: xs => some (xs.foldl min x)
def bMaxL (ds : List D) (st : Sto) : R :=
  match ds with
  | [x] => (lstOf x st).bind fun xs => (mapO intD xs).bind fun ns => (maxL ns).map fun m => (.int m, st)
  | _ => none
def bMinL (ds : List D) (st : Sto) : R :=
  match ds with
  | [x] => (lstOf x st).bind fun xs => (mapO intD xs).bind fun ns => (minL ns).map fun m => (.int m, st)
  | _ => none
def bMax (ds : List D) (st : Sto) : R :=
  match ds with
  | [_] => bMaxL ds st
  | _ => bMax2 ds st
def bMin (ds : List D) (st : Sto) : R :=
  match ds with
  | [_] => bMinL ds st
  | _ => bMin2 ds st
def tyD (x : D) (st : Sto) : Option String :=
  match x with
  | .non => some "NoneType"
  | .bl _ => some "bool"
  | .int _ => some "int"
  | .str _ => some "str"
  | .tup _ => some "tuple"
  | .ktup _ => some "tuple"
  | .fn _ => none
  | .ref n => match st[n]? with
    | some (.lst _) => some "list"
    | some (.frz _) => some "list"
    | some (.dct _) => some "dict"
    | some (.dtp _) => some "dict"
    | some (.frd _) => none
    | some (.stk _) => none
    | none => none
def isInst (T : String) (x : D) (st : Sto) : Option Bool := (tyD x st).bind fun t => kitB t T
def fIsi (T : String) (fa : SemE) : SemE := fun η st => (fa η st).bind fun p => (isInst T p.1 p.2).map fun b => (.bl b, p.2)

section
variable {K : Frg} {ρ : Rho} {st : Sto} {H : Hp}
theorem lstOf_ok (S : SR K ρ st H) {x : D} {v : V} {xs : List D} (r : DR K ρ H x v) (h : lstOf x st = some xs) : ∃ a vs, v = .ref a ∧ SqL K H a vs ∧ DRs K ρ H xs vs := by
  cases r with
  | @ref n a e =>
    have h : items (.ref n) st = some xs := h
    unfold items at h
    cases q : st[n]? with
    | none => simp only [q] at h; cases h
    | some o =>
      cases o <;> simp only [q] at h <;> first | (cases h; done) | skip
      · cases h
        obtain ⟨vs, s, t⟩ := S.seq (.inl q) e
        exact ⟨a, vs, rfl, s, t⟩
      · cases h
        obtain ⟨vs, s, t⟩ := S.seq (.inr q) e
        exact ⟨a, vs, rfl, s, t⟩
  | _ => cases h
theorem ints_ok : ∀ {xs : List D} {ns : List Int} {vs : List V}, mapO intD xs = some ns → DRs K ρ H xs vs → vs = ns.map V.int
  | [], _, _, h, r => by cases h; cases r; rfl
  | x :: xs, _, _, h, r => by
    cases r with
    | cons a t =>
      unfold mapO at h
      obtain ⟨i, e, h⟩ := bind_some h
      obtain ⟨ns, e2, rfl⟩ := map_some' h
      cases a <;> first | (cases e; done) | skip
      cases e
      rw [ints_ok e2 t]; rfl
theorem bls_ok : ∀ {xs : List D} {ns : List Bool} {vs : List V}, mapO blD xs = some ns → DRs K ρ H xs vs → vs = ns.map V.bl
  | [], _, _, h, r => by cases h; cases r; rfl
  | x :: xs, _, _, h, r => by
    cases r with
    | cons a t =>
      unfold mapO at h
      obtain ⟨i, e, h⟩ := bind_some h
      obtain ⟨ns, e2, rfl⟩ := map_some' h
      cases a <;> first | (cases e; done) | skip
      cases e
      rw [bls_ok e2 t]; rfl
theorem one_of {ds : List D} {vs : List V} (r : DRs K ρ H ds vs) {d : D} (e : ds = [d]) : ∃ v, vs = [v] ∧ DR K ρ H d v := by
  subst e
  cases r with
  | cons a t => cases t; exact ⟨_, rfl, a⟩
theorem foldl_max : ∀ (xs : List Int) (x : Int), (x ≤ xs.foldl max x) ∧ (∀ y ∈ xs, y ≤ xs.foldl max x) ∧ (xs.foldl max x = x ∨ xs.foldl max x ∈ xs)
  | [], x => ⟨Int.le_refl _, (fun _ h => nomatch h), .inl rfl⟩
  | y :: ys, x => by
    obtain ⟨h1, h2, h3⟩ := foldl_max ys (max x y)
    refine ⟨by have := Int.le_max_left x y; exact Int.le_trans this h1, fun z hz => ?_, ?_⟩
    · rcases List.mem_cons.mp hz with rfl | hz
      · exact Int.le_trans (Int.le_max_right x z) h1
      · exact h2 z hz
    · show ys.foldl max (max x y) = x ∨ ys.foldl max (max x y) ∈ y :: ys
      rcases h3 with h3 | h3
      · rcases Int.le_total x y with q | q
        · rw [Int.max_eq_right q] at h3 ⊢; exact .inr (by rw [h3]; exact List.mem_cons_self)
        · rw [Int.max_eq_left q] at h3 ⊢; exact .inl h3
      · exact .inr (List.mem_cons_of_mem _ h3)
theorem foldl_min : ∀ (xs : List Int) (x : Int), (xs.foldl min x ≤ x) ∧ (∀ y ∈ xs, xs.foldl min x ≤ y) ∧ (xs.foldl min x = x ∨ xs.foldl min x ∈ xs)
  | [], x => ⟨Int.le_refl _, (fun _ h => nomatch h), .inl rfl⟩
  | y :: ys, x => by
    obtain ⟨h1, h2, h3⟩ := foldl_min ys (min x y)
    refine ⟨Int.le_trans h1 (Int.min_le_left x y), fun z hz => ?_, ?_⟩
    · rcases List.mem_cons.mp hz with rfl | hz
      · exact Int.le_trans h1 (Int.min_le_right x z)
      · exact h2 z hz
    · show ys.foldl min (min x y) = x ∨ ys.foldl min (min x y) ∈ y :: ys
      rcases h3 with h3 | h3
      · rcases Int.le_total x y with q | q
        · rw [Int.min_eq_left q] at h3 ⊢; exact .inl h3
        · rw [Int.min_eq_right q] at h3 ⊢; exact .inr (by rw [h3]; exact List.mem_cons_self)
      · exact .inr (List.mem_cons_of_mem _ h3)
theorem maxL_ok {ns : List Int} {m : Int} (h : maxL ns = some m) : 0 < ns.length ∧ ∀ k, k ∈ ns → (∀ y, y ∈ ns → y ≤ k) → k = m := by
  cases ns with
  | nil => cases h
  | cons x xs =>
    cases h
    obtain ⟨h1, h2, h3⟩ := foldl_max xs x
    refine ⟨Nat.succ_pos _, fun k hk hm => ?_⟩
    have a : k ≤ xs.foldl max x := by
      rcases List.mem_cons.mp hk with rfl | hk
      · exact h1
      · exact h2 k hk
    have b : xs.foldl max x ≤ k := by
      rcases h3 with h3 | h3
      · rw [h3]; exact hm x List.mem_cons_self
      · exact hm _ (List.mem_cons_of_mem _ h3)
    omega
theorem minL_ok {ns : List Int} {m : Int} (h : minL ns = some m) : 0 < ns.length ∧ ∀ k, k ∈ ns → (∀ y, y ∈ ns → k ≤ y) → k = m := by
  cases ns with
  | nil => cases h
  | cons x xs =>
    cases h
    obtain ⟨h1, h2, h3⟩ := foldl_min xs x
    refine ⟨Nat.succ_pos _, fun k hk hm => ?_⟩
    have a : xs.foldl min x ≤ k := by
      rcases List.mem_cons.mp hk with rfl | hk
      · exact h1
      · exact h2 k hk
    have b : k ≤ xs.foldl min x := by
      rcases h3 with h3 | h3
      · rw [h3]; exact hm x List.mem_cons_self
      · exact hm _ (List.mem_cons_of_mem _ h3)
    omega
theorem tyD_ok (S : SR K ρ st H) {x : D} {v : V} {t : String} (r : DR K ρ H x v) (h : tyD x st = some t) : TyX K H v (.type t) := by
  cases r with
  | non => cases h; exact .base .non
  | bl b => cases h; exact .base (.bl b)
  | int b => cases h; exact .base (.int b)
  | str b => cases h; exact .base (.str b)
  | tup s t =>
    cases h
    exact .base (.tup s)
  | ktup s t =>
    cases h
    rcases s with ⟨o, its, n, h1, h2, _⟩ | ⟨o, h1, _⟩
    · exact .kTuple h1 h2
    · exact .fTuple h1
  | fn _ => cases h
  | @ref n a e =>
    unfold tyD at h
    cases q : st[n]? with
    | none => simp only [q] at h; cases h
    | some o =>
      have z := S.at' n o a q e
      cases o <;> simp only [q] at h <;> cases h
      · obtain ⟨vs, z, _⟩ := z; exact .base (.lst z)
      · obtain ⟨vs, z, _⟩ := z
        rcases z with ⟨o, z⟩ | ⟨o, its, n, h1, h2, _⟩
        · exact .base (.frz z)
        · exact .kList h1 h2
      · obtain ⟨vs, z, _⟩ := z; exact .base (.dK z)
      · obtain ⟨vs, z, _⟩ := z; exact .base (.dT z)
end

section
variable {X : Cx}
theorem kb_ord : CallR X (.builtin "ord") (rB X.K bOrd) := by
  rintro pins s σ H vs us Q I r ⟨ρ, st, ds, d, st', S, rd, e, k⟩
  unfold bOrd at e
  split at e
  · obtain ⟨v, rfl, rv⟩ := one_of rd rfl
    obtain ⟨c, e⟩ := ite_some e
    cases e; cases rv
    exact call_ord pins s σ H _ us Q I r ⟨_, rfl, c, k.now S (.int _)⟩
  · cases e
theorem kb_len1 : CallR X (.builtin "len") (rB X.K bLen1) := by
  rintro pins s σ H vs us Q I r ⟨ρ, st, ds, d, st', S, rd, e, k⟩
  unfold bLen1 at e
  split at e
  · obtain ⟨v, rfl, rv⟩ := one_of rd rfl
    obtain ⟨c, e⟩ := ite_some e
    cases e; cases rv
    exact call_len_str pins s σ H _ us Q I r ⟨_, rfl, most_line c, k.now S (.int _)⟩
  · obtain ⟨xs, e1, e2⟩ := map_some' e
    cases e2
    obtain ⟨v, rfl, rv⟩ := one_of rd rfl
    obtain ⟨a, vs, rfl, sq, t⟩ := items_ok S rv e1
    refine call_len_seq pins s σ H _ us Q I r ⟨a, vs, rfl, sq, ?_⟩
    rw [← t.length]
    exact k.now S (.int _)
  · cases e
theorem kb_gcd : CallR X (.builtin "math.gcd") (rB X.K bGcd) := by
  rintro pins s σ H vs us Q I r ⟨ρ, st, ds, d, st', S, rd, e, k⟩
  unfold bGcd at e
  split at e
  · cases e
    cases rd with
    | cons a t => cases t with
      | cons b t =>
        cases t; cases a; cases b
        exact cr_gcd pins s σ H _ us Q I r ⟨_, _, rfl, k.now S (.int _)⟩
  · cases e
theorem kb_min (hc : X.calm = true) : CallR X (.builtin "min") (rB X.K bMin) := by
  rintro pins s σ H vs us Q I r ⟨ρ, st, ds, d, st', S, rd, e, k⟩
  unfold bMin at e
  split at e
  · have e : (lstOf _ st).bind _ = _ := e
    obtain ⟨v, rfl, rv⟩ := one_of rd rfl
    obtain ⟨xs, e1, e⟩ := bind_some e
    obtain ⟨ns, e2, e⟩ := bind_some e
    obtain ⟨m, e3, e⟩ := map_some' e
    cases e
    obtain ⟨a, vs, rfl, sq, t⟩ := lstOf_ok S rv e1
    rw [ints_ok e2 t] at sq
    obtain ⟨h1, h2⟩ := minL_ok e3
    refine cr_min hc pins s σ H _ us Q I r ⟨a, ns, rfl, sq, h1, fun k' hk hle => ?_⟩
    rw [h2 k' hk hle]
    exact k.now S (.int _)
  · unfold bMin2 at e
    split at e
    · cases e
      cases rd with
      | cons a t => cases t with
        | cons b t =>
          cases t; cases a; cases b
          exact call_min2 hc pins s σ H _ us Q I r ⟨_, _, rfl, k.now S (.int _)⟩
    · cases e
theorem kb_max (hc : X.calm = true) : CallR X (.builtin "max") (rB X.K bMax) := by
  rintro pins s σ H vs us Q I r ⟨ρ, st, ds, d, st', S, rd, e, k⟩
  unfold bMax at e
  split at e
  · have e : (lstOf _ st).bind _ = _ := e
    obtain ⟨v, rfl, rv⟩ := one_of rd rfl
    obtain ⟨xs, e1, e⟩ := bind_some e
    obtain ⟨ns, e2, e⟩ := bind_some e
    obtain ⟨m, e3, e⟩ := map_some' e
    cases e
    obtain ⟨a, vs, rfl, sq, t⟩ := lstOf_ok S rv e1
    rw [ints_ok e2 t] at sq
    obtain ⟨h1, h2⟩ := maxL_ok e3
    refine cr_max hc pins s σ H _ us Q I r ⟨a, ns, rfl, sq, h1, fun k' hk hle => ?_⟩
    rw [h2 k' hk hle]
    exact k.now S (.int _)
  · unfold bMax2 at e
    split at e
    · cases e
      cases rd with
      | cons a t => cases t with
        | cons b t =>
          cases t; cases a; cases b
          exact call_max2 hc pins s σ H _ us Q I r ⟨_, _, rfl, k.now S (.int _)⟩
    · cases e
theorem kb_tuple : CallR X (.type "tuple") (rB X.K bTuple) := by
  rintro pins s σ H vs us Q I r ⟨ρ, st, ds, d, st', S, rd, e, k⟩
  unfold bTuple at e
  split at e
  · cases e
    obtain ⟨v, rfl, rv⟩ := one_of rd rfl
    cases rv with
    | ktup sq t => exact call_tuple_of pins s σ H _ us Q I r ⟨_, _, rfl, .inr ⟨sq.sq, k.now S (.ktup sq t)⟩⟩
  · obtain ⟨xs, e1, e2⟩ := map_some' e
    cases e2
    obtain ⟨v, rfl, rv⟩ := one_of rd rfl
    cases rv with
    | tup sq t =>
      cases e1
      exact call_tuple_of pins s σ H _ us Q I r ⟨_, _, rfl, .inr ⟨.of sq, k.now S (.tup sq t)⟩⟩
    | ktup sq t => rename_i h; exact absurd rfl (h _)
    | ref ea =>
      obtain ⟨a, vs, ev, sq, t⟩ := lstOf_ok S (.ref ea) (show lstOf _ st = some xs from e1)
      cases ev
      exact call_tuple_of pins s σ H _ us Q I r ⟨_, vs, rfl, .inl ⟨sq, fun p hp => k.tup S t p hp⟩⟩
    | _ => cases e1
  · cases e
theorem kb_list : CallR X (.type "list") (rB X.K bList) := by
  rintro pins s σ H vs us Q I r ⟨ρ, st, ds, d, st', S, rd, e, k⟩
  unfold bList at e
  split at e
  · obtain ⟨xs, e1, e2⟩ := bind_some e
    cases e2
    obtain ⟨v, rfl, rv⟩ := one_of rd rfl
    obtain ⟨a, vs, rfl, sq, t⟩ := items_ok S rv e1
    exact call_list_of pins s σ H _ us Q I r ⟨a, vs, rfl, sq, fun p hp => k.lst S t p hp⟩
  · cases e
theorem kb_sumL (hc : X.calm = true) : CallR X (.builtin "sum") (rB X.K bSumL) := by
  rintro pins s σ H vs us Q I r ⟨ρ, st, ds, d, st', S, rd, e, k⟩
  unfold bSumL at e
  split at e
  · obtain ⟨xs, e1, e2⟩ := bind_some e
    obtain ⟨ns, e4, e3⟩ := map_some' e2
    cases e3
    obtain ⟨v, rfl, rv⟩ := one_of rd rfl
    obtain ⟨a, vs, rfl, sq, t⟩ := lstOf_ok S rv e1
    rw [ints_ok e4 t] at sq
    exact cr_sum hc pins s σ H _ us Q I r ⟨a, ns, rfl, sq, k.now S (.int _)⟩
  · cases e
theorem kb_all (hc : X.calm = true) : CallR X (.builtin "all") (rB X.K bAll) := by
  rintro pins s σ H vs us Q I r ⟨ρ, st, ds, d, st', S, rd, e, k⟩
  unfold bAll at e
  split at e
  · obtain ⟨xs, e1, e2⟩ := bind_some e
    obtain ⟨ns, e4, e3⟩ := map_some' e2
    cases e3
    obtain ⟨v, rfl, rv⟩ := one_of rd rfl
    obtain ⟨a, vs, rfl, sq, t⟩ := lstOf_ok S rv e1
    rw [bls_ok e4 t] at sq
    exact cr_all hc pins s σ H _ us Q I r ⟨a, ns, rfl, sq, k.now S (.bl _)⟩
  · cases e
theorem kb_any (hc : X.calm = true) : CallR X (.builtin "any") (rB X.K bAny) := by
  rintro pins s σ H vs us Q I r ⟨ρ, st, ds, d, st', S, rd, e, k⟩
  unfold bAny at e
  split at e
  · obtain ⟨xs, e1, e2⟩ := bind_some e
    obtain ⟨ns, e4, e3⟩ := map_some' e2
    cases e3
    obtain ⟨v, rfl, rv⟩ := one_of rd rfl
    obtain ⟨a, vs, rfl, sq, t⟩ := lstOf_ok S rv e1
    rw [bls_ok e4 t] at sq
    exact cr_any hc pins s σ H _ us Q I r ⟨a, ns, rfl, sq, k.now S (.bl _)⟩
  · cases e
theorem shows_line {p : PyData} (h : shows p = true) : p.showable = true ∧ p.hasDict = false ∧ p.depth ≤ 60 ∧ p.shown.length ≤ sizeLine := by
  unfold shows at h
  simp only [Bool.and_eq_true, Bool.not_eq_true', decide_eq_true_eq] at h
  obtain ⟨⟨⟨h1, h2⟩, h3⟩, h4⟩ := h
  exact ⟨h1, h2, h3, Nat.le_trans h4 (by decide)⟩
theorem kb_repr (gu : X.A.guards = some []) (hu : X.A.units + 64 < cLine) : CallR X (.builtin "repr") (rB X.K bRepr) := by
  rintro pins s σ H vs us Q I r ⟨ρ, st, ds, d, st', S, rd, e, k⟩
  unfold bRepr at e
  split at e
  · obtain ⟨p, e1, e2⟩ := bind_some e
    obtain ⟨c, e2⟩ := ite_some e2
    cases e2
    obtain ⟨v, rfl, rv⟩ := one_of rd rfl
    obtain ⟨u, rfl, ru⟩ := vals1 r
    have dp := toP_ok S _ _ _ _ e1 rv
    obtain ⟨as, rr⟩ := Dp.reads I p v u dp ru
    obtain ⟨h1, h2, h3, h4⟩ := shows_line c
    have go : ∀ (t : Nat), EP X pins σ Q (.str p.shown s.toks) { s with toks := t } := fun t => ⟨.str p.shown, H, I.tok _, ⟨_, rfl⟩, k.now S (.str _)⟩
    have big : ∀ a, u = .ref a → wpAny (model X.prog X.w) X.A (call (.builtin "repr") [u]) (EP X pins σ Q) X.xe s := by
      rintro a rfl
      exact PySem.repr_of_reads' rr h1 (PyData.noDict_hsm h2) gu (by omega) (fun _ _ e => e) (fun h' t tk hk => ⟨.str p.shown, H, I.kept hk, ⟨_, rfl⟩, k.now S (.str _)⟩) h4
    cases dp with
    | non => cases ru; exact PySem.P.repr_of_none (go _)
    | bl b => cases ru; exact PySem.P.repr_of_bool (go _)
    | int i =>
      obtain ⟨t, rfl⟩ := ru
      exact PySem.P.repr_of_int (of_decide_eq_true (by rw [PyData.showable] at h1; exact h1)) (go _)
    | str x =>
      obtain ⟨t, rfl⟩ := ru
      exact PySem.P.repr_of_str (go _) h4
    | lst _ _ => cases ru; exact big _ rfl
    | tup _ _ => cases ru; exact big _ rfl
  · cases e
end
end Sim

namespace Sim
open PySem PySem.W PyProof.Rows PySem.Calls PySem.SeqAt
/-! ### sorting tuples, void ones among them -/
theorem tup_below {A : Around} {s : Shared} {prog : Program} {w : World} {E : Value → Shared → Prop} {Q : Value → Shared → Prop} {t1 t2 : Addr} {us ws : Array Value} {same below : Nat → Bool} (h1 : s.heap.IsTuple t1 us) (h2 : s.heap.IsTuple t2 ws)
    (eqs : ∀ i (l1 : i < us.size) (l2 : i < ws.size), EqAt A.in1 s us[i] ws[i] (same i)) (lts : ∀ i (l1 : i < us.size) (l2 : i < ws.size), same i = false → RcLt A.in1 s us[i] ws[i] (below i))
    (fin : Q (.bool (firstLt same below (decide (us.size < ws.size)) (List.range (min us.size ws.size)))) s) : wpAny (model prog w) A (call (.builtin "tuple.__lt__") [.ref t1, .ref t2]) Q E s := by
  obtain ⟨⟨c1, p1, z1, v1⟩, g1, q1, n1, e1⟩ := id h1
  obtain ⟨⟨c2, p2, z2, v2⟩, g2, q2, n2, e2⟩ := id h2
  simp only at q1 e1 q2 e2
  subst q1 e1 q2 e2
  exact call_meets PySem.F.slot_tuple_lt ⟨_, g1, rfl⟩ PySem.F.entry_tuple_lt (PySem.F.args_tuple_lt_2 _ _) (tuple_ltAt t1 t2 us ws n1 n2 p1 p2 v1 v2 same below) ⟨g1, g2, eqs, lts, fin⟩
def headed : PyData → Bool
  | .tuple (_ :: _) => true
  | _ => false
def isTupP : PyData → Bool
  | .tuple _ => true
  | _ => false
section
variable {M : Model} {A : Around} {E : Value → Shared → Prop} {s : Shared}
theorem tup_firsts : ∀ {vs : List Value} {ds : List PyData} {Q : List (Option Value) → Shared → Prop}, EachIs (fun v d => ∃ as, Reads s.heap v d as) vs ds → (∀ d ∈ ds, isTupP d = true) → (∀ os : List (Option Value), os.map Option.isSome = ds.map headed → Q os s) → wpAny M A (vs.mapM firstOfTuple') Q E s
  | _, _, _, .nil, _, h => by rw [List.mapM_nil]; exact wpAny_pure (h [] rfl)
  | _, _, Q, .cons (b := d) (as := vs) (bs := ds) ⟨as, r⟩ t, ht, h => by
    have hd := ht d List.mem_cons_self
    cases d <;> first | (cases hd; done) | skip
    rename_i xs
    rw [List.mapM_cons]
    refine wpAny_bind ?_
    rw [kas_first_eq]
    cases r with
    | @tuple a o its n _ _ ho hc hdt hr =>
      refine wpAny_bind (Looks.here (show Looks M s.heap (typeOf (.ref a)) o.cls from (Looks.ld ho).andThen .now) ?_)
      rw [hc, if_neg (by first | decide | simp)]
      refine wpAny_bind (listItems_at ho hdt (wpAny_pure ?_))
      refine wpAny_bind (tup_firsts (Q := fun bs s' => wpAny M A (pure (its[0]? :: bs)) Q E s') t (fun d hd => ht d (List.mem_cons_of_mem _ hd)) fun os hos => wpAny_pure (h _ ?_))
      rw [List.map_cons, List.map_cons, hos]
      congr 1
      have l := ReadsAll.length _ _ _ hr
      cases xs with
      | nil =>
        have : its.size = 0 := by simpa using l
        have : its[0]? = none := Array.getElem?_eq_none (by omega)
        rw [this]; rfl
      | cons x r =>
        have : 0 < its.size := by simp at l; omega
        have e : its[0]? = some its[0] := Array.getElem?_eq_getElem this
        rw [e]; rfl
theorem tup_kind {vs : List Value} {d0 : PyData} {ds : List PyData} {Q : SortKind → Shared → Prop} (e : EachIs (fun v d => ∃ as, Reads s.heap v d as) vs (d0 :: ds)) (ht : ∀ d ∈ d0 :: ds, isTupP d = true) (hn : (d0 :: ds).all headed = false) (h : Q (if headed d0 = true then general' else oneType') s) :
    wpAny M A (keyKind' vs.toArray) Q E s := by
  rw [keyKind'_eq]
  rw [List.mapM_toArray, map_eq_pure_bind]
  refine wpAny_bind (wpAny_bind (tup_firsts e ht fun os hos => wpAny_pure ?_))
  have ha : (os.toArray.all fun x => x.isSome) = false := by
    rw [List.all_toArray, ← hn]
    have : os.all (fun x => x.isSome) = (os.map Option.isSome).all id := by rw [List.all_map]; rfl
    rw [this, hos, List.all_map]; rfl
  rw [if_neg (by rw [ha]; simp)]
  cases os with
  | nil => cases hos
  | cons o os =>
    have ho : o.isSome = headed d0 := by
      rw [List.map_cons, List.map_cons] at hos
      exact (List.cons.inj hos).1
    have h0 : ((o :: os).toArray[0]?.bind id).isSome = headed d0 := by
      simp only [List.getElem?_toArray, List.getElem?_cons_zero, Option.bind_some, id]
      exact ho
    cases hh : headed d0 with
    | true =>
      rw [hh] at h0 h
      rw [if_pos h0]
      exact wpAny_pure h
    | false =>
      rw [hh] at h0 h
      rw [if_neg (by rw [h0]; simp)]
      rw [oneTypeOnly'_eq]
      rw [List.mapM_toArray, map_eq_pure_bind]
      have hT : ∀ v ∈ vs, Looks M s.heap (typeOf v) (Value.type "tuple") := fun v hv => by
        obtain ⟨y, ym, as, r⟩ := e.left v hv
        have q := ht y ym
        cases y <;> first | (cases q; done) | skip
        exact looks_reads r
      refine wpAny_bind (wpAny_bind (wpAny_bind (kas_mapM (r := Value.type "tuple") _ (fun v hv Q' hq => (hT v hv).here hq) (wpAny_pure ?_))))
      have hall : ((List.map (fun _ => Value.type "tuple") vs).toArray.all fun x => x == Value.type "tuple") = true := by
        rw [List.all_toArray, List.all_map]
        exact List.all_eq_true.mpr fun _ _ => rfl
      cases vs with
      | nil => cases e
      | cons v vs =>
        have h0 : (List.map (fun _ => Value.type "tuple") (v :: vs)).toArray[0]? = some (Value.type "tuple") := by simp
        rw [h0]
        simp only [hall, if_true]
        exact wpAny_pure (wpAny_pure h)
end
section
variable {prog : Program} {w : World} {A : Around} {s : Shared}
theorem tup_less {d1 d2 : PyData} {u1 u2 : Value} {as bs : List Addr} {E : Value → Shared → Prop} {Q : Bool → Shared → Prop} (t1 : isTupP d1 = true) (r1 : Reads s.heap u1 d1 as) (r2 : Reads s.heap u2 d2 bs) (al : alike d1 d2 = true)
    (rm : A.units + min d1.depth d2.depth < cLine) (fin : Q (dataLt d1 d2) s) : wpAny (model prog w) A (oneLt' true u1 u2) Q E s := by
  cases d1 <;> first | (cases t1; done) | skip
  rename_i ps
  cases d2 with
  | tuple qs =>
    have all : alikeAll ps qs = true := by simpa only [alike] using al
    cases r1 with
    | @tuple a1 o1 us m1 _ cs g1 g2 g3 g4 =>
      cases r2 with
      | @tuple a2 o2 ws m2 _ ds k1 k2 k3 k4 =>
        have z1 := ReadsAll.length _ _ _ g4
        have z2 := ReadsAll.length _ _ _ k4
        rw [Array.length_toList] at z1 z2
        rw [dataLt_tuple, ← firstLt_toks ps qs all, ← z1, ← z2] at fin
        rw [oneLt'_eq]
        simp only [if_true]
        have lr := room_in rm
        refine wpAny_bind (wpAny_cRoomFor (room_here rm) (wpAny_bind ?_))
        refine wpAny_callSpecialIfBound?_slot (T := "tuple") ⟨_, g1, g2⟩ PySem.F.slot_tuple_lt ?_
        refine tup_below (same := pairEq ps qs) (below := fun i => dataLt (ps.getD i .none) (qs.getD i .none)) ⟨_, g1, g2, _, g3⟩ ⟨_, k1, k2, _, k3⟩ (fun i l1 l2 => ?_) (fun i l1 l2 ne => ?_) (wpAny_truthy_bool fin)
        · have z := eqAt_alikeAll ps qs A.in1 s us.toList ws.toList _ _ g4 k4 all lr i (by rw [Array.length_toList]; exact l1) (by rw [Array.length_toList]; exact l2)
          rw [Array.getElem_toList, Array.getElem_toList] at z
          exact z
        · have z := rcLt_alikeAll ps qs A.in1 s us.toList ws.toList _ _ g4 k4 all lr i (by rw [Array.length_toList]; exact l1) (by rw [Array.length_toList]; exact l2) ne
          rw [Array.getElem_toList, Array.getElem_toList] at z
          exact z
  | _ => simp [alike] at al
/-- tuples, void ones among them, can be sorted -/
theorem sorts_tuples {vs : List Value} {ds : List PyData} (e : EachIs (fun v d => ∃ as, Reads s.heap v d as) vs ds) (hal : AllAlike ds) (ht : ∀ d ∈ ds, isTupP d = true) (hu : ∀ d, d ∈ ds → A.units + d.depth < cLine) : SortsAt prog w A s (dataKind s.heap ds) vs := by
  by_cases hh : ds.all headed = true
  · refine SortsAt.data e hal (.inl fun d hd => ?_) hu
    have a := List.all_eq_true.mp hh d hd
    unfold headed at a
    split at a
    · exact ⟨_, _, rfl⟩
    · cases a
  · have hh : ds.all headed = false := by simpa using hh
    cases ds with
    | nil => cases hh
    | cons d0 ds =>
      have room : ∀ {d d' : PyData}, d ∈ d0 :: ds → A.units + min d.depth d'.depth < cLine := fun {d d'} hd => Nat.lt_of_le_of_lt (Nat.add_le_add_left (Nat.min_le_left _ _) _) (hu d hd)
      refine ⟨fun v hv => ?_, ⟨if headed d0 = true then general' else oneType', ?_, fun h2 E Q hq => tup_kind e ht hh hq⟩⟩
      · obtain ⟨y, ym, as, r⟩ := e.left v hv
        exact ⟨_, dataKind_some hal ym r⟩
      · intro E x y a b Q ha hb hq
        obtain ⟨y1, c1, m1, r1, rfl⟩ := dataKind_inv ha
        obtain ⟨y2, c2, m2, r2, rfl⟩ := dataKind_inv hb
        cases headed d0 with
        | true =>
          show wpAny (model prog w) A (oneLt' false x y) Q E s
          refine oneLt_alike (fun z => by cases z) r1 r2 (hal y1 m1 y2 m2) (fun z => ?_) (room m1) hq
          have q := ht y1 m1
          rw [z] at q; cases q
        | false =>
          show wpAny (model prog w) A (oneLt' true x y) Q E s
          exact tup_less (ht y1 m1) r1 r2 (hal y1 m1 y2 m2) (room m1) hq
end
end Sim

namespace Sim
open PySem L2
/-! ### sorted, of alike data -/
def pairUp (st : Sto) (xs : List D) : Option (List (D × PyData)) := mapO (fun x => (toP st 40 x).map fun d => (x, d)) xs
def alikes (ds : List PyData) : Bool := ds.all fun d => ds.all fun e => PySem.W.alike d e
def flatKey : PyData → Bool
  | .none => false
  | .tuple _ => false
  | _ => true
def sortable (ds : List PyData) : Bool := alikes ds && (ds.all isTupP || ds.all flatKey) && ds.all fun d => decide (d.depth ≤ 40)
def sortD (ps : List (D × PyData)) : List D := (ps.mergeSort (PySem.W.dataLe false (·.2))).map (·.1)
def bSorted1 (ds : List D) (st : Sto) : R :=
  match ds with
  | [x] => (lstOf x st).bind fun xs => (pairUp st xs).bind fun ps => if sortable (ps.map (·.2)) = true then alloc (.lst (sortD ps)) st else none
  | _ => none
section
variable {X : Cx} {ρ : Rho} {st : Sto} {H : Hp} {σ : L2.St} {s : Shared} {pins : List (Addr × Obj)}
/-- a value, what stands for it, and what it reads as -/
structure R1 (X : Cx) (ρ : Rho) (H : Hp) (s : Shared) (u : Value) (b : D × V × PyData) : Prop where
  r : RelV b.2.1 u
  d : DR X.K ρ H b.1 b.2.1
  p : ∃ as, Reads s.heap u b.2.2 as
theorem r1_build (S : SR X.K ρ st H) (I : Inv X pins σ H s) : ∀ {xs : List D} {ys : List V} {its : List Value} {ps : List (D × PyData)}, DRs X.K ρ H xs ys → Vals ys its → pairUp st xs = some ps →
    ∃ bs : List (D × V × PyData), PySem.W.EachIs (R1 X ρ H s) its bs ∧ bs.map (fun b => (b.1, b.2.2)) = ps
  | [], _, _, _, r, v, h => by
    cases r; cases v; cases h
    exact ⟨[], .nil, rfl⟩
  | x :: xs, _, _, _, r, v, h => by
    cases r with
    | cons r1 rs =>
      cases v with
      | cons v1 vs =>
        have h : (Option.map _ (toP st 40 x)).bind _ = _ := h
        obtain ⟨p, e1, h2⟩ := bind_some h
        obtain ⟨d, e3, e4⟩ := map_some' e1
        obtain ⟨ps, e5, e6⟩ := map_some' h2
        subst e4 e6
        obtain ⟨bs, b1, b2⟩ := r1_build S I rs vs e5
        obtain ⟨as, rd⟩ := Dp.reads I d _ _ (toP_ok S _ _ _ _ e3 r1) v1
        exact ⟨(x, _, d) :: bs, .cons ⟨v1, r1, as, rd⟩ b1, by rw [List.map_cons, b2]⟩
theorem r1_split : ∀ {us : List Value} {bs : List (D × V × PyData)}, PySem.W.EachIs (R1 X ρ H s) us bs → Vals (bs.map (·.2.1)) us ∧ DRs X.K ρ H (bs.map (·.1)) (bs.map (·.2.1))
  | _, _, .nil => ⟨.nil, .nil⟩
  | _, _, .cons a t => ⟨.cons a.r (r1_split t).1, .cons a.d (r1_split t).2⟩
theorem each_imp {α β : Type} {R S : α → β → Prop} (h : ∀ a b, R a b → S a b) : ∀ {as : List α} {bs : List β}, PySem.W.EachIs R as bs → PySem.W.EachIs S as bs
  | _, _, .nil => .nil
  | _, _, .cons a t => .cons (h _ _ a) (each_imp h t)
theorem each_to {α β γ : Type} {R : α → γ → Prop} (f : β → γ) : ∀ {as : List α} {bs : List β}, PySem.W.EachIs (fun a b => R a (f b)) as bs → PySem.W.EachIs R as (bs.map f)
  | _, _, .nil => .nil
  | _, _, .cons a t => .cons a (each_to f t)
theorem sortable_of {ds : List PyData} (h : sortable ds = true) : PySem.W.AllAlike ds ∧ ((∀ d ∈ ds, isTupP d = true) ∨ ∀ d ∈ ds, d ≠ .none ∧ ∀ xs, d ≠ .tuple xs) ∧ ∀ d ∈ ds, d.depth ≤ 40 := by
  unfold sortable at h
  rw [Bool.and_eq_true, Bool.and_eq_true] at h
  obtain ⟨⟨h1, h2⟩, h3⟩ := h
  refine ⟨fun d hd e he => ?_, ?_, fun d hd => ?_⟩
  · have a := List.all_eq_true.mp h1 d hd
    exact List.all_eq_true.mp a e he
  · rw [Bool.or_eq_true] at h2
    rcases h2 with h2 | h2
    · exact .inl fun d hd => List.all_eq_true.mp h2 d hd
    · refine .inr fun d hd => ?_
      have a := List.all_eq_true.mp h2 d hd
      refine ⟨fun e => ?_, fun xs e => ?_⟩ <;> subst e <;> cases a
  · have a := List.all_eq_true.mp h3 d hd
    exact of_decide_eq_true a
theorem sorts_of {prog : Program} {w : World} {A : Around} {s : Shared} {vs : List Value} {ds : List PyData} (e : PySem.W.EachIs (fun v d => ∃ as, Reads s.heap v d as) vs ds) (hal : PySem.W.AllAlike ds) (ht : (∀ d ∈ ds, isTupP d = true) ∨ ∀ d ∈ ds, d ≠ .none ∧ ∀ xs, d ≠ .tuple xs) (hu : ∀ d, d ∈ ds → A.units + d.depth < cLine) :
    PySem.W.SortsAt prog w A s (PySem.W.dataKind s.heap ds) vs := by
  rcases ht with ht | ht
  · exact sorts_tuples e hal ht hu
  · exact PySem.W.SortsAt.data e hal (.inr ht) hu
theorem kb_sorted (hu : X.A.units + 64 < cLine) : CallR X (.builtin "sorted") (rB X.K bSorted1) := by
  rintro pins s σ H vs us Q I r ⟨ρ, st, ds, d, st', S, rd, e, k⟩
  unfold bSorted1 at e
  split at e
  · obtain ⟨v, rfl, rv⟩ := one_of rd rfl
    obtain ⟨xs, e1, e⟩ := bind_some e
    obtain ⟨ps, e2, e⟩ := bind_some e
    obtain ⟨c, e⟩ := ite_some e
    cases e
    obtain ⟨a, ys, rfl, sq, t⟩ := lstOf_ok S rv e1
    obtain ⟨its, rvs, hl, hz⟩ := I.list sq
    rw [Vals.ref1 r]
    obtain ⟨bs, b1, b2⟩ := r1_build S I t rvs e2
    obtain ⟨k1, k2, k3⟩ := sortable_of c
    have hzi : its.length ≤ sizeLine := by rw [← rvs.length]; exact hz
    have ea : (ps.map (·.2)) = bs.map (fun b => b.2.2) := by rw [← b2, List.map_map]; rfl
    have rd2 : PySem.W.EachIs (fun u b => ∃ as, Reads (PySem.W.sortingHeap (PySem.W.copyHeap s.heap its) (s.heap.objs.size + 1) its) u b as) its (ps.map (·.2)) := by
      rw [ea]
      exact each_to (fun b : D × V × PyData => b.2.2) (each_imp (fun u b h => let ⟨as, q⟩ := h.p; ⟨as, PyProof.Rows.Reads.keeps (fun _ _ e => PySem.W.sorting_copy_old e) q⟩) b1)
    refine PySem.W.sorted_vals hl.isList (sorts_of rd2 k1 k2 fun d hd => ?_) hzi ?_
    · have a1 := k3 d hd
      show X.A.units + 1 + 1 + d.depth < cLine
      omega
    have hk : PySem.W.EachIs (fun v (b : D × V × PyData) => (PySem.W.dataKind (PySem.W.sortingHeap (PySem.W.copyHeap s.heap its) (s.heap.objs.size + 1) its) (ps.map (·.2))).keyOf v = some (PySem.W.keyToks b.2.2)) its bs := by
      refine PySem.W.each_of_map (R := fun v d => (PySem.W.dataKind (PySem.W.sortingHeap (PySem.W.copyHeap s.heap its) (s.heap.objs.size + 1) its) (ps.map (·.2))).keyOf v = some (PySem.W.keyToks d)) (fun b : D × V × PyData => b.2.2) ?_
      have q := PySem.W.each_keys k1 rd2
      rw [← ea]
      exact q
    have srt := PySem.W.sortVals_each (κ := PySem.W.dataKind (PySem.W.sortingHeap (PySem.W.copyHeap s.heap its) (s.heap.objs.size + 1) its) (ps.map (·.2))) (rev := false) (fun b : D × V × PyData => PySem.W.keyToks b.2.2) b1 hk
    generalize hout : PySem.W.sortVals _ false its its = out at srt ⊢
    obtain ⟨w1, w2⟩ := r1_split srt
    obtain ⟨ep, he⟩ := PyProof.Rows.sortedAll_at s.heap its out.toArray
    have sd : sortD ps = (bs.mergeSort (PySem.W.sortLe (PyProof.Rows.listOrd PyProof.Rows.itemOrd) false (fun b : D × V × PyData => PySem.W.keyToks b.2.2))).map (·.1) := by
      unfold sortD
      rw [← b2, ← PySem.W.sort_maps (r := PySem.W.sortLe (PyProof.Rows.listOrd PyProof.Rows.itemOrd) false (fun b : D × V × PyData => PySem.W.keyToks b.2.2)) (fun b : D × V × PyData => (b.1, b.2.2)) (fun _ _ _ _ => rfl), List.map_map]
      rfl
    have q := k.lst S (by rw [sd]; exact w2) (s.heap.objs.size + 1) (I.hok.fresh (Nat.le_succ _))
    refine ⟨.ref _, upd H (s.heap.objs.size + 1) (.lst _), I.laid (t' := s.toks) (fun _ _ => PyProof.Rows.sortedAll_old) (Nat.le_succ _) ⟨?_, out, ep, w1, he⟩, rfl, q⟩
    rw [w1.length]
    have : out.length = its.length := by
      have z := srt.length
      rw [z, List.length_mergeSort, b1.length]
    rw [this]; exact hzi
  · cases e
end
end Sim

namespace Sim
open PySem L2 PySem.Spec PyProof.Rows
/-! ### enumerate of a tuple -/
abbrev enO (it : Addr) : Obj := { cls := .type "enumerate", data := .fields #[.none, .bool false, .ref it, rawInt 0, .none, .none] }
theorem enT_new {v : Value} {o : Obj} {Z : Heap → Prop} (B : Begins v o Z) : Meets (Builtin.«enumerate.__new__» ⟨[.type "enumerate", v], []⟩)
    (fun _ R s => Z s.heap ∧ R (.ok (.ret (.ref (s.heap.push o).objs.size))) { s with heap := (s.heap.push o).push (enO s.heap.objs.size) }) :=
  .of_wp fun pr w A R s z => by
    obtain ⟨hp, g, d, tk, os⟩ := s
    obtain ⟨z1, z2⟩ := z
    have hsub := sub_enumerate
    have gone : ∀ {A' : Around} {E Q : Value → Shared → Prop}, Q (.ref hp.objs.size) ⟨hp.push o, g, d, tk, os⟩ → wpAny (model pr w) A' (pyIter v) Q E ⟨hp, g, d, tk, os⟩ := fun q => B.iter pr w _ _ ⟨hp, g, d, tk, os⟩ _ z1 q
    wp_walk using gone
    refine wpAny_stack_any fun st => wpAny_pure ?_
    split
    · rename_i c _ _ _ _ _
      cases (c == Value.type "enumerate")
      all_goals
        wp_walk using gone
        exact ⟨_, rfl, z2⟩
    · wp_walk using gone
      exact ⟨_, rfl, z2⟩
theorem call_enT {pr : Program} {w : World} {A : Around} {E : Value → Shared → Prop} {s : Shared} {v : Value} {o : Obj} {Z : Heap → Prop} {Q : Value → Shared → Prop} (B : Begins v o Z) (z1 : Z s.heap)
    (q : ∀ h', IsEnum h' (s.heap.objs.size + 1) s.heap.objs.size 0 .none → h'.get? s.heap.objs.size = some o → (∀ b x, s.heap.get? b = some x → h'.get? b = some x) → Q (.ref (s.heap.objs.size + 1)) { s with heap := h' }) :
    wpAny (model pr w) A (call (.type "enumerate") [v]) Q E s := by
  have hz : (s.heap.push o).objs.size = s.heap.objs.size + 1 := Heap.size_push ..
  have at1 : IsEnum ((s.heap.push o).push (enO s.heap.objs.size)) (s.heap.objs.size + 1) s.heap.objs.size 0 .none := by
    have := Heap.get?_push_size (s.heap.push o) (o := enO s.heap.objs.size) rfl
    rw [hz] at this; exact this
  refine callType_new F.called_enumerate (by decide) (F.typeCall_enumerate_1 _) (F.newCall_enumerate_1 _) (fun x => F.args_object_init_2 x _) F.entry_enumerate_new (enT_new B) ⟨z1, ?_⟩
  rw [hz]
  exact ⟨⟨_, at1, rfl⟩, q _ at1 (Heap.get?_push_of_some _ (Heap.get?_push_size _ B.free)) fun b x y => Heap.get?_push_of_some _ (Heap.get?_push_of_some _ y)⟩
/-- the tuple at a, each item in a new pair -/
def ItE (K : Frg) (a : Addr) : It :=
  ⟨fun i H => ∃ (xs : List V) (x : V), SqT K H a xs ∧ xs[i]? = some x,
    fun i H v H' => ∃ T x, v = .ref T ∧ H T = none ∧ H' = upd H T (.tup [.int (i : Nat), x]) ∧ ∀ xs, SqT K H a xs → xs[i]? = some x,
    fun i H => ∃ xs : List V, SqT K H a xs ∧ xs.length = i⟩
theorem isTuple_of {h : Heap} {a : Addr} {its : Array Value} (p : IsTup h a its) : h.IsTuple a its := p
theorem turn_enT {P : Program} {w : World} {K : Frg} {elts : List Expr} {kk : Nat} {tpos : Pos} (a e it : Addr) :
    Turn P w K (.Tuple elts kk tpos) (ItE K a) [e, it] e (fun i h => (∃ old, IsEnum h e it ((i : Nat) : Int) old) ∧ h.IsTupleIter it a i ∧ e ≠ it ∧ a ≠ it ∧ a ≠ e) where
  mem := by simp
  obj := fun i h st b hb => by
    obtain ⟨⟨old, z1⟩, ⟨o, z2, z3, z4⟩, _⟩ := st
    have hb : b = e ∨ b = it := by simpa using hb
    rcases hb with rfl | rfl
    · exact ⟨_, z1, fun v q => nomatch q⟩
    · exact ⟨o, z2, fun v q => by rw [z4] at q; cases q⟩
  keep := fun i h h' st k => let ⟨⟨old, z1⟩, z2, z3⟩ := st; ⟨⟨old, k e (by simp) _ z1⟩, z2.at fun o q => k it (by simp) o q, z3⟩
  item := by
    intro X hP hw hK hc i pins s σ H E I hf st hg
    subst hP hw hK
    obtain ⟨⟨old, z1⟩, z2, ne1, ne2, ne3⟩ := st
    obtain ⟨xs, x, hq, hx⟩ := hg
    obtain ⟨its, rv, p, hz⟩ := I.tuple hq
    obtain ⟨u, hu, ru⟩ := rv.get hx
    have l1 : e < s.heap.objs.size := Heap.lt_size z1
    have l2 : it < s.heap.objs.size := by obtain ⟨_, q, _⟩ := id z2; exact Heap.lt_size q
    have hi : i < its.toArray.size := by
      have := (List.getElem?_eq_some_iff.mp hu).1
      simpa using this
    refine wpAny_pyNext_enum_itemD (Draws.tuple (by first | exact I.ok.hd hc | exact hc) it a ne2 its.toArray) z1 ⟨z2, isTuple_of p⟩ hi ne1 (by simp [ne1, Ne.symm ne3]) fun y h1 tk hy ho st1 hT hsz hk => ?_
    have hyu : y = u := by
      have hy : its.toArray[i]? = some y := hy
      have : its[i]? = some y := by simpa using hy
      rw [hu] at this; exact (Option.some.inj this).symm
    subst hyu
    refine ⟨_, rfl, wpAny_letOwnedTupleGo_enum (s := { s with heap := h1, toks := tk + 1 }) ho fun h2 he2 sb => ?_⟩
    have hT2 : h2.get? s.heap.objs.size = some { cls := .type "tuple", data := .seq #[.int i tk, y] } := (sb.2 _ (Nat.ne_of_gt l1)).trans hT
    have new : ObjOk X.prog X.w (upd H s.heap.objs.size (.tup [.int (i : Nat), x])) h2 s.heap.objs.size (.tup [.int (i : Nat), x]) := ⟨(by decide : (2 : Nat) ≤ sizeLine), [.int i tk, y], .cons ⟨_, rfl⟩ (.cons ru .nil), ⟨_, hT2, rfl, _, rfl⟩⟩
    have I1 : Inv X pins σ (upd H s.heap.objs.size (.tup [.int (i : Nat), x])) { s with heap := h2, toks := tk + 1 } :=
      I.turnedNew (ch := [e, it]) (fun b ob hb q => (sb.2 b (fun z => hb (by simp [z]))).trans (hk b ob (fun z => hb (by simp [z])) (fun z => hb (by simp [z])) q)) hf (Nat.le_refl _) new
    refine ⟨.ref s.heap.objs.size, _, I1, rfl, ⟨_, x, rfl, I.hok.fresh (Nat.le_refl _), rfl, fun ys hy => by rw [I.tuple_inj hy hq]; exact hx⟩, ⟨⟨y, ?_⟩, st1.1.at fun o q => (sb.2 it (Ne.symm ne1)).trans q, ne1, ne2, ne3⟩, fun b hb => ?_⟩
    · rw [show ((i + 1 : Nat) : Int) = (i : Int) + 1 by omega]; exact he2
    · have hb2 : b < s.heap.objs.size := by
        have : b = e ∨ b = it := by simpa using hb
        rcases this with rfl | rfl
        · exact l1
        · exact l2
      rw [upd_ne (Nat.ne_of_lt hb2)]
      exact (hf b hb).1
  done := by
    intro X hP hw hK hc i pins s σ H E I hf st hg
    subst hP hw hK
    obtain ⟨⟨old, z1⟩, z2, ne1, ne2, ne3⟩ := st
    obtain ⟨xs, hq, hx⟩ := hg
    obtain ⟨its, rv, p, hz⟩ := I.tuple hq
    obtain ⟨f0, f1, f2, f3, f4, f5⟩ := hf it (by simp)
    have hl := rv.length
    have hi : i = its.toArray.size := by simp; omega
    subst hi
    exact wpAny_pyNext_enum_endD (Draws.tuple (by first | exact I.ok.hd hc | exact hc) it a ne2 its.toArray) z1 ⟨z2, isTuple_of p⟩ fun h' eb => ⟨rfl, I.turned (t' := s.toks) (fun b o hb q => eb b o hb q) f0 f1 f3 f4 f5⟩
  self := fun A i s Q E st h => let ⟨⟨_, z1⟩, _⟩ := st; wpAny_pyIter_enum z1 h
def iEnT (K : Frg) (ta : TA) : TI := fun σ H R => ta σ H fun vs H1 => ∃ a xs, vs = [.ref a] ∧ SqT K H1 a xs ∧ R (ItE K a) H1
theorem pi_enT {X : Cx} {e : Expr} {ta : TA} {p pos tpos : Pos} {elts : List Expr} {kk : Nat} (hg : Gl X "enumerate") (hm : X.mg "enumerate" = none) (ha : PA X [e] ta) (hs : starEach [e] X.env = [(false, eval e X.env)]) :
    PI X (.Tuple elts kk tpos) (.Call (.Name "enumerate" p) [e] [] pos) (iEnT X.K ta) := by
  refine ⟨fun pins s σ H R I h => ?_⟩
  refine Call_ (ld_blt I hg hm boot_enumerate (PyProof.Rows.callWith_type1 (thn (ha.run pos pins s σ H _ I h) fun us s1 z => ?_) hs rfl))
  obtain ⟨vs, H1, I1, r1, a, xs, rfl, hq, q⟩ := z
  cases r1 with
  | cons r rr =>
    cases rr
    cases r
    obtain ⟨its, rv, p', hz⟩ := I1.tuple hq
    have la : a < s1.heap.objs.size := by obtain ⟨o, q, _⟩ := id p'; exact Heap.lt_size q
    refine call_enT (begins_tuple a its.toArray) (isTuple_of p') fun h' he hit hk => wpAny_pyIter_enum he ?_
    have I2 : Inv X pins σ H1 { s1 with heap := h' } := I1.kept (t' := s1.toks) hk
    refine ⟨s1.heap.objs.size + 1, [s1.heap.objs.size + 1, s1.heap.objs.size], _, _, H1, rfl, I2, turn_enT a (s1.heap.objs.size + 1) s1.heap.objs.size, ⟨⟨.none, he⟩, ⟨_, hit, rfl, rfl⟩, Nat.succ_ne_self _, Nat.ne_of_lt la, Nat.ne_of_lt (Nat.lt_succ_of_lt la)⟩, fun b hb => ?_, q⟩
    have : b = s1.heap.objs.size + 1 ∨ b = s1.heap.objs.size := by simpa using hb
    have hle : s1.heap.objs.size ≤ b := this.elim (fun z => z ▸ Nat.le_add_right _ _) (fun z => z ▸ Nat.le_refl _)
    exact I1.fpOk hle (I1.hok.fresh hle)
end Sim

namespace Sim
open PySem L2

/-! ### targets, walks -/
abbrev SemG := D → LocD → Option LocD
abbrev SemGs := List D → LocD → Option LocD
def gvName (i : Nat) : SemG := fun x η => some (η.set i (some x))
def gvNil : SemGs := fun xs η => match xs with
  | [] => some η
  | _ => none
def gvCons (g : SemG) (gs : SemGs) : SemGs := fun xs η => match xs with
  | x :: r => (g x η).bind fun η1 => gs r η1
  | [] => none
def gvTup (gs : SemGs) : SemG := fun x η => match x with
  | .tup xs => gs xs η
  | _ => none
structure Src where
  xs : List D
  gd : Option (Nat × O)
abbrev SemI := LocD → Sto → Option (Src × Sto)
def okGd (gd : Option (Nat × O)) (st : Sto) : Prop := ∀ p, gd = some p → st[p.1]? = some p.2
theorem okGd_none {st : Sto} : okGd none st := fun _ h => nomatch h
@[irreducible] noncomputable instance okGd_dec : (gd : Option (Nat × O)) → (st : Sto) → Decidable (okGd gd st)
  | none, _ => .isTrue okGd_none
  | some _, _ => Classical.propDecidable _
/-- the signs of a text -/
def sigs (z : Str) : List D := z.cps.toList.map fun c => .str ⟨#[c]⟩
def srcOf (x : D) (st : Sto) : Option Src :=
  match x with
  | .tup xs => some ⟨xs, none⟩
  | .ktup xs => some ⟨xs, none⟩
  | .ref n => match st[n]? with
    | some (.lst xs) => some ⟨xs, some (n, .lst xs)⟩
    | some (.frz xs) => some ⟨xs, some (n, .frz xs)⟩
    | _ => none
  | .str z => some ⟨sigs z, none⟩
  | _ => none
def iPlain (fa : SemE) : SemI := fun η st => (fa η st).bind fun p => (srcOf p.1 p.2).map fun s => (s, p.2)
def rngD (lo : Int) (n : Nat) (c : Int) : List D := (List.range n).map fun i => .int (lo + (i : Nat) * c)
def inR (i : Int) : Prop := -(2 ^ 62) ≤ i ∧ i < 2 ^ 62
instance (i : Int) : Decidable (inR i) := by unfold inR; exact inferInstance
def rngOf (ds : List D) : Option (List D) :=
  match ds with
  | [.int j] => if inR j then some (rngD 0 j.toNat 1) else none
  | [.int i, .int j] => if inR i ∧ inR j then some (rngD i (j - i).toNat 1) else none
  | [.int i, .int j, .int c] => if inR i ∧ inR j ∧ c = -1 then some (rngD i (i - j).toNat (-1)) else none
  | _ => none
def iRng (fs : SemA) : SemI := fun η st => (fs η st).bind fun p => (rngOf p.1).map fun xs => (⟨xs, none⟩, p.2)
def enumD (xs : List D) : List D := xs.zipIdx.map fun p => .tup [.int (p.2 : Nat), p.1]
/-- enumerate of a list -/
def iEn (fa : SemE) : SemI := fun η st => (fa η st).bind fun p => match p.1 with
  | .ref _ => (srcOf p.1 p.2).map fun s => (⟨enumD s.xs, s.gd⟩, p.2)
  | .tup xs => some (⟨enumD xs, none⟩, p.2)
  | .ktup xs => some (⟨enumD xs, none⟩, p.2)
  | _ => none
/-- reversed of a list -/
def iRv (fa : SemE) : SemI := fun η st => (fa η st).bind fun p => match p.1 with
  | .ref _ => (srcOf p.1 p.2).map fun s => (⟨s.xs.reverse, s.gd⟩, p.2)
  | _ => none

/-- an iterator gives just these -/
structure Yl (K : Frg) (J : It) (ρ : Rho) (H : Hp) (s : Src) : Prop where
  w : ∃ (G : Hp → Prop) (Y : Nat → Hp → V → Hp → Prop), Walk J s.xs.length G Y ∧
    (∀ ρ' st' H', Gr K ρ H ρ' H' → SR K ρ' st' H' → okGd s.gd st' → G H') ∧
    ∀ ρ' st' H' i d x H'', Gr K ρ H ρ' H' → SR K ρ' st' H' → okGd s.gd st' → s.xs[i]? = some d → Y i H' x H'' → Gr K ρ' H' ρ' H'' ∧ SR K ρ' st' H'' ∧ DR K ρ' H'' d x
def tIv (K : Frg) (f : SemI) : TI := fun σ H R => ∃ ρ η st s st', ER K ρ H η σ ∧ SR K ρ st H ∧ f η st = some (s, st') ∧
  ∀ ρ' H' J, Gr K ρ H ρ' H' → SR K ρ' st' H' → okGd s.gd st' → Yl K J ρ' H' s → R J H'
/-- only these slots are set -/
def tGv (K : Frg) (g : SemG) (is : List Nat) : TG := fun v σ H Q => ∃ ρ η x η', ER K ρ H η σ ∧ DR K ρ H x v ∧ g x η = some η' ∧
  ∀ σ', ER K ρ H η' σ' → σ'.length = σ.length → (∀ i, i ∉ is → σ'[i]? = σ[i]?) → Q σ' H
def tGsv (K : Frg) (g : SemGs) (is : List Nat) : TGs := fun vs σ H Q => ∃ ρ η xs η', ER K ρ H η σ ∧ DRs K ρ H xs vs ∧ g xs η = some η' ∧
  ∀ σ', ER K ρ H η' σ' → σ'.length = σ.length → (∀ i, i ∉ is → σ'[i]? = σ[i]?) → Q σ' H

theorem ER.set {K : Frg} {ρ : Rho} {H : Hp} {η : LocD} {σ : L2.St} (E : ER K ρ H η σ) {x : D} {v : V} (r : DR K ρ H x v) (i : Nat) : ER K ρ H (η.set i (some x)) (σ.set i (some v)) := by
  refine ⟨by rw [List.length_set, List.length_set]; exact E.1, fun j d h => ?_⟩
  by_cases q : i = j
  · subst q
    by_cases z : i < η.length
    · rw [List.getElem?_set_self z] at h
      cases h
      exact ⟨v, List.getElem?_set_self (by rw [E.1]; exact z), r⟩
    · rw [List.getElem?_eq_none (by rw [List.length_set]; omega)] at h; cases h
  · rw [List.getElem?_set_ne q] at h ⊢
    exact E.2 j d h

def wipeD (η : LocD) : List Nat → LocD
  | [] => η
  | v :: vs => (wipeD η vs).set v none
theorem ER.wipe {K : Frg} {ρ : Rho} {H : Hp} {η : LocD} {σ : L2.St} (E : ER K ρ H η σ) : ∀ vs : List Nat, ER K ρ H (wipeD η vs) (L2.wipe σ vs)
  | [] => E
  | v :: vs => by
    have ih := ER.wipe E vs
    refine ⟨by unfold wipeD L2.wipe; rw [List.length_set, List.length_set]; exact ih.1, fun j d h => ?_⟩
    unfold wipeD at h
    unfold L2.wipe
    by_cases q : v = j
    · subst q
      by_cases z : v < (wipeD η vs).length
      · rw [List.getElem?_set_self z] at h; cases h
      · rw [List.getElem?_eq_none (by rw [List.length_set]; omega)] at h; cases h
    · rw [List.getElem?_set_ne q] at h ⊢
      exact ih.2 j d h
theorem wipe_get {σ : L2.St} : ∀ {vs : List Nat} {i : Nat}, i ∉ vs → (L2.wipe σ vs)[i]? = σ[i]?
  | [], _, _ => rfl
  | v :: vs, i, h => by
    simp only [List.mem_cons, not_or] at h
    unfold L2.wipe
    rw [List.getElem?_set_ne (fun e => h.1 e.symm)]
    exact wipe_get h.2
theorem wipe_in {σ : L2.St} : ∀ {vs : List Nat} {i : Nat}, i ∈ vs → i < σ.length → (L2.wipe σ vs)[i]? = some none
  | v :: vs, i, h, hl => by
    unfold L2.wipe
    by_cases q : v = i
    · subst q; exact List.getElem?_set_self (by rw [wipe_length]; exact hl)
    · rw [List.getElem?_set_ne q]
      rcases List.mem_cons.mp h with e | h
      · exact absurd e.symm q
      · exact wipe_in h hl
theorem wipe_eq {σ σ' : L2.St} {vs is : List Nat} (hl : σ'.length = σ.length) (hs : ∀ i, i ∉ is → σ'[i]? = σ[i]?) (hi : ∀ i ∈ is, i ∈ vs) : L2.wipe σ' vs = L2.wipe σ vs := by
  apply List.ext_getElem?
  intro i
  by_cases h : i ∈ vs
  · by_cases z : i < σ.length
    · rw [wipe_in h z, wipe_in h (by rw [hl]; exact z)]
    · rw [List.getElem?_eq_none (by rw [wipe_length]; omega), List.getElem?_eq_none (by rw [wipe_length]; omega)]
  · rw [wipe_get h, wipe_get h]
    exact hs i fun q => h (hi i q)
theorem wipe_wipe {σ : L2.St} {vs : List Nat} : L2.wipe (L2.wipe σ vs) vs = L2.wipe σ vs :=
  wipe_eq (is := vs) (wipe_length _ _) (fun i h => wipe_get h) fun _ h => h

section
variable {X : Cx} {K : Frg}
theorem pgv_name {i : Nat} {x : Str} {pos : Pos} (hN : X.N.Nodup) (hi : X.N[i]? = some x) (hx : L2.Loc X.env.scope x) (hf : X.fn x = true ∨ X.env.scope.names.lookup x = some .local) : PG X (.Name x pos) (tGv X.K (gvName i) [i]) := by
  have h := pg_name (pos := pos) hN hi hx hf
  cases h with
  | mk run =>
    refine ⟨fun pins s σ H v u Q I r q => run pins s σ H v u Q I r ?_⟩
    obtain ⟨ρ, η, x, η', E, rd, e, k⟩ := q
    cases e
    exact k _ (E.set rd i) (by rw [List.length_set]) fun j hj => List.getElem?_set_ne (fun z => hj (by simp [z]))
theorem pgsv_nil : PGs X [] (tGsv X.K gvNil []) := by
  have h := pgs_nil (X := X)
  cases h with
  | mk run =>
    refine ⟨fun pins s σ H vs us Q I r q => run pins s σ H vs us Q I r ?_⟩
    obtain ⟨ρ, η, xs, η', E, rd, e, k⟩ := q
    cases rd with
    | nil => cases e; exact ⟨rfl, k σ E rfl fun _ _ => rfl⟩
    | cons a t => cases e
theorem pgsv_cons {e : Expr} {es : List Expr} {g : SemG} {gs : SemGs} {is js : List Nat} (h1 : PG X e (tGv X.K g is)) (h2 : PGs X es (tGsv X.K gs js))
    (hs : (assignEach (e :: es) X.env).map (·.2) = assign e X.env :: (assignEach es X.env).map (·.2)) : PGs X (e :: es) (tGsv X.K (gvCons g gs) (is ++ js)) := by
  have h := pgs_cons h1 h2 hs
  cases h with
  | mk run =>
    refine ⟨fun pins s σ H vs us Q I r q => run pins s σ H vs us Q I r ?_⟩
    obtain ⟨ρ, η, xs, η', E, rd, e, k⟩ := q
    cases rd with
    | nil => cases e
    | cons a t =>
      obtain ⟨η1, e1, e2⟩ := bind_some e
      refine ⟨_, _, rfl, ρ, η, _, η1, E, a, e1, fun σ1 E1 l1 s1 => ⟨ρ, η1, _, η', E1, t, e2, fun σ2 E2 l2 s2 => k σ2 E2 (l2.trans l1) fun i hi => ?_⟩⟩
      rw [List.mem_append, not_or] at hi
      rw [s2 i hi.2, s1 i hi.1]
theorem gs_len {ts : List Expr} {gs : SemGs} {is : List Nat} {n : Nat} : True := trivial
theorem pgv_tup {es : List Expr} {k : Nat} {pos : Pos} {gs : SemGs} {is : List Nat} {n : Nat} (hc : X.calm = true) (h : PGs X es (tGsv X.K gs is)) (hl : ∀ xs η η', gs xs η = some η' → xs.length = n)
    (hn : (assignEach es X.env).length = n) (hst : (assignEach es X.env).findIdx? (·.1) = none) : PG X (.Tuple es k pos) (tGv X.K (gvTup gs) is) := by
  have h := pg_tup (k := k) (pos := pos) hc h hn hst
  cases h with
  | mk run =>
    refine ⟨fun pins s σ H v u Q I r q => run pins s σ H v u Q I r ?_⟩
    obtain ⟨ρ, η, x, η', E, rd, e, k⟩ := q
    cases rd with
    | tup sa ta =>
      exact ⟨_, _, rfl, .of sa, by rw [← ta.length]; exact hl _ _ _ e, ρ, η, _, η', E, ta, e, k⟩
    | _ => cases e
end

/-! ### walks -/
section
variable {X : Cx} {tg : Expr}
theorem PI.imp {e : Expr} {t t' : TI} (h : PI X tg e t) (k : ∀ σ H R, t' σ H R → t σ H R) : PI X tg e t' := by
  cases h with
  | mk run => exact ⟨fun pins s σ H R I q => run pins s σ H R I (k σ H R q)⟩
theorem PI.or {e : Expr} {t t' : TI} (h : PI X tg e t) (h' : PI X tg e t') : PI X tg e (fun σ H R => t σ H R ∨ t' σ H R) := by
  cases h with
  | mk run => cases h' with
    | mk run' =>
      refine ⟨fun pins s σ H R I q => ?_⟩
      rcases q with q | q
      · exact run pins s σ H R I q
      · exact run' pins s σ H R I q
theorem tEv.then {K : Frg} {f : SemE} {σ : L2.St} {H : Hp} {ρ : Rho} {η : LocD} {st st' : Sto} {d : D} (E : ER K ρ H η σ) (S : SR K ρ st H) (e : f η st = some (d, st')) {Q : VK} (k : Then K ρ H d st' Q) : tEv K f σ H Q := ⟨ρ, η, st, d, st', E, S, e, k⟩
theorem yl_tup {K : Frg} {ρ : Rho} {H : Hp} {a : Addr} {xs : List D} {vs : List V} (s : SqT K H a vs) (sg : ∀ ρ' H', Gr K ρ H ρ' H' → SqT K H' a vs) (t : DRs K ρ H xs vs) : Yl K (Itt K a) ρ H ⟨xs, none⟩ := by
  refine ⟨⟨_, _, by rw [t.length]; exact walk_tup (K := K) (a := a) (xs := vs), fun ρ' st' H' g S _ => sg _ _ g, fun ρ' st' H' i d x H'' g S _ hd y => ?_⟩⟩
  obtain ⟨e, hx⟩ := y
  rw [e]
  obtain ⟨v, hv, r⟩ := t.get hd
  rw [hv] at hx; cases hx
  exact ⟨Gr.refl _ _ _, S, r.mono g⟩
theorem gd_seq {K : Frg} {ρ' : Rho} {st' : Sto} {H' : Hp} {n : Nat} {a : Addr} {xs : List D} {o : O} (ho : o = .lst xs ∨ o = .frz xs) (S' : SR K ρ' st' H') (ea : ρ'[n]? = some a) (h : st'[n]? = some o) :
    ∃ vs, SqL K H' a vs ∧ DRs K ρ' H' xs vs := S'.seq (by rcases ho with rfl | rfl <;> simp [h]) ea
theorem yl_lst {K : Frg} {ρ : Rho} {H : Hp} {n : Nat} {a : Addr} {xs : List D} {o : O} (ho : o = .lst xs ∨ o = .frz xs) (ea : ρ[n]? = some a) : Yl K (Itl K a) ρ H ⟨xs, some (n, o)⟩ := by
  refine ⟨⟨fun H => ∃ ws, SqL K H a ws ∧ ws.length = xs.length, fun i H x H' => H' = H ∧ ∀ ws, SqL K H a ws → ws[i]? = some x, ?_, ?_, ?_⟩⟩
  · refine ⟨fun i H hi ⟨ws, q, l⟩ => ⟨ws, ws[i]'(by rw [l]; exact hi), q, by simp⟩, fun H ⟨ws, q, l⟩ => ⟨ws, q, Nat.le_of_eq l⟩, fun i H x H' _ _ y => y⟩
  · intro ρ' st' H' g S' ok
    obtain ⟨ws, q, t⟩ := gd_seq ho S' (g.rho _ _ ea) (ok _ rfl)
    exact ⟨ws, q, t.length.symm⟩
  · rintro ρ' st' H' i d x H'' g S' ok hd ⟨e, y⟩
    rw [e]
    obtain ⟨ws, q, t⟩ := gd_seq ho S' (g.rho _ _ ea) (ok _ rfl)
    obtain ⟨v, hv, r⟩ := t.get hd
    rw [y ws q] at hv; cases hv
    exact ⟨Gr.refl _ _ _, S', r⟩
theorem enum_get {xs : List D} {i : Nat} {d : D} (h : (enumD xs)[i]? = some d) : ∃ x, xs[i]? = some x ∧ d = .tup [.int (i : Nat), x] := by
  unfold enumD at h
  rw [List.getElem?_map, List.getElem?_zipIdx] at h
  cases q : xs[i]? with
  | none => rw [q] at h; cases h
  | some x =>
    rw [q] at h
    refine ⟨x, rfl, ?_⟩
    simp at h
    exact h.symm
theorem enum_len (xs : List D) : (enumD xs).length = xs.length := by unfold enumD; simp
theorem yl_enum {K : Frg} {ρ : Rho} {H : Hp} {n : Nat} {a : Addr} {xs : List D} {o : O} (ho : o = .lst xs ∨ o = .frz xs) (ea : ρ[n]? = some a) : Yl K (Ite K a) ρ H ⟨enumD xs, some (n, o)⟩ := by
  refine ⟨⟨fun H => ∃ ws, SqL K H a ws ∧ ws.length = xs.length, fun i H v H' => ∃ T x, v = .ref T ∧ H T = none ∧ H' = upd H T (.tup [.int (i : Nat), x]) ∧ ∀ xs, SqL K H a xs → xs[i]? = some x, ?_, ?_, ?_⟩⟩
  · refine ⟨fun i H hi ⟨ws, q, l⟩ => ⟨ws, ws[i]'(by rw [l]; rw [enum_len] at hi; exact hi), q, by simp⟩, fun H ⟨ws, q, l⟩ => ⟨ws, q, by rw [enum_len]; exact Nat.le_of_eq l⟩, fun i H x H' _ _ y => y⟩
  · intro ρ' st' H' g S' ok
    obtain ⟨ws, q, t⟩ := gd_seq ho S' (g.rho _ _ ea) (ok _ rfl)
    exact ⟨ws, q, t.length.symm⟩
  · rintro ρ' st' H' i d x H'' g S' ok hd ⟨T, z, e, hT, e2, y⟩
    subst e e2
    obtain ⟨w, hw, rfl⟩ := enum_get hd
    obtain ⟨ws, q, t⟩ := gd_seq ho S' (g.rho _ _ ea) (ok _ rfl)
    obtain ⟨v, hv, r⟩ := t.get hw
    rw [y ws q] at hv; cases hv
    exact ⟨Gr.new hT, S'.new hT,   .tup upd_same (.cons (.int _) (.cons (r.mono (Gr.new hT)) .nil))⟩
theorem yl_enT {K : Frg} {ρ : Rho} {H : Hp} {a : Addr} {xs : List D} {vs : List V} (sg : ∀ ρ' H', Gr K ρ H ρ' H' → SqT K H' a vs) (t : DRs K ρ H xs vs) : Yl K (ItE K a) ρ H ⟨enumD xs, none⟩ := by
  have tl := t.length
  refine ⟨⟨fun H => SqT K H a vs, fun i H v H' => ∃ T x, v = .ref T ∧ H T = none ∧ H' = upd H T (.tup [.int (i : Nat), x]) ∧ vs[i]? = some x, ?_, ?_, ?_⟩⟩
  · refine ⟨fun i H hi q => ⟨vs, vs[i]'(by rw [enum_len] at hi; omega), q, by simp⟩, fun H q => ⟨vs, q, by rw [enum_len]; exact tl.symm⟩, fun i H x H' _ q y => ?_⟩
    obtain ⟨T, z, e, hT, e2, y⟩ := y
    exact ⟨T, z, e, hT, e2, y vs q⟩
  · exact fun ρ' st' H' g S' ok => sg _ _ g
  · rintro ρ' st' H' i d x H'' g S' ok hd ⟨T, z, e, hT, e2, y⟩
    subst e e2
    obtain ⟨w, hw, rfl⟩ := enum_get hd
    obtain ⟨v, hv, r⟩ := t.get hw
    rw [y] at hv; cases hv
    exact ⟨Gr.new hT, S'.new hT, .tup upd_same (.cons (.int _) (.cons ((r.mono g).mono (Gr.new hT)) .nil))⟩
theorem yl_rev {K : Frg} {ρ : Rho} {H : Hp} {n : Nat} {a : Addr} {xs : List D} {o : O} (ho : o = .lst xs ∨ o = .frz xs) (ea : ρ[n]? = some a) : Yl K (Itv K a xs.length) ρ H ⟨xs.reverse, some (n, o)⟩ := by
  refine ⟨⟨fun H => ∃ ws, SqL K H a ws ∧ ws.length = xs.length, fun i H x H' => H' = H ∧ ∀ ws, SqL K H a ws → ws[xs.length - 1 - i]? = some x, ?_, ?_, ?_⟩⟩
  · refine ⟨fun i H hi ⟨ws, q, l⟩ => ?_, fun H _ => by show xs.length ≤ xs.reverse.length; simp, fun i H x H' _ _ y => y⟩
    have hi : i < xs.length := by simpa using hi
    exact ⟨hi, ws, ws[xs.length - 1 - i]'(by omega), q, by simp [show xs.length - 1 - i < ws.length by omega]⟩
  · intro ρ' st' H' g S' ok
    obtain ⟨ws, q, t⟩ := gd_seq ho S' (g.rho _ _ ea) (ok _ rfl)
    exact ⟨ws, q, t.length.symm⟩
  · rintro ρ' st' H' i d x H'' g S' ok hd ⟨e, y⟩
    rw [e]
    obtain ⟨ws, q, t⟩ := gd_seq ho S' (g.rho _ _ ea) (ok _ rfl)
    have hi : i < xs.length := by have := (List.getElem?_eq_some_iff.mp hd).1; simpa using this
    have hd : xs[xs.length - 1 - i]? = some d := by rw [List.getElem?_reverse hi] at hd; exact hd
    obtain ⟨v, hv, r⟩ := t.get hd
    rw [y ws q] at hv; cases hv
    exact ⟨Gr.refl _ _ _, S', r⟩
theorem rng_get {lo : Int} {n : Nat} {c : Int} {i : Nat} {d : D} (h : (rngD lo n c)[i]? = some d) : i < n ∧ d = .int (lo + (i : Nat) * c) := by
  unfold rngD at h
  rw [List.getElem?_map] at h
  by_cases q : i < n
  · rw [List.getElem?_range q] at h
    exact ⟨q, (Option.some.inj h).symm⟩
  · rw [List.getElem?_eq_none (by simp; omega)] at h; cases h
theorem rng_len (lo : Int) (n : Nat) (c : Int) : (rngD lo n c).length = n := by unfold rngD; simp
theorem yl_rng {K : Frg} {ρ : Rho} {H : Hp} {lo : Int} {n : Nat} : Yl K (Itr lo n) ρ H ⟨rngD lo n 1, none⟩ := by
  refine ⟨⟨fun _ => True, fun i H x H' => H' = H ∧ x = .int (lo + i), by show Walk _ (rngD lo n 1).length _ _; rw [rng_len]; exact walk_range, fun _ _ _ _ _ _ => trivial, ?_⟩⟩
  rintro ρ' st' H' i d x H'' g S' ok hd ⟨e, y⟩
  obtain ⟨hi, rfl⟩ := rng_get hd
  subst e y
  rw [Int.mul_one]
  exact ⟨Gr.refl _ _ _, S', .int _⟩
theorem yl_rngC {K : Frg} {ρ : Rho} {H : Hp} {lo c : Int} {n : Nat} : Yl K (Itc lo c n) ρ H ⟨rngD lo n c, none⟩ := by
  refine ⟨⟨fun _ => True, fun i H x H' => H' = H ∧ x = .int (lo + (i : Nat) * c), by show Walk _ (rngD lo n c).length _ _; rw [rng_len]; exact walk_rangeC, fun _ _ _ _ _ _ => trivial, ?_⟩⟩
  rintro ρ' st' H' i d x H'' g S' ok hd ⟨e, y⟩
  obtain ⟨hi, rfl⟩ := rng_get hd
  subst e y
  exact ⟨Gr.refl _ _ _, S', .int _⟩
theorem src_split {x : D} {st : Sto} {s : Src} (h : srcOf x st = some s) : (∃ xs, (x = .tup xs ∨ x = .ktup xs) ∧ s = ⟨xs, none⟩) ∨ (∃ n xs o, x = .ref n ∧ (o = .lst xs ∨ o = .frz xs) ∧ st[n]? = some o ∧ s = ⟨xs, some (n, o)⟩) ∨ ∃ z, x = .str z ∧ s = ⟨sigs z, none⟩ := by
  cases x with
  | tup xs => cases h; exact .inl ⟨xs, .inl rfl, rfl⟩
  | ktup xs => cases h; exact .inl ⟨xs, .inr rfl, rfl⟩
  | ref n =>
    unfold srcOf at h
    cases q : st[n]? with
    | none => simp only [q] at h; cases h
    | some o =>
      cases o <;> simp only [q] at h <;> first | (cases h; done) | skip
      · cases h; exact .inr (.inl ⟨n, _, _, rfl, .inl rfl, q, rfl⟩)
      · cases h; exact .inr (.inl ⟨n, _, _, rfl, .inr rfl, q, rfl⟩)
  | str z => cases h; exact .inr (.inr ⟨z, rfl, rfl⟩)
  | _ => cases h
theorem okGd_some {n : Nat} {o : O} {st : Sto} (h : st[n]? = some o) : okGd (some (n, o)) st := fun p e => by cases e; exact h
theorem sigs_len (z : Str) : (sigs z).length = z.cps.size := by unfold sigs; simp
theorem yl_str {K : Frg} {ρ : Rho} {H : Hp} {z : Str} : Yl K (Its z) ρ H ⟨sigs z, none⟩ := by
  refine ⟨⟨fun _ => True, fun i H x H' => H' = H ∧ ∃ c, z.cps[i]? = some c ∧ x = .str ⟨#[c]⟩, by show Walk _ (sigs z).length _ _; rw [sigs_len]; exact walk_str, fun _ _ _ _ _ _ => trivial, ?_⟩⟩
  rintro ρ' st' H' i d x H'' g S' ok hd ⟨e, c, hc, rfl⟩
  subst e
  have hd : (z.cps.toList.map fun c => D.str ⟨#[c]⟩)[i]? = some d := hd
  rw [List.getElem?_map, Array.getElem?_toList, hc] at hd
  cases hd
  exact ⟨Gr.refl _ _ _, S', .str _⟩
theorem pi_plain {e : Expr} {fa : SemE} (he : PE X e (tEv X.K fa)) : PI X tg e (tIv X.K (iPlain fa)) := by
  refine PI.imp (PI.or (pi_tup he) (PI.or (pi_list he) (pi_str he))) fun σ H R q => ?_
  obtain ⟨ρ, η, st, s, st', E, S, e, k⟩ := q
  obtain ⟨p, e1, e2⟩ := bind_some e
  obtain ⟨s', e4, e3⟩ := map_some' e2
  cases e3
  rcases src_split e4 with ⟨xs, ex, rfl⟩ | ⟨n, xs, o, ex, ho, hs, rfl⟩ | ⟨z, ex, rfl⟩
  · refine .inl (tEv.then E S e1 fun ρ1 H1 v g S1 r => ?_)
    rcases ex with ex | ex <;> rw [ex] at r
    · cases r with
      | tup sa ta => exact ⟨_, rfl, ⟨_, .of sa⟩, k _ _ _ g S1 okGd_none (yl_tup (.of sa) (fun _ _ g => .of (g.tup _ _ sa)) ta)⟩
    · cases r with
      | ktup sa ta => exact ⟨_, rfl, ⟨_, sa.sq⟩, k _ _ _ g S1 okGd_none (yl_tup sa.sq (fun _ _ g => (sa.frz g.frz).sq) ta)⟩
  · refine .inr (.inl (tEv.then E S e1 fun ρ1 H1 v g S1 r => ?_))
    rw [ex] at r
    cases r with
    | ref ea =>
      obtain ⟨vs, sq, t⟩ := gd_seq ho S1 ea hs
      exact ⟨_, rfl, ⟨vs, sq⟩, k _ _ _ g S1 (okGd_some hs) (yl_lst ho ea)⟩
  · refine .inr (.inr (tEv.then E S e1 fun ρ1 H1 v g S1 r => ?_))
    rw [ex] at r
    cases r with
    | str => exact ⟨_, rfl, k _ _ _ g S1 okGd_none yl_str⟩
theorem tAv.one {K : Frg} {fs : SemA} {σ : L2.St} {H : Hp} {Q : List V → Hp → Prop} {ρ : Rho} {η : LocD} {st st' : Sto} {ds : List D} (E : ER K ρ H η σ) (S : SR K ρ st H) (e : fs η st = some (ds, st'))
    (k : ∀ (ρ' : Rho) (H' : Hp) (vs : List V), Gr K ρ H ρ' H' → SR K ρ' st' H' → DRs K ρ' H' ds vs → Q vs H') : tAv K fs σ H Q := ⟨ρ, η, st, ds, st', E, S, e, k⟩
theorem fCons_one {fa : SemE} {η : LocD} {st : Sto} {p : D × Sto} (h : fa η st = some p) : fCons fa fNil η st = some ([p.1], p.2) := by
  show (fa η st).bind _ = _
  rw [h]; rfl
theorem pi_enumS {e : Expr} {fa : SemE} {p pos tpos : Pos} {elts : List Expr} {kk : Nat} (hg : Gl X "enumerate") (hm : X.mg "enumerate" = none) (ha : PA X [e] (tAv X.K (fCons fa fNil))) (hs : starEach [e] X.env = [(false, eval e X.env)]) :
    PI X (.Tuple elts kk tpos) (.Call (.Name "enumerate" p) [e] [] pos) (tIv X.K (iEn fa)) := by
  refine PI.imp (PI.or (pi_enum hg hm ha hs) (pi_enT hg hm ha hs)) fun σ H R q => ?_
  obtain ⟨ρ, η, st, s, st', E, S, e, k⟩ := q
  obtain ⟨p, e1, e2⟩ := bind_some e
  cases q : p.1 with
  | ref n =>
    rw [q] at e2
    refine .inl (tAv.one E S (fCons_one e1) fun ρ1 H1 vs g S1 r => ?_)
    obtain ⟨v, rfl, rv⟩ := one_of r rfl
    rw [q] at rv
    obtain ⟨s', e4, e3⟩ := map_some' e2
    cases e3
    rcases src_split e4 with ⟨xs, ex, rfl⟩ | ⟨n, xs, o, ex, ho, hs, rfl⟩ | ⟨z, ex, rfl⟩
    rotate_left 2
    · cases ex
    · rcases ex with ex | ex <;> cases ex
    · cases ex
      cases rv with
      | ref ea =>
        obtain ⟨vs, sq, t⟩ := gd_seq ho S1 ea hs
        exact ⟨_, vs, rfl, sq, k _ _ _ g S1 (okGd_some hs) (yl_enum ho ea)⟩
  | tup xs =>
    rw [q] at e2
    cases e2
    refine .inr (tAv.one E S (fCons_one e1) fun ρ1 H1 vs g S1 r => ?_)
    obtain ⟨v, rfl, rv⟩ := one_of r rfl
    rw [q] at rv
    cases rv with
    | tup sa ta => exact ⟨_, _, rfl, .of sa, k _ _ _ g S1 okGd_none (yl_enT (fun _ _ g => .of (g.tup _ _ sa)) ta)⟩
  | ktup xs =>
    rw [q] at e2
    cases e2
    refine .inr (tAv.one E S (fCons_one e1) fun ρ1 H1 vs g S1 r => ?_)
    obtain ⟨v, rfl, rv⟩ := one_of r rfl
    rw [q] at rv
    cases rv with
    | ktup sa ta => exact ⟨_, _, rfl, sa.sq, k _ _ _ g S1 okGd_none (yl_enT (fun _ _ g => (sa.frz g.frz).sq) ta)⟩
  | _ => rw [q] at e2; cases e2
theorem pi_revS {e : Expr} {fa : SemE} {p pos : Pos} (hg : Gl X "reversed") (hm : X.mg "reversed" = none) (ha : PA X [e] (tAv X.K (fCons fa fNil))) (hs : starEach [e] X.env = [(false, eval e X.env)]) :
    PI X tg (.Call (.Name "reversed" p) [e] [] pos) (tIv X.K (iRv fa)) := by
  refine PI.imp (pi_reversed hg hm ha hs) fun σ H R q => ?_
  obtain ⟨ρ, η, st, s, st', E, S, e, k⟩ := q
  obtain ⟨p, e1, e2⟩ := bind_some e
  refine tAv.one E S (fCons_one e1) fun ρ1 H1 vs g S1 r => ?_
  obtain ⟨v, rfl, rv⟩ := one_of r rfl
  cases q : p.1 with
  | ref n =>
    rw [q] at e2 rv
    obtain ⟨s', e4, e3⟩ := map_some' e2
    cases e3
    rcases src_split e4 with ⟨xs, ex, rfl⟩ | ⟨n, xs, o, ex, ho, hs, rfl⟩ | ⟨z, ex, rfl⟩
    rotate_left 2
    · cases ex
    · rcases ex with ex | ex <;> cases ex
    · cases ex
      cases rv with
      | ref ea =>
        obtain ⟨vs, sq, t⟩ := gd_seq ho S1 ea hs
        refine ⟨_, vs, rfl, sq, k _ _ _ g S1 (okGd_some hs) ?_⟩
        rw [← t.length]
        exact yl_rev ho ea
  | _ => rw [q] at e2; cases e2
theorem pi_rng1 {a : Expr} {fs : SemA} {p pos : Pos} (hg : Gl X "range") (hm : X.mg "range" = none) (ha : PA X [a] (tAv X.K fs)) (hs : starEach [a] X.env = [(false, eval a X.env)]) (hl : ∀ η st ds st', fs η st = some (ds, st') → ds.length = 1) :
    PI X tg (.Call (.Name "range" p) [a] [] pos) (tIv X.K (iRng fs)) := by
  refine PI.imp (pi_range1 hg hm ha hs) fun σ H R q => ?_
  obtain ⟨ρ, η, st, s, st', E, S, e, k⟩ := q
  obtain ⟨p, e1, e2⟩ := bind_some e
  obtain ⟨xs, e4, e3⟩ := map_some' e2
  cases e3
  refine tAv.one E S e1 fun ρ1 H1 vs g S1 r => ?_
  have l := hl _ _ _ _ e1
  unfold rngOf at e4
  split at e4
  · rename_i j hj
    rw [hj] at r
    obtain ⟨v, rfl, rv⟩ := one_of r rfl
    cases rv
    obtain ⟨c, e5⟩ := ite_some e4
    cases e5
    exact ⟨_, rfl, c.1, c.2, k _ _ _ g S1 okGd_none yl_rng⟩
  · rename_i h; rw [h] at l; cases l
  · rename_i h; rw [h] at l; cases l
  · cases e4
theorem two_of {K : Frg} {ρ : Rho} {H : Hp} {ds : List D} {vs : List V} (r : DRs K ρ H ds vs) {d e : D} (h : ds = [d, e]) : ∃ v w, vs = [v, w] ∧ DR K ρ H d v ∧ DR K ρ H e w := by
  subst h
  cases r with
  | cons a t => cases t with
    | cons b t => cases t; exact ⟨_, _, rfl, a, b⟩
theorem three_of {K : Frg} {ρ : Rho} {H : Hp} {ds : List D} {vs : List V} (r : DRs K ρ H ds vs) {d e f : D} (h : ds = [d, e, f]) : ∃ v w x, vs = [v, w, x] ∧ DR K ρ H d v ∧ DR K ρ H e w ∧ DR K ρ H f x := by
  subst h
  cases r with
  | cons a t => cases t with
    | cons b t => cases t with
      | cons c t => cases t; exact ⟨_, _, _, rfl, a, b, c⟩
theorem pi_rng2 {a b : Expr} {fs : SemA} {p pos : Pos} (hg : Gl X "range") (hm : X.mg "range" = none) (ha : PA X [a, b] (tAv X.K fs)) (hs : starEach [a, b] X.env = [(false, eval a X.env), (false, eval b X.env)]) (hs2 : starEach [b] X.env = [(false, eval b X.env)])
    (hl : ∀ η st ds st', fs η st = some (ds, st') → ds.length = 2) : PI X tg (.Call (.Name "range" p) [a, b] [] pos) (tIv X.K (iRng fs)) := by
  refine PI.imp (pi_range2 hg hm ha hs hs2) fun σ H R q => ?_
  obtain ⟨ρ, η, st, s, st', E, S, e, k⟩ := q
  obtain ⟨p, e1, e2⟩ := bind_some e
  obtain ⟨xs, e4, e3⟩ := map_some' e2
  cases e3
  refine tAv.one E S e1 fun ρ1 H1 vs g S1 r => ?_
  have l := hl _ _ _ _ e1
  unfold rngOf at e4
  split at e4
  · rename_i h; rw [h] at l; cases l
  · rename_i i j hj
    rw [hj] at r
    obtain ⟨v, w, rfl, rv, rw'⟩ := two_of r rfl
    cases rv; cases rw'
    obtain ⟨c, e5⟩ := ite_some e4
    cases e5
    exact ⟨_, _, rfl, ⟨c.1.1, c.1.2, c.2.1, c.2.2⟩, k _ _ _ g S1 okGd_none yl_rng⟩
  · rename_i h; rw [h] at l; cases l
  · cases e4
theorem pi_rng3 {a b c : Expr} {fs : SemA} {p pos : Pos} (hg : Gl X "range") (hm : X.mg "range" = none) (ha : PA X [a, b, c] (tAv X.K fs)) (hs : starEach [a, b, c] X.env = [(false, eval a X.env), (false, eval b X.env), (false, eval c X.env)])
    (hs2 : starEach [b, c] X.env = [(false, eval b X.env), (false, eval c X.env)]) (hs3 : starEach [c] X.env = [(false, eval c X.env)]) (hl : ∀ η st ds st', fs η st = some (ds, st') → ds.length = 3) :
    PI X tg (.Call (.Name "range" p) [a, b, c] [] pos) (tIv X.K (iRng fs)) := by
  refine PI.imp (pi_range3 hg hm ha (by rw [hs, hs2]) (by rw [hs2]; rfl)) fun σ H R q => ?_
  obtain ⟨ρ, η, st, s, st', E, S, e, k⟩ := q
  obtain ⟨p, e1, e2⟩ := bind_some e
  obtain ⟨xs, e4, e3⟩ := map_some' e2
  cases e3
  refine tAv.one E S e1 fun ρ1 H1 vs g S1 r => ?_
  have l := hl _ _ _ _ e1
  unfold rngOf at e4
  split at e4
  · rename_i h; rw [h] at l; cases l
  · rename_i h; rw [h] at l; cases l
  · rename_i i j c hj
    rw [hj] at r
    obtain ⟨v, w, x, rfl, rv, rw', rx⟩ := three_of r rfl
    cases rv; cases rw'; cases rx
    obtain ⟨⟨c1, c2, rfl⟩, e5⟩ := ite_some e4
    cases e5
    exact ⟨_, _, _, _, rfl, RgC.neg c1.1 c1.2 c2.1 c2.2, k _ _ _ g S1 okGd_none yl_rngC⟩
  · cases e4
end
end Sim

namespace Sim
open PySem L2
noncomputable section
/-! ### dict displays with written texts as keys; upper -/
def putD {κ : Type} [DecidableEq κ] (kvs : List (κ × D)) (k : κ) (v : D) : List (κ × D) :=
  if kvs.any (fun kv => decide (kv.1 = k)) then kvs.map fun kv => if kv.1 = k then (kv.1, v) else kv else kvs ++ [(k, v)]
def mergeD (ks : List Str) (ds : List D) : List (Key × D) := (ks.zip ds).foldl (fun acc kv => putD acc (.inr kv.1) kv.2) []
def fDsp (ks : List Str) (fs : SemA) : SemE := fun η st => (fs η (st ++ [.dct []])).bind fun p => if p.1.length = ks.length ∧ ks.length ≤ 15 then match p.2[st.length]? with
    | some (.dct []) => some (.ref st.length, p.2.set st.length (.dct (mergeD ks p.1)))
    | _ => none
  else none
def fUpp (fo : SemE) : SemE := fun η st => (fo η st).bind fun p => match p.1 with
  | .str s => if s.length ≤ most then some (.str (Txt.upper s), p.2) else none
  | _ => none
def keyC : Option Expr → Option Str
  | some (.Constant (.str s) _ _) => some s
  | _ => none
section
variable {X : Cx}
theorem put_ok {κ : Type} [DecidableEq κ] {K : Frg} {ρ : Rho} {H : Hp} {k : κ} {d : D} {v : V} (r : DR K ρ H d v) {kvs : List (κ × D)} {vs : List (κ × V)} (h : PDR K ρ H kvs vs) : PDR K ρ H (putD kvs k d) (putK vs k v) := by
  have ha : ∀ {kvs : List (κ × D)} {vs : List (κ × V)}, PDR K ρ H kvs vs → (kvs.any fun kv => decide (kv.1 = k)) = (vs.any fun kv => decide (kv.1 = k)) := by
    intro kvs vs h
    induction h with
    | nil => rfl
    | cons p t ih => rw [List.any_cons, List.any_cons, ih, p.1]
  have hm : ∀ {kvs : List (κ × D)} {vs : List (κ × V)}, PDR K ρ H kvs vs → PDR K ρ H (kvs.map fun kv => if kv.1 = k then (kv.1, d) else kv) (vs.map fun kv => if kv.1 = k then (kv.1, v) else kv) := by
    intro kvs vs h
    induction h with
    | nil => exact .nil
    | @cons a b as bs p t ih =>
      refine .cons ?_ ih
      have e : a.1 = b.1 := p.1
      dsimp only
      by_cases c : a.1 = k
      · have c2 : b.1 = k := by rw [← e]; exact c
        rw [if_pos c, if_pos c2]
        exact ⟨e, r⟩
      · have c2 : ¬ b.1 = k := by rw [← e]; exact c
        rw [if_neg c, if_neg c2]
        exact p
  have hp : ∀ {kvs : List (κ × D)} {vs : List (κ × V)}, PDR K ρ H kvs vs → PDR K ρ H (kvs ++ [(k, d)]) (vs ++ [(k, v)]) := by
    intro kvs vs h
    induction h with
    | nil => exact .cons ⟨rfl, r⟩ .nil
    | cons p t ih => exact .cons p ih
  unfold putD putK
  rw [ha h]
  split
  · exact hm h
  · exact hp h
theorem kdr_len {κ : Type} {K : Frg} {ρ : Rho} {H : Hp} {kvs : List (κ × D)} {vs : List (κ × V)} (h : PDR K ρ H kvs vs) : kvs.length = vs.length := by
  induction h with
  | nil => rfl
  | cons p t ih => rw [List.length_cons, List.length_cons, ih]
theorem merge_go {K : Frg} {ρ : Rho} {H : Hp} : ∀ {ks : List Str} {ds : List D} {vs : List V} {kvs : List (Key × D)} {ms : List (Key × V)}, DRs K ρ H ds vs → KDR K ρ H kvs ms →
    KDR K ρ H ((ks.zip ds).foldl (fun acc kv => putD acc (.inr kv.1) kv.2) kvs) (((ks.zip vs).map fun kv => ((Sum.inr kv.1 : Key), kv.2)).foldl (fun acc kv => putK acc kv.1 kv.2) ms)
  | [], _, _, _, _, _, h => by simpa using h
  | k :: ks, [], _, kvs, ms, r, h => by cases r; simpa using h
  | k :: ks, d :: ds, _, kvs, ms, r, h => by
    cases r with
    | cons r1 r2 => exact merge_go (ks := ks) r2 (put_ok r1 h)
theorem merge_ok {K : Frg} {ρ : Rho} {H : Hp} {ks : List Str} {ds : List D} {vs : List V} (r : DRs K ρ H ds vs) : KDR K ρ H (mergeD ks ds) (mergeK [] ((ks.zip vs).map fun kv => ((Sum.inr kv.1 : Key), kv.2))) := merge_go r .nil
/-- the pairs of a display -/
def tPv (K : Frg) (ks : List Str) (fs : SemA) : St → Hp → (List (V × V) → Hp → Prop) → Prop := fun σ H Q => ∃ ρ η st ds st', ER K ρ H η σ ∧ SR K ρ st H ∧ fs η st = some (ds, st') ∧ ds.length = ks.length ∧
  ∀ (ρ' : Rho) (H' : Hp) (vs : List V), Gr K ρ H ρ' H' → SR K ρ' st' H' → DRs K ρ' H' ds vs → Q ((ks.zip vs).map fun kv => (V.str kv.1, kv.2)) H'
theorem pps_of {X : Cx} {pos : Pos} {rE : Expr → Option SemE} {compA' : List Expr → Option SemA} (hE : ∀ e f, rE e = some f → PE X e (tEv X.K f)) (h0 : compA' [] = some fNil)
    (hc : ∀ e r f, compA' (e :: r) = some f → ∃ fe fr, rE e = some fe ∧ compA' r = some fr ∧ f = fCons fe fr) : ∀ {keys : List (Option Expr)} {ks : List Str} {vals : List Expr} {fs : SemA}, mapO keyC keys = some ks → compA' vals = some fs → keys.length = vals.length →
    ∃ trs, PPs X pos keys vals trs ∧ ∀ σ H Q, tPv X.K ks fs σ H Q → tPairs trs σ H Q
  | [], ks, [], fs, hk, hv, _ => by
    cases hk
    rw [h0] at hv; cases hv
    refine ⟨[], pps_nil, fun σ H Q q => ?_⟩
    obtain ⟨ρ, η, st, ds, st', E, S, e, l, k⟩ := q
    cases e
    exact k ρ H [] (Gr.refl _ _ _) S .nil
  | [], _, _ :: _, _, _, _, l => by cases l
  | _ :: _, _, [], _, _, _, l => by cases l
  | key :: keys, ks, v :: vals, fs, hk, hv, l => by
    obtain ⟨s, e1, e2⟩ := bind_some (show (keyC key).bind _ = some ks from hk)
    obtain ⟨ks', e3, e4⟩ := map_some' e2
    subst e4
    obtain ⟨fe, fr, e5, e6, rfl⟩ := hc _ _ _ hv
    obtain ⟨trs, h1, h2⟩ := pps_of hE h0 hc (keys := keys) (pos := pos) e3 e6 (by simpa using l)
    have hkey : ∃ j p, key = some (.Constant (.str s) j p) := by
      unfold keyC at e1
      split at e1
      · cases e1; exact ⟨_, _, rfl⟩
      · cases e1
    obtain ⟨j, p, rfl⟩ := hkey
    refine ⟨(tC (.str s), tEv X.K fe) :: trs, pps_cons pe_str (hE _ _ e5) h1, fun σ H Q q => ?_⟩
    obtain ⟨ρ, η, st, ds, st', E, S, e, ld, k⟩ := q
    obtain ⟨p1, e7, e8⟩ := bind_some e
    obtain ⟨q1, e9, e10⟩ := map_some' e8
    cases e10
    show tC (.str s) σ H fun x H1 => tEv X.K fe σ H1 fun y H2 => tPairs trs σ H2 fun ps H3 => Q ((x, y) :: ps) H3
    show tEv X.K fe σ H fun y H2 => tPairs trs σ H2 fun ps H3 => Q ((V.str s, y) :: ps) H3
    refine tEv.then E S e7 fun ρ1 H1 v1 g1 S1 r1 => ?_
    refine h2 σ H1 _ ⟨ρ1, η, p1.2, q1.1, q1.2, E.mono g1, S1, e9, by simpa using ld, fun ρ2 H2 vs g2 S2 r2 => ?_⟩
    exact k ρ2 H2 (v1 :: vs) (g1.trans g2) S2 (.cons (r1.mono g2) r2)
theorem ok_disp {pos : Pos} {rE : Expr → Option SemE} {compA' : List Expr → Option SemA} (hE : ∀ e f, rE e = some f → PE X e (tEv X.K f)) (h0 : compA' [] = some fNil)
    (hc : ∀ e r f, compA' (e :: r) = some f → ∃ fe fr, rE e = some fe ∧ compA' r = some fr ∧ f = fCons fe fr) {keys : List (Option Expr)} {ks : List Str} {vals : List Expr} {fs : SemA} (hk : mapO keyC keys = some ks) (hv : compA' vals = some fs) (hl : keys.length = vals.length) (hall : keys.all (·.isSome) = true) (hne : keys ≠ []) (h15 : keys.length ≤ 15) :
    PE X (.Dict keys vals pos) (tEv X.K (fDsp ks fs)) := by
  obtain ⟨trs, h1, h2⟩ := pps_of (X := X) (pos := pos) hE h0 hc hk hv hl
  refine PE.imp (pe_disp h1 hall hl hne h15) fun σ H Q q => ?_
  obtain ⟨ρ, η, st, d, st', E, S, e, k⟩ := q
  obtain ⟨p, e1, e2⟩ := bind_some e
  obtain ⟨⟨c1, c2⟩, e3⟩ := ite_some e2
  intro a ha
  have e4 : p.2[st.length]? = some (.dct []) ∧ (d, st') = (.ref st.length, p.2.set st.length (.dct (mergeD ks p.1))) := by
    split at e3
    · rename_i hh; cases e3; exact ⟨hh, rfl⟩
    · cases e3
  obtain ⟨e4, e5⟩ := e4
  cases e5
  have g : Gr X.K ρ H (ρ ++ [a]) (upd H a (.dK [])) := ⟨fun n a h => get_app h, fun _ _ h => tup_new ha h, fun _ _ _ h => frz_new ha h⟩
  obtain ⟨S', g'⟩ := S.alloc (o := .dct []) ha (u := .dK []) rfl ⟨[], upd_same, .nil⟩
  refine h2 σ _ _ ⟨ρ ++ [a], η, _, p.1, p.2, E.mono g', S', e1, c1, fun ρ2 H2 vs g2 S2 r2 => ?_⟩
  have hra : ρ2[st.length]? = some a := g2.rho _ _ (by rw [← S.len, List.getElem?_append_right (Nat.le_refl _)]; simp)
  obtain ⟨ws, hw, rw'⟩ := S2.at' _ _ a e4 hra
  cases rw'
  refine ⟨hw, (ks.zip vs).map fun kv => ((Sum.inr kv.1 : Key), kv.2), ?_, ?_, ?_⟩
  · rw [List.map_map]; rfl
  · rw [List.length_map, List.length_zip]; omega
  · have gu : Gr X.K ρ2 H2 ρ2 (upd H2 a (.dK (mergeK [] ((ks.zip vs).map fun kv => ((Sum.inr kv.1 : Key), kv.2))))) := Gr.upd hw rfl
    obtain ⟨S3, g3⟩ := S2.set (o' := .dct (mergeD ks p.1)) (u := .dK (mergeK [] ((ks.zip vs).map fun kv => ((Sum.inr kv.1 : Key), kv.2)))) e4 hra rfl rfl ⟨_, upd_same, KDR.mono gu (merge_ok r2)⟩
    exact k _ _ _ ((g'.trans g2).trans g3) S3 (.ref hra)
theorem pe_upp {o : Expr} {fo : SemE} {apos cpos : Pos} (ho : PE X o (tEv X.K fo)) (hbase : attributeBase o "upper" X.env (eval o X.env) = eval o X.env) (hline : (apos.endLine == cpos.line) = true) : PE X (.Call (.Attribute o "upper" apos) [] [] cpos) (tEv X.K (fUpp fo)) := by
  refine PE.imp (pe_upper ho hbase hline) fun σ H Q q => ?_
  obtain ⟨ρ, η, st, d, st', E, S, e, k⟩ := q
  obtain ⟨p, e1, e2⟩ := bind_some e
  refine tEv.then E S e1 fun ρ1 H1 v g1 S1 r1 => ?_
  cases hp : p.1 with
  | str s =>
    rw [hp] at e2 r1
    obtain ⟨c, e3⟩ := ite_some e2
    cases e3; cases r1
    exact ⟨⟨s, rfl⟩, s, rfl, rfl, Nat.le_trans c (by decide), (k.pre g1).now S1 (.str _)⟩
  | _ => rw [hp] at e2; cases e2
end
end
end Sim

namespace Sim
open PySem L2
noncomputable section

/-! ### comprehensions -/
def lcGo (g : SemG) (ft : SemT) (fe : SemE) (ηw : LocD) (gd : Option (Nat × O)) (n : Nat) : List D → Sto → Option Sto
  | [], st => if okGd gd st then some st else none
  | x :: r, st => if okGd gd st then (g x ηw).bind fun η2 => (ft η2 st).bind fun b => if b.1 = true then (fe η2 b.2).bind fun y => match y.2[n]? with
      | some (.lst acc) => if acc.length < most then lcGo g ft fe ηw gd n r (y.2.set n (.lst (acc ++ [y.1]))) else none
      | _ => none
    else lcGo g ft fe ηw gd n r b.2 else none
def fLc (fi : SemI) (g : SemG) (ft : SemT) (fe : SemE) (vs : List Nat) : SemE := fun η st => (fi η st).bind fun p =>
  (lcGo g ft fe (wipeD η vs) p.1.gd p.2.length p.1.xs (p.2 ++ [.lst []])).map fun st' => (.ref p.2.length, st')
def gYes : SemT := fun _ st => some (true, st)
theorem lcGo_ok {g : SemG} {ft : SemT} {fe : SemE} {ηw : LocD} {gd : Option (Nat × O)} {n : Nat} {xs : List D} {st st' : Sto} (h : lcGo g ft fe ηw gd n xs st = some st') : okGd gd st := by
  cases xs with
  | nil => unfold lcGo at h; exact (ite_some h).1
  | cons x r => unfold lcGo at h; exact (ite_some h).1
theorem okGd_app {gd : Option (Nat × O)} {st : Sto} {o : O} (h : okGd gd st) : okGd gd (st ++ [o]) := fun p e => get_app (h p e)

theorem lc_read {K : Frg} {fi : SemI} {g : SemG} {is : List Nat} {ft : SemT} {tt : TT} {fe : SemE} {vs : List Nat} (hi : ∀ i ∈ is, i ∈ vs) (htt : ∀ σ H Q, tTv K ft σ H Q → tt σ H Q) {σ : L2.St} {H : Hp} {Q : VK} (h : tEv K (fLc fi g ft fe vs) σ H Q) :
    tLc (tIv K fi) (tGv K g is) tt (tEv K fe) vs σ H Q := by
  obtain ⟨ρ, η, st, d, st', E, S, e, k⟩ := h
  obtain ⟨p, e1, e2⟩ := bind_some e
  obtain ⟨stF, e3, e4⟩ := map_some' e2
  cases e4
  refine ⟨ρ, η, st, p.1, p.2, E, S, e1, fun ρ1 H1 J g1 S1 ok Y => fun Dl hD => ?_⟩
  obtain ⟨G, Yd, W, hG, hY⟩ := Y.w
  have n_eq : ρ1.length = p.2.length := S1.len
  refine lc_it W (fun i H' => ∃ ρ' stX, Gr K ρ1 H1 ρ' H' ∧ SR K ρ' stX H' ∧ ρ'[p.2.length]? = some Dl ∧ lcGo g ft fe (wipeD η vs) p.1.gd p.2.length (p.1.xs.drop i) stX = some st') ?_ ?_ ?_ ?_
  · obtain ⟨S2, g2⟩ := S1.alloc (o := .lst []) hD (u := .lst []) rfl ⟨[], upd_same, .nil⟩
    exact ⟨_, _, g2, S2, by rw [← n_eq, List.getElem?_append_right (Nat.le_refl _)]; simp, e3⟩
  · rintro i H' _ ⟨ρ', st2, g2, S2, _, e5⟩
    exact hG ρ' st2 H' g2 S2 (lcGo_ok e5)
  · rintro i x Ha Hb hlt ⟨ρ', st2, g2, S2, hn, e5⟩ y
    have ok2 := lcGo_ok e5
    have hd : p.1.xs[i]? = some p.1.xs[i] := List.getElem?_eq_getElem hlt
    obtain ⟨g3, S3, r3⟩ := hY ρ' st2 Ha i _ x Hb g2 S2 ok2 hd y
    rw [List.drop_eq_getElem_cons hlt] at e5
    unfold lcGo at e5
    obtain ⟨_, e5⟩ := ite_some e5
    obtain ⟨η2, e6, e5⟩ := bind_some e5
    obtain ⟨b, e7, e5⟩ := bind_some e5
    refine ⟨ρ', wipeD η vs, _, η2, (E.wipe vs).mono ((g1.trans g2).trans g3), r3, e6, fun σ2 E2 l2 s2 => ⟨?_, htt _ _ _ ⟨ρ', η2, st2, b.1, b.2, E2, S3, e7, fun ρ4 H4 g4 S4 => ?_⟩⟩⟩
    · rw [wipe_eq (σ := L2.wipe σ vs) l2 s2 hi]; exact wipe_wipe
    · cases hb : b.1 with
      | true =>
        rw [if_pos rfl]
        rw [hb, if_pos rfl] at e5
        obtain ⟨z, e8, e5⟩ := bind_some e5
        refine ⟨ρ4, η2, b.2, z.1, z.2, E2.mono g4, S4, e8, fun ρ5 H5 v g5 S5 r5 => ?_⟩
        cases q : z.2[p.2.length]? with
        | none => rw [q] at e5; cases e5
        | some o =>
          cases o with
          | frz _ => rw [q] at e5; cases e5
          | dct _ => rw [q] at e5; cases e5
          | dtp _ => rw [q] at e5; cases e5
          | frd _ => rw [q] at e5; cases e5
          | stk _ => rw [q] at e5; cases e5
          | lst acc =>
            rw [q] at e5
            obtain ⟨hz, e5⟩ := ite_some e5
            have hn5 : ρ5[p.2.length]? = some Dl := g5.rho _ _ (g4.rho _ _ (g3.rho _ _ hn))
            obtain ⟨ws, w1, w2⟩ := S5.at' _ _ _ q hn5
            have g6 : Gr K ρ5 H5 ρ5 (upd H5 Dl (.lst (ws ++ [v]))) := Gr.upd w1 rfl
            obtain ⟨S6, _⟩ := S5.set (u := .lst (ws ++ [v])) (o' := .lst (acc ++ [z.1])) q hn5 rfl rfl ⟨_, upd_same, (w2.app (.cons r5 .nil)).mono g6⟩
            exact ⟨ws, w1, by rw [← w2.length]; exact most_lt hz, ρ5, _, g2.trans (g3.trans (g4.trans (g5.trans g6))), S6, hn5, e5⟩
      | false =>
        rw [if_neg Bool.false_ne_true]
        rw [hb, if_neg Bool.false_ne_true] at e5
        exact ⟨ρ4, _, g2.trans (g3.trans g4), S4, g4.rho _ _ (g3.rho _ _ hn), e5⟩
  · rintro H' ⟨ρ', st2, g2, S2, hn, e5⟩
    rw [List.drop_length] at e5
    unfold lcGo at e5
    obtain ⟨_, e5⟩ := ite_some e5
    cases e5
    exact k ρ' H' _ (g1.trans g2) S2 (.ref hn)

/-! ### list methods -/
def fApp (fo fa : SemE) : SemE := fun η st => (fo η st).bind fun p => match p.1 with
  | .ref n => match p.2[n]? with
    | some (.lst _) => (fa η p.2).bind fun q => match q.2[n]? with
      | some (.lst xs) => if xs.length < most then some (.non, q.2.set n (.lst (xs ++ [q.1]))) else none
      | _ => none
    | _ => none
  | _ => none
def fExt (fo fa : SemE) : SemE := fun η st => (fo η st).bind fun p => match p.1 with
  | .ref n => match p.2[n]? with
    | some (.lst _) => (fa η p.2).bind fun q => match q.1 with
      | .ref m => match q.2[n]?, q.2[m]? with
        | some (.lst xs), some (.lst zs) => if xs.length + zs.length ≤ most then some (.non, q.2.set n (.lst (xs ++ zs))) else none
        | _, _ => none
      | _ => none
    | _ => none
  | _ => none
def fPop (fo : SemE) : SemE := fun η st => (fo η st).bind fun p => match p.1 with
  | .ref n => match p.2[n]? with
    | some (.lst xs) => (xs[xs.length - 1]?).map fun y => (y, p.2.set n (.lst xs.dropLast))
    | _ => none
  | _ => none
theorem ref_lst {K : Frg} {ρ : Rho} {st : Sto} {H : Hp} {n : Nat} {xs : List D} {v : V} (S : SR K ρ st H) (r : DR K ρ H (.ref n) v) (h : st[n]? = some (.lst xs)) : ∃ a vs, v = .ref a ∧ ρ[n]? = some a ∧ H a = some (.lst vs) ∧ DRs K ρ H xs vs := by
  cases r with
  | @ref n a ea =>
    obtain ⟨vs, h1, h2⟩ := S.at' n _ a h ea
    exact ⟨a, vs, rfl, ea, h1, h2⟩
theorem SR.setL {K : Frg} {ρ : Rho} {st : Sto} {H : Hp} (S : SR K ρ st H) {n : Nat} {a : Addr} {xs ys : List D} {vs ws : List V} (h : st[n]? = some (.lst xs)) (ea : ρ[n]? = some a) (ha : H a = some (.lst vs)) (t : DRs K ρ H ys ws) :
    SR K ρ (st.set n (.lst ys)) (upd H a (.lst ws)) ∧ Gr K ρ H ρ (upd H a (.lst ws)) := by
  have g : Gr K ρ H ρ (upd H a (.lst ws)) := Gr.upd ha rfl
  exact S.set (u := .lst ws) (o' := .lst ys) h ea rfl rfl ⟨ws, upd_same, t.mono g⟩
section
variable {X : Cx} {o e : Expr} {fo fa : SemE} {apos cpos : Pos}
theorem pe_app (ho : PE X o (tEv X.K fo)) (ha : PA X [e] (tAv X.K (fCons fa fNil))) (hbase : attributeBase o "append" X.env (eval o X.env) = eval o X.env)
    (hline : (apos.endLine == cpos.line) = true) (hs : starEach [e] X.env = [(false, eval e X.env)]) : PE X (.Call (.Attribute o "append" apos) [e] [] cpos) (tEv X.K (fApp fo fa)) := by
  refine PE.imp (pe_bm PySem.F.plainAttrs_list PySem.F.slot_list_append PySem.F.type_list_append mt_append ho ha hbase (by rw [hs]; rfl) hline hs rfl) fun σ H Q q => ?_
  obtain ⟨ρ, η, st, d, st', E, S, e, k⟩ := q
  obtain ⟨p, e1, e2⟩ := bind_some e
  refine tEv.then E S e1 fun ρ1 H1 v g1 S1 r1 => ?_
  cases hp : p.1 with
  | ref n =>
    rw [hp] at e2 r1
    cases q1 : p.2[n]? with
    | none => simp only [q1] at e2; cases e2
    | some o1 =>
      cases o1 <;> simp only [q1] at e2 <;> first | (cases e2; done) | skip
      obtain ⟨q, e3, e4⟩ := bind_some e2
      obtain ⟨a, vs, rfl, ea, h1, h2⟩ := ref_lst S1 r1 q1
      refine ⟨.inl ⟨rfl, _, .inl (.inl h1)⟩, tAv.one (E.mono g1) S1 (fCons_one e3) fun ρ2 H2 ws g2 S2 r2 => ?_⟩
      obtain ⟨w, rfl, rw'⟩ := one_of r2 rfl
      cases q2 : q.2[n]? with
      | none => simp only [q2] at e4; cases e4
      | some o2 =>
        cases o2 <;> simp only [q2] at e4 <;> first | (cases e4; done) | skip
        obtain ⟨c, e5⟩ := ite_some e4
        cases e5
        obtain ⟨us, h3, h4⟩ := S2.at' _ _ _ q2 (g2.rho _ _ ea)
        obtain ⟨S3, g3⟩ := S2.setL q2 (g2.rho _ _ ea) h3 (h4.app (.cons rw' .nil))
        exact ⟨a, us, w, rfl, rfl, h3, by rw [← h4.length]; exact most_lt c, k _ _ _ (g1.trans (g2.trans g3)) S3 .non⟩
  | _ => rw [hp] at e2; cases e2
theorem pe_ext (ho : PE X o (tEv X.K fo)) (ha : PA X [e] (tAv X.K (fCons fa fNil))) (hbase : attributeBase o "extend" X.env (eval o X.env) = eval o X.env)
    (hline : (apos.endLine == cpos.line) = true) (hs : starEach [e] X.env = [(false, eval e X.env)]) : PE X (.Call (.Attribute o "extend" apos) [e] [] cpos) (tEv X.K (fExt fo fa)) := by
  refine PE.imp (pe_bm PySem.F.plainAttrs_list PySem.F.slot_list_extend PySem.F.type_list_extend mt_extend ho ha hbase (by rw [hs]; rfl) hline hs rfl) fun σ H Q q => ?_
  obtain ⟨ρ, η, st, d, st', E, S, e, k⟩ := q
  obtain ⟨p, e1, e2⟩ := bind_some e
  refine tEv.then E S e1 fun ρ1 H1 v g1 S1 r1 => ?_
  cases hp : p.1 with
  | ref n =>
    rw [hp] at e2 r1
    cases q1 : p.2[n]? with
    | none => simp only [q1] at e2; cases e2
    | some o1 =>
      cases o1 <;> simp only [q1] at e2 <;> first | (cases e2; done) | skip
      obtain ⟨q, e3, e4⟩ := bind_some e2
      obtain ⟨a, vs, rfl, ea, h1, h2⟩ := ref_lst S1 r1 q1
      refine ⟨.inl ⟨rfl, _, .inl (.inl h1)⟩, tAv.one (E.mono g1) S1 (fCons_one e3) fun ρ2 H2 ws g2 S2 r2 => ?_⟩
      obtain ⟨w, rfl, rw'⟩ := one_of r2 rfl
      cases hm : q.1 with
      | ref m =>
        rw [hm] at e4 rw'
        cases q2 : q.2[n]? with
        | none => simp only [q2] at e4; cases e4
        | some o2 =>
          cases o2 <;> simp only [q2] at e4 <;> first | (cases e4; done) | skip
          cases q3 : q.2[m]? with
          | none => simp only [q3] at e4; cases e4
          | some o3 =>
            cases o3 <;> simp only [q3] at e4 <;> first | (cases e4; done) | skip
            obtain ⟨c, e5⟩ := ite_some e4
            cases e5
            obtain ⟨us, h3, h4⟩ := S2.at' _ _ _ q2 (g2.rho _ _ ea)
            obtain ⟨b, zs, rfl, eb, h5, h6⟩ := ref_lst S2 rw' q3
            obtain ⟨S3, g3⟩ := S2.setL q2 (g2.rho _ _ ea) h3 (h4.app h6)
            exact ⟨a, b, us, zs, rfl, rfl, h3, h5, by rw [← h4.length, ← h6.length]; exact most_line c, k _ _ _ (g1.trans (g2.trans g3)) S3 .non⟩
      | _ => rw [hm] at e4; cases e4
  | _ => rw [hp] at e2; cases e2
theorem pe_pop (ho : PE X o (tEv X.K fo)) (hbase : attributeBase o "pop" X.env (eval o X.env) = eval o X.env) (hline : (apos.endLine == cpos.line) = true) : PE X (.Call (.Attribute o "pop" apos) [] [] cpos) (tEv X.K (fPop fo)) := by
  refine PE.imp (pe_bm0 PySem.F.plainAttrs_list PySem.F.slot_list_pop PySem.F.type_list_pop mt_pop ho hbase hline) fun σ H Q q => ?_
  obtain ⟨ρ, η, st, d, st', E, S, e, k⟩ := q
  obtain ⟨p, e1, e2⟩ := bind_some e
  refine tEv.then E S e1 fun ρ1 H1 v g1 S1 r1 => ?_
  cases hp : p.1 with
  | ref n =>
    rw [hp] at e2 r1
    cases q1 : p.2[n]? with
    | none => simp only [q1] at e2; cases e2
    | some o1 =>
      cases o1 <;> simp only [q1] at e2 <;> first | (cases e2; done) | skip
      obtain ⟨y, e3, e4⟩ := map_some' e2
      cases e4
      obtain ⟨a, vs, rfl, ea, h1, h2⟩ := ref_lst S1 r1 q1
      obtain ⟨w, hw, rw'⟩ := h2.get e3
      obtain ⟨S3, g3⟩ := S1.setL q1 ea h1 h2.dropLast
      exact ⟨.inl ⟨rfl, _, .inl (.inl h1)⟩, a, vs, w, rfl, rfl, h1, by rw [← h2.length]; exact hw, k _ _ _ (g1.trans g3) S3 (rw'.mono g3)⟩
  | _ => rw [hp] at e2; cases e2
end
end
end Sim

set_option maxHeartbeats 1000000
/-! zip of two tuples where the pair given before is held: list(zip(a, b)) -/
namespace RZ2
open PySem PySem.Spec PyProof.Rows L2 RZ
abbrev IsZipM (h : Heap) (z TI TO : Addr) (m f : Value) : Prop := h.get? z = some { cls := .type "zip", data := .fields #[m, f, .bool false, .ref TI, .ref TO] }
section
variable {prog : Program} {w : World} {A : Around} {E : Value → Shared → Prop} {s : Shared}
theorem wpAny_lia {M : Model} {a : Addr} {Q : Option Obj → Shared → Prop} (h : Q (s.heap.get? a) s) : wpAny M A (loadIfAlive a) Q E s := fun Γ p hΓ => by
  show Sem.wp _ _ (.loadIfAlive a .pure) _ _ _ _
  rw [Sem.wp_loadIfAlive]
  exact wpAny_pure (M := M) (A := A) (E := E) h Γ p hΓ
theorem busy {z TI TO p : Addr} {f : Value} {o : Obj} {Q : Bool → Shared → Prop} (hz : IsZipM s.heap z TI TO (rawInt p) f) (hf : f = .bool true ∨ f = .bool false) (hp : s.heap.get? p = some o)
    (hQ : ∀ h', IsZipM h' z TI TO (rawInt p) (.bool true) → Heap.SameBut z s.heap h' → Q false { s with heap := h' }) : wpAny (model prog w) A (Builtin.SmallTypes.ownedTupleIsFree (.ref z)) Q E s := by
  unfold Builtin.SmallTypes.ownedTupleIsFree
  refine wpAny_bind (wpAny_field hz rfl (x := rawInt p) rfl ?_)
  show wpAny _ _ (loadIfAlive (((p : Nat) : Int).toNat) >>= _) _ _ _
  refine wpAny_bind (wpAny_lia ?_)
  rw [Int.toNat_natCast, hp]
  show wpAny _ _ (field (.ref z) 1 >>= _) _ _ _
  refine wpAny_bind (wpAny_field hz rfl (x := f) rfl ?_)
  rcases hf with rfl | rfl
  · exact wpAny_pure (hQ _ hz ⟨rfl, fun _ _ => rfl⟩)
  · show wpAny _ _ (setField (.ref z) 1 (.bool true) >>= _) _ _ _
    refine wpAny_bind (wpAny_setField_rec hz (by simp) fun h₁ hz₁ hs₁ => ?_)
    exact wpAny_pure (hQ h₁ hz₁ hs₁)
theorem zipB_next_item {z TI TO i1 i2 l1 l2 p : Addr} {k1 k2 : Nat} {xs ys : Array Value} {x y f : Value} {o : Obj} {Q : Value → Shared → Prop} (D : ZipApart z TI TO i1 i2 l1 l2)
    (hz : IsZipM s.heap z TI TO (rawInt p) f) (hf : f = .bool true ∨ f = .bool false) (hp : s.heap.get? p = some o) (hTI : IsPair s.heap TI (.ref i1) (.ref i2))
    (h1 : s.heap.IsTupleIter i1 l1 k1) (h2 : s.heap.IsTupleIter i2 l2 k2) (hl1 : s.heap.IsTuple l1 xs) (hl2 : s.heap.IsTuple l2 ys) (hx : xs[k1]? = some x) (hy : ys[k2]? = some y)
    (hQ : ∀ h', IsZipM h' z TI TO (rawInt p) (.bool true) → h'.IsTupleIter i1 l1 (k1 + 1) → h'.IsTupleIter i2 l2 (k2 + 1) → IsPair h' s.heap.objs.size x y → h'.objs.size = s.heap.objs.size + 1 →
      (∀ c o, c ≠ z → c ≠ i1 → c ≠ i2 → s.heap.get? c = some o → h'.get? c = some o) → Q (.ref s.heap.objs.size) { s with heap := h' }) :
    wpAny (model prog w) A (Builtin.«zip.__next__» ⟨[.ref z], []⟩) (fun fin s' => ∃ v, fin = .done (.ret v) ∧ Q v s') E s := by
  show wpAny _ _ (field (.ref z) 2 >>= _) _ _ _
  refine wpAny_bind (wpAny_field hz rfl (x := .bool false) rfl ?_)
  show wpAny _ _ (field (.ref z) 3 >>= _) _ _ _
  refine wpAny_bind (wpAny_field hz rfl (x := .ref TI) rfl ?_)
  refine wpAny_bind (wpAny_seqItems hTI rfl ?_)
  show wpAny _ _ (Builtin.SmallTypes.ownedTupleIsFree (.ref z) >>= _) _ _ _
  refine wpAny_bind (busy hz hf hp fun h₁ hz₁ hs₁ => ?_)
  simp only [Bool.false_eq_true, if_false]
  refine wpAny_bind ?_
  first
  | rw [List.forIn_toArray]
  | (rw [← Array.forIn_toList]; simp only [List.toList_toArray])
  | rw [← Array.forIn_toList]
  simp only [List.forIn_cons, List.forIn_nil]
  refine wpAny_bind (wpAny_bind (wpAny_holding ?_))
  show wpAny _ _ (Builtin.SmallTypes.nextOf (.ref i1) >>= _) _ _ _
  refine wpAny_bind (nextOf_tuple_item (h1.extBut hs₁.extBut D.i1z) (hl1.extBut hs₁.extBut D.l1z) hx fun h₂ h1₂ hs₂ => wpAny_pure ?_)
  refine wpAny_pure ?_
  refine wpAny_bind (wpAny_bind (wpAny_holding ?_))
  show wpAny _ _ (Builtin.SmallTypes.nextOf (.ref i2) >>= _) _ _ _
  refine wpAny_bind (nextOf_tuple_item ((h2.extBut hs₁.extBut D.i2z).extBut hs₂.extBut D.i12.symm)
    ((hl2.extBut hs₁.extBut D.l2z).extBut hs₂.extBut D.l2i1) hy fun h₄ h2₄ hs₄ => wpAny_pure ?_)
  refine wpAny_pure (wpAny_pure ?_)
  refine wpAny_bind (wpAny_newTuple (hsz := by show 2 ≤ sizeLine; decide) ?_)
  have hsz : h₄.objs.size = s.heap.objs.size := by rw [hs₄.1, hs₂.1, hs₁.1]
  have hz₄ : IsZipM h₄ z TI TO (rawInt p) (.bool true) := hs₄.extBut _ _ D.i2z.symm (hs₂.extBut _ _ D.i1z.symm hz₁)
  have h1₄ : h₄.IsTupleIter i1 l1 (k1 + 1) := h1₂.extBut hs₄.extBut D.i12
  have hk₄ : ∀ c o, c ≠ z → c ≠ i1 → c ≠ i2 → s.heap.get? c = some o → h₄.get? c = some o := fun c o c1 c3 c4 e =>
    hs₄.extBut _ _ c4 (hs₂.extBut _ _ c3 (hs₁.extBut _ _ c1 e))
  refine wpAny_pure ⟨_, rfl, ?_⟩
  show Q (.ref h₄.objs.size) _
  rw [hsz]
  have up : ∀ c o, h₄.get? c = some o → (h₄.push { cls := .type "tuple", data := .seq #[x, y] }).get? c = some o := fun c o e => Heap.get?_push_of_some _ e
  have hT : IsPair (h₄.push { cls := .type "tuple", data := .seq #[x, y] }) h₄.objs.size x y := Heap.get?_push_size _ rfl
  rw [hsz] at hT
  exact hQ _ (up _ _ hz₄) (h1₄.at fun o e => up _ o e) (h2₄.at fun o e => up _ o e) hT (by rw [Heap.size_push, hsz]) fun c o c1 c3 c4 e => up c o (hk₄ c o c1 c3 c4 e)
theorem zipB_next_end {z TI TO i1 i2 l1 l2 p : Addr} {k1 k2 : Nat} {xs ys : Array Value} {f : Value} {o : Obj} {Q : Fin → Shared → Prop} (hh : A.handled = none) (D : ZipApart z TI TO i1 i2 l1 l2)
    (hz : IsZipM s.heap z TI TO (rawInt p) f) (hf : f = .bool true ∨ f = .bool false) (hp : s.heap.get? p = some o) (hTI : IsPair s.heap TI (.ref i1) (.ref i2))
    (h1 : s.heap.IsTupleIter i1 l1 k1) (h2 : s.heap.IsTupleIter i2 l2 k2) (hl1 : s.heap.IsTuple l1 xs) (hl2 : s.heap.IsTuple l2 ys) (hend : xs[k1]? = none ∨ ys[k2]? = none)
    (hE : ∀ h' e, (∀ c o, c ≠ z → c ≠ i1 → c ≠ i2 → s.heap.get? c = some o → h'.get? c = some o) → (∃ o, h'.get? e = some o ∧ o.cls = .type "StopIteration") → E (.ref e) { s with heap := h' }) :
    wpAny (model prog w) A (Builtin.«zip.__next__» ⟨[.ref z], []⟩) Q E s := by
  show wpAny _ _ (field (.ref z) 2 >>= _) _ _ _
  refine wpAny_bind (wpAny_field hz rfl (x := .bool false) rfl ?_)
  show wpAny _ _ (field (.ref z) 3 >>= _) _ _ _
  refine wpAny_bind (wpAny_field hz rfl (x := .ref TI) rfl ?_)
  refine wpAny_bind (wpAny_seqItems hTI rfl ?_)
  show wpAny _ _ (Builtin.SmallTypes.ownedTupleIsFree (.ref z) >>= _) _ _ _
  refine wpAny_bind (busy hz hf hp fun h₁ hz₁ hs₁ => ?_)
  simp only [Bool.false_eq_true, if_false]
  refine wpAny_bind ?_
  first
  | rw [List.forIn_toArray]
  | (rw [← Array.forIn_toList]; simp only [List.toList_toArray])
  | rw [← Array.forIn_toList]
  simp only [List.forIn_cons, List.forIn_nil]
  refine wpAny_bind (wpAny_bind (wpAny_holding ?_))
  show wpAny _ _ (Builtin.SmallTypes.nextOf (.ref i1) >>= _) _ _ _
  cases hx : xs[k1]? with
  | none =>
    refine wpAny_bind (nextOf_tuple_end hh (h1.extBut hs₁.extBut D.i1z) (hl1.extBut hs₁.extBut D.l1z) hx fun h₂ e hs₂ he => ?_)
    exact hE h₂ e (fun c o c1 c3 _ x => hs₂ _ _ c3 (hs₁.extBut _ _ c1 x)) he
  | some x =>
    have hy : ys[k2]? = none := by rcases hend with h | h; rw [hx] at h; cases h; exact h
    refine wpAny_bind (nextOf_tuple_item (h1.extBut hs₁.extBut D.i1z) (hl1.extBut hs₁.extBut D.l1z) hx fun h₂ h1₂ hs₂ => wpAny_pure ?_)
    refine wpAny_pure ?_
    refine wpAny_bind (wpAny_bind (wpAny_holding ?_))
    show wpAny _ _ (Builtin.SmallTypes.nextOf (.ref i2) >>= _) _ _ _
    refine wpAny_bind (nextOf_tuple_end hh ((h2.extBut hs₁.extBut D.i2z).extBut hs₂.extBut D.i12.symm)
      ((hl2.extBut hs₁.extBut D.l2z).extBut hs₂.extBut D.l2i1) hy fun h₄ e hs₄ he => ?_)
    exact hE h₄ e (fun c o c1 c3 c4 x => hs₄ _ _ c4 (hs₂.extBut _ _ c3 (hs₁.extBut _ _ c1 x))) he
end
end RZ2

/-! list(zip(a, b)) of two tuples -/
namespace RZ2
open PySem PySem.Spec PyProof.Rows L2 RZ
theorem nolen_zip : typeLookup (.type "zip") "__len__" = pure none := by rw [typeLookup_type, builtinLookup_eq_fast]; kernel_rfl
theorem nohint_zip : typeLookup (.type "zip") "__length_hint__" = pure none := by rw [typeLookup_type, builtinLookup_eq_fast]; kernel_rfl
/-- how it stands ahead of turn i; S lies apart -/
def Zst (z TI TO i1 i2 a b S : Addr) (i : Nat) (h : Heap) : Prop :=
  IsPair h TI (.ref i1) (.ref i2) ∧ (∃ x y, IsPair h TO x y) ∧ h.IsTupleIter i1 a i ∧ h.IsTupleIter i2 b i ∧
    (IsZip h z TI TO .none ∨ ∃ p f o, IsZipM h z TI TO (rawInt ((p : Nat) : Int)) f ∧ (f = .bool true ∨ f = .bool false) ∧ h.get? p = some o ∧ p ≠ z ∧ p ≠ TO ∧ p ≠ i1 ∧ p ≠ i2 ∧ p ≠ S)
section
variable {prog : Program} {w : World} {A : Around} {E : Value → Shared → Prop} {s : Shared} {z TI TO i1 i2 a b S : Addr} {i : Nat} {xs ys : Array Value}
theorem zItem {x y : Value} {Q : Option Value → Shared → Prop} (D : ZipApart z TI TO i1 i2 a b) (hS : S < s.heap.objs.size) (st : Zst z TI TO i1 i2 a b S i s.heap) (hl1 : s.heap.IsTuple a xs) (hl2 : s.heap.IsTuple b ys) (hx : xs[i]? = some x) (hy : ys[i]? = some y)
    (hQ : ∀ h', Zst z TI TO i1 i2 a b S (i + 1) h' → IsPair h' s.heap.objs.size x y → (∀ c o, c ≠ z → c ≠ TO → c ≠ i1 → c ≠ i2 → s.heap.get? c = some o → h'.get? c = some o) → Q (some (.ref s.heap.objs.size)) { s with heap := h' }) :
    wpAny (model prog w) A (pyNext (.ref z)) Q E s := by
  obtain ⟨hTI, ⟨x0, y0, hTO⟩, h1, h2, hz⟩ := st
  have nTO : s.heap.objs.size ≠ TO := Nat.ne_of_gt (Heap.lt_size hTO)
  have n1 : s.heap.objs.size ≠ i1 := by obtain ⟨_, e, _⟩ := id h1; exact Nat.ne_of_gt (Heap.lt_size e)
  have n2 : s.heap.objs.size ≠ i2 := by obtain ⟨_, e, _⟩ := id h2; exact Nat.ne_of_gt (Heap.lt_size e)
  rcases hz with hz | ⟨p, f, o, hz, hf, hp, p1, p2, p3, p4, p5⟩
  · have nz : s.heap.objs.size ≠ z := Nat.ne_of_gt (Heap.lt_size hz)
    exact pyNext_zipT_item D hz hTI hTO h1 h2 hl1 hl2 hx hy fun h' a1 a2 a3 a4 a5 a6 a7 => hQ h' ⟨a7 _ _ D.TIz D.TITO D.TIi1 D.TIi2 hTI, ⟨x, y, a2⟩, a3, a4, .inr ⟨_, _, _, a1, .inr rfl, a5, nz, nTO, n1, n2, Nat.ne_of_gt hS⟩⟩ a5 a7
  · have hT : s.TypeIs (.ref z) "zip" := ⟨_, hz, rfl⟩
    unfold pyNext
    exact wpAny_bind (wpAny_attempt (wpAny_callSpecial?_slot (name := Str.ofString "__next__") hT F.slot_zip_next
      (wpAny_call_entry F.slot_zip_next hT F.entry_zip_next
        (zipB_next_item D hz hf hp hTI h1 h2 hl1 hl2 hx hy fun h' a1 a3 a4 a5 a6 a7 => wpAny_pure (hQ h' ⟨a7 _ _ D.TIz D.TIi1 D.TIi2 hTI, ⟨x0, y0, a7 _ _ D.TOz D.TOi1 D.TOi2 hTO⟩, a3, a4, .inr ⟨p, _, o, a1, .inl rfl, a7 _ _ p1 p3 p4 hp, p1, p2, p3, p4, p5⟩⟩ a5 fun c o c1 _ c3 c4 e => a7 c o c1 c3 c4 e)) (F.args_zip_next_1 _))))
theorem zEnd {Q : Option Value → Shared → Prop} (hh : A.handled = none) (D : ZipApart z TI TO i1 i2 a b) (st : Zst z TI TO i1 i2 a b S i s.heap) (hl1 : s.heap.IsTuple a xs) (hl2 : s.heap.IsTuple b ys) (hend : xs[i]? = none ∨ ys[i]? = none)
    (hQ : ∀ h', (∀ c o, c ≠ z → c ≠ TO → c ≠ i1 → c ≠ i2 → s.heap.get? c = some o → h'.get? c = some o) → Q none { s with heap := h' }) : wpAny (model prog w) A (pyNext (.ref z)) Q E s := by
  obtain ⟨hTI, ⟨x0, y0, hTO⟩, h1, h2, hz⟩ := st
  rcases hz with hz | ⟨p, f, o, hz, hf, hp, p1, p2, p3, p4, p5⟩
  · exact pyNext_zipT_end hh D hz hTI hTO h1 h2 hl1 hl2 hend hQ
  · have hT : s.TypeIs (.ref z) "zip" := ⟨_, hz, rfl⟩
    unfold pyNext
    refine wpAny_bind (wpAny_attempt (wpAny_callSpecial?_slot (name := Str.ofString "__next__") hT F.slot_zip_next
      (wpAny_call_entry F.slot_zip_next hT F.entry_zip_next (zipB_next_end hh D hz hf hp hTI h1 h2 hl1 hl2 hend fun h' e hk he => ?_) (F.args_zip_next_1 _))))
    obtain ⟨o, ho, hc⟩ := he
    refine wpAny_bind (wpAny_isInstance (T := "StopIteration") (b := true) ⟨o, ho, hc⟩ isSubtype_stop ?_)
    exact wpAny_pure (hQ _ fun c o c1 _ c3 c4 x => hk c o c1 c3 c4 x)
theorem Zst.at' {h h' : Heap} (st : Zst z TI TO i1 i2 a b S i h) (hS : S ≠ z ∧ S ≠ TI ∧ S ≠ TO ∧ S ≠ i1 ∧ S ≠ i2) (k : ∀ c o, c ≠ S → h.get? c = some o → h'.get? c = some o) : Zst z TI TO i1 i2 a b S i h' := by
  obtain ⟨hTI, ⟨x0, y0, hTO⟩, h1, h2, hz⟩ := st
  obtain ⟨s1, s2, s3, s4, s5⟩ := hS
  refine ⟨k _ _ (Ne.symm s2) hTI, ⟨x0, y0, k _ _ (Ne.symm s3) hTO⟩, h1.at fun o q => k _ o (Ne.symm s4) q, h2.at fun o q => k _ o (Ne.symm s5) q, ?_⟩
  rcases hz with hz | ⟨p, f, o, hz, hf, hp, p1, p2, p3, p4, p5⟩
  · exact .inl (k _ _ (Ne.symm s1) hz)
  · exact .inr ⟨p, f, o, k _ _ (Ne.symm s1) hz, hf, k _ _ p5 hp, p1, p2, p3, p4, p5⟩
end
section
variable {X : Cx} {pins : List (Addr × Obj)} {σ : L2.St} {z TI TO i1 i2 a b S : Addr} {xs ys : List V} {J : Nat → List V → Hp → Prop}
theorem vals_snoc {v : V} {u : Value} (r : RelV v u) : ∀ {xs : List V} {us : List Value}, Vals xs us → Vals (xs ++ [v]) (us ++ [u])
  | _, _, .nil => .cons r .nil
  | _, _, .cons h t => .cons h (vals_snoc r t)
/-- what the gathered pairs are, from turn to turn -/
structure ZJ (K : PySem.W.Frag) (a b S : Addr) (xs ys : List V) (J : Nat → List V → Hp → Prop) : Prop where
  at' : ∀ i ws H, J i ws H → SqT K H a xs ∧ SqT K H b ys ∧ H S = some (.lst ws) ∧ ws.length = i
  step : ∀ i ws H T x y, J i ws H → xs[i]? = some x → ys[i]? = some y → H T = none → J (i + 1) (ws ++ [.ref T]) (upd (upd H T (.tup [x, y])) S (.lst (ws ++ [.ref T])))
theorem zip_drain (hc : X.calm = true) {A : Around} (hh : A.handled = none) (D : ZipApart z TI TO i1 i2 a b) (hS : S ≠ z ∧ S ≠ TI ∧ S ≠ TO ∧ S ≠ i1 ∧ S ≠ i2) (zj : ZJ X.K a b S xs ys J) (hl : xs.length = ys.length) {res : Value} {R : Result → Shared → Prop}
    (hR : ∀ s' H' ws, Inv X pins σ H' s' → J xs.length ws H' → R (.ok (.ret res)) s') :
    ∀ (m i : Nat) (s : Shared) (H : Hp) (ws : List V), m + i = xs.length → Inv X pins σ H s → (∀ c ∈ [z, TI, TO, i1, i2], FpOk X pins H c) → Zst z TI TO i1 i2 a b S i s.heap → J i ws H →
      codeAny (model X.prog X.w) A (.builtin "list.extend.loop" ⟨[.ref S, .ref z, res], []⟩) R s
  | 0, i, s, H, ws, hm, I, hf, st, hj => by
    obtain ⟨hqx, hqy, hSl, hw⟩ := zj.at' i ws H hj
    obtain ⟨its, rv, p, _⟩ := I.tuple hqx
    obtain ⟨its2, rv2, p2, _⟩ := I.tuple hqy
    have l1 := rv.length
    have hi : i = xs.length := by omega
    subst hi
    refine codeAny_builtin F.entry_extend_loop ?_
    rw [Around.under_plainId F.plain_extend_loop _]
    show wpAny _ A.in1 (pyNext (.ref z) >>= _) _ _ s
    refine wpAny_bind (zEnd hh D st p p2 (.inl (by simp; omega)) fun h' hk => ?_)
    refine wpAny_pure (hR _ H ws ?_ hj)
    exact I.turnedL (t' := s.toks) (ch := [z, TI, TO, i1, i2]) (fun c o hb q => hk c o (fun q' => hb (by simp [q'])) (fun q' => hb (by simp [q'])) (fun q' => hb (by simp [q'])) (fun q' => hb (by simp [q'])) q) hf
  | m + 1, i, s, H, ws, hm, I, hf, st, hj => by
    obtain ⟨hqx, hqy, hSl, hw⟩ := zj.at' i ws H hj
    obtain ⟨its, rv, p, hz1⟩ := I.tuple hqx
    obtain ⟨its2, rv2, p2, _⟩ := I.tuple hqy
    have hx : xs[i]? = some xs[i] := List.getElem?_eq_getElem (by omega)
    have hy : ys[i]? = some ys[i] := List.getElem?_eq_getElem (by omega)
    obtain ⟨u, hu, ru⟩ := rv.get hx
    obtain ⟨u2, hu2, ru2⟩ := rv2.get hy
    have hSs : S < s.heap.objs.size := (I.hok S _ hSl).lt
    refine codeAny_builtin F.entry_extend_loop ?_
    rw [Around.under_plainId F.plain_extend_loop _]
    show wpAny _ A.in1 (pyNext (.ref z) >>= _) _ _ s
    refine wpAny_bind (zItem D hSs st p p2 (x := u) (y := u2) (by simpa using hu) (by simpa using hu2) fun h' st' hT hk => ?_)
    have hfr : H s.heap.objs.size = none := I.hok.fresh (Nat.le_refl _)
    have new : ObjOk X.prog X.w (upd H s.heap.objs.size (.tup [xs[i], ys[i]])) h' s.heap.objs.size (.tup [xs[i], ys[i]]) :=
      ⟨by show 2 ≤ sizeLine; decide, [u, u2], .cons ru (.cons ru2 .nil), ⟨_, hT, rfl, _, rfl⟩⟩
    have I1 : Inv X pins σ (upd H s.heap.objs.size (.tup [xs[i], ys[i]])) { s with heap := h' } :=
      I.turnedNew (t' := s.toks) (ch := [z, TI, TO, i1, i2]) (fun c o hb q => hk c o (fun q' => hb (by simp [q'])) (fun q' => hb (by simp [q'])) (fun q' => hb (by simp [q'])) (fun q' => hb (by simp [q'])) q) hf (Nat.le_refl _) new
    have hS1 : (upd H s.heap.objs.size (.tup [xs[i], ys[i]])) S = some (.lst ws) := by rw [upd_ne (Nat.ne_of_lt hSs)]; exact hSl
    obtain ⟨hwl, acc, c, va, hSo⟩ := I1.hok S _ hS1
    have hSo : h'.get? S = some { cls := .type "list", data := .seq acc.toArray c } := hSo
    have la := va.length
    show wpAny _ A.in1 (updateSeq S (·.push (.ref s.heap.objs.size)) >>= _) _ _ _
    refine wpAny_bind ?_
    refine wpAny_updateSeq hSo rfl (wpAny_pure ⟨plainId_quiet F.plain_extend_loop _, ?_⟩) (by simp only [List.size_toArray]; omega) (by simp only [Array.size_push, List.size_toArray]; omega)
    have keep3 : ∀ b o, b ≠ S → h'.get? b = some o → (h'.update S (Obj.mapSeq (·.push (.ref s.heap.objs.size)))).get? b = some o := fun b o hbS e => (Heap.get?_update_other _ _ (Ne.symm hbS)).trans e
    have hSn := Heap.get?_update_self (Obj.mapSeq (·.push (.ref s.heap.objs.size))) hSo rfl
    have I2 : Inv X pins σ (upd (upd H s.heap.objs.size (.tup [xs[i], ys[i]])) S (.lst (ws ++ [.ref s.heap.objs.size]))) { s with heap := h'.update S (Obj.mapSeq (·.push (.ref s.heap.objs.size))) } := by
      refine I1.write (t' := s.toks) (x := S) (e := S) (by rw [hS1]; trivial) (.inl rfl) (fun b u hb e => keep3 b u hb e) ⟨_, hSn⟩ ⟨by rw [List.length_append, List.length_cons, List.length_nil]; omega, acc ++ [.ref s.heap.objs.size], (if ((acc.toArray.push (.ref s.heap.objs.size)).size == acc.toArray.size) = true then c else c + 1), ?_, ?_⟩
      · exact vals_snoc (show RelV (.ref s.heap.objs.size) (.ref s.heap.objs.size) from rfl) va
      · refine hSn.trans ?_
        rw [← List.push_toArray]
        rfl
    refine zip_drain hc hh D hS zj hl hR m (i + 1) _ _ _ (by omega) I2 (fun c hcm => ?_) (st'.at' hS keep3) (zj.step i ws H s.heap.objs.size _ _ hj hx hy hfr)
    have cs : c ≠ S := by
      have e' : c = z ∨ c = TI ∨ c = TO ∨ c = i1 ∨ c = i2 := by simpa using hcm
      obtain ⟨s1, s2, s3, s4, s5⟩ := hS
      rcases e' with q | q | q | q | q <;> rw [q] <;> apply Ne.symm <;> assumption
    have ct : c ≠ s.heap.objs.size := by
      have hlt : c < s.heap.objs.size := by
        obtain ⟨hTI, ⟨x0, y0, hTO⟩, h1, h2, hz⟩ := st
        have e' : c = z ∨ c = TI ∨ c = TO ∨ c = i1 ∨ c = i2 := by simpa using hcm
        rcases e' with q | q | q | q | q
        · rw [q]
          rcases hz with hz | ⟨p, f, o, hz, _⟩
          · exact Heap.lt_size hz
          · exact Heap.lt_size hz
        · rw [q]; exact Heap.lt_size hTI
        · rw [q]; exact Heap.lt_size hTO
        · rw [q]; obtain ⟨_, e1, _⟩ := h1; exact Heap.lt_size e1
        · rw [q]; obtain ⟨_, e1, _⟩ := h2; exact Heap.lt_size e1
      exact Nat.ne_of_lt hlt
    exact ⟨by rw [upd_ne cs, upd_ne ct]; exact (hf c hcm).1, (hf c hcm).2⟩
end
end RZ2

namespace RZ2
open PySem PySem.Spec PyProof.Rows L2 RZ
section
variable {X : Cx} {pins : List (Addr × Obj)} {σ : L2.St} {z TI TO i1 i2 a b : Addr} {xs ys : List V}
theorem call_list_zip (hc : X.calm = true) {s : Shared} {H : Hp} {Q : VK} (D : ZipApart z TI TO i1 i2 a b) (I : Inv X pins σ H s) (hf : ∀ c ∈ [z, TI, TO, i1, i2], FpOk X pins H c) (hl : xs.length = ys.length)
    (hz : IsZip s.heap z TI TO .none) (hTI : IsPair s.heap TI (.ref i1) (.ref i2)) (hTO : ∃ x y, IsPair s.heap TO x y) (h1 : s.heap.IsTupleIter i1 a 0) (h2 : s.heap.IsTupleIter i2 b 0)
    (hq : ∀ S, H S = none → ∃ J : Nat → List V → Hp → Prop, ZJ X.K a b S xs ys J ∧ J 0 [] (upd H S (.lst [])) ∧ ∀ ws H', J xs.length ws H' → Q (.ref S) H') :
    wpAny (model X.prog X.w) X.A (call (.type "list") [.ref z]) (EP X pins σ Q) X.xe s := by
  obtain ⟨x0, y0, hTO⟩ := hTO
  have nz : s.heap.objs.size ≠ z := Nat.ne_of_gt (Heap.lt_size hz)
  have nTI : s.heap.objs.size ≠ TI := Nat.ne_of_gt (Heap.lt_size hTI)
  have nTO : s.heap.objs.size ≠ TO := Nat.ne_of_gt (Heap.lt_size hTO)
  have n1 : s.heap.objs.size ≠ i1 := by obtain ⟨_, e, _⟩ := id h1; exact Nat.ne_of_gt (Heap.lt_size e)
  have n2 : s.heap.objs.size ≠ i2 := by obtain ⟨_, e, _⟩ := id h2; exact Nat.ne_of_gt (Heap.lt_size e)
  have hfr : H s.heap.objs.size = none := I.hok.fresh (Nat.le_refl _)
  obtain ⟨J, zj, j0, jq⟩ := hq _ hfr
  have hh : X.A.handled = none := I.ok.hd hc
  refine callType_codes (Q₁ := fun obj s₁ => obj = .ref s.heap.objs.size ∧ s₁ = { s with heap := s.heap.push { cls := .type "list", data := .seq #[] } }) F.called_list (F.typeCall_list_1 _) F.entry_list_init
    (code_list_new _ ⟨rfl, rfl⟩) fun obj s₁ h₁ => ?_
  obtain ⟨rfl, rfl⟩ := h₁
  have hS : (s.heap.push { cls := .type "list", data := .seq #[] }).get? s.heap.objs.size = some { cls := .type "list", data := .seq #[] } := Heap.get?_push_size _ rfl
  refine ⟨⟨_, hS, rfl⟩, F.args_list_init_2 _ _, ?_⟩
  show wpAny _ X.A.in1.in1 (do let old ← Builtin.List.listItems (.ref s.heap.objs.size); Builtin.List.listUpdate (.ref s.heap.objs.size) (fun _ => #[]); letGo old.toList.reverse; Builtin.List.listExtendWith (.ref s.heap.objs.size) (.ref z) .none) _ _ _
  refine wpAny_bind ?_
  unfold Builtin.List.listItems
  refine wpAny_bind (wpAny_seqItems hS rfl (wpAny_pure ?_))
  show wpAny _ X.A.in1.in1 (updateSeq s.heap.objs.size (fun _ => #[]) >>= fun _ => letGo (#[] : Array Value).toList.reverse >>= fun _ => Builtin.List.listExtendWith (.ref s.heap.objs.size) (.ref z) .none) _ _ _
  refine wpAny_bind (wpAny_updateSeq hS rfl ?_)
  have hS2 := Heap.get?_update_self (Obj.mapSeq (fun _ => (#[] : Array Value))) hS rfl
  refine wpAny_bind (wpAny_letGo ?_)
  unfold Builtin.List.listExtendWith
  have up : ∀ (h : Heap) (f : Obj → Obj), (∀ b o, s.heap.get? b = some o → h.get? b = some o) → ∀ b o, s.heap.get? b = some o → (h.update s.heap.objs.size f).get? b = some o := fun h f q b o e =>
    (Heap.get?_update_other _ _ (Ne.symm (Nat.ne_of_lt (Heap.lt_size e)))).trans (q b o e)
  have k1 : ∀ b o, s.heap.get? b = some o → (s.heap.push { cls := .type "list", data := .seq #[] }).get? b = some o := fun b o e => Heap.get?_push_of_some _ e
  have k2 := up _ (Obj.mapSeq (fun _ => (#[] : Array Value))) k1
  refine wpAny_bind (wpAny_typeOf (T := "zip") ⟨_, k2 _ _ hz, rfl⟩ ?_)
  have q1 : Builtin.List.listSameRef (.ref s.heap.objs.size) (.ref z) = false := by simp [Builtin.List.listSameRef, nz]
  have q2 : (Value.type "zip" == Value.type "list") = false := by decide
  have q3 : (Value.type "zip" == Value.type "tuple") = false := by decide
  simp only [q1, q2, q3, Bool.or_false, Bool.false_eq_true, if_false]
  refine wpAny_bind (wpAny_pyIter_zip (s := { s with heap := _ }) (TI := TI) (TO := TO) (f0 := .none) (k2 _ _ hz) ?_)
  refine wpAny_bind (wpAny_holding ?_)
  unfold Builtin.List.listLengthHint
  refine wpAny_bind (wpAny_specialOf (T := "zip") ⟨_, k2 _ _ hz, rfl⟩ nolen_zip ?_)
  show wpAny _ X.A.in1.in1 (specialOf (Value.ref z) (Str.ofString "__length_hint__") >>= _) _ _ _
  refine wpAny_bind (wpAny_specialOf (T := "zip") ⟨_, k2 _ _ hz, rfl⟩ nohint_zip ?_)
  refine wpAny_pure ?_
  show wpAny _ X.A.in1.in1 (rule "list.extend.makes-room" >>= fun _ => Builtin.List.listTouch (.ref s.heap.objs.size) >>= fun _ =>
    again (.builtin "list.extend.loop" ⟨[.ref s.heap.objs.size, .ref z, .none], []⟩)) _ _ _
  refine wpAny_bind (wpAny_rule ?_)
  refine wpAny_bind ?_
  show wpAny _ X.A.in1.in1 (updateSeq s.heap.objs.size (·.push .none) >>= fun _ => updateSeq s.heap.objs.size (·.pop)) _ _ _
  refine wpAny_bind (wpAny_updateSeq hS2 rfl ?_)
  have hS3 := Heap.get?_update_self (Obj.mapSeq (·.push Value.none)) hS2 rfl
  refine wpAny_updateSeq (hz := by seq_fits) hS3 rfl ?_
  have hS4 := Heap.get?_update_self (Obj.mapSeq (·.pop)) hS3 rfl
  have k4 := up _ (Obj.mapSeq (·.pop)) (up _ (Obj.mapSeq (·.push Value.none)) k2)
  refine wpAny_pure ⟨plainId_quiet F.plain_extend_loop _, ?_⟩
  generalize (((Heap.update _ s.heap.objs.size (Obj.mapSeq fun _ => (#[] : Array Value))).update s.heap.objs.size (Obj.mapSeq (·.push Value.none))).update s.heap.objs.size (Obj.mapSeq (·.pop))) = h4 at *
  have I4 : Inv X pins σ (upd H s.heap.objs.size (.lst [])) { s with heap := h4 } := I.laid (t' := s.toks) k4 (Nat.le_refl _) ⟨by show 0 ≤ sizeLine; decide, [], _, .nil, hS4⟩
  refine zip_drain (J := J) (A := X.A.in1) hc hh D ⟨nz, nTI, nTO, n1, n2⟩ zj hl (fun s' H' ws I' j => ?_) xs.length 0 _ _ [] (by omega) I4 (fun c hcm => ?_) ⟨k4 _ _ hTI, ⟨x0, y0, k4 _ _ hTO⟩, h1.at fun o q => k4 _ o q, h2.at fun o q => k4 _ o q, .inl (k4 _ _ hz)⟩ j0
  · exact ⟨rfl, .ref s.heap.objs.size, H', I', rfl, jq ws H' j⟩
  · have cs : c ≠ s.heap.objs.size := by
      have e' : c = z ∨ c = TI ∨ c = TO ∨ c = i1 ∨ c = i2 := by simpa using hcm
      rcases e' with q | q | q | q | q <;> rw [q] <;> apply Ne.symm <;> assumption
    exact ⟨by rw [upd_ne cs]; exact (hf c hcm).1, (hf c hcm).2⟩
end
def tLz (K : PySem.W.Frag) (ta : TA) : TE := fun σ H Q => ta σ H fun vs H1 => ∃ (a b : Addr) (xs ys : List V), vs = [.ref a, .ref b] ∧ SqT K H1 a xs ∧ SqT K H1 b ys ∧ xs.length = ys.length ∧
  ∀ S, H1 S = none → ∃ J : Nat → List V → Hp → Prop, ZJ K a b S xs ys J ∧ J 0 [] (upd H1 S (.lst [])) ∧ ∀ ws H', J xs.length ws H' → Q (.ref S) H'
theorem pe_listZip {X : Cx} {e e2 : Expr} {ta : TA} {p p2 pos pos2 : Pos} (hc : X.calm = true) (hg : Gl X "list") (hm : X.mg "list" = none) (hg2 : Gl X "zip") (hm2 : X.mg "zip" = none) (ha : PA X [e, e2] ta)
    (hs : starEach [e, e2] X.env = (false, eval e X.env) :: starEach [e2] X.env) (hpl : (backTo pos2 (starEach [e2] X.env)).any (·.1) = false) :
    PE X (.Call (.Name "list" p) [.Call (.Name "zip" p2) [e, e2] [] pos2] [] pos) (tLz X.K ta) := by
  refine ⟨fun pins s σ H Q I h => ?_⟩
  refine Call_ (ld_blt I hg hm PyProof.Rows.boot_list (PyProof.Rows.callWith_type1 ?_ rfl rfl))
  show wpAny _ _ (spliced ((false, eval (.Call (.Name "zip" p2) [e, e2] [] pos2) X.env) :: backTo pos (starEach [] X.env))) _ _ s
  refine Calls.spliced_cons ?_
  refine Call_ (ld_blt I hg2 hm2 PyProof.Rows.boot_zip (PyProof.Rows.callWith_type1 (thn (ha.run pos2 pins s σ H _ I h) fun us s1 ⟨vs, H1, I1, r1, q1⟩ => ?_) hs hpl))
  obtain ⟨a, b, xs, ys, ex, hqx, hqy, hl, q⟩ := q1
  subst ex
  cases r1 with
  | cons r rr =>
    cases rr with
    | cons r' rr =>
      cases rr
      cases r
      cases r'
      have fresh5 : ∀ c, c ∈ [s1.heap.objs.size + 4, s1.heap.objs.size + 2, s1.heap.objs.size + 3, s1.heap.objs.size, s1.heap.objs.size + 1] → FpOk X pins H1 c := fun c hcm => by
        have e' : c = s1.heap.objs.size + 4 ∨ c = s1.heap.objs.size + 2 ∨ c = s1.heap.objs.size + 3 ∨ c = s1.heap.objs.size ∨ c = s1.heap.objs.size + 1 := by simpa using hcm
        have hle : s1.heap.objs.size ≤ c := by
          rcases e' with z | z | z | z | z <;> rw [z] <;> omega
        exact I1.fpOk hle (I1.hok.fresh hle)
      obtain ⟨its, rv, p1, _⟩ := I1.tuple hqx
      obtain ⟨its2, rv2, p2, _⟩ := I1.tuple hqy
      obtain ⟨o1, ho1, _⟩ := id p1
      obtain ⟨o2, ho2, _⟩ := id p2
      refine call_zipT (show s1.heap.IsTuple a its.toArray from p1) (show s1.heap.IsTuple b its2.toArray from p2) fun h' hz hTI hTO h1 h2 hsz hk => Calls.spliced_nil ?_
      have I2 : Inv X pins σ H1 { s1 with heap := h' } := I1.kept (t' := s1.toks) hk
      exact call_list_zip hc (PySem.W.ktu_apart s1.heap.objs.size a b (Heap.lt_size ho1) (Heap.lt_size ho2)) I2 fresh5 hl hz hTI ⟨_, _, hTO⟩ h1 h2 q
end RZ2

namespace Sim
open PySem L2
noncomputable section
/-! ### zip of two tuples -/
def zipD (xs ys : List D) : List D := List.zipWith (fun x y => D.tup [x, y]) xs ys
def iZip (fs : SemA) : SemI := fun η st => (fs η st).bind fun p => match p.1 with
  | [.tup xs, .tup ys] => some (⟨zipD xs ys, none⟩, p.2)
  | [.ktup xs, .tup ys] => some (⟨zipD xs ys, none⟩, p.2)
  | _ => none
/-- list(zip(a, b)), both as long -/
def fLz (fs : SemA) : SemE := fun η st => (fs η st).bind fun p => match p.1 with
  | [.tup xs, .tup ys] => if xs.length = ys.length then alloc (.lst (zipD xs ys)) p.2 else none
  | _ => none
theorem get_last0 {st : Sto} {o : O} : (st ++ [o])[st.length]? = some o := by simp
theorem zip_len (xs ys : List D) : (zipD xs ys).length = min xs.length ys.length := by unfold zipD; rw [List.length_zipWith]
theorem zip_get {xs ys : List D} {i : Nat} {d : D} (h : (zipD xs ys)[i]? = some d) : ∃ x y, xs[i]? = some x ∧ ys[i]? = some y ∧ d = .tup [x, y] := by
  unfold zipD at h
  rw [List.getElem?_zipWith] at h
  cases hx : xs[i]? with
  | none => rw [hx] at h; simp at h
  | some x =>
    cases hy : ys[i]? with
    | none => rw [hx, hy] at h; simp at h
    | some y =>
      rw [hx, hy] at h
      exact ⟨x, y, rfl, rfl, by simpa using h.symm⟩
theorem zip_at {xs ys : List D} {i : Nat} {x y : D} (hx : xs[i]? = some x) (hy : ys[i]? = some y) : (zipD xs ys)[i]? = some (.tup [x, y]) := by
  unfold zipD
  rw [List.getElem?_zipWith, hx, hy]
theorem yl_zipT {K : Frg} {ρ : Rho} {H : Hp} {a b : Addr} {xs ys : List D} {vs ws : List V} (sa : ∀ ρ' H', Gr K ρ H ρ' H' → SqT K H' a vs) (ta : DRs K ρ H xs vs) (sb : ∀ ρ' H', Gr K ρ H ρ' H' → SqT K H' b ws) (tb : DRs K ρ H ys ws) : Yl K (RZ.ItzT K a b) ρ H ⟨zipD xs ys, none⟩ := by
  have la := ta.length
  have lb := tb.length
  refine ⟨⟨fun H => SqT K H a vs ∧ SqT K H b ws, fun i H v H' => ∃ T x y, v = .ref T ∧ H T = none ∧ H' = upd H T (.tup [x, y]) ∧ vs[i]? = some x ∧ ws[i]? = some y, ?_, ?_, ?_⟩⟩
  · refine ⟨fun i H hi ⟨q1, q2⟩ => ?_, fun H ⟨q1, q2⟩ => ⟨vs, ws, q1, q2, ?_⟩, fun i H v H' _ ⟨q1, q2⟩ y => ?_⟩
    · rw [zip_len] at hi
      exact ⟨vs, ws, vs[i]'(by omega), ws[i]'(by omega), q1, q2, List.getElem?_eq_getElem _, List.getElem?_eq_getElem _⟩
    · rw [zip_len]; omega
    · obtain ⟨T, x, y, e, hT, e2, f1, f2⟩ := y
      exact ⟨T, x, y, e, hT, e2, f1 vs q1, f2 ws q2⟩
  · exact fun ρ' st' H' g S' ok => ⟨sa _ _ g, sb _ _ g⟩
  · rintro ρ' st' H' i d v H'' g S' ok hd ⟨T, x, y, e, hT, e2, f1, f2⟩
    subst e e2
    obtain ⟨dx, dy, h1, h2, rfl⟩ := zip_get hd
    obtain ⟨v1, hv1, r1⟩ := ta.get h1
    obtain ⟨v2, hv2, r2⟩ := tb.get h2
    rw [f1] at hv1; cases hv1
    rw [f2] at hv2; cases hv2
    exact ⟨Gr.new hT, S'.new hT, .tup upd_same (.cons ((r1.mono g).mono (Gr.new hT)) (.cons ((r2.mono g).mono (Gr.new hT)) .nil))⟩
theorem pi_zipS {X : Cx} {e e2 : Expr} {fs : SemA} {p pos tpos : Pos} {elts : List Expr} {kk : Nat} (hg : Gl X "zip") (hm : X.mg "zip" = none) (ha : PA X [e, e2] (tAv X.K fs))
    (hs : starEach [e, e2] X.env = (false, eval e X.env) :: starEach [e2] X.env) (hpl : (backTo pos (starEach [e2] X.env)).any (·.1) = false) :
    PI X (.Tuple elts kk tpos) (.Call (.Name "zip" p) [e, e2] [] pos) (tIv X.K (iZip fs)) := by
  refine PI.imp (RZ.pi_zipA hg hm ha hs hpl) fun σ H R q => ?_
  obtain ⟨ρ, η, st, s, st', E, S, e, k⟩ := q
  obtain ⟨p, e1, e2⟩ := bind_some e
  refine tAv.one E S e1 fun ρ1 H1 vs g S1 r => ?_
  split at e2
  · rename_i xs ys hp
    cases e2
    obtain ⟨v, w, rfl, rv, rw'⟩ := two_of r hp
    cases rv with
    | tup sa ta =>
      cases rw' with
      | tup sb tb => exact ⟨_, _, _, _, rfl, .inr ⟨.of sa, .of sb, k _ _ _ g S1 okGd_none (yl_zipT (fun _ _ g => .of (g.tup _ _ sa)) ta (fun _ _ g => .of (g.tup _ _ sb)) tb)⟩⟩
  · rename_i xs ys hp
    cases e2
    obtain ⟨v, w, rfl, rv, rw'⟩ := two_of r hp
    cases rv with
    | ktup sa ta =>
      cases rw' with
      | tup sb tb => exact ⟨_, _, _, _, rfl, .inr ⟨sa.sq, .of sb, k _ _ _ g S1 okGd_none (yl_zipT (fun _ _ g => (sa.frz g.frz).sq) ta (fun _ _ g => .of (g.tup _ _ sb)) tb)⟩⟩
  · cases e2
theorem lz_read {K : Frg} {fs : SemA} {σ : L2.St} {H : Hp} {Q : VK} (q : tEv K (fLz fs) σ H Q) : RZ2.tLz K (tAv K fs) σ H Q := by
  obtain ⟨ρ, η, st, d, st', E, S, e, k⟩ := q
  obtain ⟨p, e1, e2⟩ := bind_some e
  refine tAv.one E S e1 fun ρ1 H1 vs g1 S1 r => ?_
  split at e2
  · rename_i xs ys hp
    obtain ⟨hl, e2⟩ := ite_some e2
    cases e2
    obtain ⟨v, w, rfl, rv, rw'⟩ := two_of r hp
    cases rv with
    | @tup a _ vs sa ta =>
      cases rw' with
      | @tup b _ ws sb tb =>
        have la := ta.length
        have lb := tb.length
        refine ⟨a, b, vs, ws, rfl, .of sa, .of sb, by omega, fun A hA => ?_⟩
        have n_eq : ρ1.length = p.2.length := S1.len
        refine ⟨fun i us H' => ∃ ρ', Gr K ρ1 H1 ρ' H' ∧ SR K ρ' (p.2 ++ [.lst ((zipD xs ys).take i)]) H' ∧ ρ'[p.2.length]? = some A ∧ H' A = some (.lst us) ∧ us.length = i, ⟨?_, ?_⟩, ?_, ?_⟩
        · rintro i us H' ⟨ρ', g, S', hn, hu, hlu⟩
          exact ⟨.of (g.tup _ _ sa), .of (g.tup _ _ sb), hu, hlu⟩
        · rintro i us H' T x y ⟨ρ', g, S', hn, hu, hlu⟩ hx hy hT
          have hTA : A ≠ T := fun z => by rw [z, hT] at hu; cases hu
          obtain ⟨dx, hdx, rx⟩ : ∃ dx, xs[i]? = some dx ∧ DR K ρ1 H1 dx x := by
            have hi : i < xs.length := by
              have := (List.getElem?_eq_some_iff.mp hx).1
              omega
            obtain ⟨u, hu1, hu2⟩ := ta.get (List.getElem?_eq_getElem hi)
            rw [hx] at hu1; cases hu1
            exact ⟨_, List.getElem?_eq_getElem hi, hu2⟩
          obtain ⟨dy, hdy, ry⟩ : ∃ dy, ys[i]? = some dy ∧ DR K ρ1 H1 dy y := by
            have hi : i < ys.length := by
              have := (List.getElem?_eq_some_iff.mp hy).1
              omega
            obtain ⟨u, hu1, hu2⟩ := tb.get (List.getElem?_eq_getElem hi)
            rw [hy] at hu1; cases hu1
            exact ⟨_, List.getElem?_eq_getElem hi, hu2⟩
          obtain ⟨vs', w1, w2⟩ := S'.at' p.2.length _ A get_last0 hn
          rw [hu] at w1; cases w1
          have gT : Gr K ρ' H' ρ' (upd H' T (.tup [x, y])) := Gr.new hT
          have hu2 : (upd H' T (.tup [x, y])) A = some (.lst us) := by rw [upd_ne hTA]; exact hu
          have tk : (zipD xs ys).take (i + 1) = (zipD xs ys).take i ++ [.tup [dx, dy]] := by
            rw [List.take_succ, zip_at hdx hdy]; rfl
          have t : DRs K ρ' (upd H' T (.tup [x, y])) ((zipD xs ys).take (i + 1)) (us ++ [.ref T]) := by
            rw [tk]
            exact (w2.mono gT).app (.cons (.tup upd_same (.cons ((rx.mono g).mono gT) (.cons ((ry.mono g).mono gT) .nil))) .nil)
          obtain ⟨S2, g2⟩ := (S'.new (u := .tup [x, y]) hT).setL (n := p.2.length) get_last0 hn hu2 t
          refine ⟨ρ', (g.trans gT).trans g2, ?_, hn, upd_same, by rw [List.length_append, hlu]; rfl⟩
          have e : (p.2 ++ [O.lst ((zipD xs ys).take i)]).set p.2.length (.lst ((zipD xs ys).take (i + 1))) = p.2 ++ [O.lst ((zipD xs ys).take (i + 1))] := by simp
          rw [e] at S2
          exact S2
        · obtain ⟨S2, g2⟩ := S1.alloc (o := .lst []) hA (u := .lst []) rfl ⟨[], upd_same, .nil⟩
          exact ⟨_, g2, by rw [List.take_zero]; exact S2, by rw [← n_eq, List.getElem?_append_right (Nat.le_refl _)]; simp, upd_same, rfl⟩
        · rintro us H' ⟨ρ', g, S', hn, hu, hlu⟩
          have e : (zipD xs ys).take vs.length = zipD xs ys := List.take_of_length_le (by rw [zip_len]; omega)
          rw [e] at S'
          exact k ρ' H' _ (g1.trans g) S' (.ref hn)
  · cases e2
end
end Sim

namespace Sim
open PySem L2
noncomputable section
/-! ### written dicts of the module, text keys -/
def findTb (z : Str) : List (Str × D) → Option D
  | [] => none
  | p :: r => if p.1 = z then some p.2 else findTb z r
def RowE (K : Frg) (e : DictEntry) (p : Str × D) : Prop := (∃ t, e.key = .str p.1 t) ∧ ∃ v, RelV v e.val ∧ ∀ ρ H, DR K ρ H p.2 v
structure GTab (K : Frg) (w : World) (a : Addr) (tb : List (Str × D)) : Prop where
  ex : ∃ es n, KDict K w a es n ∧ Paired (RowE K) es.toList tb
theorem tab_find {K : Frg} {z : Str} : ∀ {l : List DictEntry} {tb : List (Str × D)}, Paired (RowE K) l tb →
    (findTb z tb = none ∧ l.find? (fun e => Value.isStrOf z e.key) = none) ∨ ∃ d v e, findTb z tb = some d ∧ l.find? (fun e => Value.isStrOf z e.key) = some e ∧ RelV v e.val ∧ ∀ ρ H, DR K ρ H d v
  | _, _, .nil => .inl ⟨rfl, rfl⟩
  | e :: l, p :: tb, .cons h t => by
    obtain ⟨⟨t0, hk⟩, v, h1, h2⟩ := h
    have hq : Value.isStrOf z e.key = (p.1 == z) := by rw [hk]; rfl
    by_cases c : p.1 = z
    · refine .inr ⟨p.2, v, e, by unfold findTb; rw [if_pos c], ?_, h1, h2⟩
      rw [List.find?_cons, hq, c]
      simp
    · have c2 : (p.1 == z) = false := by simpa using c
      rcases tab_find (z := z) t with ⟨a1, a2⟩ | ⟨d, v, e2, a1, a2, a3, a4⟩
      · exact .inl ⟨by unfold findTb; rw [if_neg c]; exact a1, by rw [List.find?_cons, hq, c2]; exact a2⟩
      · exact .inr ⟨d, v, e2, by unfold findTb; rw [if_neg c]; exact a1, by rw [List.find?_cons, hq, c2]; exact a2, a3, a4⟩
end
end Sim

namespace Sim
open PySem L2
noncomputable section

structure Sx where
  N : List Str
  sc : Scope
  top : Bool
  own : List Str
  blt : List Str
  mth : List Str
  glo : List (Str × D)
  /-- how many parameters, and the defaults of the last of them -/
  dfl : List (Str × Nat × List D)
  /-- written dicts of the module -/
  gds : List (Str × List (Str × D))
  /-- where {} is a dict with tuples as keys -/
  tds : List (Nat × Nat)
  /-- own defs that may raise -/
  rz : List Str := []
  /-- own exceptions: what their making keeps -/
  exs : List (Str × List Str) := []
  /-- raised, named in a clause: whether it is caught -/
  exm : List (Str × Str × Bool) := []
  /-- classes that a suite asks about -/
  exi : List Str := []
  /-- where tuples are made of which it is known that they have no dict -/
  kts : List (Nat × Nat) := []
  /-- the def's name; defs that make lambdas, what their code objects are called -/
  nm : Str := ""
  tq : List (Str × Str) := []
def lookG {α : Type} (x : Str) : List (Str × α) → Option α
  | [] => none
  | p :: r => if p.1 = x then some p.2 else lookG x r
/-- the defaults that fill up a call with m values -/
def dfOf (l : List (Str × Nat × List D)) (x : Str) (m : Nat) : Option (List D) :=
  match lookG x l with
  | none => some []
  | some (np, ds) => if m ≤ np ∧ np ≤ m + ds.length then some (ds.drop (ds.length - (np - m))) else none
def atP (p : Pos) (l : List (Nat × Nat)) : Bool := l.contains (p.line, p.col)
def lookD (x : Str) : List (Str × D) → Option D
  | [] => none
  | p :: r => if p.1 = x then some p.2 else lookD x r
structure Gx (X : Cx) (S : Sx) : Prop where
  hN : X.N = S.N
  nd : S.N.Nodup
  sc : X.env.scope = S.sc
  fn : S.top = true → ∀ x, X.fn x = true
/-- an exception of the program: its class, what it keeps -/
structure Ex where
  cls : Str
  fs : List (Str × D)
abbrev CallX := Str → List D → Sto → Option (Ex × Sto)
def FDR (K : Frg) (ρ : Rho) (H : Hp) : List (Str × D) → List (Str × V) → Prop
  | [], [] => True
  | a :: r, b :: s => a.1 = b.1 ∧ DR K ρ H a.2 b.2 ∧ FDR K ρ H r s
  | _, _ => False
def ExR (K : Frg) (mg : Str → Option Value) (ρ : Rho) (H : Hp) (e : Ex) (cls : Value) (d : Option Addr) : Prop :=
  ∃ (C dx : Addr) (vs : List (Str × V)), mg e.cls = some (.ref C) ∧ cls = .ref C ∧ d = some dx ∧ H dx = some (.xd vs) ∧ FDR K ρ H e.fs vs
def ThenX (K : Frg) (mg : Str → Option Value) (ρ : Rho) (H : Hp) (e : Ex) (st : Sto) (E : XK) : Prop := ∀ (ρ' : Rho) (H' : Hp) (cls : Value) (d : Option Addr), Gr K ρ H ρ' H' → SR K ρ' st H' → ExR K mg ρ' H' e cls d → E cls d H'
theorem ThenX.pre {K : Frg} {mg : Str → Option Value} {ρ ρ' : Rho} {H H' : Hp} {e : Ex} {st : Sto} {E : XK} (h : ThenX K mg ρ H e st E) (g : Gr K ρ H ρ' H') : ThenX K mg ρ' H' e st E := fun ρ2 H2 c d g2 s r => h ρ2 H2 c d (g.trans g2) s r
def rX (K : Frg) (mg : Str → Option Value) (g : List D → Sto → Option (Ex × Sto)) (vs : List V) (H : Hp) (E : XK) : Prop :=
  ∃ ρ st ds e st', SR K ρ st H ∧ DRs K ρ H ds vs ∧ g ds st = some (e, st') ∧ ThenX K mg ρ H e st' E
def spX (K : Frg) (mg : Str → Option Value) (cf : CallF) (cx : CallX) (f : Str) (m : Nat) : Sp := fun vs H Q E => vs.length = m ∧ (rB K (cf f) vs H Q ∨ rX K mg (cx f) vs H E)
def spF (K : Frg) (cf : CallF) (f : Str) (m : Nat) : Sp := fun vs H Q _ => vs.length = m ∧ rB K (cf f) vs H Q
/-- a written dict of the module -/
def GTabAt (X : Cx) (x : Str) (tb : List (Str × D)) : Prop := ∃ a, X.mg x = some (.ref a) ∧ GTab X.K X.w a tb
structure OwnOk (X : Cx) (dfl : List (Str × Nat × List D)) (cf : CallF) (n : Nat) (f : Str) (fa : Addr) (fd : FuncData) (ps : List Str) (sp : Sp) : Prop where
  mg : X.mg f = some (.ref fa)
  kp : PySem.W.keepIn X.K (.ref fa) = true
  bd : ∀ m dds, dfOf dfl f m = some dds → ∃ us vs, Vals vs us ∧ Binds X.K fd ps us ∧ ∀ ρ H, DRs X.K ρ H dds vs
  ok : FnG X.prog X.w X.K X.mg X.base (L2.CX X.prog X.w) n fa fd ps sp
  im : ∀ (vs : List V) (H : Hp) (Q : VK), spF X.K cf f ps.length vs H Q (fun _ _ _ => False) → sp vs H Q fun _ _ _ => False
  ar : ∀ ds st r, cf f ds st = some r → ds.length = ps.length
/-- a def that makes lambdas: its code object, the table of it -/
def LamAt (X : Cx) (x q : Str) (tq : List (Str × Str)) : Prop := Room 2 X.A ∧ ∃ c P, X.env.code = .ref c ∧ PySem.W.tabIn X.K x = some (c, P) ∧ LamX.TabB X.base X.mg c P ∧ q = X.env.qual ++ "<lambda>" ∧ ∀ z ∈ tq, TabOf X.K z.1 P → z.2 = q
structure Fx (X : Cx) (S : Sx) (cf : CallF) (n : Nat) : Prop where
  room : Room n X.A
  gu : X.A.guards = some []
  calm : X.calm = true
  px : PassesOwn (model X.prog X.w) X.A X.env X.xe
  own : ∀ f, f ∈ S.own → ∃ fa fd ps sp, OwnOk X S.dfl cf n f fa fd ps sp
  blt : ∀ x, x ∈ S.blt → X.mg x = none
  mth : ("gcd" : Str) ∈ S.mth → X.mg "gcd" = some (.builtin "math.gcd")
  glo : ∀ x d, lookD x S.glo = some d → ∃ u v, X.mg x = some u ∧ RelV v u ∧ ∀ ρ H, DR X.K ρ H d v
  gds : ∀ x tb, lookG x S.gds = some tb → GTabAt X x tb
  lam : ∀ q, (S.nm, q) ∈ S.tq → LamAt X S.nm q S.tq

/-! ### looks at the text -/
def ixOf (x : Str) : List Str → Option Nat
  | [] => none
  | y :: r => if y = x then some 0 else (ixOf x r).map (· + 1)
theorem ixOf_get {x : Str} : ∀ {N : List Str} {i : Nat}, ixOf x N = some i → N[i]? = some x
  | [], _, h => by cases h
  | y :: r, i, h => by
    unfold ixOf at h
    by_cases q : y = x
    · rw [if_pos q] at h; cases h; subst q; rfl
    · rw [if_neg q] at h
      obtain ⟨j, e1, rfl⟩ := map_some' h
      show r[j]? = some x
      exact ixOf_get e1
def visB (sc : Scope) (x : Str) : Bool := match sc.names.lookup x with
  | some .local => true
  | some .cell => true
  | some .free => true
  | _ => false
theorem visB_ok {sc : Scope} {x : Str} (h : visB sc x = true) : Vis sc x := by
  unfold visB at h
  unfold Vis
  split at h <;> first | (cases h; done) | skip
  · exact .inl (by assumption)
  · exact .inr (.inl (by assumption))
  · exact .inr (.inr (by assumption))
def glB (sc : Scope) (x : Str) : Bool := match sc.names.lookup x with
  | some .globalImplicit => true
  | _ => false
theorem glB_ok {X : Cx} {S : Sx} (G : Gx X S) {x : Str} (h : glB S.sc x = true) : Gl X x := by
  unfold glB at h
  split at h
  · show X.env.scope.names.lookup x = _
    rw [G.sc]; assumption
  · cases h
def nmOk (x : Str) : Bool := !(x == "__debug__") && !(x == "__classdict__") && !(x == "__name__")
theorem nmOk_ok {x : Str} (h : nmOk x = true) : (x == ("__debug__" : Str)) = false ∧ (x == ("__classdict__" : Str)) = false ∧ x ≠ "__name__" := by
  unfold nmOk at h
  simp only [Bool.and_eq_true, Bool.not_eq_true'] at h
  exact ⟨h.1.1, h.1.2, by intro e; rw [e] at h; exact absurd h.2 (by decide)⟩
def locB (S : Sx) (x : Str) : Bool := match S.sc.names.lookup x with
  | some .local => true
  | some .cell => S.top
  | _ => false
theorem locB_ok {X : Cx} {S : Sx} (G : Gx X S) {x : Str} (h : locB S x = true) : L2.Loc X.env.scope x ∧ (X.fn x = true ∨ X.env.scope.names.lookup x = some .local) := by
  unfold locB at h
  unfold L2.Loc
  rw [G.sc]
  split at h <;> first | (cases h; done) | skip
  · rename_i q; exact ⟨.inl q, .inr q⟩
  · rename_i q; exact ⟨.inr q, .inl (G.fn h x)⟩
def notStar : Expr → Bool
  | .Starred _ _ => false
  | _ => true
def notSet : Expr → Bool
  | .Set _ _ _ => false
  | _ => true
def notSlice : Expr → Bool
  | .Slice _ _ _ _ => false
  | _ => true
def notCall : Expr → Bool
  | .Call _ _ _ _ => false
  | _ => true
theorem star1 {e : Expr} {es : List Expr} {env : Env} (h : notStar e = true) : starEach (e :: es) env = (false, eval e env) :: starEach es env := by
  cases e <;> first | rfl | (cases h; done)
theorem starAny {pos : Pos} {env : Env} : ∀ {es : List Expr}, es.all notStar = true → (backTo pos (starEach es env)).any (·.1) = false
  | [], _ => rfl
  | e :: es, h => by
    rw [List.all_cons, Bool.and_eq_true] at h
    rw [star1 h.1]
    show (false || (backTo pos (starEach es env)).any (·.1)) = false
    rw [starAny h.2]; rfl
theorem setMark {op : CmpOp} {e : Expr} (h : notSet e = true) : behindInMarks op e = false := by
  cases e <;> first | rfl | (cases h; done)
theorem setFold {e : Expr} {env : Env} (h : notSet e = true) (x : Value) : foldedSetIterable e env x = pure x := by
  cases e <;> first | rfl | (cases h; done)
theorem plainIx {b : Expr} (h : notSlice b = true) : PlainIx b := fun o i => by
  cases b <;> first | rfl | (cases h; done)
theorem attrB {o : Expr} {m : Str} {env : Env} (h : notCall o = true) : attributeBase o m env (eval o env) = eval o env := by
  cases o <;> first | rfl | (cases h; done)
end
end Sim

namespace Sim
open PySem L2
noncomputable section
/-! ### empty dicts -/
/-- of texts and numbers as keys, of tuples as keys -/
def fDn (t : Bool) : SemE := fun _ st => alloc (if t = true then .dtp [] else .dct []) st
/-! ### d.get, d.setdefault, pop -/
def dctB (x : D) (st : Sto) : Bool :=
  match x with
  | .ref n => match st[n]? with
    | some (.dct _) => true
    | some (.dtp _) => true
    | some (.frd _) => true
    | _ => false
  | _ => false
def fGet1 (fo fe : SemE) : SemE := fun η st => (fo η st).bind fun p => if dctB p.1 p.2 = true then (fe η p.2).bind fun q => (dlook p.1 q.1 q.2).map fun o => (o.getD .non, q.2) else none
def fGet2 (fo fe fd : SemE) : SemE := fun η st => (fo η st).bind fun p => if dctB p.1 p.2 = true then (fe η p.2).bind fun q => (fd η q.2).bind fun r => (dlook p.1 q.1 r.2).map fun o => (o.getD r.1, r.2) else none
/-- the dict at x with y told, where it was not: what is there, the store -/
def sdefD (x y z : D) (st : Sto) : R :=
  match x with
  | .ref n => match st[n]? with
    | some (.dct kvs) => (keyD y).bind fun k => if kvs.length < most then match getK kvs k with
      | some d => some (d, st)
      | none => some (z, st.set n (.dct (putD kvs k z)))
      else none
    | some (.dtp kvs) => (keyT y).bind fun k => if kvs.length < most then match getK kvs k with
      | some d => some (d, st)
      | none => some (z, st.set n (.dtp (putD kvs k z)))
      else none
    | _ => none
  | _ => none
def fSdf (fo fe fd : SemE) : SemE := fun η st => (fo η st).bind fun p => if dctB p.1 p.2 = true then (fe η p.2).bind fun q => (fd η q.2).bind fun r => sdefD p.1 q.1 r.1 r.2 else none
def dropD {κ : Type} [DecidableEq κ] (kvs : List (κ × D)) (k : κ) : List (κ × D) := kvs.filter fun kv => decide (kv.1 ≠ k)
/-- xs.pop(i), d.pop(k) -/
def popD (x y : D) (st : Sto) : R :=
  match x with
  | .ref n => match st[n]? with
    | some (.lst xs) => match y with
      | .int i => if inR i then (seqIndex? i xs.length).bind fun j => (xs[j]?).map fun d => (d, st.set n (.lst (xs.eraseIdx j))) else none
      | _ => none
    | some (.dct kvs) => (keyD y).bind fun k => (getK kvs k).map fun d => (d, st.set n (.dct (dropD kvs k)))
    | _ => none
  | _ => none
def lstB (x : D) (st : Sto) : Bool :=
  match x with
  | .ref n => match st[n]? with
    | some (.lst _) => true
    | _ => false
  | _ => false
def fPop1 (fo fe : SemE) : SemE := fun η st => (fo η st).bind fun p => if (lstB p.1 p.2 || dctB p.1 p.2) = true then (fe η p.2).bind fun q => if lstB p.1 p.2 = true ∧ lstB p.1 q.2 = true ∨ lstB p.1 p.2 = false ∧ lstB p.1 q.2 = false then popD p.1 q.1 q.2 else none else none
/-- d.pop(k, z) -/
def pop2D (x y z : D) (st : Sto) : R :=
  match x with
  | .ref n => match st[n]? with
    | some (.dct kvs) => (keyD y).bind fun k => match getK kvs k with
      | some d => some (d, st.set n (.dct (dropD kvs k)))
      | none => some (z, st)
    | _ => none
  | _ => none
def fPop2 (fo fe fd : SemE) : SemE := fun η st => (fo η st).bind fun p => if dctB p.1 p.2 = true then (fe η p.2).bind fun q => (fd η q.2).bind fun r => pop2D p.1 q.1 r.1 r.2 else none

section
variable {X : Cx}
theorem ok_dn {pos : Pos} {t : Bool} : PE X (.Dict [] [] pos) (tEv X.K (fDn t)) := by
  cases t with
  | false =>
    refine PE.imp pe_dnewK fun σ H Q q => ?_
    obtain ⟨ρ, η, st, d, st', E, S, e, k⟩ := q
    cases e
    intro p hp
    have g : Gr X.K ρ H (ρ ++ [p]) (upd H p (.dK [])) := ⟨fun n a h => get_app h, fun _ _ h => tup_new hp h, fun _ _ _ h => frz_new hp h⟩
    obtain ⟨S', g'⟩ := S.alloc (o := .dct []) hp (u := .dK []) rfl ⟨[], upd_same, .nil⟩
    exact k _ _ _ g S' (.ref (by rw [← S.len, List.getElem?_append_right (Nat.le_refl _)]; simp))
  | true =>
    refine PE.imp pe_dnewT fun σ H Q q => ?_
    obtain ⟨ρ, η, st, d, st', E, S, e, k⟩ := q
    cases e
    intro p hp
    have g : Gr X.K ρ H (ρ ++ [p]) (upd H p (.dT [])) := ⟨fun n a h => get_app h, fun _ _ h => tup_new hp h, fun _ _ _ h => frz_new hp h⟩
    obtain ⟨S', g'⟩ := S.alloc (o := .dtp []) hp (u := .dT []) rfl ⟨[], upd_same, .nil⟩
    exact k _ _ _ g S' (.ref (by rw [← S.len, List.getElem?_append_right (Nat.le_refl _)]; simp))
theorem dctB_ok {K : Frg} {ρ : Rho} {H : Hp} {st : Sto} (S : SR K ρ st H) {x : D} {v : V} (r : DR K ρ H x v) (h : dctB x st = true) : ∃ a, v = .ref a ∧ IsD H a := by
  unfold dctB at h
  split at h
  · split at h
    · rename_i n kvs q
      cases r with
      | ref e => obtain ⟨vs, h1, _⟩ := S.at' _ _ _ q e; exact ⟨_, rfl, .inl ⟨vs, .inl h1⟩⟩
    · rename_i n kvs q
      cases r with
      | ref e => obtain ⟨vs, h1, _⟩ := S.at' _ _ _ q e; exact ⟨_, rfl, .inr ⟨vs, .inl h1⟩⟩
    · rename_i n kvs q
      cases r with
      | ref e => obtain ⟨o, vs, h1, _⟩ := S.at' _ _ _ q e; exact ⟨_, rfl, .inl ⟨vs, .inr ⟨o, h1⟩⟩⟩
    · cases h
  · cases h
theorem m1_of {o e : Expr} {m : Str} {apos cpos : Pos} (hc : notCall o = true) (hl : (apos.endLine == cpos.line) = true) (hs : notStar e = true) : M1 X o m apos e cpos :=
  ⟨attrB hc, by rw [star1 hs]; rfl, hl, by rw [star1 hs]; rfl⟩
theorem m2_of {o e f : Expr} {m : Str} {apos cpos : Pos} (hc : notCall o = true) (hl : (apos.endLine == cpos.line) = true) (hs : notStar e = true) (ht : notStar f = true) : M2 X o m apos e f cpos :=
  ⟨attrB hc, by rw [star1 hs, star1 ht]; rfl, hl, by rw [star1 hs, star1 ht]; rfl⟩
theorem ok_get1 {o e : Expr} {fo fe : SemE} {apos cpos : Pos} (hu : X.A.units + 1 < cLine) (m : M1 X o "get" apos e cpos) (ho : PE X o (tEv X.K fo)) (he : PE X e (tEv X.K fe)) : PE X (.Call (.Attribute o "get" apos) [e] [] cpos) (tEv X.K (fGet1 fo fe)) := by
  refine PE.imp (pe_dget1 hu ho he m) fun σ H Q q => ?_
  obtain ⟨ρ, η, st, d, st', E, S, e, k⟩ := q
  obtain ⟨p, e1, e2⟩ := bind_some e
  obtain ⟨c, e3⟩ := ite_some e2
  obtain ⟨q, e4, e5⟩ := bind_some e3
  obtain ⟨r, e6, e7⟩ := map_some' e5
  cases e7
  refine tEv.then E S e1 fun ρ1 H1 v1 g1 S1 r1 => ?_
  obtain ⟨a, rfl, isd⟩ := dctB_ok S1 r1 c
  refine ⟨a, rfl, isd, tEv.then (E.mono g1) S1 e4 fun ρ2 H2 v2 g2 S2 r2 => ?_⟩
  obtain ⟨b, ov, hb, g, ro⟩ := dlook_ok S2 (r1.mono g2) r2 e6
  cases hb
  refine ⟨ov, g, ?_⟩
  rcases ro with ⟨rfl, rfl⟩ | ⟨d, w, rfl, rfl, rw'⟩
  · exact (k.pre (g1.trans g2)).now S2 .non
  · exact (k.pre (g1.trans g2)).now S2 rw'
theorem ok_get2 {o e f : Expr} {fo fe fd : SemE} {apos cpos : Pos} (hu : X.A.units + 1 < cLine) (m : M2 X o "get" apos e f cpos) (ho : PE X o (tEv X.K fo)) (he : PE X e (tEv X.K fe)) (hf : PE X f (tEv X.K fd)) : PE X (.Call (.Attribute o "get" apos) [e, f] [] cpos) (tEv X.K (fGet2 fo fe fd)) := by
  refine PE.imp (pe_dget2 hu ho he hf m) fun σ H Q q => ?_
  obtain ⟨ρ, η, st, d, st', E, S, e, k⟩ := q
  obtain ⟨p, e1, e2⟩ := bind_some e
  obtain ⟨c, e3⟩ := ite_some e2
  obtain ⟨q, e4, e5⟩ := bind_some e3
  obtain ⟨z, e8, e9⟩ := bind_some e5
  obtain ⟨r, e6, e7⟩ := map_some' e9
  cases e7
  refine tEv.then E S e1 fun ρ1 H1 v1 g1 S1 r1 => ?_
  obtain ⟨a, rfl, isd⟩ := dctB_ok S1 r1 c
  refine ⟨a, rfl, isd, tEv.then (E.mono g1) S1 e4 fun ρ2 H2 v2 g2 S2 r2 => tEv.then (E.mono (g1.trans g2)) S2 e8 fun ρ3 H3 v3 g3 S3 r3 => ?_⟩
  obtain ⟨b, ov, hb, g, ro⟩ := dlook_ok S3 (r1.mono (g2.trans g3)) (r2.mono g3) e6
  cases hb
  refine ⟨ov, g, ?_⟩
  have kk := k.pre (g1.trans (g2.trans g3))
  rcases ro with ⟨rfl, rfl⟩ | ⟨d, w, rfl, rfl, rw'⟩
  · exact kk.now S3 r3
  · exact kk.now S3 rw'
/-- d.setdefault(y, z), y a tuple -/
def tSdT (td ty tx : TE) : TE := fun σ H Q => td σ H fun x H1 => ∃ a, x = .ref a ∧ IsD H1 a ∧ ty σ H1 fun y H2 => tx σ H2 fun z H3 => ∃ (kvs : List (List Key × V)) (k : List Key) (b : Addr), H3 a = some (.dT kvs) ∧ y = .ref b ∧ H3 b = some (.tup (k.map kV)) ∧ kvs.length < sizeLine ∧
  (∀ v, valV kvs k = some v → Q v H3) ∧ (valV kvs k = none → Q z (upd H3 a (.dT (putK kvs k z))))
theorem pe_sdT {o e f : Expr} {td ty tx : TE} {apos cpos : Pos} (hu : X.A.units + 1 < cLine) (ho : PE X o td) (he : PE X e ty) (hf : PE X f tx) (m : M2 X o "setdefault" apos e f cpos) : PE X (.Call (.Attribute o "setdefault" apos) [e, f] [] cpos) (tSdT td ty tx) := by
  refine ⟨fun pins s σ H Q I h => ?_⟩
  refine wpAny_Call_method m.base m.few m.line PySem.F.plainAttrs_dict PySem.F.slot_dict_setdefault PySem.F.type_dict_setdefault (thn (ho.run pins s σ H _ I h) fun u s1 ⟨x, H1, I1, rx, z1⟩ => ?_)
  obtain ⟨a, rfl, dd, q1⟩ := z1
  obtain rfl : u = Value.ref a := rx
  obtain ⟨t1, t2, _⟩ := isD_at I1 dd
  refine ⟨t1, t2, ?_⟩
  rw [m.trees]
  refine Calls.callWith_builtin rfl (Calls.evalArgs_plain (Calls.spliced_cons (thn (he.run pins s1 σ H1 _ I1 q1) fun iv s2 ⟨y, H2, I2, ry, q2⟩ =>
    Calls.spliced_cons (thn (hf.run pins s2 σ H2 _ I2 q2) fun fv s3 ⟨w, H3, I3, rz, z3⟩ => Calls.spliced_nil ?_))))
  obtain ⟨kvs, k, b, ea, rfl, eb, hl, q3, q4⟩ := z3
  cases (show iv = Value.ref b from ry)
  obtain ⟨z, hd, xs, rel, dd⟩ := dt_of I3.hok ea
  have hz : xs.length ≤ sizeLine := by rw [← Paired.length rel]; exact z
  have r0 := rel.val k
  refine PySem.call_setdefault_heap (hsz := hz) (tupleKind_room_in1 hu) (key_of I3.hok eb) hd dd (fun p hp => ?_) fun hn h' dd' hs => ?_
  · rw [hp] at r0
    cases ev : valV kvs k with
    | none => rw [ev] at r0; exact (show False from r0).elim
    | some v0 =>
      rw [ev] at r0
      exact ⟨v0, _, I3.tok _, r0, q3 v0 ev⟩
  · rw [hn] at r0
    have ev : valV kvs k = none := by
      cases ev : valV kvs k with
      | none => rfl
      | some v0 => rw [ev] at r0; exact (show False from r0).elim
    obtain ⟨q, es, ep, hq, h2, h3, h4, _, h5⟩ := dd'
    have hl2 : (putK kvs k w).length ≤ sizeLine := by have := length_putK kvs k w; omega
    exact ⟨w, _, d_write (ob := .dT (putK kvs k w)) I3 (by rw [ea]; exact True.intro) hs ⟨q, hq⟩ ⟨hl2, hd, _, (rel.put k eb rz).keeps (fun c ys ec => by rw [upd_ne (ne_of ec ea (fun z => nomatch z))]; exact ec), q, es, ep, hq, h2, h3, h4, h5⟩, rz, q4 ev⟩
theorem PE.or {e : Expr} {t t' : TE} (h : PE X e t) (h' : PE X e t') : PE X e (fun σ H Q => t σ H Q ∨ t' σ H Q) :=
  ⟨fun pins s σ H Q I q => q.elim (fun q => h.run pins s σ H Q I q) fun q => h'.run pins s σ H Q I q⟩
theorem SR.setK {K : Frg} {ρ : Rho} {st : Sto} {H : Hp} (S : SR K ρ st H) {n : Nat} {a : Addr} {xs ys : List (Key × D)} {vs ws : List (Key × V)} (h : st[n]? = some (.dct xs)) (ea : ρ[n]? = some a) (ha : H a = some (.dK vs)) (t : KDR K ρ H ys ws) :
    SR K ρ (st.set n (.dct ys)) (upd H a (.dK ws)) ∧ Gr K ρ H ρ (upd H a (.dK ws)) :=
  S.set (u := .dK ws) (o' := .dct ys) h ea rfl rfl ⟨ws, upd_same, KDR.mono (Gr.upd ha rfl) t⟩
theorem SR.setT {K : Frg} {ρ : Rho} {st : Sto} {H : Hp} (S : SR K ρ st H) {n : Nat} {a : Addr} {xs ys : List (List Key × D)} {vs ws : List (List Key × V)} (h : st[n]? = some (.dtp xs)) (ea : ρ[n]? = some a) (ha : H a = some (.dT vs)) (t : TDR K ρ H ys ws) :
    SR K ρ (st.set n (.dtp ys)) (upd H a (.dT ws)) ∧ Gr K ρ H ρ (upd H a (.dT ws)) :=
  S.set (u := .dT ws) (o' := .dtp ys) h ea rfl rfl ⟨ws, upd_same, TDR.mono (Gr.upd ha rfl) t⟩
theorem ok_sdf {o e f : Expr} {fo fe fd : SemE} {apos cpos : Pos} (hu : X.A.units + 1 < cLine) (m : M2 X o "setdefault" apos e f cpos) (ho : PE X o (tEv X.K fo)) (he : PE X e (tEv X.K fe)) (hf : PE X f (tEv X.K fd)) : PE X (.Call (.Attribute o "setdefault" apos) [e, f] [] cpos) (tEv X.K (fSdf fo fe fd)) := by
  refine PE.imp (PE.or (pe_dsetd ho he hf m) (pe_sdT hu ho he hf m)) fun σ H Q q => ?_
  obtain ⟨ρ, η, st, d, st', E, S, e, k⟩ := q
  obtain ⟨p, e1, e2⟩ := bind_some e
  obtain ⟨c, e3⟩ := ite_some e2
  obtain ⟨q, e4, e5⟩ := bind_some e3
  obtain ⟨z, e8, e9⟩ := bind_some e5
  unfold sdefD at e9
  split at e9
  · rename_i x0 n hp1
    split at e9
    · rename_i kvs hn
      obtain ⟨ky, e10, e11⟩ := bind_some e9
      obtain ⟨hl, e12⟩ := ite_some e11
      refine .inl (tEv.then E S e1 fun ρ1 H1 v1 g1 S1 r1 => ?_)
      obtain ⟨a, rfl, isd⟩ := dctB_ok S1 r1 c
      refine ⟨a, rfl, isd, tEv.then (E.mono g1) S1 e4 fun ρ2 H2 v2 g2 S2 r2 => tEv.then (E.mono (g1.trans g2)) S2 e8 fun ρ3 H3 v3 g3 S3 r3 => ?_⟩
      have r1 := r1.mono (g2.trans g3)
      rw [hp1] at r1
      cases r1 with
      | ref er =>
        obtain ⟨vs, h1, h2⟩ := S3.at' _ _ _ hn er
        have := keyD_ok (r2.mono g3) e10
        subst this
        refine ⟨vs, ky, h1, rfl, by rw [← kdr_len h2]; exact most_lt hl, fun v hv => ?_, fun hv => ?_⟩
        · rcases valV_ok (k := ky) h2 with ⟨_, y⟩ | ⟨d1, w, y1, y2, y3⟩
          · rw [y] at hv; cases hv
          · rw [y1] at e12; cases e12
            rw [y2] at hv; cases hv
            exact (k.pre (g1.trans (g2.trans g3))).now S3 y3
        · rcases valV_ok (k := ky) h2 with ⟨y, _⟩ | ⟨d1, w, y1, y2, y3⟩
          · rw [y] at e12; cases e12
            obtain ⟨S4, g4⟩ := S3.setK hn er h1 (put_ok (k := ky) r3 h2)
            exact k _ _ _ (g1.trans (g2.trans (g3.trans g4))) S4 (r3.mono g4)
          · rw [y2] at hv; cases hv
    · rename_i kvs hn
      obtain ⟨ky, e10, e11⟩ := bind_some e9
      obtain ⟨hl, e12⟩ := ite_some e11
      refine .inr (tEv.then E S e1 fun ρ1 H1 v1 g1 S1 r1 => ?_)
      obtain ⟨a, rfl, isd⟩ := dctB_ok S1 r1 c
      refine ⟨a, rfl, isd, tEv.then (E.mono g1) S1 e4 fun ρ2 H2 v2 g2 S2 r2 => tEv.then (E.mono (g1.trans g2)) S2 e8 fun ρ3 H3 v3 g3 S3 r3 => ?_⟩
      have r1 := r1.mono (g2.trans g3)
      rw [hp1] at r1
      cases r1 with
      | ref er =>
        obtain ⟨vs, h1, h2⟩ := S3.at' _ _ _ hn er
        obtain ⟨b, rfl, hb⟩ := keyT_ok (r2.mono g3) e10
        refine ⟨vs, ky, b, h1, rfl, hb, by rw [← kdr_len h2]; exact most_lt hl, fun v hv => ?_, fun hv => ?_⟩
        · rcases valV_ok (k := ky) h2 with ⟨_, y⟩ | ⟨d1, w, y1, y2, y3⟩
          · rw [y] at hv; cases hv
          · rw [y1] at e12; cases e12
            rw [y2] at hv; cases hv
            exact (k.pre (g1.trans (g2.trans g3))).now S3 y3
        · rcases valV_ok (k := ky) h2 with ⟨y, _⟩ | ⟨d1, w, y1, y2, y3⟩
          · rw [y] at e12; cases e12
            obtain ⟨S4, g4⟩ := S3.setT hn er h1 (put_ok (k := ky) r3 h2)
            exact k _ _ _ (g1.trans (g2.trans (g3.trans g4))) S4 (r3.mono g4)
          · rw [y2] at hv; cases hv
    · cases e9
  · cases e9
theorem drop_ok {κ : Type} [DecidableEq κ] {K : Frg} {ρ : Rho} {H : Hp} (k : κ) {kvs : List (κ × D)} {vs : List (κ × V)} (h : PDR K ρ H kvs vs) : PDR K ρ H (dropD kvs k) (dropK vs k) := by
  induction h with
  | nil => exact .nil
  | @cons a b as bs p t ih =>
    unfold dropD dropK at *
    have e : a.1 = b.1 := p.1
    by_cases c : a.1 = k
    · rw [List.filter_cons_of_neg (by simp [c]), List.filter_cons_of_neg (by simp [← e, c])]
      exact ih
    · rw [List.filter_cons_of_pos (by simp [c]), List.filter_cons_of_pos (by simp [← e, c])]
      exact .cons p ih
theorem lstB_ok {x : D} {st : Sto} (h : lstB x st = true) : ∃ n xs, x = .ref n ∧ st[n]? = some (.lst xs) := by
  unfold lstB at h
  split at h
  · split at h
    · exact ⟨_, _, rfl, by assumption⟩
    · cases h
  · cases h
theorem erase_ok {K : Frg} {ρ : Rho} {H : Hp} {xs : List D} {vs : List V} (t : DRs K ρ H xs vs) (j : Nat) : DRs K ρ H (xs.eraseIdx j) (vs.eraseIdx j) := t.eraseIdx j
theorem inR_64 {i : Int} (h : inR i) : -(2 ^ 63) ≤ i ∧ i < 2 ^ 63 := by
  unfold inR at h
  have e1 : (2 : Int) ^ 62 = 4611686018427387904 := by decide
  have e2 : (2 : Int) ^ 63 = 9223372036854775808 := by decide
  rw [e1] at h
  rw [e2]
  omega
theorem ok_pop1 {o e : Expr} {fo fe : SemE} {apos cpos : Pos} (hc : notCall o = true) (hl : (apos.endLine == cpos.line) = true) (hs : notStar e = true) (ho : PE X o (tEv X.K fo)) (he : PE X e (tEv X.K fe)) (hea : PA X [e] (tAv X.K (fCons fe fNil))) :
    PE X (.Call (.Attribute o "pop" apos) [e] [] cpos) (tEv X.K (fPop1 fo fe)) := by
  refine PE.imp (PE.or (pe_bm PySem.F.plainAttrs_list PySem.F.slot_list_pop PySem.F.type_list_pop mt_popAt ho hea (attrB hc) (by rw [star1 hs]; rfl) hl (by rw [star1 hs]) rfl) (pe_dpop1 ho he (m1_of hc hl hs))) fun σ H Q q => ?_
  obtain ⟨ρ, η, st, d, st', E, S, e, k⟩ := q
  obtain ⟨p, e1, e2⟩ := bind_some e
  obtain ⟨c, e3⟩ := ite_some e2
  obtain ⟨q, e4, e5⟩ := bind_some e3
  obtain ⟨c2, e6⟩ := ite_some e5
  rcases c2 with ⟨c3, c4⟩ | ⟨c3, c4⟩
  · obtain ⟨n, xs, hp, hx⟩ := lstB_ok c3
    refine .inl (tEv.then E S e1 fun ρ1 H1 v1 g1 S1 r1 => ?_)
    rw [hp] at r1
    obtain ⟨a, vs, rfl, ea, h1, h2⟩ := ref_lst S1 r1 hx
    refine ⟨.inl ⟨rfl, _, .inl (.inl h1)⟩, tAv.one (E.mono g1) S1 (fCons_one e4) fun ρ2 H2 ws g2 S2 r2 => ?_⟩
    obtain ⟨w, rfl, rw'⟩ := one_of r2 rfl
    obtain ⟨n2, ys, hp2, hy⟩ := lstB_ok c4
    rw [hp] at hp2 e6; cases hp2
    unfold popD at e6
    simp only [hy] at e6
    split at e6
    · rename_i i hi
      obtain ⟨ir, e7⟩ := ite_some e6
      obtain ⟨j, e8, e9⟩ := bind_some e7
      obtain ⟨dd, e10, e11⟩ := map_some' e9
      cases e11
      rw [hi] at rw'; cases rw'
      obtain ⟨us, h3, h4⟩ := S2.at' _ _ _ hy (g2.rho _ _ ea)
      obtain ⟨y, hy1, hy2⟩ := h4.get e10
      obtain ⟨S3, g3⟩ := S2.setL hy (g2.rho _ _ ea) h3 (h4.eraseIdx j)
      obtain ⟨b1, b2⟩ := inR_64 ir
      exact ⟨a, us, i, j, y, rfl, rfl, h3, b1, b2, by rw [← h4.length]; exact e8, hy1, k _ _ _ (g1.trans (g2.trans g3)) S3 (hy2.mono g3)⟩
    · cases e6
  · rw [c3, Bool.false_or] at c
    refine .inr (tEv.then E S e1 fun ρ1 H1 v1 g1 S1 r1 => ?_)
    obtain ⟨a, rfl, isd⟩ := dctB_ok S1 r1 c
    refine ⟨a, rfl, isd, tEv.then (E.mono g1) S1 e4 fun ρ2 H2 v2 g2 S2 r2 => ?_⟩
    have r1 := r1.mono g2
    unfold popD at e6
    split at e6
    · rename_i x0 n hp1
      split at e6
      · rename_i xs hn
        rw [hp1] at c4
        simp [lstB, hn] at c4
      · rename_i kvs hn
        obtain ⟨ky, e7, e8⟩ := bind_some e6
        obtain ⟨dd, e9, e10⟩ := map_some' e8
        cases e10
        rw [hp1] at r1
        cases r1 with
        | ref er =>
          obtain ⟨vs, h1, h2⟩ := S2.at' _ _ _ hn er
          have := keyD_ok r2 e7
          subst this
          rcases valV_ok (k := ky) h2 with ⟨y, _⟩ | ⟨d1, w, y1, y2, y3⟩
          · rw [y] at e9; cases e9
          · rw [y1] at e9; cases e9
            obtain ⟨S4, g4⟩ := S2.setK hn er h1 (drop_ok ky h2)
            exact ⟨vs, ky, w, h1, rfl, y2, k _ _ _ (g1.trans (g2.trans g4)) S4 (y3.mono g4)⟩
      · cases e6
    · cases e6
theorem ok_pop2 {o e f : Expr} {fo fe fd : SemE} {apos cpos : Pos} (m : M2 X o "pop" apos e f cpos) (ho : PE X o (tEv X.K fo)) (he : PE X e (tEv X.K fe)) (hf : PE X f (tEv X.K fd)) : PE X (.Call (.Attribute o "pop" apos) [e, f] [] cpos) (tEv X.K (fPop2 fo fe fd)) := by
  refine PE.imp (pe_dpop2 ho he hf m) fun σ H Q q => ?_
  obtain ⟨ρ, η, st, d, st', E, S, e, k⟩ := q
  obtain ⟨p, e1, e2⟩ := bind_some e
  obtain ⟨c, e3⟩ := ite_some e2
  obtain ⟨q, e4, e5⟩ := bind_some e3
  obtain ⟨z, e8, e9⟩ := bind_some e5
  refine tEv.then E S e1 fun ρ1 H1 v1 g1 S1 r1 => ?_
  obtain ⟨a, rfl, isd⟩ := dctB_ok S1 r1 c
  refine ⟨a, rfl, isd, tEv.then (E.mono g1) S1 e4 fun ρ2 H2 v2 g2 S2 r2 => tEv.then (E.mono (g1.trans g2)) S2 e8 fun ρ3 H3 v3 g3 S3 r3 => ?_⟩
  have r1 := r1.mono (g2.trans g3)
  have kk := k.pre (g1.trans (g2.trans g3))
  unfold pop2D at e9
  split at e9
  · rename_i x0 n hp1
    split at e9
    · rename_i kvs hn
      obtain ⟨ky, e7, e10⟩ := bind_some e9
      rw [hp1] at r1
      cases r1 with
      | ref er =>
        obtain ⟨vs, h1, h2⟩ := S3.at' _ _ _ hn er
        have := keyD_ok (r2.mono g3) e7
        subst this
        refine ⟨vs, ky, h1, rfl, ?_⟩
        rcases valV_ok (k := ky) h2 with ⟨y1, y2⟩ | ⟨d1, w, y1, y2, y3⟩
        · rw [y1] at e10; cases e10
          first
            | exact ⟨fun v hv => by (rw [y2] at hv; cases hv), fun _ => kk.now S3 r3⟩
            | exact .inr ⟨y2, kk.now S3 r3⟩
        · rw [y1] at e10; cases e10
          obtain ⟨S4, g4⟩ := S3.setK hn er h1 (drop_ok ky h2)
          first
            | exact ⟨fun v hv => (by rw [y2] at hv; cases hv; exact k _ _ _ (g1.trans (g2.trans (g3.trans g4))) S4 (y3.mono g4)), fun hv => by (rw [y2] at hv; cases hv)⟩
            | exact .inl ⟨w, y2, k _ _ _ (g1.trans (g2.trans (g3.trans g4))) S4 (y3.mono g4)⟩
    · cases e9
  · cases e9
end
end
end Sim

namespace Sim
open PySem L2
noncomputable section
/-! ### stars -/
def fStar (fe : SemE) (fr : SemA) : SemA := fun η st => (fe η st).bind fun p => (items p.1 p.2).bind fun xs => (fr η p.2).map fun q => (xs ++ q.1, q.2)
theorem ok_star {X : Cx} {e : Expr} {es : List Expr} {p : Pos} {fe : SemE} {fr : SemA} (he : PE X e (tEv X.K fe)) (hr : PA X es (tAv X.K fr)) : PA X (.Starred e p :: es) (tAv X.K (fStar fe fr)) := by
  refine PA.imp (StX.pa_star he hr) fun σ H Q q => ?_
  obtain ⟨ρ, η, st, ds, st', E, S, e, k⟩ := q
  obtain ⟨p, e1, e2⟩ := bind_some e
  obtain ⟨xs, e3, e4⟩ := bind_some e2
  obtain ⟨q, e5, e6⟩ := map_some' e4
  cases e6
  refine tEv.then E S e1 fun ρ1 H1 v1 g1 S1 r1 => ?_
  obtain ⟨a, vs, rfl, sq, t⟩ := items_ok S1 r1 e3
  exact ⟨a, vs, rfl, sq.symm, ρ1, η, p.2, q.1, q.2, E.mono g1, S1, e5, fun ρ2 H2 ws g2 S2 r2 => k ρ2 H2 _ (g1.trans g2) S2 ((t.mono g2).app r2)⟩
/-! ### dict comprehensions -/
def dcGo (g : SemG) (ft : SemT) (fk fv : SemE) (ηw : LocD) (gd : Option (Nat × O)) (n : Nat) : List D → Sto → Option Sto
  | [], st => if okGd gd st then some st else none
  | x :: r, st => if okGd gd st then (g x ηw).bind fun η2 => (ft η2 st).bind fun b => if b.1 = true then (fk η2 b.2).bind fun y => (fv η2 y.2).bind fun z => (keyD y.1).bind fun k => match z.2[n]? with
      | some (.dct kvs) => if kvs.length < most then dcGo g ft fk fv ηw gd n r (z.2.set n (.dct (putD kvs k z.1))) else none
      | _ => none
    else dcGo g ft fk fv ηw gd n r b.2 else none
def fDc (fi : SemI) (g : SemG) (ft : SemT) (fk fv : SemE) (vs : List Nat) : SemE := fun η st => (fi η st).bind fun p =>
  (dcGo g ft fk fv (wipeD η vs) p.1.gd p.2.length p.1.xs (p.2 ++ [.dct []])).map fun st' => (.ref p.2.length, st')
theorem dcGo_ok {g : SemG} {ft : SemT} {fk fv : SemE} {ηw : LocD} {gd : Option (Nat × O)} {n : Nat} {xs : List D} {st st' : Sto} (h : dcGo g ft fk fv ηw gd n xs st = some st') : okGd gd st := by
  cases xs with
  | nil => unfold dcGo at h; exact (ite_some h).1
  | cons x r => unfold dcGo at h; exact (ite_some h).1
theorem dc_it {J : It} {n : Nat} {G : Hp → Prop} {Y : Nat → Hp → V → Hp → Prop} (w : Walk J n G Y) {g : TG} {tt : TT} {tk tv : TE} {vs : List Nat} {σ : L2.St} {H1 : Hp} {D : Addr} {Qd : Hp → Prop} (Z : Nat → Hp → Prop) (h0 : Z 0 (upd H1 D (.dK []))) (hG : ∀ i H, i ≤ n → Z i H → G H)
    (hs : ∀ i x H H', i < n → Z i H → Y i H x H' → g x (L2.wipe σ vs) H' fun σ2 H2 => L2.wipe σ2 vs = L2.wipe σ vs ∧ tt σ2 H2 fun b H3 =>
      if b = true then tk σ2 H3 fun y H4 => tv σ2 H4 fun z H5 => ∃ kvs k, y = kV k ∧ H5 D = some (.dK kvs) ∧ kvs.length < sizeLine ∧ Z (i + 1) (upd H5 D (.dK (putK kvs k z))) else Z (i + 1) H3) (hd : ∀ H, Z n H → Qd H) :
    ∃ W : Nat → Nat → Hp → Prop, (∃ m, W 0 m (upd H1 D (.dK []))) ∧ ∀ i m H, W i m H →
      (J.stop i H ∧ Qd H) ∨ (J.go i H ∧ ∃ Nx : Hp → Prop, (∀ H', Nx H' → ∃ m', m' < m ∧ W (i + 1) m' H') ∧ ∀ x H', J.yld i H x H' → g x (L2.wipe σ vs) H' fun σ2 H2 => L2.wipe σ2 vs = L2.wipe σ vs ∧ tt σ2 H2 fun b H3 =>
        if b = true then tk σ2 H3 fun y H4 => tv σ2 H4 fun z H5 => ∃ kvs k, y = kV k ∧ H5 D = some (.dK kvs) ∧ kvs.length < sizeLine ∧ Nx (upd H5 D (.dK (putK kvs k z))) else Nx H3) := by
  refine ⟨fun j l H => l = n - j ∧ j ≤ n ∧ Z j H, ⟨n, by simp, Nat.zero_le _, h0⟩, ?_⟩
  rintro i m H ⟨rfl, hi, p⟩
  have q := hG i H hi p
  by_cases hlt : i < n
  · exact .inr ⟨w.goes i H hlt q, Z (i + 1), fun H' p' => ⟨n - (i + 1), by omega, rfl, hlt, p'⟩, fun x H' y => hs i x H H' hlt p (w.yields i H x H' hlt q y)⟩
  · have : i = n := by omega
    subst this
    exact .inl ⟨w.stops H q, hd H p⟩
theorem dc_read {K : Frg} {fi : SemI} {g : SemG} {is : List Nat} {ft : SemT} {tt : TT} {fk fv : SemE} {vs : List Nat} (hi : ∀ i ∈ is, i ∈ vs) (htt : ∀ σ H Q, tTv K ft σ H Q → tt σ H Q) {σ : L2.St} {H : Hp} {Q : VK} (h : tEv K (fDc fi g ft fk fv vs) σ H Q) :
    tDc (tIv K fi) (tGv K g is) tt (tEv K fk) (tEv K fv) vs σ H Q := by
  obtain ⟨ρ, η, st, d, st', E, S, e, k⟩ := h
  obtain ⟨p, e1, e2⟩ := bind_some e
  obtain ⟨stF, e3, e4⟩ := map_some' e2
  cases e4
  refine ⟨ρ, η, st, p.1, p.2, E, S, e1, fun ρ1 H1 J g1 S1 ok Y => fun Dl hD => ?_⟩
  obtain ⟨G, Yd, W, hG, hY⟩ := Y.w
  have n_eq : ρ1.length = p.2.length := S1.len
  refine dc_it W (fun i H' => ∃ ρ' stX, Gr K ρ1 H1 ρ' H' ∧ SR K ρ' stX H' ∧ ρ'[p.2.length]? = some Dl ∧ dcGo g ft fk fv (wipeD η vs) p.1.gd p.2.length (p.1.xs.drop i) stX = some st') ?_ ?_ ?_ ?_
  · obtain ⟨S2, g2⟩ := S1.alloc (o := .dct []) hD (u := .dK []) rfl ⟨[], upd_same, .nil⟩
    exact ⟨_, _, g2, S2, by rw [← n_eq, List.getElem?_append_right (Nat.le_refl _)]; simp, e3⟩
  · rintro i H' _ ⟨ρ', st2, g2, S2, _, e5⟩
    exact hG ρ' st2 H' g2 S2 (dcGo_ok e5)
  · rintro i x Ha Hb hlt ⟨ρ', st2, g2, S2, hn, e5⟩ y
    have ok2 := dcGo_ok e5
    have hd : p.1.xs[i]? = some p.1.xs[i] := List.getElem?_eq_getElem hlt
    obtain ⟨g3, S3, r3⟩ := hY ρ' st2 Ha i _ x Hb g2 S2 ok2 hd y
    rw [List.drop_eq_getElem_cons hlt] at e5
    unfold dcGo at e5
    obtain ⟨_, e5⟩ := ite_some e5
    obtain ⟨η2, e6, e5⟩ := bind_some e5
    obtain ⟨b, e7, e5⟩ := bind_some e5
    refine ⟨ρ', wipeD η vs, _, η2, (E.wipe vs).mono ((g1.trans g2).trans g3), r3, e6, fun σ2 E2 l2 s2 => ⟨?_, htt _ _ _ ⟨ρ', η2, st2, b.1, b.2, E2, S3, e7, fun ρ4 H4 g4 S4 => ?_⟩⟩⟩
    · rw [wipe_eq (σ := L2.wipe σ vs) l2 s2 hi]; exact wipe_wipe
    · cases hb : b.1 with
      | true =>
        rw [if_pos rfl]
        rw [hb, if_pos rfl] at e5
        obtain ⟨y, e8, e5⟩ := bind_some e5
        obtain ⟨z, e9, e5⟩ := bind_some e5
        obtain ⟨ky, e10, e5⟩ := bind_some e5
        refine ⟨ρ4, η2, b.2, y.1, y.2, E2.mono g4, S4, e8, fun ρ5 H5 v g5 S5 r5 => ⟨ρ5, η2, y.2, z.1, z.2, E2.mono (g4.trans g5), S5, e9, fun ρ6 H6 w g6 S6 r6 => ?_⟩⟩
        have hv := keyD_ok r5 e10
        subst hv
        cases q : z.2[p.2.length]? with
        | none => rw [q] at e5; cases e5
        | some o =>
          cases o <;> rw [q] at e5 <;> first | (cases e5; done) | skip
          rename_i kvs
          obtain ⟨hz, e5⟩ := ite_some e5
          have hn6 : ρ6[p.2.length]? = some Dl := g6.rho _ _ (g5.rho _ _ (g4.rho _ _ (g3.rho _ _ hn)))
          obtain ⟨ws, w1, w2⟩ := S6.at' _ _ _ q hn6
          obtain ⟨S7, g7⟩ := S6.setK q hn6 w1 (put_ok (k := ky) r6 w2)
          exact ⟨ws, ky, rfl, w1, by rw [← kdr_len w2]; exact most_lt hz, ρ6, _, g2.trans (g3.trans (g4.trans (g5.trans (g6.trans g7)))), S7, hn6, e5⟩
      | false =>
        rw [if_neg Bool.false_ne_true]
        rw [hb, if_neg Bool.false_ne_true] at e5
        exact ⟨ρ4, _, g2.trans (g3.trans g4), S4, g4.rho _ _ (g3.rho _ _ hn), e5⟩
  · rintro H' ⟨ρ', st2, g2, S2, hn, e5⟩
    rw [List.drop_length] at e5
    unfold dcGo at e5
    obtain ⟨_, e5⟩ := ite_some e5
    cases e5
    exact k ρ' H' _ (g1.trans g2) S2 (.ref hn)
/-! ### a dict that is walked is locked -/
def keyV : Key → D
  | .inl i => .int i
  | .inr s => .str s
def iKy (i : Nat) : SemI := fun η st => match η[i]? with
  | some (some (.ref n)) => match st[n]? with
    | some (.frd kvs) => some (⟨kvs.map fun p => keyV p.1, some (n, .frd kvs)⟩, st)
    | _ => none
  | _ => none
def fLock (i : Nat) (f : SemE) : SemE := fun η st => match η[i]? with
  | some (some (.ref n)) => match st[n]? with
    | some (.dct kvs) => (f η (st.set n (.frd kvs))).bind fun p => match p.2[n]? with
      | some (.frd ks) => some (p.1, p.2.set n (.dct ks))
      | _ => none
    | _ => none
  | _ => none
section
variable {X : Cx}
theorem keyV_rel {K : Frg} {ρ : Rho} {H : Hp} (k : Key) : DR K ρ H (keyV k) (kV k) := by
  cases k with
  | inl i => exact .int i
  | inr s => exact .str s
theorem yl_keys {K : Frg} {ρ : Rho} {H : Hp} {n : Nat} {a : Addr} {o : Obj} {kvs : List (Key × D)} {vs : List (Key × V)} (ea : ρ[n]? = some a) (h : H a = some (.frz o (.dK vs))) (t : KDR K ρ H kvs vs) : Yl K (Itk a o vs) ρ H ⟨kvs.map fun p => keyV p.1, some (n, .frd kvs)⟩ := by
  have tl := kdr_len t
  refine ⟨⟨fun H => H a = some (.frz o (.dK vs)), fun i H v H' => H' = H ∧ ∃ k w, vs[i]? = some (k, w) ∧ v = kV k, ?_, ?_, ?_⟩⟩
  · refine ⟨fun i H hi q => ⟨q, by simp at hi; omega⟩, fun H q => ⟨q, by simp; omega⟩, fun i H x H' _ q y => y⟩
  · exact fun ρ' st' H' g S' ok => g.frz _ _ _ h
  · rintro ρ' st' H' i d x H'' g S' ok hd ⟨e, k, w, hk, rfl⟩
    rw [e]
    refine ⟨Gr.refl _ _ _, S', ?_⟩
    have hd : (kvs.map fun p => keyV p.1)[i]? = some d := hd
    rw [List.getElem?_map] at hd
    obtain ⟨q, hq, hp⟩ := Option.map_eq_some_iff.mp hd
    have : q.1 = k := by
      obtain ⟨y, hy1, hy2⟩ := paired_get t hq
      rw [hk] at hy1; cases hy1
      exact hy2.1
    subst this
    rw [← hp]
    exact keyV_rel _
theorem pi_keyS {tg : Expr} {i : Nat} {x : Str} {p : Pos} (hv : PE X (.Name x p) (tEv X.K (fVar i))) : PI X tg (.Name x p) (tIv X.K (iKy i)) := by
  refine PI.imp (pi_keys hv) fun σ H R q => ?_
  obtain ⟨ρ, η, st, s, st', E, S, e, k⟩ := q
  unfold iKy at e
  split at e
  · rename_i n hn
    split at e
    · rename_i kvs hk
      cases e
      refine ⟨ρ, η, st, .ref n, st, E, S, by unfold fVar; rw [hn], fun ρ1 H1 v g1 S1 r1 => ?_⟩
      cases r1 with
      | ref ea =>
        obtain ⟨o, vs, h1, h2⟩ := S1.at' _ _ _ hk ea
        exact ⟨_, o, rfl, .inl ⟨vs, h1, k ρ1 H1 _ g1 S1 (okGd_some hk) (yl_keys ea h1 h2)⟩⟩
    · cases e
  · cases e
theorem SR.lock {K : Frg} {ρ : Rho} {st : Sto} {H : Hp} (S : SR K ρ st H) {n : Nat} {a : Addr} {o : Obj} {kvs : List (Key × D)} {vs : List (Key × V)} (h : st[n]? = some (.dct kvs)) (ea : ρ[n]? = some a) (ha : H a = some (.dK vs)) (t : KDR K ρ H kvs vs) :
    SR K ρ (st.set n (.frd kvs)) (upd H a (.frz o (.dK vs))) ∧ Gr K ρ H ρ (upd H a (.frz o (.dK vs))) := by
  have g : Gr K ρ H ρ (upd H a (.frz o (.dK vs))) := Gr.upd ha rfl
  have hl := (List.getElem?_eq_some_iff.mp h).1
  refine ⟨⟨by rw [List.length_set]; exact S.len, fun m x b h1 r1 => ?_, fun m k x y b h1 h2 m1 m2 r1 r2 => ?_, S.tf.set h rfl rfl⟩, g⟩
  · by_cases e : n = m
    · subst e
      rw [List.getElem?_set_self hl] at h1
      cases h1
      rw [ea] at r1; cases r1
      exact ⟨o, vs, upd_same, KDR.mono g t⟩
    · rw [List.getElem?_set_ne e] at h1
      have q := S.at' m x b h1 r1
      have ne : x.own = true → b ≠ a := fun hm z => e (S.nd n m _ _ a h h1 rfl hm ea (z ▸ r1))
      cases x with
      | stk k => exact StkR.upd ha rfl q
      | lst xs => obtain ⟨ws, e2, r2⟩ := q; exact ⟨ws, by rw [upd_ne (ne rfl)]; exact e2, r2.mono g⟩
      | dct xs => obtain ⟨ws, e2, r2⟩ := q; exact ⟨ws, by rw [upd_ne (ne rfl)]; exact e2, KDR.mono g r2⟩
      | dtp xs => obtain ⟨ws, e2, r2⟩ := q; exact ⟨ws, by rw [upd_ne (ne rfl)]; exact e2, TDR.mono g r2⟩
      | frd xs =>
        obtain ⟨o2, ws, e2, r2⟩ := q
        exact ⟨o2, ws, g.frz _ _ _ e2, KDR.mono g r2⟩
      | frz xs =>
        obtain ⟨ws, e2, r2⟩ := q
        refine ⟨ws, ?_, r2.mono g⟩
        rcases e2 with ⟨z, e2⟩ | e2
        · exact .inl ⟨z, g.frz _ _ _ e2⟩
        · exact .inr e2
  · have back : ∀ (k : Nat) (x : O), (st.set n (.frd kvs))[k]? = some x → x.own = true → ∃ y, st[k]? = some y ∧ y.own = true := fun k x h m => by
      by_cases e : n = k
      · subst e; exact ⟨_, by assumption, rfl⟩
      · rw [List.getElem?_set_ne e] at h; exact ⟨x, h, m⟩
    obtain ⟨x', q1, q2⟩ := back m x h1 m1
    obtain ⟨y', q3, q4⟩ := back k y h2 m2
    exact S.nd m k x' y' b q1 q3 q2 q4 r1 r2
theorem SR.unlock_mono {K : Frg} {ρ : Rho} {H : Hp} {a : Addr} {o : Obj} {vs : List (Key × V)} (ha : H a = some (.frz o (.dK vs))) : ∀ (d : D) (v : V), DR K ρ H d v → DR K ρ (upd H a (.dK vs)) d v := by
  have tupK : ∀ b ws, H b = some (.tup ws) → upd H a (.dK vs) b = some (.tup ws) := fun b ws hb => by rw [upd_ne (ne_of hb ha (fun z => nomatch z))]; exact hb
  have both : ∀ (sz : Nat), (∀ d v, sizeOf d ≤ sz → DR K ρ H d v → DR K ρ (upd H a (.dK vs)) d v) := by
    intro sz
    induction sz with
    | zero =>
      intro d v hz
      cases d <;> simp at hz
    | succ sz ih =>
      intro d v hz r
      have lst : ∀ (ds : List D) (us : List V), (∀ x ∈ ds, sizeOf x ≤ sz) → DRs K ρ H ds us → DRs K ρ (upd H a (.dK vs)) ds us := by
        intro ds
        induction ds with
        | nil => intro us _ r; cases r; exact .nil
        | cons x xs ihx =>
          intro us hm r
          cases r with
          | cons r1 r2 => exact .cons (ih _ _ (hm x List.mem_cons_self) r1) (ihx _ (fun y hy => hm y (List.mem_cons_of_mem _ hy)) r2)
      cases r with
      | non => exact .non
      | bl b => exact .bl b
      | int i => exact .int i
      | str s => exact .str s
      | ref e => exact .ref e
      | fn e => exact .fn e
      | @tup _ xs _ s t =>
        refine .tup (tupK _ _ s) (lst _ _ (fun x hx => ?_) t)
        have := List.sizeOf_lt_of_mem hx
        simp at hz; omega
      | @ktup _ xs _ s t =>
        refine .ktup (s.imp id fun ⟨o', h1, h2⟩ => ⟨o', by rw [upd_ne (ne_of h1 ha (fun z => nomatch z))]; exact h1, h2⟩) (lst _ _ (fun x hx => ?_) t)
        have := List.sizeOf_lt_of_mem hx
        simp at hz; omega
  exact fun d v => both (sizeOf d) d v (Nat.le_refl _)
theorem SR.unlock {K : Frg} {ρ : Rho} {st : Sto} {H : Hp} (S : SR K ρ st H) {n : Nat} {a : Addr} {o : Obj} {kvs : List (Key × D)} {vs : List (Key × V)} (h : st[n]? = some (.frd kvs)) (ea : ρ[n]? = some a) (ha : H a = some (.frz o (.dK vs))) :
    SR K ρ (st.set n (.dct kvs)) (upd H a (.dK vs)) := by
  have tupK : ∀ b ws, H b = some (.tup ws) → upd H a (.dK vs) b = some (.tup ws) := fun b ws hb => by rw [upd_ne (ne_of hb ha (fun z => nomatch z))]; exact hb
  have hl := (List.getElem?_eq_some_iff.mp h).1
  have mono := SR.unlock_mono (K := K) (ρ := ρ) (vs := vs) ha
  have monos : ∀ (ds : List D) (us : List V), DRs K ρ H ds us → DRs K ρ (upd H a (.dK vs)) ds us := by
    intro ds
    induction ds with
    | nil => intro us r; cases r; exact .nil
    | cons x xs ih => intro us r; cases r with | cons r1 r2 => exact .cons (mono _ _ r1) (ih _ r2)
  have nfr : ∀ (m : Nat) (x : O) (b : Addr), st[m]? = some x → n ≠ m → ρ[m]? = some b → x.own = true → b ≠ a := fun m x b h1 hnm r1 hm z => hnm (S.nd n m _ _ a h h1 rfl hm ea (z ▸ r1))
  refine ⟨by rw [List.length_set]; exact S.len, fun m x b h1 r1 => ?_, fun m k x y b h1 h2 m1 m2 r1 r2 => ?_, S.tf.set h rfl rfl⟩
  · by_cases e : n = m
    · subst e
      rw [List.getElem?_set_self hl] at h1
      cases h1
      rw [ea] at r1; cases r1
      obtain ⟨o2, ws, e1, r⟩ := S.at' n _ a h ea
      rw [ha] at e1; cases e1
      exact ⟨vs, upd_same, Paired.mapP r fun _ _ z => ⟨z.1, mono _ _ z.2⟩⟩
    · rw [List.getElem?_set_ne e] at h1
      have q := S.at' m x b h1 r1
      cases x with
      | stk k => exact StkR.upd ha rfl q
      | lst xs => obtain ⟨ws, e2, r2⟩ := q; exact ⟨ws, by rw [upd_ne (nfr _ _ _ h1 e r1 rfl)]; exact e2, monos _ _ r2⟩
      | dct xs => obtain ⟨ws, e2, r2⟩ := q; exact ⟨ws, by rw [upd_ne (nfr _ _ _ h1 e r1 rfl)]; exact e2, Paired.mapP r2 fun _ _ z => ⟨z.1, mono _ _ z.2⟩⟩
      | dtp xs => obtain ⟨ws, e2, r2⟩ := q; exact ⟨ws, by rw [upd_ne (nfr _ _ _ h1 e r1 rfl)]; exact e2, Paired.mapP r2 fun _ _ z => ⟨z.1, mono _ _ z.2⟩⟩
      | frd xs =>
        obtain ⟨o2, ws, e2, r2⟩ := q
        exact ⟨o2, ws, by rw [upd_ne (nfr _ _ _ h1 e r1 rfl)]; exact e2, Paired.mapP r2 fun _ _ z => ⟨z.1, mono _ _ z.2⟩⟩
      | frz xs =>
        obtain ⟨ws, e2, r2⟩ := q
        refine ⟨ws, ?_, monos _ _ r2⟩
        rcases e2 with ⟨z, e2⟩ | e2
        · refine .inl ⟨z, ?_⟩
          rw [upd_ne (fun z => by subst z; rw [ha] at e2; cases e2)]
          exact e2
        · exact .inr e2
  · by_cases e1 : n = m <;> by_cases e2 : n = k
    · rw [← e1, ← e2]
    · subst e1
      rw [ea] at r1; cases r1
      rw [List.getElem?_set_ne e2] at h2
      exact absurd rfl (nfr k y a h2 e2 r2 m2)
    · subst e2
      rw [ea] at r2; cases r2
      rw [List.getElem?_set_ne e1] at h1
      exact absurd rfl (nfr m x a h1 e1 r1 m1)
    · rw [List.getElem?_set_ne e1] at h1
      rw [List.getElem?_set_ne e2] at h2
      exact S.nd m k x y b h1 h2 m1 m2 r1 r2
/-- e is evaluated while the dict that slot i holds is locked -/
theorem ok_lock {e : Expr} {f : SemE} {i : Nat} (he : PE X e (tEv X.K f)) : PE X e (tEv X.K (fLock i f)) := by
  refine PE.imp (pe_lock he) fun σ H Q q => ?_
  obtain ⟨ρ, η, st, d, st', E, S, e, k⟩ := q
  unfold fLock at e
  split at e
  · rename_i n hn
    split at e
    · rename_i kvs hk
      obtain ⟨p, e1, e2⟩ := bind_some e
      split at e2
      · rename_i ks hks
        cases e2
        obtain ⟨v, _, rv⟩ := E.2 _ _ hn
        cases rv with
        | @ref _ a ea =>
          obtain ⟨vs, h1, h2⟩ := S.at' _ _ _ hk ea
          refine ⟨a, .dK vs, h1, trivial, fun od => ?_⟩
          obtain ⟨S1, g1⟩ := S.lock (o := od) hk ea h1 h2
          refine ⟨ρ, η, _, p.1, p.2, E.mono g1, S1, e1, fun ρ2 H2 v g2 S2 r2 => ?_⟩
          have fz : H2 a = some (.frz od (.dK vs)) := g2.frz _ _ _ upd_same
          have S3 := S2.unlock hks (g2.rho _ _ ea) fz
          have g3 : Gr X.K ρ H ρ2 (upd H2 a (.dK vs)) := by
            refine ⟨fun n x h => g2.rho _ _ h, fun b ws hb => ?_, fun b o u hb => ?_⟩
            · have q := g2.tup _ _ (g1.tup _ _ hb)
              rw [upd_ne (ne_of q fz (fun z => nomatch z))]; exact q
            · have q := g2.frz _ _ _ (g1.frz _ _ _ hb)
              have : b ≠ a := fun z => by subst z; rw [h1] at hb; cases hb
              rw [upd_ne this]; exact q
          refine ⟨fz, k ρ2 _ v g3 S3 ?_⟩
          have mono := SR.unlock_mono (K := X.K) (ρ := ρ2) (vs := vs) fz
          exact mono _ _ r2
      · cases e2
    · cases e
  · cases e
end
end
end Sim

namespace Sim
open PySem L2
section
variable {X : Cx} {ρ : Rho} {st : Sto} {H : Hp} {σ : L2.St} {s : Shared} {pins : List (Addr × Obj)}
/-- what may be gathered of u: values that stand for xs -/
def Gathers (X : Cx) (pins : List (Addr × Obj)) (σ : L2.St) (ρ : Rho) (st : Sto) (H : Hp) (s : Shared) (u : Value) (xs : List D) : Prop :=
  ∀ (R : List Value → Shared → Prop), (∀ (H1 : Hp) (h' : Heap) (tk : Nat) (its : List Value) (ys : List V), Inv X pins σ H1 { s with heap := h', toks := tk } → Gr X.K ρ H ρ H1 → SR X.K ρ st H1 → DRs X.K ρ H1 xs ys → Vals ys its → its.length ≤ sizeLine →
    R its { s with heap := h', toks := tk }) → wpAny (model X.prog X.w) X.A.in1 (collect u) R X.xe s
theorem sorted_gathers {u : Value} {xs : List D} {ps : List (D × PyData)} {Q : VK} (hu : X.A.units + 64 < cLine) (col : Gathers X pins σ ρ st H s u xs) (e2 : pairUp st xs = some ps) (c : sortable (ps.map (·.2)) = true)
    (k : Then X.K ρ H (.ref st.length) (st ++ [.lst (sortD ps)]) Q) : wpAny (model X.prog X.w) X.A (call (.builtin "sorted") [u]) (EP X pins σ Q) X.xe s := by
  refine PySem.Calls.call_function_entry PyProof.Rows.kind_sorted PyProof.Rows.plain_sorted PyProof.Rows.entry_sorted (PyProof.Rows.args_sorted1 _) ?_
  unfold Builtin.«sorted»
  refine wpAny_bind (m := checkCount "sorted" 1 1 _) (wpAny_pure ?_)
  refine wpAny_bind (col _ fun H1 h' tk its ys I1 g1 S1 t rvs hz => ?_)
  refine wpAny_bind (wpAny_newList ?_ hz)
  have hoL : (h'.push (PyProof.Rows.seqObj "list" its.toArray 0)).get? h'.objs.size = some (PyProof.Rows.seqObj "list" its.toArray 0) := Heap.get?_push_size _ rfl
  have oldL : ∀ b o, h'.get? b = some o → b ≠ h'.objs.size ∧ (h'.push (PyProof.Rows.seqObj "list" its.toArray 0)).get? b = some o := fun b o e => ⟨Nat.ne_of_lt (Heap.lt_size e), Heap.get?_push_of_some _ e⟩
  obtain ⟨bs, b1, b2⟩ := r1_build (X := X) (s := { s with heap := h', toks := tk }) S1 I1 t rvs e2
  obtain ⟨k1, k2, k3⟩ := sortable_of c
  have ea : (ps.map (·.2)) = bs.map (fun b => b.2.2) := by rw [← b2, List.map_map]; rfl
  have rd2 : PySem.W.EachIs (fun u b => ∃ as, Reads (PySem.W.sortingHeap (h'.push (PyProof.Rows.seqObj "list" its.toArray 0)) h'.objs.size its) u b as) its (ps.map (·.2)) := by
    rw [ea]
    exact each_to (fun b : D × V × PyData => b.2.2) (each_imp (fun u b h => let ⟨as, q⟩ := h.p; ⟨as, PyProof.Rows.Reads.keeps (fun b o e => PySem.W.sortingHeap_old (oldL b o e).1 (oldL b o e).2) q⟩) b1)
  show wpAny _ _ _ _ _ { s with heap := h'.push (PyProof.Rows.seqObj "list" its.toArray 0), toks := tk }
  refine wpAny_bind (wpAny_holding (wpAny_call_entry PyProof.Rows.slot_list_sort ⟨_, hoL, rfl⟩ PyProof.Rows.entry_list_sort
    (PySem.W.list_sort_vals (s := { s with heap := h'.push (PyProof.Rows.seqObj "list" its.toArray 0), toks := tk }) hoL (sorts_of rd2 k1 k2 fun d hd => ?_) hz ?_) (PyProof.Rows.args_list_sort _)))
  · have a1 := k3 d hd
    show X.A.units + 1 + 1 + d.depth < cLine
    omega
  have hk : PySem.W.EachIs (fun v (b : D × V × PyData) => (PySem.W.dataKind (PySem.W.sortingHeap (h'.push (PyProof.Rows.seqObj "list" its.toArray 0)) h'.objs.size its) (ps.map (·.2))).keyOf v = some (PySem.W.keyToks b.2.2)) its bs := by
    refine PySem.W.each_of_map (R := fun v d => (PySem.W.dataKind (PySem.W.sortingHeap (h'.push (PyProof.Rows.seqObj "list" its.toArray 0)) h'.objs.size its) (ps.map (·.2))).keyOf v = some (PySem.W.keyToks d)) (fun b : D × V × PyData => b.2.2) ?_
    have q := PySem.W.each_keys k1 rd2
    rw [← ea]
    exact q
  have srt := PySem.W.sortVals_each (κ := PySem.W.dataKind (PySem.W.sortingHeap (h'.push (PyProof.Rows.seqObj "list" its.toArray 0)) h'.objs.size its) (ps.map (·.2))) (rev := false) (fun b : D × V × PyData => PySem.W.keyToks b.2.2) b1 hk
  generalize hout : PySem.W.sortVals _ false its its = out at srt ⊢
  obtain ⟨w1, w2⟩ := r1_split srt
  obtain ⟨ep, he⟩ := PyProof.Rows.sortedHeap_at (vs := its) (out := out.toArray) hoL
  have sd : sortD ps = (bs.mergeSort (PySem.W.sortLe (PyProof.Rows.listOrd PyProof.Rows.itemOrd) false (fun b : D × V × PyData => PySem.W.keyToks b.2.2))).map (·.1) := by
    unfold sortD
    rw [← b2, ← PySem.W.sort_maps (r := PySem.W.sortLe (PyProof.Rows.listOrd PyProof.Rows.itemOrd) false (fun b : D × V × PyData => PySem.W.keyToks b.2.2)) (fun b : D × V × PyData => (b.1, b.2.2)) (fun _ _ _ _ => rfl), List.map_map]
    rfl
  have q := (k.pre g1).lst S1 (by rw [sd]; exact w2) h'.objs.size (I1.hok.fresh (Nat.le_refl _))
  refine ⟨_, rfl, wpAny_pure ⟨_, rfl, .ref h'.objs.size, upd H1 h'.objs.size (.lst _), I1.laid (t' := tk) (fun b o e => ?_) (Nat.le_refl _) ⟨?_, out, ep, w1, he⟩, rfl, q⟩⟩
  · have hb : b < h'.objs.size := Heap.lt_size e
    rw [PyProof.Rows.sortedHeap_old (Nat.ne_of_lt hb) (by rw [PyProof.Rows.size_push']; exact Nat.lt_succ_of_lt hb)]
    exact Heap.get?_push_of_some _ e
  · rw [w1.length]
    have : out.length = its.length := by
      have z := srt.length
      rw [z, List.length_mergeSort, b1.length]
    rw [this]; exact hz
/-! ### the keys of a dict -/
def keysOf (x : D) (st : Sto) : Option (List D) :=
  match x with
  | .ref n => match st[n]? with
    | some (.dct kvs) => some (kvs.map fun p => keyV p.1)
    | some (.dtp kvs) => some (kvs.map fun p => .tup (p.1.map keyV))
    | _ => none
  | _ => none
theorem drs_keys {K : Frg} {ρ : Rho} {H : Hp} : ∀ ks : List Key, DRs K ρ H (ks.map keyV) (ks.map kV)
  | [] => .nil
  | k :: ks => .cons (keyV_rel k) (drs_keys ks)
theorem gathers_keys (hc : X.calm = true) (S : SR X.K ρ st H) (I : Inv X pins σ H s) {x : D} {v : V} {u : Value} {xs : List D} (r : DR X.K ρ H x v) (ru : RelV v u) (h : keysOf x st = some xs) : Gathers X pins σ ρ st H s u xs := by
  intro R hR
  unfold keysOf at h
  split at h
  · split at h
    · rename_i n kvs hn
      cases h
      cases r with
      | ref ea =>
        cases ru
        obtain ⟨vs, h1, h2⟩ := S.at' _ _ _ hn ea
        obtain ⟨z, lo, ws, rel, dd⟩ := dk_of I.hok h1
        obtain ⟨ep, hat⟩ := dd.dictAt
        have l1 : vs.length = ws.length := rel.length
        have l2 := kdr_len h2
        refine PySem.W.kdu_collect (A := X.A.in1) (PySem.W.kdl_dict (knd := mixKind X.prog X.w) (kvs := ws) (ep := ep) lo) (I.ok.hd hc) hat (by omega) fun h' tk acc hk hacc => ?_
        refine hR H h' tk acc.toList (vs.map fun p => kV p.1) (I.kept hk) (Gr.refl _ _ _) S ?_ ?_ (by rw [Array.length_toList, hacc.1]; omega)
        · have e1 : (kvs.map fun p => keyV p.1) = (vs.map (·.1)).map keyV := by
            have : kvs.map (·.1) = vs.map (·.1) := by
              clear hn hR hacc hk l2 h1 rel hat dd l1
              induction h2 with
              | nil => rfl
              | cons p t ih => rw [List.map_cons, List.map_cons, ih (by simp at z; omega), p.1]
            rw [← this, List.map_map]; rfl
          have e2 : (vs.map fun p => kV p.1) = (vs.map (·.1)).map kV := by rw [List.map_map]; rfl
          rw [e1, e2]
          exact drs_keys _
        · refine L2.vals_of_at (by have := hacc.1; simp; omega) fun j y w hy hw => ?_
          obtain ⟨kx, x, e1, e2⟩ := hacc.2 j w (by rw [← Array.getElem?_toList]; exact hw)
          rw [List.getElem?_map] at hy
          obtain ⟨p, hp, hpy⟩ := Option.map_eq_some_iff.mp hy
          have e3 : (ws.map (·.1))[j]? = some kx := by rw [List.getElem?_map, e1]; rfl
          rw [← rel.keys, List.getElem?_map, hp] at e3
          have e3 : p.1 = kx := Option.some.inj e3
          rw [← hpy, e3]
          exact keyIs_rel e2
    · rename_i n kvs hn
      cases h
      cases r with
      | ref ea =>
        cases ru
        obtain ⟨vs, h1, h2⟩ := S.at' _ _ _ hn ea
        obtain ⟨z, hs, ks, pr, o, es, ep, ho, hx, hdt, he, hnd⟩ := I.hok _ _ h1
        have l1 : es.size = ks.length := size_of_entries he
        have l2 : vs.length = ks.length := Paired.length pr
        refine PySem.W.kdu_collect (A := X.A.in1) (kdl_raw hs hx hdt) (I.ok.hd hc) ho (by omega) fun h' tk acc hk hacc => ?_
        refine hR H h' tk acc.toList (ks.map fun q => V.ref q.2.1) (I.kept hk) (Gr.refl _ _ _) S ?_ ?_ (by rw [Array.length_toList, hacc.1]; omega)
        · have e1 : ∀ {kvs : List (List Key × D)} {vs : List (List Key × V)} {ks : List (List Key × Addr × Value)}, TDR X.K ρ H kvs vs → Paired (fun (p : List Key × V) (q : List Key × Addr × Value) => p.1 = q.1 ∧ H q.2.1 = some (.tup (p.1.map kV)) ∧ RelV p.2 q.2.2) vs ks →
              DRs X.K ρ H (kvs.map fun p => D.tup (p.1.map keyV)) (ks.map fun q => V.ref q.2.1) := by
            intro kvs vs ks t pr
            induction t generalizing ks with
            | nil => cases pr; exact .nil
            | cons p t ih =>
              cases pr with
              | cons q qs =>
                refine .cons ?_ (ih qs)
                dsimp only
                rw [p.1]
                exact .tup q.2.1 (drs_keys _)
          exact e1 h2 pr
        · refine L2.vals_of_at (by have := hacc.1; simp; omega) fun j y w hy hw => ?_
          obtain ⟨en, hen, hv⟩ := hacc.2 j w (by rw [← Array.getElem?_toList]; exact hw)
          have qe := entry_at he j
          rw [hen] at qe
          rw [List.getElem?_map] at hy
          obtain ⟨q, hq, hqy⟩ := Option.map_eq_some_iff.mp hy
          rw [hq] at qe
          have e2 : en = entryOfKey (tupleKind (mixKind X.prog X.w)) q := Option.some.inj qe
          rw [← hqy, hv, e2]
          rfl
    · cases h
  · cases h
end
end Sim

namespace Sim
open PySem L2
noncomputable section
/-! ### sorted and len of dicts -/
def bSorted (ds : List D) (st : Sto) : R :=
  match ds with
  | [x] => match keysOf x st with
    | some xs => (pairUp st xs).bind fun ps => if sortable (ps.map (·.2)) = true then alloc (.lst (sortD ps)) st else none
    | none => bSorted1 [x] st
  | _ => none
def dctOf2 (x : D) (st : Sto) : Option Nat :=
  match x with
  | .ref n => match st[n]? with
    | some (.dct kvs) => some kvs.length
    | some (.dtp kvs) => some kvs.length
    | _ => none
  | _ => none
def bLen (ds : List D) (st : Sto) : R :=
  match ds with
  | [x] => match dctOf2 x st with
    | some n => some (.int n, st)
    | none => bLen1 [x] st
  | _ => none
section
variable {X : Cx}
theorem kb_sorted2 (hu : X.A.units + 64 < cLine) (hc : X.calm = true) : CallR X (.builtin "sorted") (rB X.K bSorted) := by
  rintro pins s σ H vs us Q I r ⟨ρ, st, ds, d, st', S, rd, e, k⟩
  unfold bSorted at e
  split at e
  · split at e
    · rename_i x xs hk
      obtain ⟨v, rfl, rv⟩ := one_of rd rfl
      obtain ⟨u, rfl, ru⟩ := vals1 r
      obtain ⟨ps, e1, e2⟩ := bind_some e
      obtain ⟨c, e3⟩ := ite_some e2
      cases e3
      exact sorted_gathers hu (gathers_keys hc S I rv ru hk) e1 c k
    · exact kb_sorted hu pins s σ H vs us Q I r ⟨ρ, st, _, d, st', S, rd, e, k⟩
  · cases e
theorem kb_len2 : CallR X (.builtin "len") (rB X.K bLen) := by
  rintro pins s σ H vs us Q I r ⟨ρ, st, ds, d, st', S, rd, e, k⟩
  unfold bLen at e
  split at e
  · split at e
    · rename_i x m hk
      cases e
      obtain ⟨v, rfl, rv⟩ := one_of rd rfl
      unfold dctOf2 at hk
      split at hk
      · split at hk
        · rename_i n kvs hn
          cases hk
          cases rv with
          | ref ea =>
            obtain ⟨vs, h1, h2⟩ := S.at' _ _ _ hn ea
            refine call_lenD pins s σ H _ us Q I r ⟨_, vs, rfl, h1, ?_⟩
            rw [← kdr_len h2]
            exact k.now S (.int _)
        · rename_i n kvs hn
          cases hk
          cases rv with
          | ref ea =>
            obtain ⟨vs, h1, h2⟩ := S.at' _ _ _ hn ea
            refine call_len_dT pins s σ H _ us Q I r ⟨_, vs, rfl, h1, ?_⟩
            rw [show vs.length = kvs.length from ?_]
            · exact k.now S (.int _)
            · exact (kdr_len h2).symm
        · cases hk
      · cases hk
    · exact kb_len1 pins s σ H vs us Q I r ⟨ρ, st, _, d, st', S, rd, e, k⟩
  · cases e
end
/-! ### text.index(text) -/
def fIdx (fo fe : SemE) : SemE := fun η st => (fo η st).bind fun p => match p.1 with
  | .str a => (fe η p.2).bind fun q => match q.1 with
    | .str b => match Builtin.Str.occurrences a b 0 a.length 1 with
      | i :: _ => some (.int (i : Nat), q.2)
      | [] => none
    | _ => none
  | _ => none
section
variable {X : Cx}
theorem ok_idx {o e : Expr} {fo fe : SemE} {apos cpos : Pos} (hc : notCall o = true) (hl : (apos.endLine == cpos.line) = true) (hs : notStar e = true) (ho : PE X o (tEv X.K fo)) (hea : PA X [e] (tAv X.K (fCons fe fNil))) :
    PE X (.Call (.Attribute o "index" apos) [e] [] cpos) (tEv X.K (fIdx fo fe)) := by
  refine PE.imp (pe_bm PySem.F.plainAttrs_str PySem.F.slot_str_index PySem.F.type_str_index mt_sindex ho hea (attrB hc) (by rw [star1 hs]; rfl) hl (star1 hs) rfl) fun σ H Q q => ?_
  obtain ⟨ρ, η, st, d, st', E, S, e, k⟩ := q
  obtain ⟨p, e1, e2⟩ := bind_some e
  refine tEv.then E S e1 fun ρ1 H1 v g1 S1 r1 => ?_
  cases hp : p.1 with
  | str a =>
    rw [hp] at e2 r1
    cases r1
    obtain ⟨q, e3, e4⟩ := bind_some e2
    refine ⟨rfl, ?_⟩
    cases hq : q.1 with
    | str b =>
      rw [hq] at e4
      refine ⟨ρ1, η, p.2, [.str b], q.2, E.mono g1, S1, ?_, fun ρ2 H2 ws g2 S2 r2 => ?_⟩
      · show (fe η p.2).bind _ = _
        rw [e3]
        show some ([q.1], q.2) = _
        rw [hq]
      · obtain ⟨v, rfl, rv⟩ := one_of r2 rfl
        cases rv
        have e4 : (match Builtin.Str.occurrences a b 0 a.length 1 with
          | i :: _ => some (D.int (i : Nat), q.2)
          | [] => none) = some (d, st') := e4
        cases ho : Builtin.Str.occurrences a b 0 a.length 1 with
        | nil => rw [ho] at e4; cases e4
        | cons i rest =>
          rw [ho] at e4
          cases e4
          exact ⟨a, b, i, rest, rfl, rfl, ho, (k.pre (g1.trans g2)).now S2 (.int _)⟩
    | _ => rw [hq] at e4; cases e4
  | _ => rw [hp] at e2; cases e2
end
/-! ### written dicts of the module, text keys -/
def fGGet (tb : List (Str × D)) (fe : SemE) : SemE := fun η st => (fe η st).bind fun p => match p.1 with
  | .str z => some ((findTb z tb).getD .non, p.2)
  | _ => none
def fGIx (tb : List (Str × D)) (fe : SemE) : SemE := fun η st => (fe η st).bind fun p => match p.1 with
  | .str z => (findTb z tb).map fun d => (d, p.2)
  | _ => none
section
variable {X : Cx}
theorem ok_gget {x : Str} {a : Addr} {e : Expr} {fe : SemE} {tb : List (Str × D)} {xp apos cpos : Pos} (hg : Gl X x) (hm : X.mg x = some (.ref a)) (hd : (x == ("__debug__" : Str)) = false) (T : GTab X.K X.w a tb) (m : M1 X (.Name x xp) "get" apos e cpos) (he : PE X e (tEv X.K fe)) :
    PE X (.Call (.Attribute (.Name x xp) "get" apos) [e] [] cpos) (tEv X.K (fGGet tb fe)) := by
  obtain ⟨es, n, KD, pr⟩ := T.ex
  refine ⟨fun pins s σ H Q I q => ?_⟩
  obtain ⟨ρ, η, st, d, st', E, S, e, k⟩ := q
  obtain ⟨p, e1, e2⟩ := bind_some e
  refine wpAny_Call_method m.base m.few m.line PySem.F.plainAttrs_dict PySem.F.slot_dict_get PySem.F.type_dict_get (thn ((pe_glob (pos := xp) hg hm (show RelV (.ref a) (.ref a) from rfl) hd).run pins s σ H (fun v H' => v = .ref a ∧ H' = H) I ⟨rfl, rfl⟩) fun u s1 ⟨x, H1, I1, rx, ex, eH⟩ => ?_)
  subst ex eH
  obtain rfl : u = Value.ref a := rx
  have hm' := PySem.W.mapOf_K (prog := X.prog) (w := X.w) I1.kIn KD.at_ KD.lit
  refine ⟨hm'.typeIs, fun a2 e2 => ?_, ?_⟩
  · cases e2
    exact ⟨_, I1.kIn _ _ KD.at_, rfl⟩
  rw [m.trees]
  have hz : ∃ z, p.1 = .str z := by
    cases hp : p.1 <;> rw [hp] at e2 <;> first | (cases e2; done) | exact ⟨_, rfl⟩
  obtain ⟨z, hp⟩ := hz
  rw [hp] at e2
  cases e2
  refine Calls.callWith_builtin rfl (Calls.evalArgs_plain (Calls.spliced_cons (thn (he.run pins s1 σ H1 (fun y H2 => y = .str z ∧ ∀ w, (∀ ρ H, DR X.K ρ H ((findTb z tb).getD .non) w) → Q w H2) I1 (tEv.then E S e1 fun ρ1 H2 v g1 S1 r1 => ?_)) fun iv s2 ⟨y, H2, I2, ry, ey, q2⟩ => Calls.spliced_nil ?_)))
  · rw [hp] at r1
    cases r1
    exact ⟨rfl, fun w hw => (k.pre g1).now S1 (hw _ _)⟩
  · subst ey
    obtain ⟨t, rfl⟩ := ry
    have hm2 := PySem.W.mapOf_K (prog := X.prog) (w := X.w) I2.kIn KD.at_ KD.lit
    refine call_meetsIn PySem.F.slot_dict_get hm2.typeIs PySem.F.entry_dict_get (PySem.F.args_dict_get_2 _ _) (meets_dict_get (strKind X.prog X.w) a (strKind_is X.prog X.w z t) KD.low) ⟨_, hm2, ?_⟩
    have hf : PySem.findBy Value.isStrOf es z = (es.toList.find? fun e => Value.isStrOf z e.key).map (·.val) := by
      obtain ⟨l⟩ := es
      unfold PySem.findBy
      rw [List.find?_toArray]
    rcases tab_find (z := z) pr with ⟨a1, a2⟩ | ⟨d0, v, e0, a1, a2, a3, a4⟩
    · refine ⟨.non, H2, I2.tok _, ?_, q2 _ fun _ _ => by rw [a1]; exact .non⟩
      rw [hf, a2]; rfl
    · refine ⟨v, H2, I2.tok _, ?_, q2 _ fun ρ H => by rw [a1]; exact a4 ρ H⟩
      rw [hf, a2]; exact a3
theorem ok_gix {x : Str} {a : Addr} {e : Expr} {fe : SemE} {tb : List (Str × D)} {xp pos : Pos} (hg : Gl X x) (hm : X.mg x = some (.ref a)) (hd : (x == ("__debug__" : Str)) = false) (T : GTab X.K X.w a tb) (hs : notSlice e = true) (he : PE X e (tEv X.K fe)) :
    PE X (.Subscript (.Name x xp) e pos) (tEv X.K (fGIx tb fe)) := by
  obtain ⟨es, n, KD, pr⟩ := T.ex
  refine PE.imp (pe_ix ix_kdict (pe_glob (v := .ref a) (pos := xp) hg hm rfl hd) he (plainIx hs)) fun σ H Q q => ?_
  obtain ⟨ρ, η, st, d, st', E, S, e, k⟩ := q
  obtain ⟨p, e1, e2⟩ := bind_some e
  refine tEv.then E S e1 fun ρ1 H1 v g1 S1 r1 => ?_
  cases hp : p.1 with
  | str z =>
    rw [hp] at e2 r1
    cases r1
    obtain ⟨d0, e3, e4⟩ := map_some' e2
    cases e4
    rcases tab_find (z := z) pr with ⟨a1, a2⟩ | ⟨d1, v, e0, a1, a2, a3, a4⟩
    · rw [a1] at e3; cases e3
    · rw [a1] at e3; cases e3
      refine ⟨a, z, v, rfl, rfl, ⟨es, n, e0.val, KD.at_, KD.lit, ?_, a3⟩, (k.pre g1).now S1 (a4 _ _)⟩
      unfold PySem.W.nsIn
      rw [KD.at_]
      have qq : (fun e : DictEntry => e.key.isStr z) = fun e => Value.isStrOf z e.key := funext fun e => PySem.W.isStr_of z e.key
      show (match es.toList.find? (fun e => e.key.isStr z) with
        | some e => some (some e.val)
        | none => _) = _
      rw [qq, a2]
  | _ => rw [hp] at e2; cases e2
end
end
end Sim

namespace Sim
open PySem L2 PySem.Spec PyProof.Rows
noncomputable section
section
variable {X : Cx}
/-! ### max of a written pair -/
def bMaxP (ds : List D) (st : Sto) : R :=
  match ds with
  | [.tup [.int a, .int b]] => some (.int (max a b), st)
  | ds => bMax ds st
theorem kb_maxP (hu : X.A.units + 64 < cLine) (hc : X.calm = true) : CallR X (.builtin "max") (rB X.K bMaxP) := by
  rintro pins s σ H vs us Q I r ⟨ρ, st, ds, d, st', S, rd, e, k⟩
  unfold bMaxP at e
  split at e
  · rename_i a b
    cases e
    obtain ⟨v, rfl, rv⟩ := one_of rd rfl
    cases rv with
    | @tup ad _ vs sa ta =>
      cases ta with
      | cons t1 ta =>
        cases ta with
        | cons t2 ta =>
          cases ta
          cases t1; cases t2
          obtain rfl := Vals.ref1 r
          obtain ⟨its, rv, pl, hz⟩ := I.tuple (SqT.of sa)
          obtain ⟨u1, u2, rfl, ⟨k1, rfl⟩, ⟨k2, rfl⟩⟩ := vals2 rv
          refine PySem.W.max_tuple_data (x := .int a) (xs := [.int b]) (as := [] ++ ([] ++ [])) (I.ok.hd hc) pl (.cons (.int a k1) (.cons (.int b k2) .nil)) ⟨?_, ?_⟩ ?_ fun i v h' tk bs hv hr hk => ?_
          · intro x hx y hy
            simp only [List.mem_cons, List.not_mem_nil, or_false] at hx hy
            rcases hx with rfl | rfl <;> rcases hy with rfl | rfl <;> rfl
          · intro x hx
            simp only [List.mem_cons, List.not_mem_nil, or_false] at hx
            rcases hx with rfl | rfl <;> (intro q; cases q)
          · show X.A.units + 1 + 0 < cLine
            omega
          · have hr : Reads h' v (PySem.W.maxD (.int a) ([b].map .int)) bs := hr
            rw [PySem.W.maxD_ints] at hr
            have hr : Reads h' v (.int (max a b)) bs := hr
            cases hr with
            | int _ t => exact ⟨.int (max a b), H, I.kept hk, ⟨t, rfl⟩, k.now S (.int _)⟩
  · exact kb_max hc pins s σ H vs us Q I r ⟨ρ, st, _, d, st', S, rd, e, k⟩
@[simp] theorem bMaxP_pair {a b : Int} {st : Sto} : bMaxP [.tup [.int a, .int b]] st = some (.int (max a b), st) := rfl
theorem bMaxP_two {a b : Int} {st : Sto} : bMaxP [.int a, .int b] st = bMax [.int a, .int b] st := rfl
theorem bMaxP_ref {n : Nat} {st : Sto} : bMaxP [.ref n] st = bMax [.ref n] st := rfl
end
end
end Sim

namespace Sim
open PySem L2 PySem.Spec PyProof.Rows
noncomputable section
/-! ### tuples of which it is known that they have no dict: .ktup -/
abbrev tupOb (its : Array Value) : Obj := { cls := Value.type "tuple", data := Data.seq its }
def QK (Q : VK) (H : Hp) (vs : List V) : Prop := ∀ (p : Addr) (o : Obj), o.dict = none → H p = none → Q (.ref p) (upd H p (.frz o (.tup vs)))
theorem Then.ktupN {K : Frg} {ρ : Rho} {H : Hp} {ds : List D} {vs : List V} {st : Sto} {Q : VK} (h : Then K ρ H (.ktup ds) st Q) (S : SR K ρ st H) (r : DRs K ρ H ds vs) : QK Q H vs := fun p o ho hp =>
  h ρ _ _ (Gr.new hp) (S.new hp) (.ktup (.inr ⟨o, upd_same, ho⟩) (r.mono (Gr.new hp)))
section
variable {X : Cx} {pins : List (Addr × Obj)} {σ : L2.St} {H : Hp} {s : Shared} {Q : VK} {vs : List V} {its : List Value}
theorem laidK (I : L2.Inv X pins σ H s) (r : Vals vs its) (hz : vs.length ≤ sizeLine) (q : QK Q H vs) : EP X pins σ Q (.ref s.heap.objs.size) { s with heap := s.heap.push (tupOb its.toArray) } :=
  ⟨.ref _, _, I.laid (t' := s.toks) (o := .frz (tupOb its.toArray) (.tup vs)) (fun b ob z => Heap.get?_push_of_some _ z) (Nat.le_refl _) ⟨Heap.get?_push_size _ rfl, hz, its, r, IsTup.new _ _⟩, rfl, q _ _ rfl (I.hok.fresh (Nat.le_refl _))⟩
end
/-! ### written out -/
def fTupK (fs : SemA) : SemE := fun η st => (fs η st).bind fun p => if p.1.length ≤ most then some (.ktup p.1, p.2) else none
section
variable {X : Cx}
theorem ok_tupK {es : List Expr} {fs : SemA} {k : Nat} {pos : Pos} (h : PA X es (tAv X.K fs)) : PE X (.Tuple es k pos) (tEv X.K (fTupK fs)) := by
  refine ⟨fun pins s σ H Q I q => ?_⟩
  obtain ⟨ρ, η, st, d, st', E, S, e, k⟩ := q
  obtain ⟨p, e1, e2⟩ := bind_some e
  obtain ⟨c, e3⟩ := ite_some e2
  cases e3
  have hr := h.run pos pins s σ H (fun vs H1 => vs.length ≤ sizeLine ∧ QK Q H1 vs) I (tAv.one E S e1 fun ρ1 H1 vs g1 S1 r1 => ⟨by rw [← r1.length]; exact most_line c, (k.pre g1).ktupN S1 r1⟩)
  exact wpAny_Tuple_spliced (thn hr fun us s1 ⟨vs, H1, I1, r, hl, q1⟩ => ⟨by rw [← r.length]; exact hl, laidK I1 r hl q1⟩)
/-! ### tuple(xs) of a list -/
def bTupleK (ds : List D) (st : Sto) : R := match ds with
  | [.ktup xs] => some (.ktup xs, st)
  | [.ref n] => (lstOf (.ref n) st).map fun xs => (.ktup xs, st)
  | _ => none
theorem kb_tupleK : CallR X (.type "tuple") (rB X.K bTupleK) := by
  rintro pins s σ H vs us Q I r ⟨ρ, st, ds, d, st', S, rd, e, k⟩
  unfold bTupleK at e
  split at e
  · cases e
    obtain ⟨v, rfl, rv⟩ := one_of rd rfl
    cases rv with
    | ktup sq t => exact call_tuple_of pins s σ H _ us Q I r ⟨_, _, rfl, .inr ⟨sq.sq, k.now S (.ktup sq t)⟩⟩
  · obtain ⟨xs, e1, e2⟩ := map_some' e
    cases e2
    obtain ⟨v, rfl, rv⟩ := one_of rd rfl
    cases rv with
    | ref ea =>
      obtain ⟨a, ws, ev, sq, t⟩ := lstOf_ok S (.ref ea) (show lstOf _ st = some xs from e1)
      cases ev
      obtain ⟨u, rfl, ru⟩ := vals1 r
      cases ru
      obtain ⟨its, rr, pl, hz⟩ := I.list sq
      refine call_tuple_list pl.isList (fun h' hk => ?_) (by rw [List.size_toArray, ← rr.length]; exact hz)
      have I' : L2.Inv X pins σ H { s with heap := h' } := I.kept (t' := s.toks) hk
      exact laidK I' rr hz (k.ktupN S t)
  · cases e
/-! ### slices -/
def slK (x : D) (lo hi : Option Int) (st : Sto) : R := match x with
  | .ktup xs => some (.ktup (cutD xs lo hi), st)
  | _ => none
def rSlK (K : Frg) : V → Option Int → Option Int → Hp → VK → Prop := fun x lo hi H Q => ∃ ρ st a d st', SR K ρ st H ∧ DR K ρ H a x ∧ slK a lo hi st = some (d, st') ∧ Then K ρ H d st' Q
theorem ok_slK : SlR X (rSlK X.K) := by
  rintro pins s σ H x v vl vu lo hi sl Q I rx hs pl pu ⟨ρ, st, a, d, st', S, ra, e, k⟩
  unfold slK at e
  split at e
  · rename_i xs
    cases e
    cases ra with
    | @ktup ad _ vs sa ta =>
      cases rx
      obtain ⟨its, r, ht, hz⟩ := I.tuple sa.sq
      have hsz : its.toArray.size = vs.length := by rw [List.size_toArray, ← r.length]
      refine ⟨"tuple", _, slot_tuple_getitem.lookup, ht.typeIs, ?_⟩
      by_cases c : HT.sIx its.toArray.size 0 lo = 0 ∧ HT.sIx its.toArray.size its.toArray.size hi = its.toArray.size
      · refine getItem_tuple_whole ht hs pl pu c ?_
        have e : cutD xs lo hi = xs := by
          have hl : xs.length = its.toArray.size := by rw [ta.length, hsz]
          unfold cutD
          rw [hl, c.1, c.2, List.drop_zero, Nat.sub_zero, ← hl, List.take_length]
        rw [e] at k
        exact ⟨.ref _, H, I, rfl, k.now S (.ktup sa ta)⟩
      · refine HT.getItem_tuple_cut ht hs pl pu c ?_ (by rw [hsz]; exact hz)
        have hc := cut_DRs ta lo hi
        have rc : Vals (cutV vs lo hi) (List.take (HT.sIx its.toArray.size its.toArray.size hi - HT.sIx its.toArray.size 0 lo) (List.drop (HT.sIx its.toArray.size 0 lo) its.toArray.toList)) := by
          rw [hsz, List.toList_toArray]
          unfold cutV
          exact (r.drop _).take _
        exact laidK I rc (by unfold cutV; rw [List.length_take, List.length_drop]; omega) (k.ktupN S hc)
  · cases e
def fSlK (fo : SemE) (fl fh : SemO) : SemE := fun η st => (fo η st).bind fun p => (fl η p.2).bind fun l => (fh η l.2).bind fun h => slK p.1 l.1 h.1 h.2
theorem ok_slKE {a : Expr} {lo hi : Option Expr} {fa : SemE} {fl fh : SemO} {p2 pos : Pos} (ha : PE X a (tEv X.K fa)) (hl : PO X lo (tOv X.K fl)) (hh : PO X hi (tOv X.K fh)) : PE X (.Subscript a (.Slice lo hi none p2) pos) (tEv X.K (fSlK fa fl fh)) := by
  refine PE.imp (pe_slice ok_slK ha hl hh) fun σ H Q q => ?_
  obtain ⟨ρ, η, st, d, st', E, S, e, k⟩ := q
  obtain ⟨p, e1, e2⟩ := bind_some e
  obtain ⟨l, e3, e4⟩ := bind_some e2
  obtain ⟨h, e5, e6⟩ := bind_some e4
  refine tEv.then E S e1 fun ρ1 H1 v g1 S1 r1 => ⟨ρ1, η, p.2, l.1, l.2, E.mono g1, S1, e3, fun ρ2 H2 g2 S2 => ⟨ρ2, η, l.2, h.1, h.2, E.mono (g1.trans g2), S2, e5, fun ρ3 H3 g3 S3 => ?_⟩⟩
  exact ⟨ρ3, h.2, p.1, d, st', S3, r1.mono (g2.trans g3), e6, k.pre (g1.trans (g2.trans g3))⟩
/-! ### one behind the other -/
def addK (x y : D) (st : Sto) : R := match x, y with
  | .ktup xs, .ktup ys => if xs.length + ys.length ≤ most then some (.ktup (xs ++ ys), st) else none
  | _, _ => none
theorem ok_addK : OpR X (binaryOp .Add) (r2 X.K addK) := by
  rintro pins s σ H x y v u Q I rx ry ⟨ρ, st, a, b, d, st', S, ra, rb, e, k⟩
  unfold addK at e
  split at e
  · rename_i xs ys
    obtain ⟨c, e⟩ := ite_some e
    cases e
    cases ra with
    | @ktup ad _ vs sa ta =>
      cases rb with
      | @ktup bd _ ws sb tb =>
        cases rx; cases ry
        obtain ⟨its, r, ht, hz⟩ := I.tuple sa.sq
        obtain ⟨jts, r2, ht2, hz2⟩ := I.tuple sb.sq
        have hl : vs.length + ws.length ≤ sizeLine := by rw [← ta.length, ← tb.length]; exact most_line c
        by_cases h0 : its = []
        · subst h0
          refine cat_tup0 ht ht2 ⟨.ref _, H, I, rfl, ?_⟩
          cases r; cases ta
          exact k.now S (.ktup sb tb)
        · refine HT.cat_tup ht ht2 h0 (fun h1 => ?_) (fun h1 => ?_) (by rw [← r.length, ← r2.length]; exact hl)
          · subst h1
            refine ⟨.ref _, H, I, rfl, ?_⟩
            cases r2; cases tb
            rw [List.append_nil] at k
            exact k.now S (.ktup sa ta)
          · exact laidK I (r.append r2) (by rw [List.length_append]; exact hl) (k.ktupN S (ta.app tb))
  · cases e
def fAddK (fa fb : SemE) : SemE := fun η st => (fa η st).bind fun p => (fb η p.2).bind fun q => addK p.1 q.1 q.2
theorem ok_addKE {a b : Expr} {fa fb : SemE} {pos : Pos} (ha : PE X a (tEv X.K fa)) (hb : PE X b (tEv X.K fb)) : PE X (.BinOp a .Add b pos) (tEv X.K (fAddK fa fb)) :=
  PE.imp (pe_op ok_addK ha hb) fun σ H Q q => two (fun x y H Q r => r) q
end
end
end Sim

namespace Sim
open PySem L2 PySem.Spec PyProof.Rows
noncomputable section
section
variable {X : Cx}
/-! ### a row many times -/
def mulK (x y : D) (st : Sto) : R := match x, y with
  | .ktup xs, .int k => if xs ≠ [] ∧ 1 ≤ k ∧ k ≤ 1000 ∧ xs.length ≤ 1000 then some (.ktup (List.replicate k.toNat xs).flatten, st) else none
  | _, _ => none
theorem ok_mulK : OpR X (binaryOp .Mult) (r2 X.K mulK) := by
  rintro pins s σ H x y v u Q I rx ry ⟨ρ, st, a, b, d, st', S, ra, rb, e, k0⟩
  unfold mulK at e
  split at e
  · rename_i xs k
    obtain ⟨⟨hne, k1, k2, hz1⟩, e⟩ := ite_some e
    cases e
    cases rb with
    | int _ =>
      cases ra with
      | @ktup l _ vs sa ta =>
        have hl := ta.length
        cases rx
        obtain ⟨t, rfl⟩ := ry
        obtain ⟨its, r, ⟨⟨cls, dd, data, sl⟩, ho, hc, n, hd⟩, hs⟩ := I.tuple sa.sq
        simp only at hc hd
        subst hc hd
        have hle : its.length = vs.length := r.length.symm
        have hn : its ≠ [] := fun e => hne (by
          rw [e] at hle
          exact List.eq_nil_of_length_eq_zero (by rw [hl]; exact hle.symm))
        have hi : its.toArray.isEmpty = false := by
          cases its with
          | nil => exact absurd rfl hn
          | cons a b => rfl
        by_cases c1 : k = 1
        · subst c1
          refine wpAny_binaryOp_repeat_ref (T := "tuple") (U := "int") (by decide) ⟨_, ho, rfl⟩ (fun s' => typeIs_int s' 1 t) noFill_tuple_mul F.fills_int_mul F.slot_int_rmul repeat_tuple F.slot_int_index.lookup
            (call_meets F.slot_int_rmul (typeIs_int s 1 t) F.entry_int_rmul (F.args_int_rmul_2 _ _) (int_rmul_tuple 1 t l its.toArray n dd sl)
              ⟨ho, rfl, ⟨_, ho, rfl⟩, call_meets F.slot_tuple_mul ⟨_, ho, rfl⟩ F.entry_tuple_mul (F.args_tuple_mul_2 _ _) (tuple_mulOne l its.toArray n dd sl t) ⟨ho, ?_⟩⟩)
          have e : (List.replicate (1 : Int).toNat xs).flatten = xs := by simp
          rw [e] at k0
          exact ⟨.ref l, H, I, rfl, k0.now S (.ktup sa ta)⟩
        · have hlen : its.length ≤ 1000 := by omega
          have hpos : 1 ≤ its.length := by
            cases its with
            | nil => exact absurd rfl hn
            | cons a b => simp
          have hb : its.length * k.toNat ≤ 1000 * 1000 := Nat.mul_le_mul hlen (by omega)
          have hb2 : ((its.length : Nat) : Int) * k ≤ 1000000 := by
            have e : ((its.length * k.toNat : Nat) : Int) = (its.length : Int) * k := by
              rw [Int.natCast_mul, Int.toNat_of_nonneg (by omega)]
            rw [← e]; omega
          refine wpAny_binaryOp_repeat_ref (T := "tuple") (U := "int") (by decide) ⟨_, ho, rfl⟩ (fun s' => typeIs_int s' k t) noFill_tuple_mul F.fills_int_mul F.slot_int_rmul repeat_tuple F.slot_int_index.lookup
            (call_meets F.slot_int_rmul (typeIs_int s k t) F.entry_int_rmul (F.args_int_rmul_2 _ _) (int_rmul_tuple k t l its.toArray n dd sl)
              ⟨ho, rfl, ⟨_, ho, rfl⟩, call_meets F.slot_tuple_mul ⟨_, ho, rfl⟩ F.entry_tuple_mul (F.args_tuple_mul_2 _ _) (tuple_mulW l its.toArray n dd sl k t ?_ ?_ ?_ ?_ ?_ ?_) ⟨ho, ?_⟩⟩)
          · rw [decide_eq_false (by omega), decide_eq_false (by omega)]; rfl
          · rw [hi, Bool.false_or]; exact beq_eq_false_iff_ne.mpr c1
          · rw [hi, decide_eq_false (by omega)]; rfl
          · rw [List.size_toArray]; omega
          · unfold Builtin.Tuple.tupleTooMany
            rw [List.size_toArray, sizeLine_eq]
            exact decide_eq_false (by omega)
          · rw [size_rep, List.size_toArray, lm_len_rep_flat, sizeLine_eq, Nat.mul_comm]; omega
          · rw [size_rep]
            refine laidK I (r.rep _) ?_ (k0.ktupN S (ta.rep _))
            rw [lm_len_rep_flat, sizeLine_eq, ← hle, Nat.mul_comm]; omega
  · cases e
def fMulK (fa fb : SemE) : SemE := fun η st => (fa η st).bind fun p => (fb η p.2).bind fun q => mulK p.1 q.1 q.2
theorem ok_mulKE {a b : Expr} {fa fb : SemE} {pos : Pos} (ha : PE X a (tEv X.K fa)) (hb : PE X b (tEv X.K fb)) : PE X (.BinOp a .Mult b pos) (tEv X.K (fMulK fa fb)) :=
  PE.imp (pe_op ok_mulK ha hb) fun σ H Q q => two (fun x y H Q r => r) q
/-! ### turned about -/
def fRevK (fa : SemE) : SemE := fun η st => (fa η st).bind fun p => match p.1 with
  | .ktup xs => some (.ktup xs.reverse, p.2)
  | _ => none
def tRevK (K : PySem.W.Frag) (te : TE) : TE := fun σ H Q => te σ H fun x H1 => ∃ a xs, x = .ref a ∧ SqT K H1 a xs ∧ QK Q H1 xs.reverse
theorem pe_revK {e : Expr} {te : TE} {k : Nat} {p1 p2 p3 pos : Pos} (he : PE X e te) : PE X (.Subscript e (.Slice none none (some (.UnaryOp .USub (.Constant (.int 1) k p1) p2)) p3) pos) (tRevK X.K te) := by
  refine ⟨fun pins s σ H Q I h => ?_⟩
  refine Subscript_ (thn (he.run pins s σ H _ I h) fun v s1 ⟨x, H1, I1, r1, q1⟩ => ?_)
  obtain ⟨a, xs, ex, hx, q⟩ := q1
  subst ex
  cases r1
  have hst : PO X (some (.UnaryOp .USub (.Constant (.int 1) k p1) p2)) (tPart (tUn (rU fun i => .int (-i)) (tC (.int 1)))) := po_some (pe_un un_neg pe_int)
  refine wpAny_Slice (thn (po_none.run pins s1 σ H1 (fun o H2 => o = none ∧ H2 = H1) I1 ⟨rfl, rfl⟩) fun vl s2 ⟨l, H2, I2, pl, el, e2⟩ => ?_)
  subst el e2
  refine thn (po_none.run pins s2 σ H2 (fun o H3 => o = none ∧ H3 = H2) I2 ⟨rfl, rfl⟩) fun vu s3 ⟨u, H3, I3, pu, eu, e3⟩ => ?_
  subst eu e3
  refine thn (hst.run pins s3 σ H3 (fun o H4 => o = some (-1) ∧ H4 = H3) I3 ⟨1, rfl, -1, rfl, rfl, rfl⟩) fun vs s4 ⟨o, H4, I4, ps, eo, e4⟩ => ?_
  subst eo e4
  have I5 : L2.Inv X pins σ H4 { s4 with heap := s4.heap.push { cls := .type "slice", data := .fields #[vl, vu, vs] } } := I4.kept (t' := s4.toks) fun b ob q => Heap.get?_push_of_some _ q
  obtain ⟨its, r, ht, hz⟩ := I5.tuple hx
  have hlen := r.length
  show wpAny (model X.prog X.w) X.A (subscriptTail e (.Slice none none (some (.UnaryOp .USub (.Constant (.int 1) k p1) p2)) p3) (.ref a) (.ref s4.heap.objs.size)) (EP X pins σ Q) X.xe { s4 with heap := s4.heap.push { cls := .type "slice", data := .fields #[vl, vu, vs] } }
  refine tail_any (ops := [.ref a, .ref s4.heap.objs.size]) ht.typeIs (PyProof.Rows.slot_tuple_getitem.lookup) ?_ (by with_unfolding_all rfl)
  refine getItem_tuple_rev ht (Heap.IsSliceOf.new _ vl vu vs) pl pu ps ?_ (by rw [List.size_toArray]; omega)
  exact laidK I5 r.reverse (by rw [List.length_reverse]; exact hz) q
theorem ok_revKE {a : Expr} {fa : SemE} {k : Nat} {p1 p2 p3 pos : Pos} (ha : PE X a (tEv X.K fa)) : PE X (.Subscript a (.Slice none none (some (.UnaryOp .USub (.Constant (.int 1) k p1) p2)) p3) pos) (tEv X.K (fRevK fa)) := by
  refine PE.imp (pe_revK ha) fun σ H Q q => ?_
  obtain ⟨ρ, η, st, d, st', E, S, e, kk⟩ := q
  obtain ⟨p, e1, e2⟩ := bind_some e
  refine tEv.then E S e1 fun ρ1 H1 v g1 S1 r1 => ?_
  have kk := kk.pre g1
  cases hp : p.1 with
  | ktup xs =>
    rw [hp] at e2 r1
    cases e2
    cases r1 with
    | ktup sa ta => exact ⟨_, _, rfl, sa.sq, kk.ktupN S1 ta.reverse⟩
  | _ => rw [hp] at e2; cases e2
/-! ### words.count(word) -/
def strD : D → Option Str
  | .str s => some s
  | _ => none
def fCntK (fo fe : SemE) : SemE := fun η st => (fo η st).bind fun p => match p.1 with
  | .ktup xs => (mapO strD xs).bind fun ys => (fe η p.2).bind fun q => match q.1 with
    | .str z => some (.int (ys.countP (fun y => y == z) : Nat), q.2)
    | _ => none
  | .ref n => match p.2[n]? with
    | some (.lst _) => (fe η p.2).bind fun q => match q.1 with
      | .str z => match q.2[n]? with
        | some (.lst xs) => (mapO strD xs).map fun ys => (.int (ys.countP (fun y => y == z) : Nat), q.2)
        | _ => none
      | _ => none
    | _ => none
  | _ => none
theorem strs_ok {K : Frg} {ρ : Rho} {H : Hp} : ∀ {xs : List D} {vs : List V} {ys : List Str}, DRs K ρ H xs vs → mapO strD xs = some ys → vs = ys.map V.str
  | [], _, ys, r, h => by cases r; cases h; rfl
  | x :: xs, _, ys, r, h => by
    cases r with
    | cons r1 rs =>
      obtain ⟨z, e1, e2⟩ := bind_some (show (strD x).bind _ = some ys from h)
      obtain ⟨zs, e3, e4⟩ := map_some' e2
      subst e4
      have := strs_ok rs e3
      subst this
      cases r1 <;> first | (cases e1; done) | (cases e1; rfl)
theorem countP_strs (z : Str) (t : Tok) : ∀ {ys : List Str} {its : List Value}, Vals (ys.map V.str) its → its.countP (eqU (.str z)) = ys.countP (fun y => y == z)
  | [], _, r => by cases r; rfl
  | y :: ys, _, r => by
    cases r with
    | cons a b =>
      obtain ⟨t, rfl⟩ := a
      rw [List.countP_cons, List.countP_cons, countP_strs z t b]
      rfl
theorem mt_tup_count : MtR X "tuple.count" (fun x xs H Q => ∃ p, ∃ ys : List Str, ∃ z, x = .ref p ∧ xs = [.str z] ∧ SqT X.K H p (ys.map V.str) ∧ Q (.int (ys.countP (fun y => y == z) : Nat)) H) := by
  intro pins s σ H x xs v us Q I rx rs h
  obtain ⟨p, ys, z, rfl, rfl, hq, q⟩ := h
  cases rx
  obtain ⟨u, rfl, t, rfl⟩ := vals1 rs
  obtain ⟨its, r, pl, hz⟩ := I.tuple hq
  obtain ⟨⟨cls, dd, dt, sl⟩, ho, hc, n, hd⟩ := pl
  simp only at hc hd
  subst hc
  subst hd
  refine call_meets PySem.F.slot_tuple_count ⟨_, ho, rfl⟩ PySem.F.entry_tuple_count (PySem.F.args_tuple_count_2 _ _) (PySem.SeqAt.tuple_countAt p its.toArray n dd sl (.str z t) (eqU (.str z)))
    ⟨ho, fun w hw => mem_eqAt (x := .str z) ⟨t, rfl⟩ rfl r (flat_strs ys) w (by simpa using hw), ⟨.int _, H, I.tok _, ⟨s.toks, ?_⟩, q⟩⟩
  rw [List.toList_toArray, countP_strs z t r]
theorem mt_lst_count : MtR X "list.count" (fun x xs H Q => ∃ p, ∃ ys : List Str, ∃ z, x = .ref p ∧ xs = [.str z] ∧ SqL X.K H p (ys.map V.str) ∧ Q (.int (ys.countP (fun y => y == z) : Nat)) H) := by
  intro pins s σ H x xs v us Q I rx rs h
  obtain ⟨p, ys, z, rfl, rfl, hq, q⟩ := h
  cases rx
  obtain ⟨u, rfl, t, rfl⟩ := vals1 rs
  obtain ⟨its, r, ⟨⟨cls, dd, data, sl⟩, n, ho, hc, hdn, hd⟩, hlen⟩ := I.list hq
  simp only at hc hd
  subst hc
  subst hd
  refine call_meets PySem.F.slot_list_count ⟨_, ho, rfl⟩ PySem.F.entry_list_count (PySem.F.args_list_count_2 _ _) (PySem.SeqAt.list_countAt p its.toArray n dd sl (.str z t) (eqU (.str z)))
    ⟨ho, fun w hw => mem_eqAt (x := .str z) ⟨t, rfl⟩ rfl r (flat_strs ys) w (by simpa using hw), ⟨.int _, H, I.tok _, ⟨s.toks, ?_⟩, q⟩⟩
  rw [List.toList_toArray, countP_strs z t r]
theorem KTp.obj {pins : List (Addr × Obj)} {σ : L2.St} {H : Hp} {s : Shared} {a : Addr} {vs : List V} (I : L2.Inv X pins σ H s) (h : KTp X.K H a vs) : s.TypeIs (.ref a) "tuple" ∧ ∃ ob, s.heap.get? a = some ob ∧ ob.dict = none := by
  obtain ⟨its, r, ht, hz⟩ := I.tuple h.sq
  refine ⟨ht.typeIs, ?_⟩
  rcases h with ⟨o, its, n, h1, h2, h3, _⟩ | ⟨o, h1, h2⟩
  · exact ⟨o, I.kIn _ _ h1, h3⟩
  · exact ⟨o, (show s.heap.get? a = some o ∧ _ from I.hok _ _ h1).1, h2⟩
theorem pe_bmK {o e : Expr} {es : List Expr} {to : TE} {t : TA} {name : Str} {apos cpos : Pos} {id : String} {r : V → List V → Hp → VK → Prop} (pa : PlainAttrs "tuple") (slot : Slot "tuple" name id) (hty : typeOf (.builtin id) = pure (.type "method_descriptor")) (hm : MtR X id r) (ho : PE X o to) (ha : PA X (e :: es) t)
    (hbase : attributeBase o name X.env (eval o X.env) = eval o X.env)
    (hfew : (((((backTo cpos (starEach (e :: es) X.env)).all fun x => !x.fst) && (backToKw cpos (keywordEach [] X.env)).all fun x => x.fst.isSome) && decide (((e :: es).length + ([] : List Keyword).length + if ([] : List Keyword).isEmpty = true then 0 else 1) < 30)) = true))
    (hline : (apos.endLine == cpos.line) = true) (hs : starEach (e :: es) X.env = (false, eval e X.env) :: starEach es X.env) (hplain : ((backTo cpos (starEach es X.env)).any fun x => x.fst) = false) :
    PE X (.Call (.Attribute o name apos) (e :: es) [] cpos) (fun σ H Q => to σ H fun x H1 => (∃ p vs, x = .ref p ∧ KTp X.K H1 p vs) ∧ t σ H1 fun xs H2 => r x xs H2 Q) := by
  refine ⟨fun pins s σ H Q I h => ?_⟩
  refine wpAny_Call_method_late hbase hfew hline rfl (thn (ho.run pins s σ H (fun x H1 => (∃ p vs, x = .ref p ∧ KTp X.K H1 p vs) ∧ t σ H1 fun xs H2 => r x xs H2 Q) I h) fun v s1 ⟨x, H1, I1, r1, ⟨p, vs, hx, kt⟩, q1⟩ => ?_)
  subst hx
  cases r1
  obtain ⟨h1, h2⟩ := kt.obj I1
  refine ⟨"tuple", id, pa, slot, hty, h1, fun a ea => by cases ea; exact h2, ?_⟩
  have hA := ha.run cpos pins s1 σ H1 (fun xs H2 => r (.ref p) xs H2 Q) I1 q1
  rw [hs] at hA ⊢
  refine PySem.Calls.callWith_builtin ?_ (PySem.Calls.evalArgs_plain (thn hA fun us s2 ⟨vs2, H2, I2, r2, q2⟩ => hm pins s2 σ H2 (.ref p) vs2 (.ref p) us Q I2 (show RelV (.ref p) (.ref p) from rfl) r2 q2))
  have e0 : (false || ((backTo cpos (starEach es X.env)).any fun x => x.fst)) = false := by rw [hplain]; rfl
  exact e0
theorem ok_cntK {o e : Expr} {fo fe : SemE} {apos cpos : Pos} (hc : notCall o = true) (hl : (apos.endLine == cpos.line) = true) (hs : notStar e = true) (ho : PE X o (tEv X.K fo)) (hea : PA X [e] (tAv X.K (fCons fe fNil))) :
    PE X (.Call (.Attribute o "count" apos) [e] [] cpos) (tEv X.K (fCntK fo fe)) := by
  refine PE.imp (PE.or (pe_bmK PySem.F.plainAttrs_tuple PySem.F.slot_tuple_count PySem.F.type_tuple_count mt_tup_count ho hea (attrB hc) (by rw [star1 hs]; rfl) hl (star1 hs) rfl) (pe_bm PySem.F.plainAttrs_list PySem.F.slot_list_count PySem.F.type_list_count mt_lst_count ho hea (attrB hc) (by rw [star1 hs]; rfl) hl (by rw [star1 hs]) rfl)) fun σ H Q q => ?_
  obtain ⟨ρ, η, st, d, st', E, S, e, k⟩ := q
  obtain ⟨p, e1, e2⟩ := bind_some e
  cases hp : p.1 with
  | ktup xs =>
    refine .inl (tEv.then E S e1 fun ρ1 H1 v g1 S1 r1 => ?_)
    rw [hp] at e2 r1
    obtain ⟨ys, e3, e4⟩ := bind_some e2
    obtain ⟨q, e5, e6⟩ := bind_some e4
    cases r1 with
    | @ktup a _ vs sa ta =>
      have hv := strs_ok ta e3
      subst hv
      refine ⟨⟨a, _, rfl, sa⟩, ?_⟩
      cases hq : q.1 with
      | str z =>
        rw [hq] at e6
        cases e6
        refine ⟨ρ1, η, p.2, [.str z], q.2, E.mono g1, S1, ?_, fun ρ2 H2 ws g2 S2 r2 => ?_⟩
        · show (fe η p.2).bind _ = _
          rw [e5]
          show some ([q.1], q.2) = _
          rw [hq]
        · obtain ⟨v, rfl, rv⟩ := one_of r2 rfl
          cases rv
          exact ⟨a, ys, z, rfl, rfl, (sa.frz g2.frz).sq, (k.pre (g1.trans g2)).now S2 (.int _)⟩
      | _ => rw [hq] at e6; cases e6
  | ref n =>
    refine .inr (tEv.then E S e1 fun ρ1 H1 v g1 S1 r1 => ?_)
    rw [hp] at e2 r1
    cases q1 : p.2[n]? with
    | none => simp only [q1] at e2; cases e2
    | some o1 =>
      cases o1 <;> simp only [q1] at e2 <;> first | (cases e2; done) | skip
      obtain ⟨q, e3, e4⟩ := bind_some e2
      obtain ⟨a, vs, rfl, ea, h1, h2⟩ := ref_lst S1 r1 q1
      refine ⟨.inl ⟨rfl, _, .inl (.inl h1)⟩, tAv.one (E.mono g1) S1 (fCons_one e3) fun ρ2 H2 ws g2 S2 r2 => ?_⟩
      obtain ⟨w, rfl, rw'⟩ := one_of r2 rfl
      cases hq : q.1 with
      | str z =>
        rw [hq] at e4 rw'
        cases q2 : q.2[n]? with
        | none => simp only [q2] at e4; cases e4
        | some o2 =>
          cases o2 <;> simp only [q2] at e4 <;> first | (cases e4; done) | skip
          obtain ⟨ys, e5, e6⟩ := map_some' e4
          cases e6
          obtain ⟨us, h3, h4⟩ := S2.at' _ _ _ q2 (g2.rho _ _ ea)
          have hv := strs_ok h4 e5
          subst hv
          cases rw'
          exact ⟨a, ys, z, rfl, rfl, .inl (.inl h3), (k.pre (g1.trans g2)).now S2 (.int _)⟩
      | _ => rw [hq] at e4; cases e4
  | _ => rw [hp] at e2; cases e2
end
end
end Sim

namespace Sim
open PySem L2
noncomputable section
/-! ### dict(xs), xs a list of pairs whose keys are tuples; {(): x} -/
def pairT : D → Option (List Key × D)
  | .tup [k, v] => (keyT k).map fun k => (k, v)
  | _ => none
def mergeT (ps : List (List Key × D)) : List (List Key × D) := ps.foldl (fun acc p => putD acc p.1 p.2) []
def bDict (ds : List D) (st : Sto) : R :=
  match ds with
  | [x] => (lstOf x st).bind fun xs => (mapO pairT xs).bind fun ps => alloc (.dtp (mergeT ps)) st
  | _ => none
section
variable {X : Cx} {ρ : Rho} {H : Hp}
/-- the pairs, as they stand -/
theorem pairs_ok {pins : List (Addr × Obj)} {σ : L2.St} {s : Shared} (I : Inv X pins σ H s) : ∀ {xs : List D} {ys : List V} {its : List Value} {ps : List (List Key × D)}, DRs X.K ρ H xs ys → Vals ys its → mapO pairT xs = some ps →
    ∃ (vs : List (List Key × V)) (hs : List (List Key × Addr × Value)) (Ts : List Addr), TDR X.K ρ H ps vs ∧ KT H vs hs ∧ its = Ts.map Value.ref ∧ Ts.length = hs.length ∧ ∀ (j : Nat) (q : List Key × Addr × Value), hs[j]? = some q → ∃ T, Ts[j]? = some T ∧ PySem.PairAt s.heap T (.ref q.2.1) q.2.2
  | [], _, _, _, r, v, h => by
    cases r; cases v; cases h
    exact ⟨[], [], [], .nil, .nil, rfl, rfl, fun j q e => by simp at e⟩
  | x :: xs, _, _, _, r, v, h => by
    cases r with
    | @cons _ yv _ yvs r1 rs =>
      cases v with
      | cons v1 vs1 =>
        obtain ⟨p, e1, e2⟩ := bind_some (show (pairT x).bind _ = _ from h)
        obtain ⟨ps, e3, e4⟩ := map_some' e2
        subst e4
        obtain ⟨vs, hs, Ts, h1, h2, h3, h4, h5⟩ := pairs_ok I rs vs1 e3
        unfold pairT at e1
        split at e1
        · rename_i kd vd
          obtain ⟨k, e5, e6⟩ := map_some' e1
          subst e6
          cases r1 with
          | @tup T _ tv sT tT =>
            cases tT with
            | cons rk rr =>
              cases rr with
              | cons rv r0 =>
                cases r0
                obtain ⟨b, rfl, hb⟩ := keyT_ok rk e5
                obtain rfl : _ = Value.ref T := v1
                obtain ⟨itv, rvs, ht, _⟩ := I.tuple (.of sT)
                obtain ⟨u1, u2, ei, ru1, ru2⟩ := vals2 rvs
                subst ei
                obtain rfl : u1 = Value.ref b := ru1
                refine ⟨(k, _) :: vs, (k, b, u2) :: hs, T :: Ts, .cons ⟨rfl, rv⟩ h1, .cons ⟨rfl, hb, ru2⟩ h2, by rw [h3]; rfl, by rw [List.length_cons, List.length_cons, h4], fun j q e => ?_⟩
                cases j with
                | zero =>
                  have e : (k, b, u2) = q := by simpa using e
                  subst e
                  exact ⟨T, rfl, .inl ht⟩
                | succ j =>
                  obtain ⟨T', a1, a2⟩ := h5 j q (by simpa using e)
                  exact ⟨T', by simpa using a1, a2⟩
        · cases e1
/-- what is written into a dict, one after another -/
theorem tmerge {ps : List (List Key × D)} {vs : List (List Key × V)} (h : TDR X.K ρ H ps vs) : ∀ {a : List (List Key × D)} {b : List (List Key × V)}, TDR X.K ρ H a b → TDR X.K ρ H (ps.foldl (fun acc p => putD acc p.1 p.2) a) (vs.foldl (fun acc p => putK acc p.1 p.2) b) := by
  induction h with
  | nil => exact fun h => h
  | @cons p q ps vs hp ht ih =>
    intro a b hab
    refine ih (a := putD a p.1 p.2) (b := putK b q.1 q.2) ?_
    rw [← hp.1]
    exact put_ok hp.2 hab
theorem kmerge {vs : List (List Key × V)} {hs : List (List Key × Addr × Value)} (h : KT H vs hs) : ∀ {b : List (List Key × V)} {c : List (List Key × Addr × Value)}, KT H b c → KT H (vs.foldl (fun acc p => putK acc p.1 p.2) b) (storedAllH c hs) := by
  induction h with
  | nil => exact fun h => h
  | @cons p q vs hs hp ht ih =>
    intro b c hbc
    refine ih (b := putK b p.1 p.2) (c := storedH c q.1 q.2.1 q.2.2) ?_
    rw [← hp.1]
    exact hbc.put p.1 hp.2.1 hp.2.2
theorem putK_len {κ : Type} [DecidableEq κ] (kvs : List (κ × V)) (k : κ) (v : V) : (putK kvs k v).length ≤ kvs.length + 1 := by
  unfold putK
  split
  · rw [List.length_map]; omega
  · rw [List.length_append]; simp
theorem foldK_len : ∀ (vs b : List (List Key × V)), (vs.foldl (fun acc p => putK acc p.1 p.2) b).length ≤ b.length + vs.length
  | [], b => by simp
  | p :: vs, b => by
    have h1 := foldK_len vs (putK b p.1 p.2)
    have h2 := putK_len b p.1 p.2
    rw [List.foldl_cons, List.length_cons]; omega
theorem kb_dict (hu : X.A.units + 64 < cLine) (hc : X.calm = true) : CallR X (.type "dict") (rB X.K bDict) := by
  rintro pins s σ H vs us Q I r ⟨ρ, st, ds, d, st', S, rd, e, k⟩
  unfold bDict at e
  split at e
  · rename_i x
    obtain ⟨v, rfl, rv⟩ := one_of rd rfl
    obtain ⟨xs, e1, e⟩ := bind_some e
    obtain ⟨ps, e2, e⟩ := bind_some e
    cases e
    obtain ⟨a, ys, rfl, sq, t⟩ := lstOf_ok S rv e1
    obtain ⟨its, rvs, hl, hz⟩ := I.list sq
    obtain ⟨u, rfl, ru⟩ := vals1 r
    obtain rfl : u = Value.ref a := ru
    obtain ⟨ws, hs, Ts, h1, h2, h3, h4, h5⟩ := pairs_ok I t rvs e2
    subst h3
    have hn : Ts.length ≤ sizeLine := by have := rvs.length; rw [List.length_map] at this; omega
    obtain ⟨ol, n, ho, hcl, hdi, hdat⟩ := hl
    have hTs : ∀ j, j < Ts.length → Ts[j]? = some (Ts.getD j 0) := fun j hj => by rw [List.getD_eq_getElem?_getD, List.getElem?_eq_getElem hj]; rfl
    refine PySem.call_dict_pairsH (knd := tupleKind (mixKind X.prog X.w)) (ps := hs) (PySem.PairArg.list a (Ts.map Value.ref).toArray (fun j => Ts.getD j 0) (hs.map fun q => (Value.ref q.2.1, q.2.2))) (I.ok.hd hc) ?_ ⟨⟨ol, n, ho, hcl, hdi, hdat⟩, ?_, fun j key v hj => ?_⟩ ⟨?_, fun i key v hi => ?_⟩ ?_ ?_ fun h' tk hd' hk => ?_
    · exact tupleKind_room_in1 (A := X.A.in1) (by show X.A.units + 1 + 1 < cLine; omega)
    · rw [List.size_toArray, List.length_map, List.length_map, h4]
    · rw [List.getElem?_map] at hj
      obtain ⟨q, hq, hq2⟩ := Option.map_eq_some_iff.mp hj
      cases hq2
      obtain ⟨T, a1, a2⟩ := h5 j q hq
      have hT : Ts.getD j 0 = T := by rw [List.getD_eq_getElem?_getD, a1]; rfl
      refine ⟨?_, by show PySem.PairAt s.heap (Ts.getD j 0) _ _; rw [hT]; exact a2⟩
      show _ = some (Value.ref (Ts.getD j 0))
      rw [List.getElem?_toArray, List.getElem?_map, a1, hT]; rfl
    · rw [List.length_map]
    · have hi : (hs.map fun q => (Value.ref q.2.1, q.2.2))[i]? = some (key, v) := hi
      rw [List.getElem?_map] at hi
      obtain ⟨q, hq, hq2⟩ := Option.map_eq_some_iff.mp hi
      cases hq2
      exact ⟨q.1, q.2.1, hq, rfl⟩
    · intro h' hk x hx
      have all : ∀ {l : List (List Key × V)} {m : List (List Key × Addr × Value)}, KT H l m → ∀ x ∈ m, H x.2.1 = some (.tup (x.1.map kV)) := by
        intro l m q
        induction q with
        | nil => intro x hx; exact nomatch hx
        | @cons p q ps qs hq t ih =>
          intro x hx
          rcases List.mem_cons.mp hx with e | hx
          · subst e; rw [← hq.1]; exact hq.2.1
          · exact ih x hx
      have hb := all h2 x hx
      obtain ⟨o, its, n, q1, q2, q3, q4⟩ := key_of I.hok hb
      refine ⟨o, its, n, hk _ o (Nat.ne_of_lt (Heap.lt_size q1)) (by simp) q1, q2, q3, q4⟩
    · rw [List.length_map, ← h4]; exact hn
    · have hm : (s.heap.objs.size == sysModules) = false := beq_eq_false_iff_ne.mpr (Nat.ne_of_gt I.big)
      have kk : ∀ b o, s.heap.get? b = some o → h'.get? b = some o := fun b o e => hk b o (by simp) e
      have hl2 : (ws.foldl (fun acc p => putK acc p.1 p.2) []).length ≤ sizeLine := by
        have := foldK_len ws []
        have l3 := Paired.length h2
        rw [List.length_nil] at this
        omega
      have hn0 : H s.heap.objs.size = none := I.hok.fresh (Nat.le_refl _)
      have km := (kmerge h2 (.nil : KT H [] [])).keeps (H' := upd H s.heap.objs.size (.dT (ws.foldl (fun acc p => putK acc p.1 p.2) []))) fun b ys hb => tup_new hn0 hb
      obtain ⟨o, es, ep, d1, d2, d3, d4, d5, d6⟩ := hd'
      have I2 := I.laid (t' := tk) (o := .dT (ws.foldl (fun acc p => putK acc p.1 p.2) [])) kk (Nat.le_refl _) ⟨hl2, hm, _, km, o, es, ep, d1, d2, d3, d4, d6⟩
      have tm := tmerge h1 (.nil : TDR X.K ρ H [] [])
      have gz : Gr X.K ρ H (ρ ++ [s.heap.objs.size]) (upd H s.heap.objs.size (.dT (ws.foldl (fun acc p => putK acc p.1 p.2) []))) := ⟨fun n a h => get_app h, fun _ _ h => tup_new hn0 h, fun _ _ _ h => frz_new hn0 h⟩
      have tm : TDR X.K ρ H (mergeT ps) (ws.foldl (fun acc p => putK acc p.1 p.2) []) := tm
      obtain ⟨S', g'⟩ := S.alloc (o := .dtp (mergeT ps)) (p := s.heap.objs.size) (u := .dT (ws.foldl (fun acc p => putK acc p.1 p.2) [])) hn0 rfl ⟨_, upd_same, TDR.mono gz tm⟩
      exact ⟨.ref _, _, I2, rfl, k _ _ _ g' S' (.ref (by rw [← S.len, List.getElem?_append_right (Nat.le_refl _)]; simp))⟩
  · cases e
/-! ### {k: v}, k a tuple -/
def fDt1 (fk fv : SemE) : SemE := fun η st => (fk η (st ++ [.dtp []])).bind fun p => (fv η p.2).bind fun q => (keyT p.1).bind fun k => match q.2[st.length]? with
  | some (.dtp []) => some (.ref st.length, q.2.set st.length (.dtp [(k, q.1)]))
  | _ => none
theorem d_dictSetT {pins : List (Addr × Obj)} {σ : L2.St} {H : Hp} {s : Shared} {E : Value → Shared → Prop} {D b : Addr} {kvs : List (List Key × V)} {k : List Key} {v : V} {r : Value} {Q : Unit → Shared → Prop} (hu : X.A.units + 1 < cLine) (I : Inv X pins σ H s) (e : H D = some (.dT kvs)) (hz : kvs.length < sizeLine)
    (eb : H b = some (.tup (k.map kV))) (rv : RelV v r) (h : ∀ s', Inv X pins σ (upd H D (.dT (putK kvs k v))) s' → Q () s') : wpAny (model X.prog X.w) X.A (dictSet D (.ref b) r) Q E s := by
  obtain ⟨z, hd, xs, rel, dd⟩ := dt_of I.hok e
  have hx : xs.length ≤ sizeLine := by rw [← Paired.length rel]; exact z
  have hl : (putK kvs k v).length ≤ sizeLine := by have := putK_len kvs k v; omega
  refine wpAny_dictSet_heap (hsz := hx) (knd := tupleKind (mixKind X.prog X.w)) (by show X.A.units < cLine; omega) (key_of I.hok eb) dd fun h' dd' hs => h _ ?_
  obtain ⟨q, es, ep, q1, q2, q3, q4, _, q5⟩ := dd'
  refine d_write I (by rw [e]; exact True.intro) hs ⟨q, q1⟩ ⟨hl, hd, _, (rel.put k eb rv).keeps fun c ys ec => ?_, q, es, ep, q1, q2, q3, q4, q5⟩
  rw [upd_ne (ne_of ec e (fun z => nomatch z))]
  exact ec
def tDispT (trs : List (TE × TE)) : TE := fun σ H Q => ∀ p, H p = none → tPairs trs σ (upd H p (.dT [])) fun ps H2 => ∃ (b : Addr) (ks : List Key) (y : V), ps = [(V.ref b, y)] ∧ H2 b = some (.tup (ks.map kV)) ∧ H2 p = some (.dT []) ∧ Q (.ref p) (upd H2 p (.dT [(ks, y)]))
theorem pe_dispT {ke ve : Expr} {tk tv : TE} {pos : Pos} (hu : X.A.units + 1 < cLine) (hk : PE X ke tk) (hv : PE X ve tv) : PE X (.Dict [some ke] [ve] pos) (tDispT [(tk, tv)]) := by
  refine ⟨fun pins s σ H Q I q => ?_⟩
  have hn := I.hok.fresh (Nat.le_refl s.heap.objs.size)
  have I1 := I.laid (a := s.heap.objs.size) (o := .dT []) (h' := s.heap.push { cls := .type "dict", data := .dict #[] }) (t' := s.toks) (fun _ _ q => Heap.get?_push_of_some _ q) (Nat.le_refl _) (dt_empty s.heap I.big)
  refine wpAny_Dict_any rfl rfl (fun z => nomatch z) (by show 1 ≤ 15; decide) ?_
  have hp : PPs X pos [some ke] [ve] [(tk, tv)] := pps_cons hk hv pps_nil
  refine thn (hp.run pins _ σ _ _ I1 (q _ hn)) fun ws s2 ⟨ps, H2, I2, rel, b, ks, y, e1, e2, e3, q2⟩ => ?_
  subst e1
  cases rel with
  | @cons _ w _ ws' h t =>
    cases t
    obtain ⟨w1, w2⟩ := w
    obtain ⟨h1, h2⟩ := h
    obtain rfl : w1 = Value.ref b := h1
    unfold storeAll
    rw [List.forIn_cons]
    refine wpAny_bind (wpAny_bind (d_dictSetT hu I2 e3 (by decide +kernel) e2 h2 fun s3 I3 => wpAny_pure ?_))
    show wpAny _ _ (forIn ([] : List (Value × Value)) PUnit.unit _) _ _ _
    rw [List.forIn_nil]
    exact wpAny_pure ⟨.ref _, _, I3, rfl, q2⟩
theorem ok_dt1 {ke ve : Expr} {fk fv : SemE} {pos : Pos} (hu : X.A.units + 1 < cLine) (hk : PE X ke (tEv X.K fk)) (hv : PE X ve (tEv X.K fv)) : PE X (.Dict [some ke] [ve] pos) (tEv X.K (fDt1 fk fv)) := by
  refine PE.imp (pe_dispT hu hk hv) fun σ H Q q => ?_
  obtain ⟨ρ, η, st, d, st', E, S, e, k⟩ := q
  obtain ⟨p, e1, e2⟩ := bind_some e
  obtain ⟨q, e3, e4⟩ := bind_some e2
  obtain ⟨ks, e5, e6⟩ := bind_some e4
  intro a ha
  have e7 : q.2[st.length]? = some (.dtp []) ∧ (d, st') = (.ref st.length, q.2.set st.length (.dtp [(ks, q.1)])) := by
    split at e6
    · rename_i hh; cases e6; exact ⟨hh, rfl⟩
    · cases e6
  obtain ⟨e7, e8⟩ := e7
  cases e8
  obtain ⟨S', g'⟩ := S.alloc (o := .dtp []) ha (u := .dT []) rfl ⟨[], upd_same, .nil⟩
  show tEv X.K fk σ (upd H a (.dT [])) fun x H1 => tEv X.K fv σ H1 fun y H2 => ∃ (b : Addr) (ks : List Key) (y' : V), [(x, y)] = [(V.ref b, y')] ∧ H2 b = some (.tup (ks.map kV)) ∧ H2 a = some (.dT []) ∧ Q (.ref a) (upd H2 a (.dT [(ks, y')]))
  refine tEv.then (E.mono g') S' e1 fun ρ1 H1 v1 g1 S1 r1 => tEv.then ((E.mono g').mono g1) S1 e3 fun ρ2 H2 v2 g2 S2 r2 => ?_
  obtain ⟨b, rfl, hb⟩ := keyT_ok (r1.mono g2) e5
  have hra : ρ2[st.length]? = some a := g2.rho _ _ (g1.rho _ _ (by rw [← S.len, List.getElem?_append_right (Nat.le_refl _)]; simp))
  obtain ⟨ws, hw, rw'⟩ := S2.at' _ _ a e7 hra
  cases rw'
  refine ⟨b, ks, v2, rfl, hb, hw, ?_⟩
  have gu : Gr X.K ρ2 H2 ρ2 (upd H2 a (.dT [(ks, v2)])) := Gr.upd hw rfl
  obtain ⟨S3, g3⟩ := S2.set (o' := .dtp [(ks, q.1)]) (u := .dT [(ks, v2)]) e7 hra rfl rfl ⟨_, upd_same, .cons ⟨rfl, r2.mono gu⟩ .nil⟩
  exact k _ _ _ (((g'.trans g1).trans g2).trans g3) S3 (.ref hra)
end
end
end Sim

namespace Sim
open PySem L2 PySem.Spec PyProof.Rows
noncomputable section
/-! ### sum of a list of numbers, of a tuple of them -/
def bSum (ds : List D) (st : Sto) : R :=
  match ds with
  | [.tup xs] => (mapO intD xs).map fun ns => (.int ns.sum, st)
  | ds => bSumL ds st
section
variable {prog : Program} {w : World} {A : Around} {E : Value → Shared → Prop} {s : Shared}
theorem tup_sum {t : Addr} {us : List Value} {zs : List Int} {Q : Value → Shared → Prop} (calm : A.handled = none) (ht : s.heap.IsTuple t us.toArray) (hz : IntsAre us zs)
    (fin : ∀ h2 k u, (∀ b o, s.heap.get? b = some o → h2.get? b = some o) → Q (.int zs.sum u) { s with heap := h2, toks := k }) : wpAny (model prog w) A (call (.builtin "sum") [.ref t]) Q E s := by
  obtain ⟨ps, e⟩ := hz.allInts.items
  have hn : numsOf (intItems ps).toList = zs := by rw [← e]; exact hz.numsOf
  rw [nums_intItems] at hn
  rw [e] at ht
  have lt : t < s.heap.objs.size := let ⟨_, q, _⟩ := ht; Heap.lt_size q
  have ne : t ≠ s.heap.objs.size := Nat.ne_of_lt lt
  have keeps : ∀ (h2 : Heap) (x : Obj), (∀ b o, b ∉ [s.heap.objs.size] → (s.heap.push x).get? b = some o → h2.get? b = some o) → ∀ b o, s.heap.get? b = some o → h2.get? b = some o := fun h2 x k b o q =>
    k b o (fun m => Nat.lt_irrefl _ (List.mem_singleton.mp m ▸ Heap.lt_size q)) (Heap.get?_push_of_some _ q)
  refine call_sum_walkG (wpAny_pyIter_tuple ht ?_)
  refine ⟨_, _, _, _, _, _, numAt ps, rfl, Walks.tuple (A := A.in1) calm _ t ne (intItems ps), ⟨⟨_, Heap.get?_push_size _ rfl, rfl, rfl⟩, ht.push _⟩, fun b hb => ?_, fun _ _ => intItems_at, fun h2 k u hk => ?_⟩
  · show b < (s.heap.push _).objs.size
    rw [Heap.size_push]
    rcases List.mem_cons.mp hb with z | hb
    · rw [z]; exact Nat.lt_succ_self _
    · rw [List.mem_singleton.mp hb]; exact Nat.lt_succ_of_lt lt
  · have q := fin h2 k u (keeps h2 _ hk)
    have ec : (intItems ps).size = ps.size := by simp [intItems]
    rw [ec, preSum_eq, List.take_of_length_le (by simp), hn]
    exact q
end
section
variable {X : Cx}
theorem kb_sum (hc : X.calm = true) : CallR X (.builtin "sum") (rB X.K bSum) := by
  rintro pins s σ H vs us Q I r ⟨ρ, st, ds, d, st', S, rd, e, k⟩
  unfold bSum at e
  split at e
  · rename_i xs
    obtain ⟨ns, e1, e2⟩ := map_some' e
    cases e2
    obtain ⟨v, rfl, rv⟩ := one_of rd rfl
    cases rv with
    | @tup ad _ vs sa ta =>
      obtain rfl := Vals.ref1 r
      rw [ints_ok e1 ta] at sa
      obtain ⟨its, rv, pl, hz⟩ := I.tuple (SqT.of sa)
      exact tup_sum (I.ok.hd hc) pl rv.ints fun h2 tk u hk => ⟨.int _, H, I.kept hk, ⟨_, rfl⟩, k.now S (.int _)⟩
  · exact kb_sumL hc pins s σ H vs us Q I r ⟨ρ, st, _, d, st', S, rd, e, k⟩
end
end
end Sim

namespace Sim
open PySem L2 PySem.Spec PyProof.Rows
/-! ### a lambda as sort key: (0 - len(x), x) -/
section
variable {X : Cx} {σ : L2.St} {H : Hp} {s : Shared} {x : Str} {t : Addr} {ys : List V} {i : Nat}
theorem key_name {E : Value → Shared → Prop} (J : Inv X [] σ H s) (hx : X.N[i]? = some x) (hv : Vis X.env.scope x) (hσ : σ[i]? = some (some (.ref t))) (hd : (x == ("__debug__" : Str)) = false) (hcd : (x == ("__classdict__" : Str)) = false) {pos : Pos} {Q : Value → Shared → Prop} (fin : Q (.ref t) s) :
    wpAny (model X.prog X.w) X.A (eval (.Name x pos) X.env) Q E s := by
  obtain ⟨m, hn, hl⟩ := J.loc
  obtain ⟨u, r, l⟩ := hl i x _ hx hσ hv
  obtain rfl : u = Value.ref t := r
  rcases l with ⟨hk, hm⟩ | ⟨hk, c, hc, hcell⟩
  · exact wpAny_Name (wpAny_loadName_local J.ok.kind hk hn hm fin) hd
  · rcases hk with hk | hk
    · exact wpAny_Name (wpAny_loadName_cell J.ok.kind hk hc hcell fin) hd
    · exact wpAny_Name (wpAny_loadName_free J.ok.kind hk hc hcell fin hcd) hd
theorem key_eval {E : Value → Shared → Prop} (J : Inv X [] σ H s) (hx : X.N[i]? = some x) (hv : Vis X.env.scope x) (hσ : σ[i]? = some (some (.ref t))) (hd : (x == ("__debug__" : Str)) = false) (hcd : (x == ("__classdict__" : Str)) = false) (hq : SqT X.K H t ys) (hg : Gl X "len") (hm : X.mg "len" = none)
    {j x1 : Nat} {p1 p2 p3 p4 p5 p6 p7 : Pos} {Q : Value → Shared → Prop}
    (fin : ∀ tk tok, Q (.ref s.heap.objs.size) { s with heap := s.heap.push { cls := .type "tuple", data := .seq #[.int (0 - (ys.length : Int)) tok, .ref t] }, toks := tk }) :
    wpAny (model X.prog X.w) X.A (eval (.Tuple [.BinOp (.Constant (.int 0) j p1) .Sub (.Call (.Name "len" p2) [.Name x p3] [] p4) p5, .Name x p6] x1 p7) X.env) Q E s := by
  refine wpAny_Tuple_spliced ?_
  show wpAny _ _ (spliced ((false, eval (.BinOp (.Constant (.int 0) j p1) .Sub (.Call (.Name "len" p2) [.Name x p3] [] p4) p5) X.env) :: (false, eval (.Name x p6) X.env) :: [])) _ _ s
  refine Calls.spliced_cons (wpAny_BinOp (wpAny_Constant_int ?_))
  have J1 : Inv X [] σ H { s with toks := s.toks + 1 } := J.tok _
  refine wpAny_Call_Name_kw (ld_blt J1 hg hm (u := .builtin "len") (by decide +kernel) ?_ (by decide) (by decide))
  refine PyProof.Rows.callWith_builtin1 ?_
  show wpAny _ _ (spliced ((false, eval (.Name x p3) X.env) :: [])) _ _ _
  refine Calls.spliced_cons (key_name J1 hx hv hσ hd hcd (Calls.spliced_nil ?_))
  obtain ⟨its, r', pl, hz⟩ := J1.tuple hq
  have hlen := r'.length
  have hn := line63
  refine len_tuple pl (by simp only [List.size_toArray] <;> omega) ?_
  refine sub_int ?_
  have J3 : Inv X [] σ H { s with toks := s.toks + 1 + 2 + 1 } := J.tok _
  have fin' := fin (s.toks + 1 + 2 + 1) (s.toks + 1 + 2)
  have es : its.toArray.size = ys.length := by rw [List.size_toArray, hlen]
  rw [es]
  exact Calls.spliced_cons (key_name J3 hx hv hσ hd hcd (Calls.spliced_nil ⟨(by show 2 ≤ sizeLine; rw [sizeLine_eq]; decide), fin'⟩))
end
/-- the key's text -/
abbrev keyX (x : Str) (j x1 : Nat) (p1 p2 p3 p4 p5 p6 p7 : Pos) : Expr := .Tuple [.BinOp (.Constant (.int 0) j p1) .Sub (.Call (.Name "len" p2) [.Name x p3] [] p4) p5, .Name x p6] x1 p7
/-- a call of the key -/
theorem key_turn {P : Program} {w : World} {K : Frg} {mg : Str → Option Value} {base : Heap} {A : Around} {outer : List Env} {s : Shared} {H : Hp} {x qual : Str} {params : Arguments} {scope : Scope} {pm ctv : Value} {c' f t : Addr} {ys : List V} {d : PyData} {j x1 : Nat} {p1 p2 p3 p4 p5 p6 p7 : Pos}
    (e0 : Env0 P w K mg base A outer s H) (room : Room 0 A) (S : FnScope [x] [x] scope) (hf : s.heap.get? f = some (PySem.W.kla_obj "<lambda>" qual params (keyX x j x1 p1 p2 p3 p4 p5 p6 p7) scope [] pm c' ctv)) (hc : s.heap.CodeRec (.ref c') qual)
    (bind : bindArgs (PySem.W.kla_fn "<lambda>" qual params (keyX x j x1 p1 p2 p3 p4 p5 p6 p7) scope [] pm (.ref c') ctv) ⟨[.ref t], []⟩ = pure [(x, .ref t)]) (hq : SqT K H t ys) (rd : Reads s.heap (.ref t) d [])
    (hd : (x == ("__debug__" : Str)) = false) (hcd : (x == ("__classdict__" : Str)) = false) (hv : Vis scope x) (hm : mg "len" = none) (hg : ∀ X : Cx, X.env.scope = scope → Gl X "len") :
    wpAny (model P w) A (call (.ref f) [.ref t]) (PySem.W.KeyPure (.tuple [.int (0 - (ys.length : Int)), d]) s) (fun _ _ => False) s := by
  refine wpAny_call ?_
  refine PySem.W.kla_callFunE room.depth hf rfl S.co S.gen rfl hc ?_
  rw [bind]
  refine wpAny_pure ?_
  have kinds : ∀ y ∈ ([(x, Value.ref t)] : List (Str × Value)), scope.names.lookup y.1 = some .local ∨ (scope.names.lookup y.1 = some .cell ∧ ((cellsFrom (s.heap.objs.size + 1) scope.names []).lookup y.1).isSome = true) := fun y hy => by
    rw [List.mem_singleton.mp hy]
    rcases S.par x (List.mem_singleton.mpr rfl) with q | q
    · exact .inl q
    · exact .inr ⟨q, PySem.W.cellsFrom_some _ _ _ (.inl q)⟩
  refine wpAny_newFunctionEnv_cells S.kind kinds fun env he s1 x1' => ?_
  subst he
  have lim : s.heap.NoLimit := e0.mod.nolimit.keeps fun b o e => (e0.bs b o e).1
  refine ⟨lim.keeps x1'.toInCall.keep, PySem.W.kla_codeExpr ?_⟩
  have J := inv_start (CX := L2.CX P w) (E := fun _ _ _ => False) (vs := [V.ref t]) (us := [Value.ref t]) S room.hd e0 rfl (.cons rfl .nil) x1'
  obtain ⟨h1, tk, rfl, hk⟩ := x1'.done
  refine key_eval (i := 0) (ys := ys) J rfl hv rfl hd hcd hq (hg _ rfl) hm fun tk2 tok => ?_
  refine ⟨_, tk2, rfl, fun b o e => Heap.get?_push_of_some _ (hk b o e), ?_⟩
  have r2 : Reads (h1.push { cls := .type "tuple", data := .seq #[.int (0 - (ys.length : Int)) tok, .ref t] }) (.ref t) d [] := PyProof.Rows.Reads.keeps (fun b o e => Heap.get?_push_of_some _ (hk b o e)) rd
  exact .tuple (Heap.get?_push_size _ rfl) rfl rfl (.cons (.int _ _) (.cons r2 .nil))
/-- where a key is called: the tuple alone is tracked, and to the letter -/
theorem key_env0 {X : Cx} {pins : List (Addr × Obj)} {σ : L2.St} {H : Hp} {s : Shared} {t : Addr} {ys : List V} (I : Inv X pins σ H s) (ht : H t = some (.tup ys)) {h : Heap} {tk : Nat} (keep : ∀ b o, s.heap.get? b = some o → h.get? b = some o)
    (ff : s.heap.FunFrames X.base X.stack → h.FunFrames X.base X.stack) : ∃ H2 : Hp, Env0 X.prog X.w X.K X.mg X.base X.A.in1.in1 X.stack { s with heap := h, toks := tk } H2 ∧ SqT X.K H2 t ys := by
  obtain ⟨z, its, r, ob, ho, hcls, n, hdat⟩ := I.hok t _ ht
  let H2 : Hp := L2.upd (fun _ => none) t (.frz ob (.tup ys))
  have h1 : H2 t = some (.frz ob (.tup ys)) := upd_same
  have h2 : ∀ b, b ≠ t → H2 b = none := fun b hb => upd_ne hb
  have off : ∀ b, H b = none → H2 b = none := fun b hb => h2 b fun e => by subst e; rw [hb] at ht; cases ht
  refine ⟨H2, ⟨I.ok.frames, I.mod, fun b o e => ⟨keep b o (I.bs b o e).1, off b (I.bs b o e).2⟩, ?_, ff I.stack, fun b hb => off b (I.stkFree b hb), fun b u e => ?_, I.bare⟩, Or.inl (Or.inr ⟨ob, h1⟩)⟩
  · obtain ⟨m, ⟨o, es, ep, e, _⟩, _⟩ := I.loc
    exact Nat.le_trans (Nat.le_trans I.ok.bsz I.ok.above) (Nat.le_of_lt (Heap.lt_size (keep _ _ e)))
  · by_cases hb : b = t
    · subst hb
      rw [h1] at e
      cases e
      exact ⟨keep _ _ ho, z, its, r, ob, keep _ _ ho, hcls, n, hdat⟩
    · rw [h2 b hb] at e; cases e
end Sim

namespace Sim
open PySem L2 PySem.Spec PyProof.Rows
/-! ### sorted(d, key=f), d a dict with tuples as keys, f the key (0 - len(x), x) -/
def keyA : Key → PyData
  | .inl i => .int i
  | .inr z => .str z
def keyTP (ks : List Key) : PyData := .tuple (ks.map keyA)
def keyK (ks : List Key) : PyData := .tuple [.int (0 - (ks.length : Int)), keyTP ks]
theorem keyA_depth : ∀ ks : List Key, PyData.depthAll (ks.map keyA) = 0
  | [] => rfl
  | k :: ks => by
    rw [List.map_cons, PyData.depthAll, keyA_depth ks]
    cases k <;> rfl
theorem keyK_depth (ks : List Key) : (keyK ks).depth = 2 := by
  show max 0 (max (PyData.depthAll (ks.map keyA) + 1) 0) + 1 = 2
  rw [keyA_depth]; rfl
theorem keys_read {h : Heap} : ∀ {ks : List Key} {us : List Value}, Vals (ks.map kV) us → ReadsAll h us (ks.map keyA) []
  | [], us, v => by cases v; exact .nil
  | k :: ks, us, v => by
    cases v with
    | cons a b =>
      have r := keys_read (h := h) b
      cases k with
      | inl i => obtain ⟨t, rfl⟩ := a; exact .cons (.int i t) r
      | inr z => obtain ⟨t, rfl⟩ := a; exact .cons (.str z t) r
section
variable {X : Cx} {ρ : Rho} {st : Sto} {H : Hp} {σ : L2.St} {s : Shared} {pins : List (Addr × Obj)}
/-- a key of the dict -/
def KeyAt (H : Hp) (v : Value) (ks : List Key) : Prop := ∃ t, v = .ref t ∧ H t = some (.tup (ks.map kV))
theorem keyAt_rel {K : Frg} {ρ : Rho} {H : Hp} : ∀ {us : List Value} {kss : List (List Key)}, PySem.W.EachIs (KeyAt H) us kss → ∃ ts : List Addr, Vals (ts.map V.ref) us ∧ DRs K ρ H (kss.map fun ks => D.tup (ks.map keyV)) (ts.map V.ref)
  | _, _, .nil => ⟨[], .nil, .nil⟩
  | _, _, .cons ⟨t, e, h⟩ r => by
    obtain ⟨ts, h1, h2⟩ := keyAt_rel (K := K) (ρ := ρ) r
    subst e
    exact ⟨t :: ts, .cons rfl h1, .cons (.tup h (drs_keys _)) h2⟩
theorem keyAts {H : Hp} : ∀ {vs : List (List Key × V)} {ks : List (List Key × Addr × Value)}, L2.KT H vs ks → PySem.W.EachIs (KeyAt H) (ks.map fun q => Value.ref q.2.1) (vs.map (·.1))
  | _, _, .nil => .nil
  | _, _, .cons q r => .cons ⟨_, rfl, q.2.1⟩ (keyAts r)
theorem tdr_keys {K : Frg} {ρ : Rho} {H : Hp} : ∀ {kvs : List (List Key × D)} {vs : List (List Key × V)}, TDR K ρ H kvs vs → kvs.map (·.1) = vs.map (·.1)
  | _, _, .nil => rfl
  | _, _, .cons p t => by rw [List.map_cons, List.map_cons, tdr_keys t, p.1]
/-- all that is in such a dict, in its order -/
theorem collect_dt (hc : X.calm = true) (S : SR X.K ρ st H) (I : Inv X pins σ H s) {n : Nat} {a : Addr} {kvs : List (List Key × D)} (hn : st[n]? = some (.dtp kvs)) (ea : ρ[n]? = some a) {R : List Value → Shared → Prop}
    (hR : ∀ (h' : Heap) (tk : Nat) (its : List Value), (∀ b o, s.heap.get? b = some o → h'.get? b = some o) → PySem.W.EachIs (KeyAt H) its (kvs.map (·.1)) → its.length ≤ sizeLine → R its { s with heap := h', toks := tk }) : wpAny (model X.prog X.w) X.A.in1 (collect (.ref a)) R X.xe s := by
  obtain ⟨vs, h1, h2⟩ := S.at' _ _ _ hn ea
  obtain ⟨z, hs, ks, pr, o, es, ep, ho, hx, hdt, he, hnd⟩ := I.hok _ _ h1
  have l1 : es.size = ks.length := size_of_entries he
  have l2 : vs.length = ks.length := Paired.length pr
  refine PySem.W.kdu_collect (A := X.A.in1) (kdl_raw hs hx hdt) (I.ok.hd hc) ho (by omega) fun h' tk acc hk hacc => ?_
  have el : acc.toList = ks.map fun q => Value.ref q.2.1 := by
    refine List.ext_getElem? fun j => ?_
    rw [List.getElem?_map]
    cases q : ks[j]? with
    | none =>
      have : ks.length ≤ j := List.getElem?_eq_none_iff.mp q
      rw [List.getElem?_eq_none (by rw [Array.length_toList, hacc.1]; omega)]; rfl
    | some p =>
      have hj : j < acc.size := by have := (List.getElem?_eq_some_iff.mp q).1; rw [hacc.1]; omega
      have e1 : acc[j]? = some acc[j] := Array.getElem?_eq_getElem hj
      obtain ⟨en, hen, hv⟩ := hacc.2 j acc[j] e1
      have qe := entry_at he j
      rw [hen, q] at qe
      have e2 : en = entryOfKey (tupleKind (mixKind X.prog X.w)) p := Option.some.inj qe
      rw [Array.getElem?_toList, e1, hv, e2]; rfl
  refine hR h' tk acc.toList hk ?_ (by rw [Array.length_toList, hacc.1]; omega)
  rw [el, tdr_keys h2]
  exact keyAts pr
def sortK (kss : List (List Key)) : List (List Key) := kss.mergeSort (PySem.W.dataLe false keyK)
def keyable (kss : List (List Key)) : Bool := alikes (kss.map keyK)
theorem sorted_keyed (hu : X.A.units + 64 < cLine) (hc : X.calm = true) (S : SR X.K ρ st H) (I : Inv X pins σ H s) {n : Nat} {a f : Addr} {kvs : List (List Key × D)} (hn : st[n]? = some (.dtp kvs)) (ea : ρ[n]? = some a) (al : keyable (kvs.map (·.1)) = true)
    (turn : ∀ (t : Addr) (ks : List Key), H t = some (.tup (ks.map kV)) → ∀ (h : Heap) (tk : Nat), (∀ b o, s.heap.get? b = some o → h.get? b = some o) → wpAny (model X.prog X.w) X.A.in1.in1 (call (.ref f) [.ref t]) (PySem.W.KeyPure (keyK ks) { s with heap := h, toks := tk }) (fun _ _ => False) { s with heap := h, toks := tk })
    {Q : VK} (k : Then X.K ρ H (.ref st.length) (st ++ [.lst ((sortK (kvs.map (·.1))).map fun ks => .tup (ks.map keyV))]) Q) :
    wpAny (model X.prog X.w) X.A (call (.builtin "sorted") [.ref a] [(Str.ofString "key", .ref f)]) (EP X pins σ Q) X.xe s := by
  have all : PySem.W.AllAlike ((kvs.map (·.1)).map keyK) := fun d hd e he => by
    have a1 := List.all_eq_true.mp al d hd
    exact List.all_eq_true.mp a1 e he
  refine call_function_entry_kw PyProof.Rows.kind_sorted PyProof.Rows.plain_sorted PyProof.Rows.entry_sorted (PyProof.Rows.ksk_s1 _ _) ?_
  unfold Builtin.«sorted»
  refine wpAny_bind (m := checkCount "sorted" 1 1 _) (wpAny_pure ?_)
  refine wpAny_bind (collect_dt hc S I hn ea fun h' tk its kp each hz => ?_)
  refine wpAny_bind (wpAny_newList ?_ hz)
  have hoL : (h'.push (PyProof.Rows.seqObj "list" its.toArray 0)).get? h'.objs.size = some (PyProof.Rows.seqObj "list" its.toArray 0) := Heap.get?_push_size _ rfl
  show wpAny _ _ _ _ _ { s with heap := h'.push (PyProof.Rows.seqObj "list" its.toArray 0), toks := tk }
  have old : ∀ {g : Heap}, PySem.W.KeepsBut h'.objs.size (h'.push (PyProof.Rows.seqObj "list" its.toArray 0)) g → ∀ b o, h'.get? b = some o → g.get? b = some o := fun kb b o e => kb b o (Nat.ne_of_lt (Heap.lt_size e)) (Heap.get?_push_of_some _ e)
  refine wpAny_bind (wpAny_holding (PySem.W.list_sort_key_data (s := { s with heap := h'.push (PyProof.Rows.seqObj "list" its.toArray 0), toks := tk }) (b := false) keyK hoL each all (.inl fun d hd => ?_) (by rw [← each.length]; exact hz) (fun ks _ => ?_) (PyProof.Rows.ksk_l1 _ _) (PyProof.Rows.ksk_t1 _ _) (fun v ks hv _ g tk2 kb => ?_) fun out c g tk2 kb ho hl srt => ?_))
  · obtain ⟨ks, _, rfl⟩ := List.mem_map.mp hd
    exact ⟨_, _, rfl⟩
  · rw [keyK_depth]
    show X.A.units + 1 + 1 + 2 < cLine
    omega
  · obtain ⟨t, rfl, ht⟩ := hv
    exact turn t ks ht g tk2 fun b o e => old kb b o (kp b o e)
  · obtain ⟨ts, r1, r2⟩ := keyAt_rel (K := X.K) (ρ := ρ) srt
    have I1 : Inv X pins σ H { s with heap := h', toks := tk } := I.kept kp
    have fr : H h'.objs.size = none := I1.hok.fresh (Nat.le_refl _)
    have q := k.lst S r2 h'.objs.size fr
    have big : (ts.map V.ref).length ≤ sizeLine := by
      rw [r1.length, hl, ← each.length]; exact hz
    exact wpAny_pure ⟨.ref h'.objs.size, rfl, .ref h'.objs.size, upd H h'.objs.size (.lst (ts.map V.ref)), I1.laid (o := .lst (ts.map V.ref)) (t' := tk2) (fun b o e => old kb b o e) (Nat.le_refl _) ⟨big, out, c, r1, ho⟩, rfl, q⟩
end
end Sim

namespace Sim
open PySem L2 PySem.Spec PyProof.Rows
/-! ### sorted(d, key=lambda x: (0 - len(x), x)), as an expression of a def whose lambdas the store knows -/
def stkOf : O → Option (Str × Str)
  | .stk (.tab x q) => some (x, q)
  | _ => none
def tabsD (st : Sto) : List (Str × Str) := st.filterMap stkOf
/-- the tables of the store: where each stands -/
def tabsT : Sto → Rho → List (Addr × Str)
  | o :: st, a :: ρ => match o with
    | .stk (.tab _ q) => (a, q) :: tabsT st ρ
    | _ => tabsT st ρ
  | _, _ => []
theorem tabsT_mem {p : Addr × Str} : ∀ {st : Sto} {ρ : Rho}, p ∈ tabsT st ρ → ∃ (n : Nat) (x : Str), st[n]? = some (O.stk (.tab x p.2)) ∧ ρ[n]? = some p.1
  | [], _, h => by cases h
  | _ :: _, [], h => by cases h
  | o :: st, a :: ρ, h => by
    have tail : p ∈ tabsT st ρ → ∃ (n : Nat) (x : Str), (o :: st)[n]? = some (O.stk (.tab x p.2)) ∧ (a :: ρ)[n]? = some p.1 := fun h => by
      obtain ⟨n, x, h1, h2⟩ := tabsT_mem h
      exact ⟨n + 1, x, by rw [List.getElem?_cons_succ]; exact h1, by rw [List.getElem?_cons_succ]; exact h2⟩
    cases o with
    | stk k =>
      cases k with
      | tab x q =>
        rcases List.mem_cons.mp h with rfl | h
        · exact ⟨0, x, rfl, rfl⟩
        · exact tail h
    | _ => exact tail h
theorem mem_tabsT {x q : Str} {a : Addr} : ∀ {st : Sto} {ρ : Rho} {n : Nat}, st[n]? = some (O.stk (.tab x q)) → ρ[n]? = some a → (a, q) ∈ tabsT st ρ
  | [], _, _, h, _ => by simp at h
  | _ :: _, [], _, _, h => by simp at h
  | o :: st, b :: ρ, 0, h1, h2 => by
    cases h1; cases h2
    exact List.mem_cons_self
  | o :: st, b :: ρ, n + 1, h1, h2 => by
    rw [List.getElem?_cons_succ] at h1 h2
    have m := mem_tabsT h1 h2
    cases o with
    | stk k => cases k with | tab y r => exact List.mem_cons_of_mem _ m
    | _ => exact m
section
variable {K : Frg} {ρ : Rho} {st : Sto} {H H1 : Hp}
/-- a lambda is made: all but the tables stays -/
theorem Gr.extN (e : LamX.ExtN H H1) : Gr K ρ H ρ H1 := ⟨fun _ _ h => h, fun a vs h => e a _ h (fun ps z => by cases z), fun a o u h => e a _ h (fun ps z => by cases z)⟩
theorem SR.extN (S : SR K ρ st H) (e : LamX.ExtN H H1) (t : LamX.Tabs (tabsT st ρ) H1) : SR K ρ st H1 := by
  have g : Gr K ρ H ρ H1 := Gr.extN e
  refine ⟨S.len, fun n o a h r => ?_, S.nd, S.tf⟩
  have q := S.at' n o a h r
  cases o with
  | stk k =>
    cases k with
    | tab x w => exact ⟨q.1, t (a, w) (mem_tabsT h r)⟩
  | lst xs => obtain ⟨vs, e2, r2⟩ := q; exact ⟨vs, e a _ e2 (fun ps z => by cases z), r2.mono g⟩
  | dct xs => obtain ⟨vs, e2, r2⟩ := q; exact ⟨vs, e a _ e2 (fun ps z => by cases z), KDR.mono g r2⟩
  | dtp xs => obtain ⟨vs, e2, r2⟩ := q; exact ⟨vs, e a _ e2 (fun ps z => by cases z), TDR.mono g r2⟩
  | frd xs => obtain ⟨o, vs, e2, r2⟩ := q; exact ⟨o, vs, e a _ e2 (fun ps z => by cases z), KDR.mono g r2⟩
  | frz xs =>
    obtain ⟨vs, e2, r2⟩ := q
    refine ⟨vs, ?_, r2.mono g⟩
    rcases e2 with ⟨o, e2⟩ | e2
    · exact .inl ⟨o, e a _ e2 (fun ps z => by cases z)⟩
    · exact .inr e2
end
theorem clo_void {cells : List (Str × Addr)} : ∀ {names : List (Str × NameKind)}, (∀ y ∈ names, y.2 ≠ .free) → cloFrom cells names [] = []
  | [], _ => rfl
  | (z, k) :: r, h => by
    have q := clo_void (cells := cells) (names := r) fun y hy => h y (List.mem_cons_of_mem _ hy)
    have hk : k ≠ .free := h (z, k) List.mem_cons_self
    cases k <;> first | exact absurd rfl hk | exact q
theorem bind_one {qual : Str} {y : Str} {p8 : Pos} {body : Expr} {scope : Scope} {pm cd ctv : Value} {v : Value} :
    bindArgs (PySem.W.kla_fn "<lambda>" qual ⟨[], [⟨y, none, p8⟩], none, [], [], none, []⟩ body scope [] pm cd ctv) ⟨[v], []⟩ = pure [(y, v)] := by
  have q : seqItems? Value.none = pure none := rfl
  unfold bindArgs
  simp [PySem.W.kla_fn, List.lookup, q]
/-- the tables of the store are these, behind the first place -/
def headT (tq : List (Str × Str)) (st : Sto) : Prop := tabsD (st.take (tq.length + 1)) = tq ∧ (st[tq.length + 1]?).map isTab = some false
instance {tq : List (Str × Str)} {st : Sto} : Decidable (headT tq st) := by unfold headT; infer_instance
theorem tabsD_none : ∀ {l : Sto}, (∀ o ∈ l, isTab o = false) → tabsD l = []
  | [], _ => rfl
  | o :: l, h => by
    unfold tabsD
    have e : stkOf o = none := by
      have q := h o List.mem_cons_self
      cases o <;> first | rfl | cases q
    rw [List.filterMap_cons, e]
    exact tabsD_none fun x hx => h x (List.mem_cons_of_mem _ hx)
theorem tabsF_past {st : Sto} (F : TabsF st) {k : Nat} (h : (st[k + 1]?).map isTab = some false) : ∀ (j : Nat) (o : O), st[k + 1 + j]? = some o → isTab o = false
  | 0, o, ho => by
    rw [show k + 1 + 0 = k + 1 from rfl] at ho
    rw [ho] at h
    exact Option.some.inj h
  | j + 1, o, ho => by
    by_cases c : isTab o = true
    · obtain ⟨o', h1, h2⟩ := F (k + j) o (by rw [show k + j + 2 = k + 1 + (j + 1) by omega]; exact ho) c
      have q := tabsF_past F h j o' (by rw [show k + 1 + j = k + j + 1 by omega]; exact h1)
      rw [q] at h2; cases h2
    · simpa using c
theorem headT_all {tq : List (Str × Str)} {st : Sto} (F : TabsF st) (h : headT tq st) : tabsD st = tq := by
  have e : tabsD st = tabsD (st.take (tq.length + 1)) ++ tabsD (st.drop (tq.length + 1)) := by
    unfold tabsD
    rw [← List.filterMap_append, List.take_append_drop]
  rw [e, h.1, tabsD_none, List.append_nil]
  intro o ho
  obtain ⟨j, hj⟩ := List.getElem?_of_mem ho
  rw [List.getElem?_drop] at hj
  exact tabsF_past F h.2 j o hj
def fSrtK (tq : List (Str × Str)) (fe : SemE) : SemE := fun η st => (fe η st).bind fun p => match p.1 with
  | .ref n => match p.2[n]? with
    | some (.dtp kvs) => if headT tq p.2 ∧ keyable (kvs.map (·.1)) = true then alloc (.lst ((sortK (kvs.map (·.1))).map fun ks => .tup (ks.map keyV))) p.2 else none
    | _ => none
  | _ => none
theorem tabsD_mem {st : Sto} {n : Nat} {x q : Str} (h : st[n]? = some (O.stk (.tab x q))) : (x, q) ∈ tabsD st :=
  List.mem_filterMap.mpr ⟨_, List.mem_of_getElem? h, rfl⟩
theorem mem_tabsD {st : Sto} {p : Str × Str} (h : p ∈ tabsD st) : ∃ n : Nat, st[n]? = some (O.stk (.tab p.1 p.2)) := by
  obtain ⟨o, h1, h2⟩ := List.mem_filterMap.mp h
  obtain ⟨n, hn, e⟩ := List.getElem_of_mem h1
  cases o with
  | stk k => cases k with | tab x q => cases h2; exact ⟨n, by rw [List.getElem?_eq_getElem hn, e]⟩
  | _ => cases h2
section
variable {X : Cx} {tq : List (Str × Str)} {x y : Str} {c P : Addr} {scope : Scope} {e : Expr} {fe : SemE} {j x1 : Nat} {p0 p1 p2 p3 p4 p5 p6 p7 p8 p9 pl pk pos : Pos}
theorem pe_sortK (room : Room 2 X.A) (hc : X.calm = true) (he : PE X e (tEv X.K fe)) (ns : starEach [e] X.env = (false, eval e X.env) :: starEach [] X.env) (hg : Gl X "sorted") (hm : X.mg "sorted" = none) (hml : X.mg "len" = none)
    (TB : LamX.TabB X.base X.mg c P) (hcode : X.env.code = .ref c) (ht : PySem.W.tabIn X.K x = some (c, P)) (hmem : (x, X.env.qual ++ "<lambda>") ∈ tq) (one : ∀ p ∈ tq, TabOf X.K p.1 P → p.2 = X.env.qual ++ "<lambda>")
    (S : FnScope [y] [y] scope) (hv : Vis scope y) (hd : (y == ("__debug__" : Str)) = false) (hcd : (y == ("__classdict__" : Str)) = false) (hgl : ∀ Z : Cx, Z.env.scope = scope → Gl Z "len")
    (bind : ∀ (f c' : Addr) (pm ctv : Value) (t : Addr), bindArgs (PySem.W.kla_fn "<lambda>" (X.env.qual ++ "<lambda>") ⟨[], [⟨y, none, p8⟩], none, [], [], none, []⟩ (keyX y j x1 p1 p2 p3 p4 p5 p6 p7) scope [] pm (.ref c') ctv) ⟨[.ref t], []⟩ = pure [(y, .ref t)]) :
    PE X (.Call (.Name "sorted" p0) [e] [⟨some "key", .Lambda ⟨[], [⟨y, none, p8⟩], none, [], [], none, []⟩ (keyX y j x1 p1 p2 p3 p4 p5 p6 p7) scope pl, pk⟩] pos) (tEv X.K (fSrtK tq fe)) := by
  refine ⟨fun pins s σ H Q I h => ?_⟩
  obtain ⟨ρ, η, st, d, st', E, SS, e0, k⟩ := h
  obtain ⟨p, e1, e2⟩ := bind_some e0
  have e2 : (match p.1 with
    | .ref n => match p.2[n]? with
      | some (.dtp kvs) => if headT tq p.2 ∧ keyable (kvs.map (·.1)) = true then alloc (.lst ((sortK (kvs.map (·.1))).map fun ks => .tup (ks.map keyV))) p.2 else none
      | _ => none
    | _ => none) = some (d, st') := e2
  have hu : X.A.units + 64 < cLine := room.units
  refine wpAny_Call_Name_kw (ld_blt I hg hm (u := .builtin "sorted") (by decide +kernel) ?_ (by decide) (by decide))
  refine PyProof.Rows.callWith_kw ?_ (by rw [ns]; rfl) (by rw [ns]; rfl)
  rw [ns]
  show wpAny _ _ (spliced ((false, eval e X.env) :: [])) _ _ s
  refine Calls.spliced_cons (thn (he.run pins s σ H (fun v H1 => ∃ ρ1, Gr X.K ρ H ρ1 H1 ∧ SR X.K ρ1 p.2 H1 ∧ DR X.K ρ1 H1 p.1 v) I ⟨ρ, η, st, p.1, p.2, E, SS, e1, fun ρ1 H1 v g1 S1 r1 => ⟨ρ1, g1, S1, r1⟩⟩) fun u s1 hq => Calls.spliced_nil ?_)
  obtain ⟨v, H1, I1, ru, ρ1, g1, S1, r1⟩ := hq
  split at e2
  · rename_i n hpn
    split at e2
    · rename_i kvs hn
      obtain ⟨⟨c1, c2⟩, e3⟩ := ite_some e2
      have c1 := headT_all S1.tf c1
      cases e3
      rw [hpn] at r1
      cases r1 with
      | @ref _ a ea =>
        obtain rfl : u = Value.ref a := ru
        have tabs : LamX.Tabs (tabsT p.2 ρ1) H1 := fun z hz => by
          obtain ⟨m, w, h1, h2⟩ := tabsT_mem hz
          exact (S1.at' m _ _ h1 h2).2
        have here : (P, X.env.qual ++ "<lambda>") ∈ tabsT p.2 ρ1 := by
          rw [← c1] at hmem
          obtain ⟨m, h1⟩ := mem_tabsD hmem
          obtain ⟨b, h2, h3⟩ := S1.addr h1
          have : b = P := TabOf.one h3.1 ⟨c, ht⟩
          subst this
          exact mem_tabsT h1 h2
        have uniq : ∀ z ∈ tabsT p.2 ρ1, z.1 = P → z.2 = X.env.qual ++ "<lambda>" := fun z hz e => by
          obtain ⟨m, w, h1, h2⟩ := tabsT_mem hz
          have t := (S1.at' m _ _ h1 h2).1
          rw [e] at t
          exact one (w, z.2) (by rw [← c1]; exact tabsD_mem h1) t
        show wpAny _ _ (evalAll ((do let v ← eval (.Lambda ⟨[], [⟨y, none, p8⟩], none, [], [], none, []⟩ (keyX y j x1 p1 p2 p3 p4 p5 p6 p7) scope pl) X.env; standAt pos; pure v) :: [])) _ _ s1
        refine wpAny_evalAll_cons (wpAny_bind (LamX.lam_make2 (T := tabsT p.2 ρ1) I1 TB hcode here uniq tabs rfl (fun z hz e => absurd e (S.nofree z hz)) fun f c' pm ctv H2 s2 I2 ext tb hf hfn hfr hcc => wpAny_bind (wpAny_standAt (wpAny_pure (wpAny_evalAll_nil ?_)))))
        rw [clo_void S.nofree] at hf
        have S2 := S1.extN ext tb
        have g2 : Gr X.K ρ1 H1 ρ1 H2 := Gr.extN ext
        obtain ⟨⟨oc, us, tq', hoc, hdc, hvc⟩, _, _⟩ := I2.hok c' _ hcc
        refine sorted_keyed hu hc S2 I2 hn ea c2 (fun t ks htup h tk keep => ?_) (k.pre (g1.trans g2))
        obtain ⟨H3, e0', sq⟩ := key_env0 I2 htup (tk := tk) keep (fun ff => Heap.FunFrames.of_keeps (fun b o e _ => ⟨o, keep b o e, rfl⟩) ff)
        have rd : Reads h (.ref t) (keyTP ks) [] := by
          obtain ⟨z, its, r, ob, ho, hcls, m, hdat⟩ := I2.hok t _ htup
          exact .tuple (keep _ _ ho) hcls hdat (keys_read r)
        have kt := key_turn e0' (room.in1.in1) S (keep _ _ hf) ⟨c', oc, us, tq', rfl, keep _ _ hoc, hdc, hvc⟩ (bind f c' pm ctv t) sq rd hd hcd hv hml hgl
        rw [List.length_map] at kt
        exact kt
    · cases e2
  · cases e2
end
end Sim

namespace Sim
open PySem L2
noncomputable section

/-! ### the compiler of expressions -/
abbrev RE := Sx → Expr → Option SemE
abbrev RT := Sx → Expr → Option SemT
def binOk : Operator → Bool
  | .Add | .Sub | .Mult | .Mod | .FloorDiv | .Pow => true
  | _ => false
def compC : Const → Option SemE
  | .none => some (fC .non)
  | .bool b => some (fC (.bl b))
  | .int i => some (fC (.int i))
  | .str s => some (fC (.str s))
  | _ => none
def compA (rE : Expr → Option SemE) : List Expr → Option SemA
  | [] => some fNil
  | e :: r => if notStar e = true then (rE e).bind fun fe => (compA rE r).map fun fr => fCons fe fr else none
def compAs (rE : Expr → Option SemE) : List Expr → Option SemA
  | [] => some fNil
  | e :: r => match e with
    | .Starred a _ => (rE a).bind fun fe => (compAs rE r).map fun fr => fStar fe fr
    | e => if notStar e = true then (rE e).bind fun fe => (compAs rE r).map fun fr => fCons fe fr else none
def compV (rE : Expr → Option SemE) (op : BoolOp) : List Expr → Option SemE
  | [] => none
  | [a] => rE a
  | a :: b :: r => (rE a).bind fun fa => (compV rE op (b :: r)).map fun fb => match op with
    | .And => fAndV fa fb
    | .Or => fOrV fa fb
def compW (rT : Expr → Option SemT) (op : BoolOp) : List Expr → Option SemT
  | [] => none
  | [a] => rT a
  | a :: b :: r => (rT a).bind fun fa => (compW rT op (b :: r)).map fun fb => match op with
    | .And => gAnd fa fb
    | .Or => gOr fa fb
def compO (rE : Expr → Option SemE) : Option Expr → Option SemO
  | none => some oNone
  | some e => (rE e).map oSome
def compIfs (rT : Expr → Option SemT) : List Expr → Option SemT
  | [] => some gYes
  | [c] => rT c
  | _ => none
def bltOf (x : Str) : Option (List D → Sto → R) :=
  if x = "sorted" then some bSorted else if x = "len" then some bLen else if x = "repr" then some bRepr else if x = "min" then some bMin else if x = "max" then some bMaxP else if x = "tuple" then some bTuple
  else if x = "list" then some bList else if x = "sum" then some bSum else if x = "all" then some bAll else if x = "any" then some bAny else if x = "ord" then some bOrd else if x = "dict" then some bDict else none
def clsOf (x : Str) : Option String :=
  if x = "int" then some "int" else if x = "bool" then some "bool" else if x = "str" then some "str" else if x = "tuple" then some "tuple" else if x = "list" then some "list" else if x = "dict" then some "dict" else none
def fCallD (cf : CallF) (x : Str) (dds : List D) (fs : SemA) : SemE := fun η st => (fs η st).bind fun p => cf x (p.1 ++ dds) p.2
def callD (cf : CallF) (x : Str) (dds : List D) (fs : SemA) : SemE :=
  match dds with
  | [] => fCall cf x fs
  | d :: r => fCallD cf x (d :: r) fs
def stepCall (rE : Expr → Option SemE) (cf : CallF) (S : Sx) (x : Str) (args : List Expr) : Option SemE :=
  if glB S.sc x = true ∧ nmOk x = true ∧ (args ≠ [] ∨ x ∈ S.own) then
    if x ∈ S.own then (dfOf S.dfl x args.length).bind fun dds => (compA rE args).map fun fs => callD cf x dds fs
    else if x ∈ S.mth then (if x = "gcd" then (compA rE args).map fun fs => fBlt bGcd fs else none)
    else if x ∈ S.blt then
      if x = "isinstance" then match args with
        | [e, .Name T _] => if notStar e = true ∧ glB S.sc T = true ∧ nmOk T = true ∧ T ∈ S.blt then (clsOf T).bind fun t => (rE e).map fun fe => fIsi t fe else none
        | _ => none
      else (bltOf x).bind fun g => (compA rE args).map fun fs => fBlt g fs
    else none
  else none
def stepName (S : Sx) (x : Str) : Option SemE :=
  if nmOk x = true ∧ visB S.sc x = true then (ixOf x S.N).map fun i => fVar i
  else if nmOk x = true ∧ glB S.sc x = true then (lookD x S.glo).map fun d => fC d else none
/-- list(zip(a, b)), else a call -/
def stepLz (rE : Expr → Option SemE) (cf : CallF) (S : Sx) (x : Str) (args : List Expr) : Option SemE :=
  match args with
  | [.Call (.Name y _) [a, b] [] _] => if x = "list" ∧ y = "zip" ∧ glB S.sc x = true ∧ glB S.sc y = true ∧ x ∈ S.blt ∧ y ∈ S.blt ∧ notStar a = true ∧ notStar b = true then (compA rE [a, b]).map fun fs => fLz fs else stepCall rE cf S x args
  | _ => stepCall rE cf S x args
def meth0 (rE : Expr → Option SemE) (m : Str) (o : Expr) : Option SemE :=
  if m = "pop" then (rE o).map fun fo => fPop fo
  else if m = "upper" then (rE o).map fun fo => fUpp fo
  else some fStuck
def meth1 (rE : Expr → Option SemE) (m : Str) (o e : Expr) : Option SemE :=
  if notStar e = true then
    if m = "append" then (rE o).bind fun fo => (rE e).map fun fa => fApp fo fa
    else if m = "extend" then (rE o).bind fun fo => (rE e).map fun fa => fExt fo fa
    else if m = "pop" then (rE o).bind fun fo => (rE e).map fun fa => fPop1 fo fa
    else if m = "get" then (rE o).bind fun fo => (rE e).map fun fa => fGet1 fo fa
    else if m = "index" then (rE o).bind fun fo => (rE e).map fun fa => fIdx fo fa
    else some fStuck
  else none
def meth2 (rE : Expr → Option SemE) (m : Str) (o e f : Expr) : Option SemE :=
  if notStar e = true ∧ notStar f = true then
    if m = "get" then (rE o).bind fun fo => (rE e).bind fun fa => (rE f).map fun fb => fGet2 fo fa fb
    else if m = "setdefault" then (rE o).bind fun fo => (rE e).bind fun fa => (rE f).map fun fb => fSdf fo fa fb
    else if m = "pop" then (rE o).bind fun fo => (rE e).bind fun fa => (rE f).map fun fb => fPop2 fo fa fb
    else some fStuck
  else none
def stepMeth (rE : Expr → Option SemE) (m : Str) (o : Expr) (args : List Expr) (apos cpos : Pos) : Option SemE :=
  if notCall o = true ∧ (apos.endLine == cpos.line) = true then
    match args with
    | [] => meth0 rE m o
    | [e] => meth1 rE m o e
    | [e, f] => meth2 rE m o e f
    | _ => some fStuck
  else none
/-- G.get(e), G a written dict of the module -/
def stepGM (rE : Expr → Option SemE) (S : Sx) (m : Str) (o : Expr) (args : List Expr) (apos cpos : Pos) : Option SemE :=
  match o, args with
  | .Name x _, [e] => match lookG x S.gds with
    | some tb => if glB S.sc x = true ∧ nmOk x = true ∧ m = "get" ∧ notStar e = true ∧ (apos.endLine == cpos.line) = true then (rE e).map fun fe => fGGet tb fe else none
    | none => stepMeth rE m o args apos cpos
  | _, _ => stepMeth rE m o args apos cpos
def compGs (f : Expr → Option (SemG × List Nat)) : List Expr → Option (SemGs × List Nat)
  | [] => some (gvNil, [])
  | e :: r => if notStar e = true then (f e).bind fun g => (compGs f r).map fun gs => (gvCons g.1 gs.1, g.2 ++ gs.2) else none
def compG (S : Sx) : Nat → Expr → Option (SemG × List Nat)
  | 0, _ => none
  | d + 1, e => match e with
    | .Name x _ => if locB S x = true then (ixOf x S.N).map fun i => (gvName i, [i]) else none
    | .Tuple es _ _ => (compGs (fun e => compG S d e) es).map fun p => (gvTup p.1, p.2)
    | _ => none
def isTuple : Expr → Bool
  | .Tuple _ _ _ => true
  | _ => false
def compI (rE : Expr → Option SemE) (S : Sx) (tg : Expr) (iter : Expr) : Option SemI :=
  match iter with
  | .Call (.Name x _) args [] _ => if glB S.sc x = true ∧ x ∈ S.blt ∧ x = "range" then (if args.length = 1 ∨ args.length = 2 ∨ args.length = 3 then (compA rE args).map fun fs => iRng fs else none)
    else if glB S.sc x = true ∧ x ∈ S.blt ∧ x = "enumerate" then match args with
      | [e] => if notStar e = true ∧ isTuple tg = true then (rE e).map fun fe => iEn fe else none
      | _ => none
    else if glB S.sc x = true ∧ x ∈ S.blt ∧ x = "zip" then match args with
      | [a, b] => if notStar a = true ∧ notStar b = true ∧ isTuple tg = true then (compA rE [a, b]).map fun fs => iZip fs else none
      | _ => none
    else if glB S.sc x = true ∧ x ∈ S.blt ∧ x = "reversed" then match args with
      | [e] => if notStar e = true then (rE e).map fun fe => iRv fe else none
      | _ => none
    else (rE iter).map fun fe => iPlain fe
  | _ => (rE iter).map fun fe => iPlain fe
def ownOf (N : List Str) (scope : Scope) : List (Str × Nat) := scope.names.filterMap fun y => match y.2 with
  | .local => (ixOf y.1 N).map fun i => (y.1, i)
  | .cell => (ixOf y.1 N).map fun i => (y.1, i)
  | _ => none
def Sx.blk (S : Sx) (scope : Scope) : Sx := { S with sc := relS scope S.sc, top := false, tq := [] }
def stepLc (rE : RE) (rT : RT) (S : Sx) (elt : Expr) (gens : List Comprehension) (scope : Scope) : Option SemE :=
  match gens with
  | [⟨tg, iter, ifs, 0⟩] => if blkC S.N S.sc scope (ownOf S.N scope) = true ∧ notSet iter = true then
      (compI (rE S) S tg iter).bind fun fi => (compG (S.blk scope) 3 tg).bind fun g => if (g.2.all fun i => ((ownOf S.N scope).map (·.2)).contains i) = true then
        (compIfs (rT (S.blk scope)) ifs).bind fun ft => (rE (S.blk scope) elt).map fun fe => fLc fi g.1 ft fe ((ownOf S.N scope).map (·.2)) else none
      else none
  | _ => none
def stepSub (rE : Expr → Option SemE) (a b : Expr) : Option SemE :=
  match b with
  | .Slice none none (some (.UnaryOp .USub (.Constant (.int 1) _ _) _)) _ => (rE a).map fun fa => fRev fa
  | .Slice lo hi none _ => (rE a).bind fun fa => (compO rE lo).bind fun fl => (compO rE hi).map fun fh => fSl fa fl fh
  | _ => if notSlice b = true then (rE a).bind fun fa => (rE b).map fun fb => fIx fa fb else none
/-- G[e], G a written dict of the module -/
def stepGS (rE : Expr → Option SemE) (S : Sx) (a b : Expr) : Option SemE :=
  match a with
  | .Name x _ => match lookG x S.gds with
    | some tb => if glB S.sc x = true ∧ nmOk x = true ∧ notSlice b = true then (rE b).map fun fe => fGIx tb fe else none
    | none => stepSub rE a b
  | _ => stepSub rE a b
def stepCmp (rE : Expr → Option SemE) (a : Expr) (ops : List CmpOp) (bs : List Expr) : Option SemE :=
  match ops, bs with
  | [op], [b] => if notSet b = true then (rE a).bind fun fa => (rE b).map fun fb => fCmp op fa fb else none
  | [o1, o2], [b, c] => if notSet c = true then (rE a).bind fun fa => (rE b).bind fun fb => (rE c).map fun fc => fCh o1 o2 fa fb fc else none
  | _, _ => none
def stepTCmp (rE : Expr → Option SemE) (a : Expr) (ops : List CmpOp) (bs : List Expr) : Option SemT :=
  match ops, bs with
  | [op], [b] => if notSet b = true then (rE a).bind fun fa => (rE b).map fun fb => gCmp op fa fb else none
  | [o1, o2], [b, c] => if notSet c = true then (rE a).bind fun fa => (rE b).bind fun fb => (rE c).map fun fc => gCh o1 o2 fa fb fc else none
  | _, _ => none
def stepDict (rE : Expr → Option SemE) (S : Sx) (keys : List (Option Expr)) (vals : List Expr) (pos : Pos) : Option SemE :=
  match keys, vals with
  | [], [] => some (fDn (atP pos S.tds))
  | [some (.Tuple es j p)], [v] => (rE (.Tuple es j p)).bind fun fk => (rE v).map fun fv => fDt1 fk fv
  | keys, vals => (mapO keyC keys).bind fun ks => if keys.length = vals.length ∧ keys.all (·.isSome) = true ∧ keys ≠ [] ∧ keys.length ≤ 15 then (compA rE vals).map fun fs => fDsp ks fs else none
def stepDc (rE : RE) (rT : RT) (S : Sx) (key val : Expr) (gens : List Comprehension) (scope : Scope) : Option SemE :=
  match gens with
  | [⟨tg, iter, ifs, 0⟩] => if blkC S.N S.sc scope (ownOf S.N scope) = true ∧ notSet iter = true then
      (compI (rE S) S tg iter).bind fun fi => (compG (S.blk scope) 3 tg).bind fun g => if (g.2.all fun i => ((ownOf S.N scope).map (·.2)).contains i) = true then
        (compIfs (rT (S.blk scope)) ifs).bind fun ft => (rE (S.blk scope) key).bind fun fk => (rE (S.blk scope) val).map fun fv => fDc fi g.1 ft fk fv ((ownOf S.N scope).map (·.2)) else none
      else none
  | _ => none
/-- where a tuple is to be known -/
def stepK (rE : Expr → Option SemE) (S : Sx) (e : Expr) : Option SemE :=
  if atP e.pos S.kts = true then match e with
    | .Tuple es _ _ => (compA rE es).map fun fs => fTupK fs
    | .BinOp a .Add b _ => (rE a).bind fun fa => (rE b).map fun fb => fAddK fa fb
    | .BinOp a .Mult b _ => if notCall a = true then (rE a).bind fun fa => (rE b).map fun fb => fMulK fa fb else none
    | .Subscript a (.Slice none none (some (.UnaryOp .USub (.Constant (.int 1) _ _) _)) _) _ => (rE a).map fun fa => fRevK fa
    | .Subscript a (.Slice lo hi none _) _ => (rE a).bind fun fa => (compO rE lo).bind fun fl => (compO rE hi).map fun fh => fSlK fa fl fh
    | .Call (.Name x _) [a] [] _ => if x = "tuple" ∧ glB S.sc x = true ∧ x ∈ S.blt ∧ notStar a = true then (rE a).map fun fa => fBlt bTupleK (fCons fa fNil) else none
    | .Call (.Attribute o m apos) [a] [] cpos => if m = "count" ∧ notCall o = true ∧ (apos.endLine == cpos.line) = true ∧ notStar a = true then (rE o).bind fun fo => (rE a).map fun fa => fCntK fo fa else none
    | _ => none
  else none
/-- a lambda as sort key -/
def lamB (sc : Scope) (y : Str) : Bool := decide (sc.kind = .function) && !sc.isCoroutine && !sc.isGenerator && decide (sc.names.lookup y = some .local) && sc.names.all fun z => !decide (z.2 = .free)
def stepLm (rE : Expr → Option SemE) (S : Sx) (e : Expr) : Option SemE := match e with
  | .Call (.Name x _) [a] [⟨some k, .Lambda ⟨[], [⟨y, none, _⟩], none, [], [], none, []⟩ (.Tuple [.BinOp (.Constant (.int 0) _ _) .Sub (.Call (.Name ln _) [.Name y1 _] [] _) _, .Name y2 _] _ _) sc _, _⟩] _ =>
    if x = "sorted" ∧ k = "key" ∧ ln = "len" ∧ y1 = y ∧ y2 = y ∧ glB S.sc "sorted" = true ∧ ("sorted" : Str) ∈ S.blt ∧ ("len" : Str) ∈ S.blt ∧ glB sc "len" = true ∧ notStar a = true ∧ lamB sc y = true ∧ nmOk y = true ∧ (S.tq.any fun p => p.1 == S.nm) = true then (rE a).map fun fa => fSrtK S.tq fa else none
  | _ => none
def stepE (rE : RE) (rT : RT) (cf : CallF) (S : Sx) (e : Expr) : Option SemE :=
  match e with
  | .Constant c _ _ => compC c
  | .Name x _ => stepName S x
  | .BinOp a op b _ => if binOk op = true then (rE S a).bind fun fa => (rE S b).map fun fb => fBin op fa fb else none
  | .UnaryOp .USub a _ => (rE S a).map fun fa => fNeg fa
  | .UnaryOp .Not a _ => (rE S a).map fun fa => fNotV fa
  | .BoolOp op vs _ => compV (rE S) op vs
  | .Compare a ops bs _ => stepCmp (rE S) a ops bs
  | .IfExp c a b _ => (rT S c).bind fun fc => (rE S a).bind fun fa => (rE S b).map fun fb => fIf fc fa fb
  | .Tuple es _ _ => (compAs (rE S) es).map fun fs => fTup fs
  | .List es _ => (compAs (rE S) es).map fun fs => fLst fs
  | .Subscript a b _ => stepGS (rE S) S a b
  | .Call (.Name x _) args [] _ => stepLz (rE S) cf S x args
  | .Call (.Attribute o m apos) args [] cpos => stepGM (rE S) S m o args apos cpos
  | .ListComp elt gens scope _ => stepLc rE rT S elt gens scope
  | .Dict keys vals pos => stepDict (rE S) S keys vals pos
  | .DictComp key val gens scope _ => stepDc rE rT S key val gens scope
  | _ => none
def stepT (rE : RE) (rT : RT) (S : Sx) (e : Expr) : Option SemT :=
  match e with
  | .UnaryOp .Not a _ => (rT S a).map fun fa => gNot fa
  | .BoolOp op vs _ => compW (rT S) op vs
  | .Compare a ops bs _ => stepTCmp (rE S) a ops bs
  | .Name _ _ => (rE S e).map fun fa => gTru fa
  | .Call _ _ _ _ => (rE S e).map fun fa => gTru fa
  | .Subscript _ _ _ => (rE S e).map fun fa => gTru fa
  | .Constant _ _ _ => (rE S e).map fun fa => gTru fa
  | _ => none
mutual
def compE (cf : CallF) : Nat → Sx → Expr → Option SemE
  | 0, _, _ => none
  | d + 1, S, e => match stepK (compE cf d S) S e with
    | some f => some f
    | none => match stepLm (compE cf d S) S e with
      | some f => some f
      | none => stepE (compE cf d) (compT cf d) cf S e
def compT (cf : CallF) : Nat → Sx → Expr → Option SemT
  | 0, _, _ => none
  | d + 1, S, e => stepT (compE cf d) (compT cf d) S e
end
end
end Sim

namespace Sim
open PySem L2

def HE (rE : RE) (cf : CallF) (n : Nat) : Prop := ∀ (X : Cx) (S : Sx) (e : Expr) (f : SemE), Gx X S → Fx X S cf n → rE S e = some f → PE X e (tEv X.K f)
def HT (rT : RT) (cf : CallF) (n : Nat) : Prop := ∀ (X : Cx) (S : Sx) (e : Expr) (f : SemT), Gx X S → Fx X S cf n → rT S e = some f → PT X e (tTv X.K f)

section
variable {X : Cx} {S : Sx} {cf : CallF} {n : Nat}
/-! ### constants, names -/
theorem ok_const {c : Const} {f : SemE} {k : Nat} {pos : Pos} (h : compC c = some f) : PE X (.Constant c k pos) (tEv X.K f) := by
  have go : ∀ (v : V) (d : D), (∀ ρ H, DR X.K ρ H d v) → PE X (.Constant c k pos) (tC v) → f = fC d → PE X (.Constant c k pos) (tEv X.K f) := fun v d r p e => by
    subst e
    refine PE.imp p fun σ H Q q => ?_
    obtain ⟨ρ, η, st, d', st', E, S, e, k⟩ := q
    cases e
    exact k.now S (r _ _)
  cases c <;> first | (cases h; done) | skip
  · cases h; exact go .non .non (fun _ _ => .non) pe_non rfl
  · cases h; exact go (.bl _) (.bl _) (fun _ _ => .bl _) pe_bl rfl
  · cases h; exact go (.int _) (.int _) (fun _ _ => .int _) pe_int rfl
  · cases h; exact go (.str _) (.str _) (fun _ _ => .str _) pe_str rfl
theorem ok_name (G : Gx X S) {x : Str} {f : SemE} {pos : Pos} (h : (if nmOk x = true ∧ visB S.sc x = true then (ixOf x S.N).map fun i => fVar i else none) = some f) : PE X (.Name x pos) (tEv X.K f) := by
  obtain ⟨⟨c1, c2⟩, h⟩ := ite_some h
  obtain ⟨i, e1, e2⟩ := map_some' h
  subst e2
  obtain ⟨h1, h2, h3⟩ := nmOk_ok c1
  refine PE.imp (pe_var (i := i) (by rw [G.hN]; exact ixOf_get e1) (by rw [G.sc]; exact visB_ok c2) h1 h2) fun σ H Q q => ?_
  obtain ⟨ρ, η, st, d, st', E, S', e, k⟩ := q
  unfold fVar at e
  split at e
  · cases e
    rename_i hη
    obtain ⟨v, hv, r⟩ := E.2 _ _ hη
    exact ⟨v, hv, k.now S' r⟩
  · cases e
theorem ok_stepName (F : Fx X S cf n) (G : Gx X S) {x : Str} {f : SemE} {pos : Pos} (h : stepName S x = some f) : PE X (.Name x pos) (tEv X.K f) := by
  unfold stepName at h
  by_cases c : nmOk x = true ∧ visB S.sc x = true
  · rw [if_pos c] at h
    exact ok_name G (by rw [if_pos c]; exact h)
  · rw [if_neg c] at h
    obtain ⟨⟨c1, c2⟩, h⟩ := ite_some h
    obtain ⟨d, e1, e2⟩ := map_some' h
    subst e2
    obtain ⟨u, v, g2, g3, g1⟩ := F.glo _ _ e1
    refine PE.imp (pe_glob (glB_ok G c2) g2 g3 (nmOk_ok c1).1) fun σ H Q q => ?_
    obtain ⟨ρ, η, st, d', st', E, S, e, k⟩ := q
    cases e
    exact k.now S (g1 _ _)
theorem ok_stuck {e : Expr} : PE X e (tEv X.K fStuck) := ⟨fun pins s σ H Q I h => by
  obtain ⟨ρ, η, st, d, st', _, _, e, _⟩ := h
  cases e⟩
/-! ### arguments -/
theorem ok_args {rE : Expr → Option SemE} (hE : ∀ e f, rE e = some f → PE X e (tEv X.K f)) : ∀ {es : List Expr} {fs : SemA}, compA rE es = some fs →
    PA X es (tAv X.K fs) ∧ es.all notStar = true ∧ ∀ η st ds st', fs η st = some (ds, st') → ds.length = es.length
  | [], _, h => by
    cases h
    refine ⟨PA.imp pa_nil fun σ H Q q => ?_, rfl, fun η st ds st' e => by cases e; rfl⟩
    obtain ⟨ρ, η, st, ds, st', E, S, e, k⟩ := q
    cases e
    exact k ρ H [] (Gr.refl _ _ _) S .nil
  | e :: r, _, h => by
    unfold compA at h
    obtain ⟨c, h⟩ := ite_some h
    obtain ⟨fe, e1, h⟩ := bind_some h
    obtain ⟨fr, e2, e3⟩ := map_some' h
    subst e3
    obtain ⟨p1, p2, p3⟩ := ok_args hE e2
    refine ⟨PA.imp (pa_cons (hE e fe e1) p1 (star1 c)) fun σ H Q q => ?_, by rw [List.all_cons, c, p2]; rfl, fun η st ds st' q => ?_⟩
    · obtain ⟨ρ, η, st, ds, st', E, S, q, k⟩ := q
      obtain ⟨p, q1, q⟩ := bind_some q
      obtain ⟨z, q2, q3⟩ := map_some' q
      cases q3
      exact tEv.then E S q1 fun ρ1 H1 v g1 S1 r1 => ⟨ρ1, η, p.2, z.1, z.2, E.mono g1, S1, q2, fun ρ2 H2 vs g2 S2 r2 => k ρ2 H2 _ (g1.trans g2) S2 (.cons (r1.mono g2) r2)⟩
    · obtain ⟨p, q1, q⟩ := bind_some q
      obtain ⟨z, q2, q3⟩ := map_some' q
      cases q3
      rw [List.length_cons, List.length_cons, p3 _ _ _ _ q2]
theorem ok_argsS {rE : Expr → Option SemE} (hE : ∀ e f, rE e = some f → PE X e (tEv X.K f)) : ∀ {es : List Expr} {fs : SemA}, compAs rE es = some fs → PA X es (tAv X.K fs)
  | [], _, h => by
    cases h
    refine PA.imp pa_nil fun σ H Q q => ?_
    obtain ⟨ρ, η, st, ds, st', E, S, e, k⟩ := q
    cases e
    exact k ρ H [] (Gr.refl _ _ _) S .nil
  | e :: r, _, h => by
    have go : ∀ {fs : SemA}, (if notStar e = true then (rE e).bind fun fe => (compAs rE r).map fun fr => fCons fe fr else none) = some fs → PA X (e :: r) (tAv X.K fs) := fun {fs} h => by
      obtain ⟨c, h⟩ := ite_some h
      obtain ⟨fe, e1, h⟩ := bind_some h
      obtain ⟨fr, e2, e3⟩ := map_some' h
      subst e3
      refine PA.imp (pa_cons (hE e fe e1) (ok_argsS hE e2) (star1 c)) fun σ H Q q => ?_
      obtain ⟨ρ, η, st, ds, st', E, S, q, k⟩ := q
      obtain ⟨p, q1, q⟩ := bind_some q
      obtain ⟨z, q2, q3⟩ := map_some' q
      cases q3
      exact tEv.then E S q1 fun ρ1 H1 v g1 S1 r1 => ⟨ρ1, η, p.2, z.1, z.2, E.mono g1, S1, q2, fun ρ2 H2 vs g2 S2 r2 => k ρ2 H2 _ (g1.trans g2) S2 (.cons (r1.mono g2) r2)⟩
    unfold compAs at h
    split at h
    · obtain ⟨fe, e1, h⟩ := bind_some h
      obtain ⟨fr, e2, e3⟩ := map_some' h
      subst e3
      exact ok_star (hE _ fe e1) (ok_argsS hE e2)
    · exact go h
theorem ok_tup {es : List Expr} {fs : SemA} {k : Nat} {pos : Pos} (h : PA X es (tAv X.K fs)) : PE X (.Tuple es k pos) (tEv X.K (fTup fs)) := by
  refine PE.imp (pe_tup h) fun σ H Q q => ?_
  obtain ⟨ρ, η, st, d, st', E, S, e, k⟩ := q
  obtain ⟨p, e1, e2⟩ := bind_some e
  obtain ⟨c, e3⟩ := ite_some e2
  cases e3
  exact tAv.one E S e1 fun ρ1 H1 vs g1 S1 r1 => ⟨by rw [← r1.length]; exact most_line c, (k.pre g1).tup S1 r1⟩
theorem ok_lst {es : List Expr} {fs : SemA} {pos : Pos} (h : PA X es (tAv X.K fs)) : PE X (.List es pos) (tEv X.K (fLst fs)) := by
  refine PE.imp (pe_lst h) fun σ H Q q => ?_
  obtain ⟨ρ, η, st, d, st', E, S, e, k⟩ := q
  obtain ⟨p, e1, e2⟩ := bind_some e
  obtain ⟨c, e3⟩ := ite_some e2
  cases e3
  exact tAv.one E S e1 fun ρ1 H1 vs g1 S1 r1 => ⟨by rw [← r1.length]; exact most_line c, (k.pre g1).lst S1 r1⟩
/-! ### operations -/
theorem ok_binop {a b : Expr} {fa fb : SemE} {op : Operator} {pos : Pos} (hop : binOk op = true) (ha : PE X a (tEv X.K fa)) (hb : PE X b (tEv X.K fb)) : PE X (.BinOp a op b pos) (tEv X.K (fBin op fa fb)) := by
  refine PE.imp (pe_op (ok_bin op ?_) ha hb) fun σ H Q q => two (fun x y H Q r => r) q
  cases op <;> first | (cases hop; done) | simp
def rNegA : V → Hp → VK → Prop := fun x H Q => (∃ i, x = .int i ∧ Q (.int (-i)) H) ∨ ∃ b, x = .bl b ∧ Q (.int (-(if b = true then (1 : Int) else 0))) H
theorem un_negA : UnR X (unaryOp .USub) rNegA := by
  intro pins s σ H x v Q I rx h
  rcases h with ⟨i, rfl, q⟩ | ⟨b, rfl, q⟩
  · exact un_neg pins s σ H _ v Q I rx ⟨i, rfl, q⟩
  · cases (show v = Value.bool b from rx)
    exact neg_bool ⟨.int _, H, I.tok _, ⟨_, rfl⟩, q⟩
theorem ok_neg {a : Expr} {fa : SemE} {pos : Pos} (ha : PE X a (tEv X.K fa)) : PE X (.UnaryOp .USub a pos) (tEv X.K (fNeg fa)) := by
  refine PE.imp (pe_un un_negA ha) fun σ H Q q => ?_
  obtain ⟨ρ, η, st, d, st', E, S, e, k⟩ := q
  obtain ⟨p, e1, e2⟩ := bind_some e
  refine tEv.then E S e1 fun ρ1 H1 v g1 S1 r1 => ?_
  cases hp : p.1 with
  | int i =>
    rw [hp] at e2 r1
    cases e2; cases r1
    exact .inl ⟨i, rfl, (k.pre g1).now S1 (.int _)⟩
  | bl b =>
    rw [hp] at e2 r1
    cases e2; cases r1
    exact .inr ⟨b, rfl, (k.pre g1).now S1 (.int _)⟩
  | _ => rw [hp] at e2; cases e2
theorem ok_notV {a : Expr} {fa : SemE} {pos : Pos} (ha : PE X a (tEv X.K fa)) : PE X (.UnaryOp .Not a pos) (tEv X.K (fNotV fa)) := by
  refine PE.imp (pe_notT ha) fun σ H Q q => ?_
  obtain ⟨ρ, η, st, d, st', E, S, e, k⟩ := q
  obtain ⟨p, e1, e2⟩ := bind_some e
  obtain ⟨b, e3, e4⟩ := map_some' e2
  cases e4
  exact tEv.then E S e1 fun ρ1 H1 v g1 S1 r1 => ⟨b, truth_ok S1 r1 e3, (k.pre g1).now S1 (.bl _)⟩
theorem ok_andV {a b : Expr} {rest : List Expr} {fa fb : SemE} {pos : Pos} (ha : PE X a (tEv X.K fa)) (hb : PE X (.BoolOp .And (b :: rest) pos) (tEv X.K fb)) : PE X (.BoolOp .And (a :: b :: rest) pos) (tEv X.K (fAndV fa fb)) := by
  refine PE.imp (pe_andT ha hb) fun σ H Q q => ?_
  obtain ⟨ρ, η, st, d, st', E, S, e, k⟩ := q
  obtain ⟨p, e1, e2⟩ := bind_some e
  obtain ⟨c, e3, e4⟩ := bind_some e2
  refine tEv.then E S e1 fun ρ1 H1 v g1 S1 r1 => ⟨c, truth_ok S1 r1 e3, ?_⟩
  cases c with
  | true => rw [if_pos rfl] at e4 ⊢; exact tEv.then (E.mono g1) S1 e4 (k.pre g1)
  | false => rw [if_neg Bool.false_ne_true] at e4 ⊢; cases e4; exact (k.pre g1).now S1 r1
theorem ok_orV {a b : Expr} {rest : List Expr} {fa fb : SemE} {pos : Pos} (ha : PE X a (tEv X.K fa)) (hb : PE X (.BoolOp .Or (b :: rest) pos) (tEv X.K fb)) : PE X (.BoolOp .Or (a :: b :: rest) pos) (tEv X.K (fOrV fa fb)) := by
  refine PE.imp (pe_orT ha hb) fun σ H Q q => ?_
  obtain ⟨ρ, η, st, d, st', E, S, e, k⟩ := q
  obtain ⟨p, e1, e2⟩ := bind_some e
  obtain ⟨c, e3, e4⟩ := bind_some e2
  refine tEv.then E S e1 fun ρ1 H1 v g1 S1 r1 => ⟨c, truth_ok S1 r1 e3, ?_⟩
  cases c with
  | true => rw [if_pos rfl] at e4 ⊢; cases e4; exact (k.pre g1).now S1 r1
  | false => rw [if_neg Bool.false_ne_true] at e4 ⊢; exact tEv.then (E.mono g1) S1 e4 (k.pre g1)
theorem ok_boolV {rE : Expr → Option SemE} {op : BoolOp} {pos : Pos} (hE : ∀ e f, rE e = some f → PE X e (tEv X.K f)) : ∀ {vs : List Expr} {f : SemE}, compV rE op vs = some f → PE X (.BoolOp op vs pos) (tEv X.K f)
  | [], _, h => by cases h
  | [a], f, h => pe_one (hE a f h)
  | a :: b :: r, _, h => by
    unfold compV at h
    obtain ⟨fa, e1, h⟩ := bind_some h
    obtain ⟨fb, e2, e3⟩ := map_some' h
    subst e3
    have ih := ok_boolV (pos := pos) hE e2
    cases op with
    | And => exact ok_andV (hE a fa e1) ih
    | Or => exact ok_orV (hE a fa e1) ih
theorem cmp_read {fa fb : SemE} {op : CmpOp} {σ : L2.St} {H : Hp} {Q : VK} (q : tEv X.K (fCmp op fa fb) σ H Q) : tOp (r2 X.K (cmpR op)) (tEv X.K fa) (tEv X.K fb) σ H Q :=
  two (g := cmpR op) (fun x y H Q r => r) q
theorem ok_cmpE {a b : Expr} {fa fb : SemE} {op : CmpOp} {pos : Pos} (hu : X.A.units + 65 < cLine) (hs : notSet b = true) (ha : PE X a (tEv X.K fa)) (hb : PE X b (tEv X.K fb)) : PE X (.Compare a [op] [b] pos) (tEv X.K (fCmp op fa fb)) :=
  PE.imp (pe_cmpR (ok_cmp hu op) ha hb (setMark hs)) fun σ H Q q => cmp_read q
theorem test_read {fa fb : SemE} {op : CmpOp} {σ : L2.St} {H : Hp} {Q : Bool → Hp → Prop} (q : tTv X.K (gCmp op fa fb) σ H Q) : tTest (tOp (r2 X.K (cmpR op)) (tEv X.K fa) (tEv X.K fb)) σ H Q := by
  obtain ⟨ρ, η, st, b, st', E, S, e, k⟩ := q
  obtain ⟨p, e1, e2⟩ := bind_some e
  obtain ⟨q, e3, e4⟩ := bind_some e2
  obtain ⟨c, e5, e6⟩ := map_some' e4
  cases e6
  refine tEv.then E S e1 fun ρ1 H1 v1 g1 S1 r1 => tEv.then (E.mono g1) S1 e3 fun ρ2 H2 v2 g2 S2 r2 => ?_
  refine ⟨ρ2, q.2, p.1, q.1, .bl b, q.2, S2, r1.mono g2, r2, by unfold cmpR; rw [e5]; rfl, fun ρ3 H3 v3 g3 S3 r3 => ?_⟩
  cases r3
  exact ⟨b, rfl, k ρ3 H3 (g1.trans (g2.trans g3)) S3⟩
theorem ok_cmpT {a b : Expr} {fa fb : SemE} {op : CmpOp} {pos : Pos} (hu : X.A.units + 65 < cLine) (hs : notSet b = true) (ha : PE X a (tEv X.K fa)) (hb : PE X b (tEv X.K fb)) : PT X (.Compare a [op] [b] pos) (tTv X.K (gCmp op fa fb)) :=
  PT.imp (pt_cmpR (ok_cmp hu op) ha hb (setMark hs)) fun σ H Q q => test_read q
theorem chain_read {fa fb fc : SemE} {o1 o2 : CmpOp} {σ : L2.St} {H : Hp} {Q : VK} (q : tEv X.K (fCh o1 o2 fa fb fc) σ H Q) : tChain (r2 X.K (cmpR o1)) (r2 X.K (cmpR o2)) (tEv X.K fa) (tEv X.K fb) (tEv X.K fc) σ H Q := by
  obtain ⟨ρ, η, st, d, st', E, S, e, k⟩ := q
  obtain ⟨p, e1, e2⟩ := map_some' e
  cases e2
  obtain ⟨x, e3, e4⟩ := bind_some e1
  obtain ⟨y, e5, e6⟩ := bind_some e4
  obtain ⟨b, e7, e8⟩ := bind_some e6
  refine tEv.then E S e3 fun ρ1 H1 v1 g1 S1 r1 => tEv.then (E.mono g1) S1 e5 fun ρ2 H2 v2 g2 S2 r2 => ?_
  refine ⟨ρ2, y.2, x.1, y.1, .bl b, y.2, S2, r1.mono g2, r2, by unfold cmpR; rw [e7]; rfl, fun ρ3 H3 v3 g3 S3 r3 => ?_⟩
  cases r3
  refine ⟨b, rfl, ?_⟩
  cases b with
  | true =>
    rw [if_pos rfl] at e8 ⊢
    obtain ⟨z, e9, e10⟩ := bind_some e8
    obtain ⟨c, e11, e12⟩ := map_some' e10
    subst e12
    refine tEv.then (E.mono (g1.trans (g2.trans g3))) S3 e9 fun ρ4 H4 v4 g4 S4 r4 => ?_
    exact ⟨ρ4, z.2, y.1, z.1, .bl c, z.2, S4, (r2.mono g3).mono g4, r4, by unfold cmpR; rw [e11]; rfl, k.pre (g1.trans (g2.trans (g3.trans g4)))⟩
  | false =>
    rw [if_neg Bool.false_ne_true] at e8 ⊢
    cases e8
    exact (k.pre (g1.trans (g2.trans g3))).now S3 (.bl _)
theorem lastM {o1 o2 : CmpOp} {b c : Expr} (h : notSet c = true) : lastMarks [o1, o2] [b, c] = false := by
  show behindInMarks o2 c = false
  exact setMark h
theorem ok_chE {a b c : Expr} {fa fb fc : SemE} {o1 o2 : CmpOp} {pos : Pos} (hu : X.A.units + 65 < cLine) (hs : notSet c = true) (ha : PE X a (tEv X.K fa)) (hb : PE X b (tEv X.K fb)) (hc : PE X c (tEv X.K fc)) :
    PE X (.Compare a [o1, o2] [b, c] pos) (tEv X.K (fCh o1 o2 fa fb fc)) :=
  PE.imp (pe_chain (ok_cmp hu o1) (ok_cmp hu o2) ha hb hc (lastM hs)) fun σ H Q q => chain_read q
theorem ok_chT {a b c : Expr} {fa fb fc : SemE} {o1 o2 : CmpOp} {pos : Pos} (hu : X.A.units + 65 < cLine) (hs : notSet c = true) (ha : PE X a (tEv X.K fa)) (hb : PE X b (tEv X.K fb)) (hc : PE X c (tEv X.K fc)) :
    PT X (.Compare a [o1, o2] [b, c] pos) (tTv X.K (gCh o1 o2 fa fb fc)) := by
  refine PT.imp (pt_chain (ok_cmp hu o1) (ok_cmp hu o2) ha hb hc (lastM hs)) fun σ H Q q => ?_
  obtain ⟨ρ, η, st, b, st', E, S, e, k⟩ := q
  refine chain_read (o1 := o1) (o2 := o2) (fa := fa) (fb := fb) (fc := fc) ⟨ρ, η, st, .bl b, st', E, S, by unfold fCh; rw [e]; rfl, fun ρ1 H1 v g1 S1 r1 => ?_⟩
  cases r1
  exact ⟨b, rfl, k ρ1 H1 g1 S1⟩
theorem ok_if {c a b : Expr} {fc : SemT} {fa fb : SemE} {pos : Pos} (hc : PT X c (tTv X.K fc)) (ha : PE X a (tEv X.K fa)) (hb : PE X b (tEv X.K fb)) : PE X (.IfExp c a b pos) (tEv X.K (fIf fc fa fb)) := by
  refine PE.imp (pe_ifExp hc ha hb) fun σ H Q q => ?_
  obtain ⟨ρ, η, st, d, st', E, S, e, k⟩ := q
  obtain ⟨p, e1, e2⟩ := bind_some e
  refine ⟨ρ, η, st, p.1, p.2, E, S, e1, fun ρ1 H1 g1 S1 => ?_⟩
  cases hp : p.1 with
  | true => rw [hp, if_pos rfl] at e2; rw [if_pos rfl]; exact tEv.then (E.mono g1) S1 e2 (k.pre g1)
  | false => rw [hp, if_neg Bool.false_ne_true] at e2; rw [if_neg Bool.false_ne_true]; exact tEv.then (E.mono g1) S1 e2 (k.pre g1)
/-! ### tests -/
theorem ok_notT {a : Expr} {fa : SemT} {pos : Pos} (ha : PT X a (tTv X.K fa)) : PT X (.UnaryOp .Not a pos) (tTv X.K (gNot fa)) := by
  refine PT.imp (pt_not ha) fun σ H Q q => ?_
  obtain ⟨ρ, η, st, b, st', E, S, e, k⟩ := q
  obtain ⟨p, e1, e2⟩ := map_some' e
  cases e2
  exact ⟨ρ, η, st, p.1, p.2, E, S, e1, k⟩
theorem ok_boolT {rT : Expr → Option SemT} {op : BoolOp} {pos : Pos} (hT : ∀ e f, rT e = some f → PT X e (tTv X.K f)) : ∀ {vs : List Expr} {f : SemT}, compW rT op vs = some f → PW X (.BoolOp op vs pos) (tTv X.K f)
  | [], _, h => by cases h
  | [a], f, h => by
    cases op with
    | And => exact pw_and1 (hT a f h)
    | Or => exact pw_or1 (hT a f h)
  | a :: b :: r, _, h => by
    unfold compW at h
    obtain ⟨fa, e1, h⟩ := bind_some h
    obtain ⟨fb, e2, e3⟩ := map_some' h
    subst e3
    have ih := ok_boolT (pos := pos) hT e2
    cases op with
    | And =>
      refine PW.imp (pw_and (hT a fa e1) ih) fun σ H Q q => ?_
      obtain ⟨ρ, η, st, c, st', E, S, e, k⟩ := q
      obtain ⟨p, e1, e2⟩ := bind_some e
      refine ⟨ρ, η, st, p.1, p.2, E, S, e1, fun ρ1 H1 g1 S1 => ?_⟩
      cases hp : p.1 with
      | true => rw [hp, if_pos rfl] at e2; rw [if_pos rfl]; exact ⟨ρ1, η, p.2, c, st', E.mono g1, S1, e2, fun ρ2 H2 g2 S2 => k ρ2 H2 (g1.trans g2) S2⟩
      | false => rw [hp, if_neg Bool.false_ne_true] at e2; rw [if_neg Bool.false_ne_true]; cases e2; exact k ρ1 H1 g1 S1
    | Or =>
      refine PW.imp (pw_or (hT a fa e1) ih) fun σ H Q q => ?_
      obtain ⟨ρ, η, st, c, st', E, S, e, k⟩ := q
      obtain ⟨p, e1, e2⟩ := bind_some e
      refine ⟨ρ, η, st, p.1, p.2, E, S, e1, fun ρ1 H1 g1 S1 => ?_⟩
      cases hp : p.1 with
      | true => rw [hp, if_pos rfl] at e2; rw [if_pos rfl]; cases e2; exact k ρ1 H1 g1 S1
      | false => rw [hp, if_neg Bool.false_ne_true] at e2; rw [if_neg Bool.false_ne_true]; exact ⟨ρ1, η, p.2, c, st', E.mono g1, S1, e2, fun ρ2 H2 g2 S2 => k ρ2 H2 (g1.trans g2) S2⟩
theorem ok_truT {a : Expr} {fa : SemE} (ha : PE X a (tEv X.K fa)) (he : ∀ whole, isTrue a X.env whole = (do let v ← whole; standAt a.pos; holding [v] (truthy v))) : PT X a (tTv X.K (gTru fa)) := by
  refine PT.imp (pt_truth ha he) fun σ H Q q => ?_
  obtain ⟨ρ, η, st, b, st', E, S, e, k⟩ := q
  obtain ⟨p, e1, e2⟩ := bind_some e
  obtain ⟨c, e3, e4⟩ := map_some' e2
  cases e4
  exact tEv.then E S e1 fun ρ1 H1 v g1 S1 r1 => ⟨b, truth_ok S1 r1 e3, k ρ1 H1 g1 S1⟩
/-! ### items, slices -/
theorem ok_ixE {a b : Expr} {fa fb : SemE} {pos : Pos} (hu : X.A.units + 65 < cLine) (hs : notSlice b = true) (ha : PE X a (tEv X.K fa)) (hb : PE X b (tEv X.K fb)) : PE X (.Subscript a b pos) (tEv X.K (fIx fa fb)) :=
  PE.imp (pe_ix (ok_ix (by omega)) ha hb (plainIx hs)) fun σ H Q q => two (g := fun x y st => (ix x y st).map fun d => (d, st)) (fun x y H Q r => r) q
theorem ok_part {rE : Expr → Option SemE} (hE : ∀ e f, rE e = some f → PE X e (tEv X.K f)) {o : Option Expr} {f : SemO} (h : compO rE o = some f) : PO X o (tOv X.K f) := by
  cases o with
  | none =>
    cases h
    refine PO.imp po_none fun σ H Q q => ?_
    obtain ⟨ρ, η, st, o, st', E, S, e, k⟩ := q
    cases e
    exact k ρ H (Gr.refl _ _ _) S
  | some e =>
    obtain ⟨fe, e1, e2⟩ := map_some' h
    subst e2
    refine PO.imp (po_some (hE e fe e1)) fun σ H Q q => ?_
    obtain ⟨ρ, η, st, o, st', E, S, e, k⟩ := q
    obtain ⟨p, e3, e4⟩ := bind_some e
    refine tEv.then E S e3 fun ρ1 H1 v g1 S1 r1 => ?_
    cases hp : p.1 with
    | int i =>
      rw [hp] at e4 r1
      cases e4; cases r1
      exact ⟨i, rfl, k ρ1 H1 g1 S1⟩
    | _ => rw [hp] at e4; cases e4
theorem ok_slE {a : Expr} {lo hi : Option Expr} {fa : SemE} {fl fh : SemO} {p2 pos : Pos} (ha : PE X a (tEv X.K fa)) (hl : PO X lo (tOv X.K fl)) (hh : PO X hi (tOv X.K fh)) : PE X (.Subscript a (.Slice lo hi none p2) pos) (tEv X.K (fSl fa fl fh)) := by
  refine PE.imp (pe_slice ok_sl ha hl hh) fun σ H Q q => ?_
  obtain ⟨ρ, η, st, d, st', E, S, e, k⟩ := q
  obtain ⟨p, e1, e2⟩ := bind_some e
  obtain ⟨l, e3, e4⟩ := bind_some e2
  obtain ⟨h, e5, e6⟩ := bind_some e4
  refine tEv.then E S e1 fun ρ1 H1 v g1 S1 r1 => ⟨ρ1, η, p.2, l.1, l.2, E.mono g1, S1, e3, fun ρ2 H2 g2 S2 => ⟨ρ2, η, l.2, h.1, h.2, E.mono (g1.trans g2), S2, e5, fun ρ3 H3 g3 S3 => ?_⟩⟩
  exact ⟨ρ3, h.2, p.1, d, st', S3, r1.mono (g2.trans g3), e6, k.pre (g1.trans (g2.trans g3))⟩
theorem ok_revE {a : Expr} {fa : SemE} {k : Nat} {p1 p2 p3 pos : Pos} (ha : PE X a (tEv X.K fa)) : PE X (.Subscript a (.Slice none none (some (.UnaryOp .USub (.Constant (.int 1) k p1) p2)) p3) pos) (tEv X.K (fRev fa)) := by
  refine PE.imp (pe_revA ha) fun σ H Q q => ?_
  obtain ⟨ρ, η, st, d, st', E, S, e, kk⟩ := q
  obtain ⟨p, e1, e2⟩ := bind_some e
  refine tEv.then E S e1 fun ρ1 H1 v g1 S1 r1 => ?_
  have kk := kk.pre g1
  cases hp : p.1 with
  | tup xs =>
    rw [hp] at e2 r1
    cases e2
    cases r1 with
    | tup sa ta => exact ⟨_, _, rfl, .inr ⟨.of sa, fun q hq => kk.tup S1 ta.reverse q hq⟩⟩
  | ref n =>
    rw [hp] at e2 r1
    cases r1 with
    | @ref _ a ea =>
      have e2 : (match p.2[n]? with
        | some (.lst xs) => alloc (.lst xs.reverse) p.2
        | some (.frz xs) => alloc (.lst xs.reverse) p.2
        | _ => none) = some (d, st') := e2
      cases q : p.2[n]? with
      | none => simp only [q] at e2; cases e2
      | some o =>
        cases o <;> simp only [q] at e2 <;> first | (cases e2; done) | skip
        · cases e2
          obtain ⟨vs, sq, t⟩ := S1.seq (.inl q) ea
          exact ⟨a, vs, rfl, .inl ⟨sq, fun x hx => kk.lst S1 t.reverse x hx⟩⟩
        · cases e2
          obtain ⟨vs, sq, t⟩ := S1.seq (.inr q) ea
          exact ⟨a, vs, rfl, .inl ⟨sq, fun x hx => kk.lst S1 t.reverse x hx⟩⟩
  | _ => rw [hp] at e2; cases e2
end
end Sim

namespace Sim
open PySem L2

section
variable {X : Cx} {S : Sx} {cf : CallF} {n : Nat}
theorem blt_read {g : List D → Sto → R} {fs : SemA} {σ : L2.St} {H : Hp} {Q : VK} (q : tEv X.K (fBlt g fs) σ H Q) : tCB (rB X.K g) (tAv X.K fs) σ H Q := by
  obtain ⟨ρ, η, st, d, st', E, S, e, k⟩ := q
  obtain ⟨p, e1, e2⟩ := bind_some e
  exact tAv.one E S e1 fun ρ1 H1 vs g1 S1 r1 => ⟨ρ1, p.2, p.1, d, st', S1, r1, e2, k.pre g1⟩
theorem own_read {cf : CallF} {x : Str} {dds : List D} {ps : List Str} {vs' : List V} {fs : SemA} (ar : ∀ ds st r, cf x ds st = some r → ds.length = ps.length) (hv : ∀ ρ H, DRs X.K ρ H dds vs') {σ : L2.St} {H : Hp} {Q : VK} (q : tEv X.K (callD cf x dds fs) σ H Q) :
    tCall (spF X.K cf x ps.length) vs' (fun _ _ _ => False) (tAv X.K fs) σ H Q := by
  obtain ⟨ρ, η, st, d, st', E, S', e, k⟩ := q
  have e : (fs η st).bind (fun p => cf x (p.1 ++ dds) p.2) = some (d, st') := by
    cases dds with
    | nil =>
      have e : (fs η st).bind (fun p => cf x p.1 p.2) = some (d, st') := e
      simpa using e
    | cons a r => exact e
  obtain ⟨p, e1, e2⟩ := bind_some e
  refine tAv.one E S' e1 fun ρ1 H1 vs g1 S1 r1 => ?_
  have r2 := r1.app (hv ρ1 H1)
  exact ⟨by rw [← r2.length]; exact ar _ _ _ e2, ρ1, p.2, _, d, st', S1, r2, e2, k.pre g1⟩
theorem passN {X : Cx} : Passes (L2.CX X.prog X.w) X (fun _ _ _ => False) := fun _ _ _ _ _ _ _ h => by
  obtain ⟨_, _, _, _, _, _, _, _, _, _, _, _, z⟩ := h
  exact z.elim
theorem tAv.imp {K : Frg} {f : SemA} {σ : L2.St} {H : Hp} {Q Q' : List V → Hp → Prop} (h : tAv K f σ H Q) (k : ∀ vs H, Q vs H → Q' vs H) : tAv K f σ H Q' := by
  obtain ⟨ρ, η, st, ds, st', E, S, e, q⟩ := h
  exact ⟨ρ, η, st, ds, st', E, S, e, fun ρ1 H1 vs g1 S1 r1 => k _ _ (q ρ1 H1 vs g1 S1 r1)⟩
theorem ok_ownCall (F : Fx X S cf n) (G : Gx X S) {x : Str} {e : Expr} {es : List Expr} {fs : SemA} {dds : List D} {m : Nat} {p pos : Pos} (hx : x ∈ S.own) (hd : dfOf S.dfl x m = some dds) (hg : glB S.sc x = true) (hn : nmOk x = true) (ha : PA X (e :: es) (tAv X.K fs)) (hs : (e :: es).all notStar = true) :
    PE X (.Call (.Name x p) (e :: es) [] pos) (tEv X.K (callD cf x dds fs)) := by
  obtain ⟨fa, fd, ps, sp, ok⟩ := F.own x hx
  obtain ⟨us, vs, hv, bd, hr⟩ := ok.bd m dds hd
  rw [List.all_cons, Bool.and_eq_true] at hs
  exact PE.imp (pe_callG ok.ok F.room F.gu (glB_ok G hg) ok.mg ok.kp bd hv passN ha (nmOk_ok hn).1 (star1 hs.1) (starAny hs.2)) fun σ H Q q => tAv.imp (own_read ok.ar hr q) fun vs H1 z => ok.im _ _ _ z
theorem ok_ownCall0 {rE : Expr → Option SemE} (F : Fx X S cf n) (G : Gx X S) {x : Str} {fs : SemA} {dds : List D} {m : Nat} {p pos : Pos} (hx : x ∈ S.own) (hd : dfOf S.dfl x m = some dds) (hg : glB S.sc x = true) (hn : nmOk x = true) (hc : compA rE [] = some fs) :
    PE X (.Call (.Name x p) [] [] pos) (tEv X.K (callD cf x dds fs)) := by
  obtain ⟨fa, fd, ps, sp, ok⟩ := F.own x hx
  obtain ⟨us, vs, hv, bd, hr⟩ := ok.bd m dds hd
  have hf : fs = fNil := by
    unfold compA at hc
    cases hc; rfl
  subst hf
  refine PE.imp (pe_callG0 ok.ok F.room F.gu (glB_ok G hg) ok.mg ok.kp bd hv passN (nmOk_ok hn).1) fun σ H Q q => ?_
  have q := own_read ok.ar hr q
  obtain ⟨ρ, η, st, ds, st', E, S', e, k⟩ := q
  cases e
  exact ok.im _ _ _ (k ρ H [] (Gr.refl _ _ _) S' .nil)
theorem bltOf_ok (F : Fx X S cf n) (G : Gx X S) {x : Str} {g : List D → Sto → R} (h : bltOf x = some g) : (∃ id, bootBuiltins x = some (.builtin id) ∧ CallR X (.builtin id) (rB X.K g)) ∨ ∃ id, bootBuiltins x = some (.type id) ∧ CallR X (.type id) (rB X.K g) := by
  unfold bltOf at h
  have hu := F.room.units
  by_cases c : x = "sorted"
  · rw [if_pos c] at h; cases h; subst c; exact .inl ⟨_, by decide +kernel, kb_sorted2 hu F.calm⟩
  rw [if_neg c] at h
  by_cases c : x = "len"
  · rw [if_pos c] at h; cases h; subst c; exact .inl ⟨_, by decide +kernel, kb_len2⟩
  rw [if_neg c] at h
  by_cases c : x = "repr"
  · rw [if_pos c] at h; cases h; subst c; exact .inl ⟨_, by decide +kernel, kb_repr F.gu hu⟩
  rw [if_neg c] at h
  by_cases c : x = "min"
  · rw [if_pos c] at h; cases h; subst c; exact .inl ⟨_, by decide +kernel, kb_min F.calm⟩
  rw [if_neg c] at h
  by_cases c : x = "max"
  · rw [if_pos c] at h; cases h; subst c; exact .inl ⟨_, by decide +kernel, kb_maxP hu F.calm⟩
  rw [if_neg c] at h
  by_cases c : x = "tuple"
  · rw [if_pos c] at h; cases h; subst c; exact .inr ⟨_, by decide +kernel, kb_tuple⟩
  rw [if_neg c] at h
  by_cases c : x = "list"
  · rw [if_pos c] at h; cases h; subst c; exact .inr ⟨_, by decide +kernel, kb_list⟩
  rw [if_neg c] at h
  by_cases c : x = "sum"
  · rw [if_pos c] at h; cases h; subst c; exact .inl ⟨_, by decide +kernel, kb_sum F.calm⟩
  rw [if_neg c] at h
  by_cases c : x = "all"
  · rw [if_pos c] at h; cases h; subst c; exact .inl ⟨_, by decide +kernel, kb_all F.calm⟩
  rw [if_neg c] at h
  by_cases c : x = "any"
  · rw [if_pos c] at h; cases h; subst c; exact .inl ⟨_, by decide +kernel, kb_any F.calm⟩
  rw [if_neg c] at h
  by_cases c : x = "ord"
  · rw [if_pos c] at h; cases h; subst c; exact .inl ⟨_, by decide +kernel, kb_ord⟩
  rw [if_neg c] at h
  by_cases c : x = "dict"
  · rw [if_pos c] at h; cases h; subst c; exact .inr ⟨_, by decide +kernel, kb_dict hu F.calm⟩
  rw [if_neg c] at h
  cases h
theorem clsOf_ok {x : Str} {t : String} (h : clsOf x = some t) : bootBuiltins x = some (.type t) := by
  unfold clsOf at h
  by_cases c : x = "int"
  · rw [if_pos c] at h; cases h; subst c; decide +kernel
  rw [if_neg c] at h
  by_cases c : x = "bool"
  · rw [if_pos c] at h; cases h; subst c; decide +kernel
  rw [if_neg c] at h
  by_cases c : x = "str"
  · rw [if_pos c] at h; cases h; subst c; decide +kernel
  rw [if_neg c] at h
  by_cases c : x = "tuple"
  · rw [if_pos c] at h; cases h; subst c; decide +kernel
  rw [if_neg c] at h
  by_cases c : x = "list"
  · rw [if_pos c] at h; cases h; subst c; decide +kernel
  rw [if_neg c] at h
  by_cases c : x = "dict"
  · rw [if_pos c] at h; cases h; subst c; decide +kernel
  rw [if_neg c] at h
  cases h
theorem boot_isi : bootBuiltins "isinstance" = some (.builtin "isinstance") := by decide +kernel
theorem ok_isi (F : Fx X S cf n) (G : Gx X S) {e : Expr} {T : Str} {t : String} {fe : SemE} {p p2 pos : Pos} (hi : ("isinstance" : Str) ∈ S.blt) (hg : glB S.sc "isinstance" = true) (hT : T ∈ S.blt) (hgT : glB S.sc T = true) (hnT : nmOk T = true) (ht : clsOf T = some t)
    (hs : notStar e = true) (he : PE X e (tEv X.K fe)) : PE X (.Call (.Name "isinstance" p) [e, .Name T p2] [] pos) (tEv X.K (fIsi t fe)) := by
  obtain ⟨h1, h2, h3⟩ := nmOk_ok hnT
  refine PE.imp (pe_callB call_isi (glB_ok G hg) (F.blt _ hi) boot_isi (pa_cons he (pa_cons (pe_bltn (v := .ty t) (glB_ok G hgT) (F.blt _ hT) (clsOf_ok ht) rfl h3 h1) pa_nil) (star1 hs)) (by decide) (by decide) (star1 hs) rfl) fun σ H Q q => ?_
  obtain ⟨ρ, η, st, d, st', E, S', e, k⟩ := q
  obtain ⟨p, e1, e2⟩ := bind_some e
  obtain ⟨b, e3, e4⟩ := map_some' e2
  cases e4
  refine tEv.then E S' e1 fun ρ1 H1 v g1 S1 r1 => ?_
  obtain ⟨ty, e5, e6⟩ := bind_some e3
  exact ⟨v, .ty t, .type ty, .type t, b, rfl, .ty t, tyD_ok S1 r1 e5, kit_ty e6, (k.pre g1).now S1 (.bl _)⟩
theorem ok_stepCall {rE : Expr → Option SemE} (hE : ∀ e f, rE e = some f → PE X e (tEv X.K f)) (F : Fx X S cf n) (G : Gx X S) {x : Str} {args : List Expr} {f : SemE} {p pos : Pos} (h : stepCall rE cf S x args = some f) :
    PE X (.Call (.Name x p) args [] pos) (tEv X.K f) := by
  unfold stepCall at h
  replace h := ite_some h
  obtain ⟨⟨hg, hn, hne⟩, h⟩ := h
  obtain ⟨h1, h2, h3⟩ := nmOk_ok hn
  by_cases c1 : x ∈ S.own
  · rw [if_pos c1] at h
    replace h := bind_some h
    obtain ⟨dds, e0, h⟩ := h
    replace h := map_some' h
    obtain ⟨fs, e1, e2⟩ := h
    subst e2
    obtain ⟨p1, p2, p3⟩ := ok_args hE e1
    cases args with
    | nil => exact ok_ownCall0 F G c1 e0 hg hn e1
    | cons a as => exact ok_ownCall F G c1 e0 hg hn p1 p2
  rw [if_neg c1] at h
  replace hne : args ≠ [] := hne.resolve_right c1
  by_cases c2 : x ∈ S.mth
  · rw [if_pos c2] at h
    replace h := ite_some h
    obtain ⟨c3, h⟩ := h
    subst c3
    replace h := map_some' h
    obtain ⟨fs, e1, e2⟩ := h
    subst e2
    obtain ⟨p1, p2, p3⟩ := ok_args hE e1
    cases args with
    | nil => exact absurd rfl hne
    | cons a as =>
      rw [List.all_cons, Bool.and_eq_true] at p2
      exact PE.imp (pe_callBfun kb_gcd (glB_ok G hg) (F.mth c2) p1 h1 (star1 p2.1) (starAny p2.2)) fun σ H Q q => blt_read q
  rw [if_neg c2] at h
  by_cases c3 : x ∈ S.blt
  · rw [if_pos c3] at h
    by_cases c4 : x = "isinstance"
    · rw [if_pos c4] at h
      subst c4
      cases args with
      | nil => exact absurd rfl hne
      | cons e as =>
        cases as with
        | nil => cases h
        | cons T bs =>
          cases bs with
          | cons _ _ => cases T <;> cases h
          | nil =>
            cases T <;> first | (cases h; done) | skip
            replace h := ite_some h
            obtain ⟨⟨q1, q2, q3, q4⟩, h⟩ := h
            replace h := bind_some h
            obtain ⟨t, e1, h⟩ := h
            replace h := map_some' h
            obtain ⟨fe, e2, e3⟩ := h
            subst e3
            exact ok_isi F G c3 hg q4 q2 q3 e1 q1 (hE _ _ e2)
    · rw [if_neg c4] at h
      replace h := bind_some h
      obtain ⟨g, e1, h⟩ := h
      replace h := map_some' h
      obtain ⟨fs, e2, e3⟩ := h
      subst e3
      obtain ⟨p1, p2, p3⟩ := ok_args hE e2
      cases args with
      | nil => exact absurd rfl hne
      | cons a as =>
        rw [List.all_cons, Bool.and_eq_true] at p2
        rcases bltOf_ok F G e1 with ⟨id, b1, b2⟩ | ⟨id, b1, b2⟩
        · exact PE.imp (pe_callB b2 (glB_ok G hg) (F.blt _ c3) b1 p1 h3 h1 (star1 p2.1) (starAny p2.2)) fun σ H Q q => blt_read q
        · exact PE.imp (pe_callTy b2 (glB_ok G hg) (F.blt _ c3) b1 p1 h3 h1 (star1 p2.1) (starAny p2.2)) fun σ H Q q => blt_read q
  · rw [if_neg c3] at h; cases h
theorem ok_stepLz {rE : Expr → Option SemE} (hE : ∀ e f, rE e = some f → PE X e (tEv X.K f)) (F : Fx X S cf n) (G : Gx X S) {x : Str} {args : List Expr} {f : SemE} {p pos : Pos} (h : stepLz rE cf S x args = some f) :
    PE X (.Call (.Name x p) args [] pos) (tEv X.K f) := by
  unfold stepLz at h
  split at h
  · rename_i y p2 a b pos2
    by_cases c : x = "list" ∧ y = "zip" ∧ glB S.sc x = true ∧ glB S.sc y = true ∧ x ∈ S.blt ∧ y ∈ S.blt ∧ notStar a = true ∧ notStar b = true
    · rw [if_pos c] at h
      obtain ⟨rfl, rfl, g1, g2, b1, b2, s1, s2⟩ := c
      obtain ⟨fs, e1, e2⟩ := map_some' h
      subst e2
      refine PE.imp (RZ2.pe_listZip F.calm (glB_ok G g1) (F.blt _ b1) (glB_ok G g2) (F.blt _ b2) (ok_args hE e1).1 (star1 s1) (by rw [star1 s2]; rfl)) fun σ H Q q => lz_read q
    · rw [if_neg c] at h
      exact ok_stepCall hE F G h
  · exact ok_stepCall hE F G h
theorem pa1 {e : Expr} {fe : SemE} (hs : notStar e = true) (he : PE X e (tEv X.K fe)) : PA X [e] (tAv X.K (fCons fe fNil)) := by
  have h : compA (fun _ => some fe) [e] = some (fCons fe fNil) := by
    unfold compA; rw [if_pos hs]; rfl
  refine PA.imp (pa_cons he pa_nil (star1 hs)) fun σ H Q q => ?_
  obtain ⟨ρ, η, st, ds, st', E, S, q, k⟩ := q
  obtain ⟨p, q1, q⟩ := bind_some q
  obtain ⟨z, q2, q3⟩ := map_some' q
  cases q3; cases q2
  exact tEv.then E S q1 fun ρ1 H1 v g1 S1 r1 => k ρ1 H1 _ g1 S1 (.cons r1 .nil)
theorem ok_meth0 {rE : Expr → Option SemE} (hE : ∀ e f, rE e = some f → PE X e (tEv X.K f)) {m : Str} {o : Expr} {apos cpos : Pos} {f : SemE} (hc : notCall o = true) (hl : (apos.endLine == cpos.line) = true) (h : meth0 rE m o = some f) :
    PE X (.Call (.Attribute o m apos) [] [] cpos) (tEv X.K f) := by
  unfold meth0 at h
  by_cases c1 : m = "pop"
  · rw [if_pos c1] at h
    subst c1
    obtain ⟨fo, e1, e2⟩ := map_some' h
    subst e2
    exact pe_pop (hE _ _ e1) (attrB hc) hl
  rw [if_neg c1] at h
  by_cases c2 : m = "upper"
  · rw [if_pos c2] at h
    subst c2
    obtain ⟨fo, e1, e2⟩ := map_some' h
    subst e2
    exact pe_upp (hE _ _ e1) (attrB hc) hl
  rw [if_neg c2] at h
  cases h
  exact ok_stuck
theorem ok_meth1 {rE : Expr → Option SemE} (hu : X.A.units + 1 < cLine) (hE : ∀ e f, rE e = some f → PE X e (tEv X.K f)) {m : Str} {o e : Expr} {apos cpos : Pos} {f : SemE} (hc : notCall o = true) (hl : (apos.endLine == cpos.line) = true) (h : meth1 rE m o e = some f) :
    PE X (.Call (.Attribute o m apos) [e] [] cpos) (tEv X.K f) := by
  unfold meth1 at h
  replace h := ite_some h
  obtain ⟨hs, h⟩ := h
  by_cases c1 : m = "append"
  · rw [if_pos c1] at h
    subst c1
    replace h := bind_some h
    obtain ⟨fo, e1, h⟩ := h
    obtain ⟨fa, e2, e3⟩ := map_some' h
    subst e3
    exact pe_app (hE _ _ e1) (pa1 hs (hE _ _ e2)) (attrB hc) hl (star1 hs)
  rw [if_neg c1] at h
  by_cases c2 : m = "extend"
  · rw [if_pos c2] at h
    subst c2
    replace h := bind_some h
    obtain ⟨fo, e1, h⟩ := h
    obtain ⟨fa, e2, e3⟩ := map_some' h
    subst e3
    exact pe_ext (hE _ _ e1) (pa1 hs (hE _ _ e2)) (attrB hc) hl (star1 hs)
  rw [if_neg c2] at h
  by_cases c3 : m = "pop"
  · rw [if_pos c3] at h
    subst c3
    replace h := bind_some h
    obtain ⟨fo, e1, h⟩ := h
    obtain ⟨fa, e2, e3⟩ := map_some' h
    subst e3
    exact ok_pop1 hc hl hs (hE _ _ e1) (hE _ _ e2) (pa1 hs (hE _ _ e2))
  rw [if_neg c3] at h
  by_cases c4 : m = "get"
  · rw [if_pos c4] at h
    subst c4
    replace h := bind_some h
    obtain ⟨fo, e1, h⟩ := h
    obtain ⟨fa, e2, e3⟩ := map_some' h
    subst e3
    exact ok_get1 hu (m1_of hc hl hs) (hE _ _ e1) (hE _ _ e2)
  rw [if_neg c4] at h
  by_cases c5 : m = "index"
  · rw [if_pos c5] at h
    subst c5
    replace h := bind_some h
    obtain ⟨fo, e1, h⟩ := h
    obtain ⟨fa, e2, e3⟩ := map_some' h
    subst e3
    exact ok_idx hc hl hs (hE _ _ e1) (pa1 hs (hE _ _ e2))
  rw [if_neg c5] at h
  cases h
  exact ok_stuck
theorem ok_meth2 {rE : Expr → Option SemE} (hu : X.A.units + 1 < cLine) (hE : ∀ e f, rE e = some f → PE X e (tEv X.K f)) {m : Str} {o e g : Expr} {apos cpos : Pos} {f : SemE} (hc : notCall o = true) (hl : (apos.endLine == cpos.line) = true) (h : meth2 rE m o e g = some f) :
    PE X (.Call (.Attribute o m apos) [e, g] [] cpos) (tEv X.K f) := by
  unfold meth2 at h
  replace h := ite_some h
  obtain ⟨⟨hs, ht⟩, h⟩ := h
  by_cases c1 : m = "get"
  · rw [if_pos c1] at h
    subst c1
    replace h := bind_some h
    obtain ⟨fo, e1, h⟩ := h
    replace h := bind_some h
    obtain ⟨fa, e2, h⟩ := h
    obtain ⟨fb, e3, e4⟩ := map_some' h
    subst e4
    exact ok_get2 hu (m2_of hc hl hs ht) (hE _ _ e1) (hE _ _ e2) (hE _ _ e3)
  rw [if_neg c1] at h
  by_cases c2 : m = "setdefault"
  · rw [if_pos c2] at h
    subst c2
    replace h := bind_some h
    obtain ⟨fo, e1, h⟩ := h
    replace h := bind_some h
    obtain ⟨fa, e2, h⟩ := h
    obtain ⟨fb, e3, e4⟩ := map_some' h
    subst e4
    exact ok_sdf hu (m2_of hc hl hs ht) (hE _ _ e1) (hE _ _ e2) (hE _ _ e3)
  rw [if_neg c2] at h
  by_cases c3 : m = "pop"
  · rw [if_pos c3] at h
    subst c3
    replace h := bind_some h
    obtain ⟨fo, e1, h⟩ := h
    replace h := bind_some h
    obtain ⟨fa, e2, h⟩ := h
    obtain ⟨fb, e3, e4⟩ := map_some' h
    subst e4
    exact ok_pop2 (m2_of hc hl hs ht) (hE _ _ e1) (hE _ _ e2) (hE _ _ e3)
  rw [if_neg c3] at h
  cases h
  exact ok_stuck
theorem ok_stepMeth {rE : Expr → Option SemE} (hu : X.A.units + 1 < cLine) (hE : ∀ e f, rE e = some f → PE X e (tEv X.K f)) {m : Str} {o : Expr} {args : List Expr} {apos cpos : Pos} {f : SemE} (h : stepMeth rE m o args apos cpos = some f) :
    PE X (.Call (.Attribute o m apos) args [] cpos) (tEv X.K f) := by
  unfold stepMeth at h
  replace h := ite_some h
  obtain ⟨⟨hc, hl⟩, h⟩ := h
  split at h
  · exact ok_meth0 hE hc hl h
  · exact ok_meth1 hu hE hc hl h
  · exact ok_meth2 hu hE hc hl h
  · cases h; exact ok_stuck
theorem ok_stepGM {rE : Expr → Option SemE} (hE : ∀ e f, rE e = some f → PE X e (tEv X.K f)) (F : Fx X S cf n) (G : Gx X S) {m : Str} {o : Expr} {args : List Expr} {apos cpos : Pos} {f : SemE} (h : stepGM rE S m o args apos cpos = some f) :
    PE X (.Call (.Attribute o m apos) args [] cpos) (tEv X.K f) := by
  have hu : X.A.units + 1 < cLine := by have := F.room.un; omega
  unfold stepGM at h
  split at h
  · rename_i x xp e
    split at h
    · rename_i tb ht
      replace h := ite_some h
      obtain ⟨⟨c1, c2, rfl, c4, c5⟩, h⟩ := h
      obtain ⟨fe, e1, e2⟩ := map_some' h
      subst e2
      obtain ⟨a, h1, h2⟩ := F.gds _ _ ht
      exact ok_gget (glB_ok G c1) h1 (nmOk_ok c2).1 h2 (m1_of rfl c5 c4) (hE _ _ e1)
    · exact ok_stepMeth hu hE h
  · exact ok_stepMeth hu hE h
/-! ### targets, walks -/
theorem asg1 {e : Expr} {es : List Expr} {env : Env} (h : notStar e = true) : assignEach (e :: es) env = (false, assign e env) :: assignEach es env := by
  cases e <;> first | rfl | (cases h; done)
theorem ok_compGs (F : Fx X S cf n) (G : Gx X S) {f : Expr → Option (SemG × List Nat)} (hf : ∀ e g, f e = some g → PG X e (tGv X.K g.1 g.2)) : ∀ {es : List Expr} {g : SemGs × List Nat}, compGs f es = some g →
    PGs X es (tGsv X.K g.1 g.2) ∧ (∀ xs η η', g.1 xs η = some η' → xs.length = es.length) ∧ (assignEach es X.env).length = es.length ∧ (assignEach es X.env).findIdx? (·.1) = none
  | [], _, h => by
    cases h
    refine ⟨pgsv_nil, fun xs η η' e => ?_, rfl, rfl⟩
    cases xs with
    | nil => rfl
    | cons => cases e
  | e :: r, _, h => by
    unfold compGs at h
    obtain ⟨hs, h⟩ := ite_some h
    obtain ⟨g1, e1, h⟩ := bind_some h
    obtain ⟨g2, e2, e3⟩ := map_some' h
    subst e3
    obtain ⟨p1, p2, p3, p4⟩ := ok_compGs F G hf e2
    have ha := asg1 (es := r) (env := X.env) hs
    refine ⟨pgsv_cons (hf _ _ e1) p1 (by rw [ha]; rfl), fun xs η η' q => ?_, by rw [ha, List.length_cons, List.length_cons, p3], by rw [ha, List.findIdx?_cons, p4]; rfl⟩
    cases xs with
    | nil => cases q
    | cons x xs =>
      obtain ⟨η1, q1, q2⟩ := bind_some q
      rw [List.length_cons, List.length_cons, p2 _ _ _ q2]
theorem ok_compG (F : Fx X S cf n) (G : Gx X S) : ∀ (d : Nat) {e : Expr} {g : SemG × List Nat}, compG S d e = some g → PG X e (tGv X.K g.1 g.2)
  | 0, _, _, h => by cases h
  | d + 1, e, g, h => by
    cases e <;> first | (cases h; done) | skip
    case Name x pos =>
      obtain ⟨c, h⟩ := ite_some (show (if locB S x = true then (ixOf x S.N).map fun i => (gvName i, [i]) else none) = some g from h)
      obtain ⟨i, e1, e2⟩ := map_some' h
      subst e2
      obtain ⟨h1, h2⟩ := locB_ok G c
      exact pgv_name (by rw [G.hN]; exact G.nd) (by rw [G.hN]; exact ixOf_get e1) h1 h2
    case Tuple es k pos =>
      obtain ⟨p, e1, e2⟩ := map_some' (show (compGs (fun e => compG S d e) es).map _ = some g from h)
      subst e2
      obtain ⟨p1, p2, p3, p4⟩ := ok_compGs F G (fun e g q => ok_compG F G d q) e1
      exact pgv_tup F.calm p1 p2 p3 p4
theorem ok_compI {rE : Expr → Option SemE} (hE : ∀ e f, rE e = some f → PE X e (tEv X.K f)) (F : Fx X S cf n) (G : Gx X S) {tg iter : Expr} {f : SemI} (h : compI rE S tg iter = some f) : PI X tg iter (tIv X.K f) := by
  have plain : ∀ {f : SemI}, (rE iter).map (fun fe => iPlain fe) = some f → PI X tg iter (tIv X.K f) := fun {f} h => by
    obtain ⟨fe, e1, e2⟩ := map_some' h
    subst e2
    exact pi_plain (hE _ _ e1)
  unfold compI at h
  split at h
  · rename_i x p args pos
    by_cases c1 : glB S.sc x = true ∧ x ∈ S.blt ∧ x = "range"
    · rw [if_pos c1] at h
      obtain ⟨hg, hb, rfl⟩ := c1
      obtain ⟨hl, h⟩ := ite_some h
      obtain ⟨fs, e1, e2⟩ := map_some' h
      subst e2
      obtain ⟨p1, p2, p3⟩ := ok_args hE e1
      have gl := glB_ok G hg
      have mg := F.blt _ hb
      match args, hl, p1, p2, p3 with
      | [a], _, p1, p2, p3 =>
        simp only [List.all_cons, List.all_nil, Bool.and_eq_true] at p2
        exact pi_rng1 gl mg p1 (star1 p2.1) p3
      | [a, b], _, p1, p2, p3 =>
        simp only [List.all_cons, List.all_nil, Bool.and_eq_true] at p2
        have s2 := star1 (es := []) (env := X.env) p2.2.1
        exact pi_rng2 gl mg p1 (by rw [star1 p2.1, s2]; rfl) s2 p3
      | [a, b, c], _, p1, p2, p3 =>
        simp only [List.all_cons, List.all_nil, Bool.and_eq_true] at p2
        have s3 := star1 (es := []) (env := X.env) p2.2.2.1
        have s2 := star1 (es := [c]) (env := X.env) p2.2.1
        exact pi_rng3 gl mg p1 (by rw [star1 p2.1, s2, s3]; rfl) (by rw [s2, s3]; rfl) s3 p3
      | [], hl, _, _, _ => rcases hl with hl | hl | hl <;> cases hl
      | _ :: _ :: _ :: _ :: _, hl, _, _, _ => rcases hl with hl | hl | hl <;> (simp at hl)
    rw [if_neg c1] at h
    by_cases c2 : glB S.sc x = true ∧ x ∈ S.blt ∧ x = "enumerate"
    · rw [if_pos c2] at h
      obtain ⟨hg, hb, rfl⟩ := c2
      split at h
      · obtain ⟨⟨hs, ht⟩, h⟩ := ite_some h
        obtain ⟨fe, e1, e2⟩ := map_some' h
        subst e2
        cases tg <;> first | (cases ht; done) | skip
        exact pi_enumS (glB_ok G hg) (F.blt _ hb) (pa1 hs (hE _ _ e1)) (star1 hs)
      · cases h
    rw [if_neg c2] at h
    by_cases c4 : glB S.sc x = true ∧ x ∈ S.blt ∧ x = "zip"
    · rw [if_pos c4] at h
      obtain ⟨hg, hb, rfl⟩ := c4
      split at h
      · obtain ⟨⟨hs1, hs2, ht⟩, h⟩ := ite_some h
        obtain ⟨fs, e1, e2⟩ := map_some' h
        subst e2
        cases tg <;> first | (cases ht; done) | skip
        exact pi_zipS (glB_ok G hg) (F.blt _ hb) (ok_args hE e1).1 (star1 hs1) (by rw [star1 hs2]; rfl)
      · cases h
    rw [if_neg c4] at h
    by_cases c3 : glB S.sc x = true ∧ x ∈ S.blt ∧ x = "reversed"
    · rw [if_pos c3] at h
      obtain ⟨hg, hb, rfl⟩ := c3
      split at h
      · obtain ⟨hs, h⟩ := ite_some h
        obtain ⟨fe, e1, e2⟩ := map_some' h
        subst e2
        exact pi_revS (glB_ok G hg) (F.blt _ hb) (pa1 hs (hE _ _ e1)) (star1 hs)
      · cases h
    rw [if_neg c3] at h
    exact plain h
  · exact plain h

/-! ### a comprehension's block -/
theorem Gx.blk (G : Gx X S) {scope : Scope} (s : Shared) (H : Hp) (C : Addr) (cl : List (Str × Addr)) (fp : List Addr) : Gx (X.blk s H scope (compEnvC scope cl C X.env) fp) (S.blk scope) :=
  ⟨G.hN, G.nd, by show relS scope X.env.scope = relS scope S.sc; rw [G.sc], fun h => by cases h⟩
theorem Fx.blk (F : Fx X S cf n) {scope : Scope} (s : Shared) (H : Hp) (C : Addr) (cl : List (Str × Addr)) (fp : List Addr) : Fx (X.blk s H scope (compEnvC scope cl C X.env) fp) (S.blk scope) cf n where
  room := F.room
  gu := F.gu
  calm := F.calm
  px := PassesOwn.never
  own := fun f hf => let ⟨fa, fd, ps, sp, o⟩ := F.own f hf; ⟨fa, fd, ps, sp, ⟨o.mg, o.kp, o.bd, o.ok, o.im, o.ar⟩⟩
  blt := F.blt
  mth := F.mth
  glo := F.glo
  gds := F.gds
  lam := fun q h => by cases h
theorem ok_ifs {Y : Cx} {rT : Expr → Option SemT} (hT : ∀ e f, rT e = some f → PT Y e (tTv Y.K f)) {ifs : List Expr} {f : SemT} (h : compIfs rT ifs = some f) : ∃ tt : TT, PTs Y ifs tt ∧ ∀ σ H Q, tTv Y.K f σ H Q → tt σ H Q := by
  unfold compIfs at h
  split at h
  · cases h
    refine ⟨tYes, pts_nil, fun σ H Q q => ?_⟩
    obtain ⟨ρ, η, st, b, st', E, S, e, k⟩ := q
    cases e
    exact k ρ H (Gr.refl _ _ _) S
  · exact ⟨_, pts_one (hT _ _ h), fun σ H Q q => q⟩
  · cases h
end
end Sim

namespace Sim
open PySem L2

section
variable {X : Cx} {S : Sx} {cf : CallF} {n : Nat}
theorem mem_of_contains {l : List Nat} {i : Nat} (h : l.contains i = true) : i ∈ l := by simpa using h
theorem ok_lcParts {rE : RE} {rT : RT} (hE : HE rE cf n) (hT : HT rT cf n) (F : Fx X S cf n) (G : Gx X S) {elt : Expr} {gens : List Comprehension} {scope : Scope} {f : SemE} (h : stepLc rE rT S elt gens scope = some f) :
    ∃ tg iter ifs fi g is tt fe, gens = [⟨tg, iter, ifs, 0⟩] ∧ notSet iter = true ∧ BlkOk X.N X.env.scope scope (ownOf S.N scope) ∧ PI X tg iter (tIv X.K fi) ∧
      (∀ (s : Shared) (H : Hp) (C : Addr) (cl : List (Str × Addr)) (fp : List Addr), PG (X.blk s H scope (compEnvC scope cl C X.env) fp) tg (tGv X.K g is)) ∧
      (∀ (s : Shared) (H : Hp) (C : Addr) (cl : List (Str × Addr)) (fp : List Addr), PTs (X.blk s H scope (compEnvC scope cl C X.env) fp) ifs tt) ∧
      (∀ (s : Shared) (H : Hp) (C : Addr) (cl : List (Str × Addr)) (fp : List Addr), PE (X.blk s H scope (compEnvC scope cl C X.env) fp) elt (tEv X.K fe)) ∧
      ∀ σ H Q, tEv X.K f σ H Q → tLc (tIv X.K fi) (tGv X.K g is) tt (tEv X.K fe) ((ownOf S.N scope).map (·.2)) σ H Q := by
  unfold stepLc at h
  split at h
  · rename_i tg iter ifs
    obtain ⟨⟨c1, c2⟩, h1⟩ := ite_some h
    obtain ⟨fi, e1, h2⟩ := bind_some h1
    obtain ⟨g, e2, h3⟩ := bind_some h2
    obtain ⟨c3, h4⟩ := ite_some h3
    obtain ⟨ft, e3, h5⟩ := bind_some h4
    obtain ⟨fe, e4, e5⟩ := map_some' h5
    subst e5
    have his : ∀ i ∈ g.2, i ∈ (ownOf S.N scope).map (·.2) := fun i hi => mem_of_contains (List.all_eq_true.mp c3 i hi)
    have tests : ∀ (s : Shared) (H : Hp) (C : Addr) (cl : List (Str × Addr)) (fp : List Addr), PTs (X.blk s H scope (compEnvC scope cl C X.env) fp) ifs (match ifs with | [] => tYes | _ => tTv X.K ft) := fun s H C cl fp => by
      unfold compIfs at e3
      split at e3
      · exact pts_nil
      · exact pts_one (hT _ _ _ _ (G.blk s H C cl fp) (F.blk s H C cl fp) e3)
      · cases e3
    refine ⟨tg, iter, ifs, fi, g.1, g.2, _, fe, rfl, c2, by rw [G.hN, G.sc]; exact blkOk_by c1, ok_compI (fun e f => hE X S e f G F) F G e1, fun s H C cl fp => ok_compG (F.blk s H C cl fp) (G.blk s H C cl fp) 3 e2, tests,
      fun s H C cl fp => hE _ _ _ _ (G.blk s H C cl fp) (F.blk s H C cl fp) e4, fun σ H Q q => lc_read his (fun σ H Q q => ?_) q⟩
    unfold compIfs at e3
    split at e3
    · cases e3
      obtain ⟨ρ, η, st, b, st', E, S', e, k⟩ := q
      cases e
      exact k ρ H (Gr.refl _ _ _) S'
    · exact q
    · cases e3
  · cases h
theorem ok_stepLc {rE : RE} {rT : RT} (hE : HE rE cf n) (hT : HT rT cf n) (F : Fx X S cf n) (G : Gx X S) {elt : Expr} {gens : List Comprehension} {scope : Scope} {f : SemE} {pos : Pos} (h : stepLc rE rT S elt gens scope = some f) :
    PE X (.ListComp elt gens scope pos) (tEv X.K f) := by
  obtain ⟨tg, iter, ifs, fi, g, is, tt, fe, rfl, c2, ok, p1, p2, p3, p4, p5⟩ := ok_lcParts hE hT F G h
  exact PE.imp (pe_lc F.calm (by rw [G.hN]; exact G.nd) p1 ok p2 p3 p4 (setFold c2)) p5
theorem ok_stepSub {rE : Expr → Option SemE} (hu : X.A.units + 65 < cLine) (hE' : ∀ e f, rE e = some f → PE X e (tEv X.K f)) {a b : Expr} {f : SemE} {pos : Pos} (h : stepSub rE a b = some f) : PE X (.Subscript a b pos) (tEv X.K f) := by
  unfold stepSub at h
  split at h
  · obtain ⟨fa, e1, e2⟩ := map_some' h
    subst e2
    exact ok_revE (hE' _ _ e1)
  · obtain ⟨fa, e1, h2⟩ := bind_some h
    obtain ⟨fl, e2, h3⟩ := bind_some h2
    obtain ⟨fh, e3, e4⟩ := map_some' h3
    subst e4
    exact ok_slE (hE' _ _ e1) (ok_part hE' e2) (ok_part hE' e3)
  · obtain ⟨c, h1⟩ := ite_some h
    obtain ⟨fa, e1, h2⟩ := bind_some h1
    obtain ⟨fb, e2, e3⟩ := map_some' h2
    subst e3
    exact ok_ixE hu c (hE' _ _ e1) (hE' _ _ e2)
theorem ok_stepGS {rE : Expr → Option SemE} (hE' : ∀ e f, rE e = some f → PE X e (tEv X.K f)) (F : Fx X S cf n) (G : Gx X S) {a b : Expr} {f : SemE} {pos : Pos} (h : stepGS rE S a b = some f) : PE X (.Subscript a b pos) (tEv X.K f) := by
  have hu : X.A.units + 65 < cLine := by have := F.room.un; omega
  unfold stepGS at h
  split at h
  · rename_i x xp
    split at h
    · rename_i tb ht
      obtain ⟨⟨c1, c2, c3⟩, h2⟩ := ite_some h
      obtain ⟨fe, e1, e2⟩ := map_some' h2
      subst e2
      obtain ⟨ad, h1, h3⟩ := F.gds _ _ ht
      exact ok_gix (glB_ok G c1) h1 (nmOk_ok c2).1 h3 c3 (hE' _ _ e1)
    · exact ok_stepSub hu hE' h
  · exact ok_stepSub hu hE' h
theorem ok_stepDict {rE : Expr → Option SemE} (hu : X.A.units + 1 < cLine) (hE' : ∀ e f, rE e = some f → PE X e (tEv X.K f)) {keys : List (Option Expr)} {vals : List Expr} {f : SemE} {pos : Pos} (h : stepDict rE S keys vals pos = some f) : PE X (.Dict keys vals pos) (tEv X.K f) := by
  unfold stepDict at h
  split at h
  · cases h; exact ok_dn
  · obtain ⟨fk, e1, h2⟩ := bind_some h
    obtain ⟨fv, e2, e3⟩ := map_some' h2
    subst e3
    exact ok_dt1 hu (hE' _ _ e1) (hE' _ _ e2)
  · obtain ⟨ks, e1, h2⟩ := bind_some h
    obtain ⟨⟨c1, c2, c3, c4⟩, h3⟩ := ite_some h2
    obtain ⟨fs, e2, e3⟩ := map_some' h3
    subst e3
    refine ok_disp (compA' := compA rE) hE' rfl (fun e r f hf => ?_) e1 e2 c1 c2 c3 c4
    obtain ⟨_, hf⟩ := ite_some (show (if notStar e = true then (rE e).bind fun fe => (compA rE r).map fun fr => fCons fe fr else none) = some f from hf)
    obtain ⟨fe, f1, f2⟩ := bind_some hf
    obtain ⟨fr, f3, f4⟩ := map_some' f2
    exact ⟨fe, fr, f1, f3, f4.symm⟩

theorem ok_stepDc {rE : RE} {rT : RT} (hE : HE rE cf n) (hT : HT rT cf n) (F : Fx X S cf n) (G : Gx X S) {key val : Expr} {gens : List Comprehension} {scope : Scope} {f : SemE} {pos : Pos} (h : stepDc rE rT S key val gens scope = some f) :
    PE X (.DictComp key val gens scope pos) (tEv X.K f) := by
  unfold stepDc at h
  split at h
  · rename_i tg iter ifs
    obtain ⟨⟨c1, c2⟩, h1⟩ := ite_some h
    obtain ⟨fi, e1, h2⟩ := bind_some h1
    obtain ⟨g, e2, h3⟩ := bind_some h2
    obtain ⟨c3, h4⟩ := ite_some h3
    obtain ⟨ft, e3, h5⟩ := bind_some h4
    obtain ⟨fk, e4, h6⟩ := bind_some h5
    obtain ⟨fv, e5, e6⟩ := map_some' h6
    subst e6
    have his : ∀ i ∈ g.2, i ∈ (ownOf S.N scope).map (·.2) := fun i hi => mem_of_contains (List.all_eq_true.mp c3 i hi)
    have tests : ∀ (s : Shared) (H : Hp) (C : Addr) (cl : List (Str × Addr)) (fp : List Addr), PTs (X.blk s H scope (compEnvC scope cl C X.env) fp) ifs (match ifs with | [] => tYes | _ => tTv X.K ft) := fun s H C cl fp => by
      unfold compIfs at e3
      split at e3
      · exact pts_nil
      · exact pts_one (hT _ _ _ _ (G.blk s H C cl fp) (F.blk s H C cl fp) e3)
      · cases e3
    refine PE.imp (pe_dc F.calm (by rw [G.hN]; exact G.nd) (ok_compI (fun e f => hE X S e f G F) F G e1) (by rw [G.hN, G.sc]; exact blkOk_by c1) (fun s H C cl fp => ok_compG (F.blk s H C cl fp) (G.blk s H C cl fp) 3 e2) tests
      (fun s H C cl fp => hE _ _ _ _ (G.blk s H C cl fp) (F.blk s H C cl fp) e4) (fun s H C cl fp => hE _ _ _ _ (G.blk s H C cl fp) (F.blk s H C cl fp) e5) (setFold c2)) fun σ H Q q => dc_read his (fun σ H Q q => ?_) q
    unfold compIfs at e3
    split at e3
    · cases e3
      obtain ⟨ρ, η, st, b, st', E, S', e, k⟩ := q
      cases e
      exact k ρ H (Gr.refl _ _ _) S'
    · exact q
    · cases e3
  · cases h
theorem ok_stepE {rE : RE} {rT : RT} (hE : HE rE cf n) (hT : HT rT cf n) (F : Fx X S cf n) (G : Gx X S) {e : Expr} {f : SemE} (h : stepE rE rT cf S e = some f) : PE X e (tEv X.K f) := by
  have hE' : ∀ e f, rE S e = some f → PE X e (tEv X.K f) := fun e f => hE X S e f G F
  have hT' : ∀ e f, rT S e = some f → PT X e (tTv X.K f) := fun e f => hT X S e f G F
  have hu : X.A.units + 65 < cLine := by have := F.room.un; omega
  unfold stepE at h
  split at h
  · exact ok_const h
  · exact ok_stepName F G h
  · obtain ⟨c, h1⟩ := ite_some h
    obtain ⟨fa, e1, h2⟩ := bind_some h1
    obtain ⟨fb, e2, e3⟩ := map_some' h2
    subst e3
    exact ok_binop c (hE' _ _ e1) (hE' _ _ e2)
  · obtain ⟨fa, e1, e2⟩ := map_some' h
    subst e2
    exact ok_neg (hE' _ _ e1)
  · obtain ⟨fa, e1, e2⟩ := map_some' h
    subst e2
    exact ok_notV (hE' _ _ e1)
  · exact ok_boolV hE' h
  · unfold stepCmp at h
    split at h
    · obtain ⟨c, h1⟩ := ite_some h
      obtain ⟨fa, e1, h2⟩ := bind_some h1
      obtain ⟨fb, e2, e3⟩ := map_some' h2
      subst e3
      exact ok_cmpE hu c (hE' _ _ e1) (hE' _ _ e2)
    · obtain ⟨c, h1⟩ := ite_some h
      obtain ⟨fa, e1, h2⟩ := bind_some h1
      obtain ⟨fb, e2, h3⟩ := bind_some h2
      obtain ⟨fc, e3, e4⟩ := map_some' h3
      subst e4
      exact ok_chE hu c (hE' _ _ e1) (hE' _ _ e2) (hE' _ _ e3)
    · cases h
  · obtain ⟨fc, e1, h2⟩ := bind_some h
    obtain ⟨fa, e2, h3⟩ := bind_some h2
    obtain ⟨fb, e3, e4⟩ := map_some' h3
    subst e4
    exact ok_if (hT' _ _ e1) (hE' _ _ e2) (hE' _ _ e3)
  · obtain ⟨fs, e1, e2⟩ := map_some' h
    subst e2
    exact ok_tup (ok_argsS hE' e1)
  · obtain ⟨fs, e1, e2⟩ := map_some' h
    subst e2
    exact ok_lst (ok_argsS hE' e1)
  · exact ok_stepGS hE' F G h
  · exact ok_stepLz hE' F G h
  · exact ok_stepGM hE' F G h
  · exact ok_stepLc hE hT F G h
  · exact ok_stepDict (Nat.lt_trans (by omega) F.room.units) hE' h
  · exact ok_stepDc hE hT F G h
  · cases h
theorem ok_stepT {rE : RE} {rT : RT} (hE : HE rE cf n) (hT : HT rT cf n) (F : Fx X S cf n) (G : Gx X S) {e : Expr} {f : SemT} (h : stepT rE rT S e = some f) : PT X e (tTv X.K f) := by
  have hE' : ∀ e f, rE S e = some f → PE X e (tEv X.K f) := fun e f => hE X S e f G F
  have hT' : ∀ e f, rT S e = some f → PT X e (tTv X.K f) := fun e f => hT X S e f G F
  have hu : X.A.units + 65 < cLine := by have := F.room.un; omega
  unfold stepT at h
  split at h
  · obtain ⟨fa, e1, e2⟩ := map_some' h
    subst e2
    exact ok_notT (hT' _ _ e1)
  · exact (ok_boolT hT' h).pt
  · unfold stepTCmp at h
    split at h
    · obtain ⟨c, h1⟩ := ite_some h
      obtain ⟨fa, e1, h2⟩ := bind_some h1
      obtain ⟨fb, e2, e3⟩ := map_some' h2
      subst e3
      exact ok_cmpT hu c (hE' _ _ e1) (hE' _ _ e2)
    · obtain ⟨c, h1⟩ := ite_some h
      obtain ⟨fa, e1, h2⟩ := bind_some h1
      obtain ⟨fb, e2, h3⟩ := bind_some h2
      obtain ⟨fc, e3, e4⟩ := map_some' h3
      subst e4
      exact ok_chT hu c (hE' _ _ e1) (hE' _ _ e2) (hE' _ _ e3)
    · cases h
  · obtain ⟨fa, e1, e2⟩ := map_some' h
    subst e2
    exact ok_truT (hE' _ _ e1) fun _ => rfl
  · obtain ⟨fa, e1, e2⟩ := map_some' h
    subst e2
    exact ok_truT (hE' _ _ e1) fun _ => rfl
  · obtain ⟨fa, e1, e2⟩ := map_some' h
    subst e2
    exact ok_truT (hE' _ _ e1) fun _ => rfl
  · obtain ⟨fa, e1, e2⟩ := map_some' h
    subst e2
    exact ok_truT (hE' _ _ e1) fun _ => rfl
  · cases h
end
theorem compA_one {rE : Expr → Option SemE} {a : Expr} {fa : SemE} (hs : notStar a = true) (h : rE a = some fa) : compA rE [a] = some (fCons fa fNil) := by
  show (if notStar a = true then (rE a).bind fun fe => (compA rE []).map fun fr => fCons fe fr else none) = _
  rw [if_pos hs, h]; rfl
theorem ok_stepK {X : Cx} {S : Sx} {cf : CallF} {n : Nat} {rE : Expr → Option SemE} (hE : ∀ e f, rE e = some f → PE X e (tEv X.K f)) (F : Fx X S cf n) (G : Gx X S) {e : Expr} {f : SemE} (h : stepK rE S e = some f) : PE X e (tEv X.K f) := by
  unfold stepK at h
  obtain ⟨_, h⟩ := ite_some h
  split at h
  · obtain ⟨fs, e1, e2⟩ := map_some' h
    subst e2
    exact ok_tupK (ok_args hE e1).1
  · obtain ⟨fa, e1, h1⟩ := bind_some h
    obtain ⟨fb, e2, e3⟩ := map_some' h1
    subst e3
    exact ok_addKE (hE _ _ e1) (hE _ _ e2)
  · obtain ⟨_, h⟩ := ite_some h
    obtain ⟨fa, e1, h1⟩ := bind_some h
    obtain ⟨fb, e2, e3⟩ := map_some' h1
    subst e3
    exact ok_mulKE (hE _ _ e1) (hE _ _ e2)
  · obtain ⟨fa, e1, e2⟩ := map_some' h
    subst e2
    exact ok_revKE (hE _ _ e1)
  · obtain ⟨fa, e1, h1⟩ := bind_some h
    obtain ⟨fl, e2, h2⟩ := bind_some h1
    obtain ⟨fh, e3, e4⟩ := map_some' h2
    subst e4
    exact ok_slKE (hE _ _ e1) (ok_part hE e2) (ok_part hE e3)
  · obtain ⟨⟨c1, c2, c3, c4⟩, h1⟩ := ite_some h
    obtain ⟨fa, e1, e2⟩ := map_some' h1
    subst e2 c1
    have e3 := compA_one (rE := rE) c4 e1
    obtain ⟨p1, p2, p3⟩ := ok_args hE e3
    exact PE.imp (pe_callTy kb_tupleK (glB_ok G c2) (F.blt _ c3) (by decide +kernel) p1 (by decide) (by decide) (star1 c4) rfl) fun σ H Q q => blt_read q
  · obtain ⟨⟨c1, c2, c3, c4⟩, h1⟩ := ite_some h
    obtain ⟨fo, e1, h2⟩ := bind_some h1
    obtain ⟨fa, e2, e3⟩ := map_some' h2
    subst e3 c1
    have e3 := compA_one (rE := rE) c4 e2
    exact ok_cntK c2 c3 c4 (hE _ _ e1) (ok_args hE e3).1
  · cases h
theorem lamB_ok {sc : Scope} {y : Str} (h : lamB sc y = true) : FnScope [y] [y] sc ∧ Vis sc y := by
  unfold lamB at h
  simp only [Bool.and_eq_true, Bool.not_eq_true', decide_eq_true_eq, List.all_eq_true, decide_eq_false_iff_not] at h
  obtain ⟨⟨⟨⟨h1, h2⟩, h3⟩, h4⟩, h5⟩ := h
  exact ⟨⟨h1, h2, h3, by simp, rfl, fun x hx => by rw [List.mem_singleton.mp hx]; exact .inl h4, h5⟩, .inl h4⟩
theorem ok_stepLm {X : Cx} {S : Sx} {cf : CallF} {n : Nat} {rE : Expr → Option SemE} (hE : ∀ e f, rE e = some f → PE X e (tEv X.K f)) (F : Fx X S cf n) (G : Gx X S) {e : Expr} {f : SemE} (h : stepLm rE S e = some f) : PE X e (tEv X.K f) := by
  unfold stepLm at h
  split at h
  · obtain ⟨⟨c1, c2, c3, c4, c5, c6, c7, c8, c9, c10, c11, c12, c13⟩, h1⟩ := ite_some h
    obtain ⟨fa, e1, e2⟩ := map_some' h1
    subst e2 c1 c2 c3 c4 c5
    obtain ⟨z, hz, ez⟩ := List.any_eq_true.mp c13
    obtain ⟨x, q⟩ := z
    have ex : x = S.nm := by simpa using ez
    subst ex
    obtain ⟨room, c, P, k1, k2, k3, k4, k5⟩ := F.lam q hz
    obtain ⟨m1, m2, _⟩ := nmOk_ok c12
    obtain ⟨s1, s2⟩ := lamB_ok c11
    subst k4
    have hgl : ∀ Z : Cx, Z.env.scope = _ → Gl Z "len" := fun Z hZ => by
      show Z.env.scope.names.lookup _ = _
      rw [hZ]
      unfold glB at c9
      split at c9
      · assumption
      · cases c9
    exact pe_sortK room F.calm (hE _ _ e1) (star1 c10) (glB_ok G c6) (F.blt _ c7) (F.blt _ c8) k3 k1 k2 hz k5 s1 s2 m1 m2 hgl (fun _ _ _ _ _ => bind_one)
  · cases h
theorem ok_comp (cf : CallF) (n : Nat) : ∀ d : Nat, HE (compE cf d) cf n ∧ HT (compT cf d) cf n
  | 0 => ⟨fun X S e f _ _ h => (by unfold compE at h; cases h), fun X S e f _ _ h => (by unfold compT at h; cases h)⟩
  | d + 1 => by
    obtain ⟨h1, h2⟩ := ok_comp cf n d
    exact ⟨fun X S e f G F h => by
      unfold compE at h
      split at h
      · rename_i g hg
        cases h
        exact ok_stepK (fun e f => h1 X S e f G F) F G hg
      · split at h
        · rename_i g hg
          cases h
          exact ok_stepLm (fun e f => h1 X S e f G F) F G hg
        · exact ok_stepE h1 h2 F G h, fun X S e f G F h => by unfold compT at h; exact ok_stepT h1 h2 F G h⟩
end Sim

namespace Sim
open PySem L2
noncomputable section

inductive Fl where
  | nx (η : LocD) | rt (d : D) | bk (η : LocD) | ct (η : LocD) | ex (e : Ex) (η : LocD)
abbrev SemS := LocD → Sto → Option (Fl × Sto)
def PostS (K : Frg) (mg : Str → Option Value) (W : WX) (ρ : Rho) (H : Hp) (De : Ends) (fl : Fl) (st : Sto) : Prop :=
  match fl with
  | .nx η => ∀ ρ' H' σ', Gr K ρ H ρ' H' → SR K ρ' st H' → ER K ρ' H' η σ' → De.nx σ' H'
  | .bk η => ∀ ρ' H' σ', Gr K ρ H ρ' H' → SR K ρ' st H' → ER K ρ' H' η σ' → De.bk σ' H'
  | .ct η => ∀ ρ' H' σ', Gr K ρ H ρ' H' → SR K ρ' st H' → ER K ρ' H' η σ' → De.ct σ' H'
  | .rt d => ∀ ρ' H' v, Gr K ρ H ρ' H' → SR K ρ' st H' → DR K ρ' H' d v → De.rt v H'
  | .ex e η => ∀ ρ' H' σ' cls d, Gr K ρ H ρ' H' → SR K ρ' st H' → ER K ρ' H' η σ' → ExR K mg ρ' H' e cls d → W cls d σ' H'
def tSv (K : Frg) (mg : Str → Option Value) (W : WX) (f : SemS) : TS := fun De σ H => ∃ ρ η st fl st', ER K ρ H η σ ∧ SR K ρ st H ∧ f η st = some (fl, st') ∧ PostS K mg W ρ H De fl st'
theorem PostS.pre {K : Frg} {mg : Str → Option Value} {W : WX} {ρ ρ' : Rho} {H H' : Hp} {De : Ends} {fl : Fl} {st : Sto} (h : PostS K mg W ρ H De fl st) (g : Gr K ρ H ρ' H') : PostS K mg W ρ' H' De fl st := by
  cases fl <;> first | exact fun ρ2 H2 v g2 s r => h ρ2 H2 v (g.trans g2) s r | exact fun ρ2 H2 v c d g2 s r x => h ρ2 H2 v c d (g.trans g2) s r x
theorem PS.imp {X : Cx} {s : Stmt} {t t' : TS} (h : PS X s t) (k : ∀ De σ H, t' De σ H → t De σ H) : PS X s t' := ⟨fun pins s σ H De I q => h.run pins s σ H De I (k De σ H q)⟩
theorem PSs.imp {X : Cx} {s : List Stmt} {t t' : TS} (h : PSs X s t) (k : ∀ De σ H, t' De σ H → t De σ H) : PSs X s t' := ⟨fun pins s σ H De I q => h.run pins s σ H De I (k De σ H q)⟩

def sNil : SemS := fun η st => some (.nx η, st)
def sSeq (f g : SemS) : SemS := fun η st => (f η st).bind fun p => match p.1 with
  | .nx η' => g η' p.2
  | fl => some (fl, p.2)
def sAsg (fe : SemE) (g : SemG) : SemS := fun η st => (fe η st).bind fun p => (g p.1 η).map fun η' => (.nx η', p.2)
def sPar2 (i j : Nat) (fs : SemA) : SemS := fun η st => (fs η st).bind fun p => match p.1 with
  | [a, b] => some (.nx ((η.set i (some a)).set j (some b)), p.2)
  | _ => none
def sPar3 (i j l : Nat) (fs : SemA) : SemS := fun η st => (fs η st).bind fun p => match p.1 with
  | [a, b, c] => some (.nx (((η.set i (some a)).set j (some b)).set l (some c)), p.2)
  | _ => none
/-- a dict with d[k] = v -/
def setD (o i v : D) (st : Sto) : Option Sto :=
  match o with
  | .ref n => match st[n]? with
    | some (.dct kvs) => (keyD i).bind fun k => if kvs.length < most then some (st.set n (.dct (putD kvs k v))) else none
    | some (.dtp kvs) => (keyT i).bind fun k => if kvs.length < most then some (st.set n (.dtp (putD kvs k v))) else none
    | _ => none
  | _ => none
def setL (o i v : D) (st : Sto) : Option Sto :=
  match o, i with
  | .ref n, .int k => match st[n]? with
    | some (.lst xs) => (ixN xs.length k).map fun j => st.set n (.lst (xs.set j v))
    | _ => none
  | _, _ => none
def setI (o i v : D) (st : Sto) : Option Sto :=
  match setL o i v st with
  | some s => some s
  | none => setD o i v st
theorem set_of {o i v : D} {st st' : Sto} (h : setL o i v st = some st') : setI o i v st = some st' := by
  unfold setI; rw [h]
def sSub (fo fi fe : SemE) : SemS := fun η st => (fe η st).bind fun p => (fo η p.2).bind fun q => (fi η q.2).bind fun r => (setI q.1 r.1 p.1 r.2).map fun st' => (.nx η, st')
def inplc (op : Operator) (x y : D) : Option D :=
  match op, x, y with
  | .Add, .int i, .int j => some (.int (i + j))
  | .Sub, .int i, .int j => some (.int (i - j))
  | .Add, .str a, .str b => if a.length + b.length ≤ most then some (.str (a ++ b)) else none
  | _, _, _ => none
def sAug (i : Nat) (op : Operator) (fe : SemE) : SemS := fun η st => (fVar i η st).bind fun x => (fe η st).bind fun p => (inplc op x.1 p.1).map fun z => (.nx (η.set i (some z)), p.2)
/-- o[i] op= e, o a list, i from 0 on -/
def getL (o i : D) (st : Sto) : Option D :=
  match o, i with
  | .ref n, .int k => match st[n]? with
    | some (.lst xs) => if 0 ≤ k then atI xs k else none
    | _ => none
  | _, _ => none
def getI (o i : D) (st : Sto) : Option D :=
  match getL o i st with
  | some d => some d
  | none => dgetD o i st
theorem get_of {o i d : D} {st : Sto} (h : getL o i st = some d) : getI o i st = some d := by
  unfold getI; rw [h]
def sAugS (fo fi : SemE) (op : Operator) (fe : SemE) : SemS := fun η st => (fo η st).bind fun p => (fi η p.2).bind fun q => (getI p.1 q.1 q.2).bind fun x => (fe η q.2).bind fun r => (inplc op x r.1).bind fun z =>
  (setI p.1 q.1 z r.2).map fun st' => (.nx η, st')
def sRet (fe : SemE) : SemS := fun η st => (fe η st).map fun p => (.rt p.1, p.2)
def sRetN : SemS := fun _ st => some (.rt .non, st)
def sIf (ft : SemT) (f g : SemS) : SemS := fun η st => (ft η st).bind fun p => if p.1 = true then f η p.2 else g η p.2
def sExpr (fe : SemE) : SemS := fun η st => (fe η st).map fun p => (.nx η, p.2)
/-- nothing is said of it -/
def sStuck : SemS := fun _ _ => none
def sBrk : SemS := fun η st => some (.bk η, st)
def sCnt : SemS := fun η st => some (.ct η, st)
def fuel : Nat := 2 ^ 200
def whGo (ft : SemT) (fb : SemS) : Nat → LocD → Sto → Option (Fl × Sto)
  | 0, _, _ => none
  | k + 1, η, st => (ft η st).bind fun b => if b.1 = true then (fb η b.2).bind fun p => match p.1 with
      | .nx η' => whGo ft fb k η' p.2
      | .ct η' => whGo ft fb k η' p.2
      | .bk η' => some (.nx η', p.2)
      | .rt d => some (.rt d, p.2)
      | .ex e η' => some (.ex e η', p.2)
    else some (.nx η, b.2)
def sWhile (ft : SemT) (fb : SemS) : SemS := fun η st => whGo ft fb fuel η st
def forGo (g : SemG) (fb : SemS) (gd : Option (Nat × O)) : List D → LocD → Sto → Option (Fl × Sto)
  | [], η, st => if okGd gd st then some (.nx η, st) else none
  | x :: r, η, st => if okGd gd st then (g x η).bind fun η2 => (fb η2 st).bind fun p => match p.1 with
      | .nx η' => forGo g fb gd r η' p.2
      | .ct η' => forGo g fb gd r η' p.2
      | .bk η' => some (.nx η', p.2)
      | .rt d => some (.rt d, p.2)
      | .ex e η' => some (.ex e η', p.2)
    else none
def sFor (fi : SemI) (g : SemG) (fb : SemS) : SemS := fun η st => (fi η st).bind fun p => forGo g fb p.1.gd p.1.xs η p.2
theorem forGo_ok {g : SemG} {fb : SemS} {gd : Option (Nat × O)} {xs : List D} {η : LocD} {st : Sto} {r : Fl × Sto} (h : forGo g fb gd xs η st = some r) : okGd gd st := by
  cases xs with
  | nil => unfold forGo at h; exact (ite_some h).1
  | cons x r => unfold forGo at h; exact (ite_some h).1

section
variable {X : Cx} {W : WX}
theorem os_stuck {s : Stmt} : PS X s (tSv X.K X.mg W sStuck) := ⟨fun pins s σ H De I q => by
  obtain ⟨ρ, η, st, fl, st', E, S, e, k⟩ := q
  cases e⟩
theorem os_nil : PSs X [] (tSv X.K X.mg W sNil) := PSs.imp pss_nil fun De σ H q => by
  obtain ⟨ρ, η, st, fl, st', E, S, e, k⟩ := q
  cases e
  exact k ρ H σ (Gr.refl _ _ _) S E
theorem os_cons {s : Stmt} {r : List Stmt} {f g : SemS} (h1 : PS X s (tSv X.K X.mg W f)) (h2 : PSs X r (tSv X.K X.mg W g)) : PSs X (s :: r) (tSv X.K X.mg W (sSeq f g)) := PSs.imp (pss_cons h1 h2) fun De σ H q => by
  obtain ⟨ρ, η, st, fl, st', E, S, e, k⟩ := q
  obtain ⟨p, e1, e2⟩ := bind_some e
  refine ⟨ρ, η, st, p.1, p.2, E, S, e1, ?_⟩
  cases hp : p.1 with
  | nx η' => rw [hp] at e2; exact fun ρ1 H1 σ1 g1 S1 E1 => ⟨ρ1, η', p.2, fl, st', E1, S1, e2, k.pre g1⟩
  | bk η' => rw [hp] at e2; cases e2; exact k
  | ct η' => rw [hp] at e2; cases e2; exact k
  | rt d => rw [hp] at e2; cases e2; exact k
  | ex x η' => rw [hp] at e2; cases e2; exact k
theorem rd_asg {fe : SemE} {g : SemG} {is : List Nat} {De : Ends} {σ : L2.St} {H : Hp} (q : tSv X.K X.mg W (sAsg fe g) De σ H) : tAsg (tEv X.K fe) (tGv X.K g is) De σ H := by
  obtain ⟨ρ, η, st, fl, st', E, S, e, k⟩ := q
  obtain ⟨p, e1, e2⟩ := bind_some e
  obtain ⟨η', e3, e4⟩ := map_some' e2
  cases e4
  exact tEv.then E S e1 fun ρ1 H1 v g1 S1 r1 => ⟨ρ1, η, p.1, η', E.mono g1, r1, e3, fun σ' E' _ _ => k ρ1 H1 σ' g1 S1 E'⟩
theorem os_ret {e : Expr} {fe : SemE} {pos : Pos} (he : PE X e (tEv X.K fe)) : PS X (.Return (some e) pos) (tSv X.K X.mg W (sRet fe)) := PS.imp (ps_ret he) fun De σ H q => by
  obtain ⟨ρ, η, st, fl, st', E, S, e, k⟩ := q
  obtain ⟨p, e1, e2⟩ := map_some' e
  cases e2
  exact tEv.then E S e1 fun ρ1 H1 v g1 S1 r1 => k ρ1 H1 v g1 S1 r1
theorem os_retN {pos : Pos} : PS X (.Return none pos) (tSv X.K X.mg W sRetN) := PS.imp ps_retN fun De σ H q => by
  obtain ⟨ρ, η, st, fl, st', E, S, e, k⟩ := q
  cases e
  exact k ρ H _ (Gr.refl _ _ _) S .non
theorem os_brk {pos : Pos} : PS X (.Break pos) (tSv X.K X.mg W sBrk) := PS.imp ps_break fun De σ H q => by
  obtain ⟨ρ, η, st, fl, st', E, S, e, k⟩ := q
  cases e
  exact k ρ H _ (Gr.refl _ _ _) S E
theorem os_cnt {pos : Pos} : PS X (.Continue pos) (tSv X.K X.mg W sCnt) := PS.imp ps_continue fun De σ H q => by
  obtain ⟨ρ, η, st, fl, st', E, S, e, k⟩ := q
  cases e
  exact k ρ H _ (Gr.refl _ _ _) S E
theorem os_pass {pos : Pos} : PS X (.Pass pos) (tSv X.K X.mg W sNil) := PS.imp ps_pass fun De σ H q => by
  obtain ⟨ρ, η, st, fl, st', E, S, e, k⟩ := q
  cases e
  exact k ρ H _ (Gr.refl _ _ _) S E
theorem os_expr {e : Expr} {fe : SemE} {pos : Pos} (he : PE X e (tEv X.K fe)) (hs : swapsWith e none pos.line X.env = pure false) : PS X (.Expr e pos) (tSv X.K X.mg W (sExpr fe)) := PS.imp (ps_expr he hs) fun De σ H q => by
  obtain ⟨ρ, η, st, fl, st', E, S, e, k⟩ := q
  obtain ⟨p, e1, e2⟩ := map_some' e
  cases e2
  exact tEv.then E S e1 fun ρ1 H1 v g1 S1 r1 => k ρ1 H1 σ g1 S1 (E.mono g1)
theorem os_if {c : Expr} {a b : List Stmt} {ft : SemT} {f g : SemS} {pos : Pos} (hc : PT X c (tTv X.K ft)) (ha : PSs X a (tSv X.K X.mg W f)) (hb : PSs X b (tSv X.K X.mg W g)) : PS X (.If c a b pos) (tSv X.K X.mg W (sIf ft f g)) := PS.imp (ps_if hc ha hb) fun De σ H q => by
  obtain ⟨ρ, η, st, fl, st', E, S, e, k⟩ := q
  obtain ⟨p, e1, e2⟩ := bind_some e
  refine ⟨ρ, η, st, p.1, p.2, E, S, e1, fun ρ1 H1 g1 S1 => ?_⟩
  cases hp : p.1 with
  | true => rw [hp, if_pos rfl] at e2; rw [if_pos rfl]; exact ⟨ρ1, η, p.2, fl, st', E.mono g1, S1, e2, k.pre g1⟩
  | false => rw [hp, if_neg Bool.false_ne_true] at e2; rw [if_neg Bool.false_ne_true]; exact ⟨ρ1, η, p.2, fl, st', E.mono g1, S1, e2, k.pre g1⟩
theorem os_par2 {i j : Nat} {x y : Str} {a b : Expr} {fs : SemA} {px py pt : Pos} {kt k2 : Nat} {pt2 pos : Pos} (hc : X.calm = true) (hN : X.N.Nodup) (hi : X.N[i]? = some x) (hj : X.N[j]? = some y) (hij : i ≠ j)
    (hx : X.env.scope.names.lookup x = some .local) (hy : X.env.scope.names.lookup y = some .local) (ha : PA X [a, b] (tAv X.K fs))
    (hw : swappedStores [.Tuple [.Name x px, .Name y py] kt pt] (.Tuple [a, b] k2 pt2) X.env = pure (some [x, y])) :
    PS X (.Assign [.Tuple [.Name x px, .Name y py] kt pt] (.Tuple [a, b] k2 pt2) pos) (tSv X.K X.mg W (sPar2 i j fs)) := PS.imp (ps_par hc hN hi hj hij hx hy ha hw rfl) fun De σ H q => by
  obtain ⟨ρ, η, st, fl, st', E, S, e, k⟩ := q
  obtain ⟨p, e1, e2⟩ := bind_some e
  refine tAv.one E S e1 fun ρ1 H1 vs g1 S1 r1 => ?_
  split at e2
  · rename_i a b hp
    rw [hp] at r1
    obtain ⟨v, w, rfl, rv, rw'⟩ := two_of r1 rfl
    cases e2
    exact ⟨v, w, rfl, k ρ1 H1 _ g1 S1 (((E.mono g1).set rv i).set rw' j)⟩
  · cases e2
theorem os_par3 {i j l : Nat} {x y z : Str} {a b c : Expr} {fs : SemA} {px py pz pt : Pos} {kt k2 : Nat} {pt2 pos : Pos} (hc : X.calm = true) (hN : X.N.Nodup) (hi : X.N[i]? = some x) (hj : X.N[j]? = some y) (hl : X.N[l]? = some z) (hij : i ≠ j) (hil : i ≠ l) (hjl : j ≠ l)
    (hx : X.env.scope.names.lookup x = some .local) (hy : X.env.scope.names.lookup y = some .local) (hz : X.env.scope.names.lookup z = some .local) (ha : PA X [a, b, c] (tAv X.K fs))
    (hw : swappedStores [.Tuple [.Name x px, .Name y py, .Name z pz] kt pt] (.Tuple [a, b, c] k2 pt2) X.env = pure (some [x, y, z])) :
    PS X (.Assign [.Tuple [.Name x px, .Name y py, .Name z pz] kt pt] (.Tuple [a, b, c] k2 pt2) pos) (tSv X.K X.mg W (sPar3 i j l fs)) := PS.imp (ps_par3 hc hN hi hj hl hij hil hjl hx hy hz ha hw rfl) fun De σ H q => by
  obtain ⟨ρ, η, st, fl, st', E, S, e, k⟩ := q
  obtain ⟨p, e1, e2⟩ := bind_some e
  refine tAv.one E S e1 fun ρ1 H1 vs g1 S1 r1 => ?_
  split at e2
  · rename_i a b c hp
    rw [hp] at r1
    obtain ⟨v, w, u, rfl, rv, rw', ru⟩ := three_of r1 rfl
    cases e2
    exact ⟨v, w, u, rfl, k ρ1 H1 _ g1 S1 ((((E.mono g1).set rv i).set rw' j).set ru l)⟩
  · cases e2
/-- o[i] = v by values -/
def tsV (K : Frg) : TSet := fun o i v H Q => ∃ ρ st a b c st', SR K ρ st H ∧ DR K ρ H a o ∧ DR K ρ H b i ∧ DR K ρ H c v ∧ setI a b c st = some st' ∧ ∀ ρ' H', Gr K ρ H ρ' H' → SR K ρ' st' H' → Q H'
def tsL (K : Frg) : TSet := fun o i v H Q => ∃ ρ st a b c st', SR K ρ st H ∧ DR K ρ H a o ∧ DR K ρ H b i ∧ DR K ρ H c v ∧ setL a b c st = some st' ∧ ∀ ρ' H', Gr K ρ H ρ' H' → SR K ρ' st' H' → Q H'
theorem ps_setL : PSet X (tsL X.K) := by
  rintro pins s σ H o i v ov iv u Q I ro ri rv ⟨ρ, st, a, b, c, st', S, ra, rb, rc, e, k⟩
  unfold setL at e
  split at e
  · rename_i n kk
    split at e
    · rename_i xs hx
      obtain ⟨j, e1, e2⟩ := map_some' e
      subst e2
      obtain ⟨a', vs, rfl, ea, h1, h2⟩ := ref_lst S ra hx
      cases rb
      obtain ⟨S2, g2⟩ := S.setL hx ea h1 (DRs.set rc j h2)
      exact set_list pins s σ H _ _ v ov iv u Q I ro ri rv ⟨a', vs, kk, j, rfl, rfl, h1, by rw [← h2.length]; exact e1, k ρ _ g2 S2⟩
    · cases e
  · cases e
theorem ps_setV (hu : X.A.units + 1 < cLine) : PSet X (tsV X.K) := by
  rintro pins s σ H o i v ov iv u Q I ro ri rv ⟨ρ, st, a, b, c, st', S, ra, rb, rc, e, k⟩
  cases e0 : setL a b c st with
  | some z =>
    rw [set_of e0] at e
    exact ps_setL pins s σ H o i v ov iv u Q I ro ri rv ⟨ρ, st, a, b, c, st', S, ra, rb, rc, by rw [e0]; exact e, k⟩
  | none =>
    unfold setI at e
    rw [e0] at e
    have e : setD a b c st = some st' := e
    unfold setD at e
    split at e
    · rename_i n
      split at e
      · rename_i kvs hn
        obtain ⟨ky, e5, e6⟩ := bind_some e
        obtain ⟨hl, e7⟩ := ite_some e6
        cases e7
        have hy := keyD_ok rb e5
        subst hy
        cases ra with
        | ref er =>
          obtain ⟨vs, h1, h2⟩ := S.at' _ _ _ hn er
          obtain ⟨S2, g2⟩ := S.setK hn er h1 (put_ok (k := ky) rc h2)
          cases ro
          exact wpAny_mono (d_setItem (H' := upd H _ (.dK (putK vs ky v))) (Q := fun _ s' => ∃ H', L2.Inv X pins σ H' s' ∧ Q H') hu I (DPut.k h1 (by rw [← kdr_len h2]; exact most_lt hl)) ri rv fun s4 I4 => ⟨_, I4, k ρ _ g2 S2⟩) (fun _ _ x => x) fun _ _ x => x
      · rename_i kvs hn
        obtain ⟨ky, e5, e6⟩ := bind_some e
        obtain ⟨hl, e7⟩ := ite_some e6
        cases e7
        obtain ⟨b, hb, hb2⟩ := keyT_ok rb e5
        subst hb
        cases ra with
        | ref er =>
          obtain ⟨vs, h1, h2⟩ := S.at' _ _ _ hn er
          obtain ⟨S2, g2⟩ := S.setT hn er h1 (put_ok (k := ky) rc h2)
          cases ro
          exact wpAny_mono (d_setItem (H' := upd H _ (.dT (putK vs ky v))) (Q := fun _ s' => ∃ H', L2.Inv X pins σ H' s' ∧ Q H') hu I (DPut.t h1 hb2 (by rw [← kdr_len h2]; exact most_lt hl)) ri rv fun s4 I4 => ⟨_, I4, k ρ _ g2 S2⟩) (fun _ _ x => x) fun _ _ x => x
      · cases e
    · cases e
theorem os_sub {o i e : Expr} {fo fi fe : SemE} {p1 pos : Pos} (hu : X.A.units + 65 < cLine) (hns : notSlice i = true) (ho : PE X o (tEv X.K fo)) (hi : PE X i (tEv X.K fi)) (he : PE X e (tEv X.K fe)) (hs : swapsWithSole [.Subscript o i p1] e pos.line X.env = pure false) :
    PS X (.Assign [.Subscript o i p1] e pos) (tSv X.K X.mg W (sSub fo fi fe)) := by
  refine PS.imp (ps_asg he (pg_sub ho hi (ps_setV (by omega)) (fun v => by cases i <;> first | rfl | (cases hns; done))) hs (by cases e <;> rfl)) fun De σ H q => ?_
  obtain ⟨ρ, η, st, fl, st', E, S, e, k⟩ := q
  obtain ⟨p, e1, e2⟩ := bind_some e
  obtain ⟨q, e3, e4⟩ := bind_some e2
  obtain ⟨r, e5, e6⟩ := bind_some e4
  obtain ⟨stz, e7, e8⟩ := map_some' e6
  cases e8
  refine tEv.then E S e1 fun ρ1 H1 v1 g1 S1 r1 => tEv.then (E.mono g1) S1 e3 fun ρ2 H2 v2 g2 S2 r2 => tEv.then (E.mono (g1.trans g2)) S2 e5 fun ρ3 H3 v3 g3 S3 r3 => ?_
  exact ⟨ρ3, r.2, q.1, r.1, p.1, _, S3, r2.mono g3, r3, r1.mono (g2.trans g3), e7, fun ρ4 H4 g4 S4 => k ρ4 H4 σ (g1.trans (g2.trans (g3.trans g4))) S4 (E.mono (g1.trans (g2.trans (g3.trans g4))))⟩
def tipV (K : Frg) (op : Operator) : TIp := fun x y H Q => ∃ ρ st a b c, SR K ρ st H ∧ DR K ρ H a x ∧ DR K ρ H b y ∧ inplc op a b = some c ∧ ∀ v, DR K ρ H c v → Q v H
theorem ip_V (op : Operator) : PIp X op (tipV X.K op) := by
  rintro pins s σ H x y v u Q I rx ry ⟨ρ, st, a, b, c, S, ra, rb, e, k⟩
  unfold inplc at e
  split at e
  · cases e; cases ra; cases rb
    exact iop_add pins s σ H _ _ v u Q I rx ry ⟨_, _, rfl, rfl, k _ (.int _)⟩
  · cases e; cases ra; cases rb
    exact iop_sub pins s σ H _ _ v u Q I rx ry ⟨_, _, rfl, rfl, k _ (.int _)⟩
  · obtain ⟨c, e⟩ := ite_some e
    cases e; cases ra; cases rb
    exact iop_add_str pins s σ H _ _ v u Q I rx ry ⟨_, _, rfl, rfl, most_line c, k _ (.str _)⟩
  · cases e
theorem os_aug {i : Nat} {x : Str} {e : Expr} {fe : SemE} {op : Operator} {p1 pos : Pos} (hN : X.N.Nodup) (hi : X.N[i]? = some x) (hx : L2.Loc X.env.scope x) (hf : X.fn x = true ∨ X.env.scope.names.lookup x = some .local) (he : PE X e (tEv X.K fe)) :
    PS X (.AugAssign (.Name x p1) op e pos) (tSv X.K X.mg W (sAug i op fe)) := by
  refine PS.imp (ps_aug hN hi hx he (ip_V op) hf) fun De σ H q => ?_
  obtain ⟨ρ, η, st, fl, st', E, S, e, k⟩ := q
  obtain ⟨x, e1, e2⟩ := bind_some e
  obtain ⟨p, e3, e4⟩ := bind_some e2
  obtain ⟨z, e5, e6⟩ := map_some' e4
  cases e6
  unfold fVar at e1
  split at e1
  · cases e1
    rename_i hη
    obtain ⟨v, hv, r⟩ := E.2 _ _ hη
    exact ⟨v, hv, tEv.then E S e3 fun ρ1 H1 v1 g1 S1 r1 => ⟨ρ1, p.2, _, _, z, S1, r.mono g1, r1, e5, fun w rw' => k ρ1 H1 _ g1 S1 ((E.mono g1).set rw' i)⟩⟩
  · cases e1
def tgetV (K : Frg) : V → V → Hp → VK → Prop := fun o i H Q => ∃ ρ st a b c, SR K ρ st H ∧ DR K ρ H a o ∧ DR K ρ H b i ∧ getI a b st = some c ∧ ∀ v, DR K ρ H c v → Q v H
def tgetL (K : Frg) : V → V → Hp → VK → Prop := fun o i H Q => ∃ ρ st a b c, SR K ρ st H ∧ DR K ρ H a o ∧ DR K ρ H b i ∧ getL a b st = some c ∧ ∀ v, DR K ρ H c v → Q v H
theorem pg_L : PGet X (tgetL X.K) := by
  rintro pins s σ H o i ov iv Q I ro ri ⟨ρ, st, a, b, c, S, ra, rb, e, k⟩
  unfold getL at e
  split at e
  · rename_i n kk
    split at e
    · rename_i xs hx
      obtain ⟨h0, e1⟩ := ite_some e
      obtain ⟨a', vs, rfl, ea, h1, h2⟩ := ref_lst S ra hx
      cases rb
      obtain ⟨w, hw, rw'⟩ := atI_DRs h2 e1
      cases ro
      obtain ⟨t, rfl⟩ := ri
      obtain ⟨its, r, pl, hz⟩ := I.list (SqL.of h1)
      obtain ⟨j, q1, q2, q3, q4, q5⟩ := atI_get hw
      obtain ⟨z, ez, rz⟩ := r.get q2
      have hl := r.length
      have hn := line63
      have hj : kk.toNat = j := by
        rw [seqIndex_of h0 q5] at q1
        exact Option.some.inj q1
      exact wpAny_getItem_list pl.isList h0 (by omega) (by rw [hj]; simpa using ez) ⟨w, H, I, rz, k w rw'⟩
    · cases e
  · cases e
theorem pg_V (hu : X.A.units + 1 < cLine) : PGet X (tgetV X.K) := by
  rintro pins s σ H o i ov iv Q I ro ri ⟨ρ, st, a, b, c, S, ra, rb, e, k⟩
  cases e0 : getL a b st with
  | some z =>
    rw [get_of e0] at e
    exact pg_L pins s σ H o i ov iv Q I ro ri ⟨ρ, st, a, b, c, S, ra, rb, by rw [e0]; exact e, k⟩
  | none =>
    unfold getI at e
    rw [e0] at e
    obtain ⟨ad, w, rfl, h1, h2⟩ := dgetD_ok S ra rb (show dgetD a b st = some c from e)
    cases ro
    exact d_getItem2 hu I h1 ri fun w' s3 I3 rw' => ⟨w, H, I3, rw', k w h2⟩
theorem os_augS {o i e : Expr} {fo fi fe : SemE} {op : Operator} {p1 pos : Pos} (hu : X.A.units + 65 < cLine) (hs : notSlice i = true) (ho : PE X o (tEv X.K fo)) (hi : PE X i (tEv X.K fi)) (he : PE X e (tEv X.K fe)) :
    PS X (.AugAssign (.Subscript o i p1) op e pos) (tSv X.K X.mg W (sAugS fo fi op fe)) := by
  refine PS.imp (ps_augS ho hi (pg_V (by omega)) he (ip_V op) (ps_setV (by omega)) (fun ov iv new => by cases i <;> first | rfl | (cases hs; done))) fun De σ H q => ?_
  obtain ⟨ρ, η, st, fl, st', E, S, e, k⟩ := q
  obtain ⟨p, e1, e2⟩ := bind_some e
  obtain ⟨q, e3, e4⟩ := bind_some e2
  obtain ⟨x, e5, e6⟩ := bind_some e4
  obtain ⟨r, e7, e8⟩ := bind_some e6
  obtain ⟨z, e9, e10⟩ := bind_some e8
  obtain ⟨stz, e11, e12⟩ := map_some' e10
  cases e12
  refine tEv.then E S e1 fun ρ1 H1 v1 g1 S1 r1 => tEv.then (E.mono g1) S1 e3 fun ρ2 H2 v2 g2 S2 r2 => ⟨ρ2, q.2, p.1, q.1, x, S2, r1.mono g2, r2, e5, fun v3 r3 => tEv.then (E.mono (g1.trans g2)) S2 e7 fun ρ4 H4 v4 g4 S4 r4 => ?_⟩
  refine ⟨ρ4, r.2, x, r.1, z, S4, r3.mono g4, r4, e9, fun v5 r5 => ⟨ρ4, r.2, p.1, q.1, z, _, S4, r1.mono (g2.trans g4), r2.mono g4, r5, e11, fun ρ6 H6 g6 S6 => ?_⟩⟩
  exact k ρ6 H6 σ (g1.trans (g2.trans (g4.trans g6))) S6 (E.mono (g1.trans (g2.trans (g4.trans g6))))
theorem os_while {c : Expr} {b : List Stmt} {ft : SemT} {fb : SemS} {pos : Pos} (hx : PassesOwn (model X.prog X.w) X.A X.env X.xe) (hc : PT X c (tTv X.K ft)) (hb : PSs X b (tSv X.K X.mg W fb)) : PS X (.While c b [] pos) (tSv X.K X.mg W (sWhile ft fb)) := by
  refine PS.imp (ps_while hx hc hb) fun De σ H q => ?_
  obtain ⟨ρ, η, st, fl, st', E, S, e, k⟩ := q
  refine ⟨fun m σ1 H1 => ∃ ρ1 η1 st1, Gr X.K ρ H ρ1 H1 ∧ ER X.K ρ1 H1 η1 σ1 ∧ SR X.K ρ1 st1 H1 ∧ whGo ft fb m η1 st1 = some (fl, st'), ⟨fuel, ρ, η, st, Gr.refl _ _ _, E, S, e⟩, ?_⟩
  rintro m σ1 H1 ⟨ρ1, η1, st1, g1, E1, S1, e1⟩
  cases m with
  | zero => cases e1
  | succ m =>
    unfold whGo at e1
    obtain ⟨p, e2, e3⟩ := bind_some e1
    refine ⟨ρ1, η1, st1, p.1, p.2, E1, S1, e2, fun ρ2 H2 g2 S2 => ?_⟩
    cases hp : p.1 with
    | true =>
      rw [hp, if_pos rfl] at e3
      rw [if_pos rfl]
      obtain ⟨q, e4, e5⟩ := bind_some e3
      refine ⟨fun σ3 H3 => ∃ ρ3 η3 st3, Gr X.K ρ H ρ3 H3 ∧ ER X.K ρ3 H3 η3 σ3 ∧ SR X.K ρ3 st3 H3 ∧ whGo ft fb m η3 st3 = some (fl, st'), fun σ3 H3 h => ⟨m, Nat.lt_succ_self _, h⟩, ρ2, η1, p.2, q.1, q.2, E1.mono g2, S2, e4, ?_⟩
      cases hq : q.1 with
      | nx η' => rw [hq] at e5; exact fun ρ3 H3 σ3 g3 S3 E3 => ⟨ρ3, η', q.2, g1.trans (g2.trans g3), E3, S3, e5⟩
      | ct η' => rw [hq] at e5; exact fun ρ3 H3 σ3 g3 S3 E3 => ⟨ρ3, η', q.2, g1.trans (g2.trans g3), E3, S3, e5⟩
      | bk η' => rw [hq] at e5; cases e5; exact fun ρ3 H3 σ3 g3 S3 E3 => k ρ3 H3 σ3 (g1.trans (g2.trans g3)) S3 E3
      | rt d => rw [hq] at e5; cases e5; exact fun ρ3 H3 v g3 S3 r3 => k ρ3 H3 v (g1.trans (g2.trans g3)) S3 r3
      | ex x η' => rw [hq] at e5; cases e5; exact fun ρ3 H3 v c d g3 S3 r3 z => k ρ3 H3 v c d (g1.trans (g2.trans g3)) S3 r3 z
    | false =>
      rw [hp, if_neg Bool.false_ne_true] at e3
      rw [if_neg Bool.false_ne_true]
      cases e3
      exact k ρ2 H2 σ1 (g1.trans g2) S2 (E1.mono g2)
theorem os_for {tg iter : Expr} {b : List Stmt} {fi : SemI} {g : SemG} {is : List Nat} {fb : SemS} {pos : Pos} (hx : PassesOwn (model X.prog X.w) X.A X.env X.xe) (hcalm : X.calm = true) (hi : PI X tg iter (tIv X.K fi)) (hg : PG X tg (tGv X.K g is)) (hb : PSs X b (tSv X.K X.mg W fb)) (hset : notSet iter = true) :
    PS X (.For tg iter b [] pos) (tSv X.K X.mg W (sFor fi g fb)) := by
  refine PS.imp (ps_for hx hcalm hi hg hb (setFold hset)) fun De σ H q => ?_
  obtain ⟨ρ, η, st, fl, st', E, S, e, k⟩ := q
  obtain ⟨p, e1, e2⟩ := bind_some e
  refine ⟨ρ, η, st, p.1, p.2, E, S, e1, fun ρ1 H1 J g1 S1 ok Y => ?_⟩
  obtain ⟨Gd, Yd, Wk, hG, hY⟩ := Y.w
  refine for_it Wk (fun i σ2 H2 => ∃ ρ2 η2 st2, Gr X.K ρ1 H1 ρ2 H2 ∧ ER X.K ρ2 H2 η2 σ2 ∧ SR X.K ρ2 st2 H2 ∧ forGo g fb p.1.gd (p.1.xs.drop i) η2 st2 = some (fl, st')) ?_ ?_ ?_ ?_
  · exact ⟨ρ1, η, p.2, Gr.refl _ _ _, E.mono g1, S1, e2⟩
  · rintro i σ2 H2 _ ⟨ρ2, η2, st2, g2, E2, S2, e3⟩
    exact hG ρ2 st2 H2 g2 S2 (forGo_ok e3)
  · rintro i x σ2 H2 H3 hlt ⟨ρ2, η2, st2, g2, E2, S2, e3⟩ y
    have ok2 := forGo_ok e3
    obtain ⟨g3, S3, r3⟩ := hY ρ2 st2 H2 i _ x H3 g2 S2 ok2 (List.getElem?_eq_getElem hlt) y
    rw [List.drop_eq_getElem_cons hlt] at e3
    unfold forGo at e3
    obtain ⟨_, e4⟩ := ite_some e3
    obtain ⟨η3, e5, e6⟩ := bind_some e4
    obtain ⟨q, e7, e8⟩ := bind_some e6
    refine ⟨ρ2, η2, _, η3, E2.mono g3, r3, e5, fun σ4 E4 _ _ => ⟨ρ2, η3, st2, q.1, q.2, E4, S3, e7, ?_⟩⟩
    cases hq : q.1 with
    | nx η' => rw [hq] at e8; exact fun ρ5 H5 σ5 g5 S5 E5 => ⟨ρ5, η', q.2, g2.trans (g3.trans g5), E5, S5, e8⟩
    | ct η' => rw [hq] at e8; exact fun ρ5 H5 σ5 g5 S5 E5 => ⟨ρ5, η', q.2, g2.trans (g3.trans g5), E5, S5, e8⟩
    | bk η' => rw [hq] at e8; cases e8; exact fun ρ5 H5 σ5 g5 S5 E5 => k ρ5 H5 σ5 (g1.trans (g2.trans (g3.trans g5))) S5 E5
    | rt d => rw [hq] at e8; cases e8; exact fun ρ5 H5 v g5 S5 r5 => k ρ5 H5 v (g1.trans (g2.trans (g3.trans g5))) S5 r5
    | ex x η' => rw [hq] at e8; cases e8; exact fun ρ5 H5 v c d g5 S5 r5 z => k ρ5 H5 v c d (g1.trans (g2.trans (g3.trans g5))) S5 r5 z
  · rintro σ2 H2 ⟨ρ2, η2, st2, g2, E2, S2, e3⟩
    rw [List.drop_length] at e3
    unfold forGo at e3
    obtain ⟨_, e4⟩ := ite_some e3
    cases e4
    exact k ρ2 H2 σ2 (g1.trans g2) S2 E2
end
end
end Sim

namespace Sim
open PySem L2
noncomputable section
/-! ### statements that raise, and that catch -/
/-- an own call: what it tells, or what it raises -/
def calX (cf : CallF) (cx : CallX) (x : Str) (dds : List D) (fs : SemA) : LocD → Sto → Option ((D ⊕ Ex) × Sto) := fun η st => (fs η st).bind fun p => match cf x (p.1 ++ dds) p.2 with
  | some r => some (.inl r.1, r.2)
  | none => (cx x (p.1 ++ dds) p.2).map fun r => (.inr r.1, r.2)
def sRetX (cf : CallF) (cx : CallX) (x : Str) (dds : List D) (fs : SemA) : SemS := fun η st => (calX cf cx x dds fs η st).map fun r => match r.1 with
  | .inl d => (.rt d, r.2)
  | .inr e => (.ex e η, r.2)
def sAsgX (cf : CallF) (cx : CallX) (x : Str) (dds : List D) (fs : SemA) (i : Nat) : SemS := fun η st => (calX cf cx x dds fs η st).map fun r => match r.1 with
  | .inl d => (.nx (η.set i (some d)), r.2)
  | .inr e => (.ex e η, r.2)
def sExprX (cf : CallF) (cx : CallX) (x : Str) (dds : List D) (fs : SemA) : SemS := fun η st => (calX cf cx x dds fs η st).map fun r => match r.1 with
  | .inl d => (.nx η, r.2)
  | .inr e => (.ex e η, r.2)
/-- what is kept of what an exception is made of: the last stored stands first -/
def sRai (c : Str) (fl : List Str) (fs : SemA) : SemS := fun η st => (fs η st).bind fun p => if p.1.length = fl.length then some (.ex ⟨c, (fl.zip p.1).reverse⟩ η, p.2) else none
def exmOf (l : List (Str × Str × Bool)) (a c : Str) : Option Bool := match l with
  | [] => none
  | (x, y, b) :: r => if x = a ∧ y = c then some b else exmOf r a c
def sTry (l : List (Str × Str × Bool)) (c : Str) (fb g : SemS) : SemS := fun η st => (fb η st).bind fun p => match p.1 with
  | .ex e η' => (exmOf l e.cls c).bind fun b => if b = true then (g η' p.2).bind fun q => match q.1 with
    | .ex _ _ => none
    | fl => some (fl, q.2) else some (.ex e η', p.2)
  | fl => some (fl, p.2)
section
variable {X : Cx} {W : WX} {n : Nat} {f : Addr} {fd : FuncData} {ps : List Str} {sp : Sp} {dvs : List V} {ds : List Value}
/-- what a call may let out is wished for -/
abbrev WE' (W : WX) (σ : L2.St) : XK := fun cls d H => W cls d σ H
theorem runX {pins : List (Addr × Obj)} {σ : L2.St} {H : Hp} {s : Shared} {Q : VK} {us : List Value} {vs : List V} (tk : L2.Takes X W) (F : FnG X.prog X.w X.K X.mg X.base (L2.CX X.prog X.w) n f fd ps sp) (room : Room n X.A) (gu : X.A.guards = some [])
    (bind : Binds X.K fd ps ds) (hd : Vals dvs ds) (I : L2.Inv X pins σ H s) (rel : Vals vs us) (h : sp (vs ++ dvs) H Q (WE' W σ)) : wpAny (model X.prog X.w) X.A (call (.ref f) us) (EP X pins σ Q) X.xe s := by
  have both := rel.append hd
  have le : (us ++ ds).length = ps.length := both.length.symm.trans (F.len _ _ _ _ h)
  apply wpAny_call
  apply codeAny_mono (F.run X.A X.stack s H ⟨us, []⟩ (us ++ ds) (vs ++ dvs) Q (WE' W σ) room gu I.env0 (bind s us I.kIn le) both h)
  rintro (e | fl) s' hq
  · exact tk e s' (L2.XE.of_call I (fun cls d H' h => h) hq)
  · cases fl with
    | ret u => exact I.after hq
    | next => cases hq
    | brk => cases hq
    | cont => cases hq
def tCalX (sp : Sp) (dvs : List V) (W : WX) (t : TA) : TE := fun σ H Q => t σ H fun vs H1 => sp (vs ++ dvs) H1 Q (WE' W σ)
theorem pe_callX {x : Str} {p pos : Pos} {e : Expr} {es : List Expr} {t : TA} (tk : L2.Takes X W) (F : FnG X.prog X.w X.K X.mg X.base (L2.CX X.prog X.w) n f fd ps sp) (room : Room n X.A) (gu : X.A.guards = some []) (glob : Gl X x) (at' : X.mg x = some (.ref f)) (keep : PySem.W.keepIn X.K (.ref f) = true)
    (bind : Binds X.K fd ps ds) (hd : Vals dvs ds) (ha : PA X (e :: es) t) (nodeb : (x == ("__debug__" : Str)) = false) (st : starEach (e :: es) X.env = (false, eval e X.env) :: starEach es X.env)
    (pl : (backTo pos (starEach es X.env)).any (·.1) = false) : PE X (.Call (.Name x p) (e :: es) [] pos) (tCalX sp dvs W t) := by
  constructor
  intro pins s σ H Q I h
  apply wpAny_Call_Name_kw (ld_glob I glob at' ?_ nodeb)
  apply PySem.W.callWith_K (h₀ := X.base) I.ok.mod.kin keep ?_ st pl
  apply thn (ha.run pos pins s σ H _ I h)
  rintro us s1 ⟨vs, H1, I1, r, q⟩
  exact ⟨I1.kIn, runX tk F room gu bind hd I1 r q⟩
/-- behind a call: what is told, or what is raised -/
theorem calX_read {cf : CallF} {cx : CallX} {x : Str} {dds : List D} {m : Nat} {fs : SemA} (ar : ∀ ds st, (∀ r, cf x ds st = some r → ds.length = m) ∧ ∀ r, cx x ds st = some r → ds.length = m) (hv : ∀ ρ H, DRs X.K ρ H dds dvs)
    {ρ : Rho} {η : LocD} {st : Sto} {σ : L2.St} {H : Hp} {Q : VK} {r : (D ⊕ Ex) × Sto} (E : ER X.K ρ H η σ) (S : SR X.K ρ st H) (e : calX cf cx x dds fs η st = some r) (k1 : ∀ d, r.1 = .inl d → Then X.K ρ H d r.2 Q) (k2 : ∀ e, r.1 = .inr e → ThenX X.K X.mg ρ H e r.2 (WE' W σ)) :
    tCalX (spX X.K X.mg cf cx x m) dvs W (tAv X.K fs) σ H Q := by
  obtain ⟨p, e1, e2⟩ := bind_some e
  refine tAv.one E S e1 fun ρ1 H1 vs g1 S1 r1 => ?_
  have r2 := r1.app (hv ρ1 H1)
  cases hc : cf x (p.1 ++ dds) p.2 with
  | some q =>
    simp only [hc] at e2
    cases e2
    exact ⟨by rw [← r2.length]; exact (ar _ _).1 _ hc, .inl ⟨ρ1, p.2, _, q.1, q.2, S1, r2, hc, (k1 _ rfl).pre g1⟩⟩
  | none =>
    simp only [hc] at e2
    obtain ⟨q, e3, e4⟩ := map_some' e2
    subst e4
    exact ⟨by rw [← r2.length]; exact (ar _ _).2 _ e3, .inr ⟨ρ1, p.2, _, q.1, q.2, S1, r2, e3, (k2 _ rfl).pre g1⟩⟩
theorem os_retX {cf : CallF} {cx : CallX} {x : Str} {dds : List D} {m : Nat} {fs : SemA} {e : Expr} {pos : Pos} (ar : ∀ ds st, (∀ r, cf x ds st = some r → ds.length = m) ∧ ∀ r, cx x ds st = some r → ds.length = m) (hv : ∀ ρ H, DRs X.K ρ H dds dvs)
    (he : PE X e (tCalX (spX X.K X.mg cf cx x m) dvs W (tAv X.K fs))) : PS X (.Return (some e) pos) (tSv X.K X.mg W (sRetX cf cx x dds fs)) := PS.imp (ps_ret he) fun De σ H q => by
  obtain ⟨ρ, η, st, fl, st', E, S, e, k⟩ := q
  obtain ⟨r, e1, e2⟩ := map_some' e
  refine calX_read ar hv E S e1 (fun d hd => ?_) (fun x hx => ?_)
  · rw [hd] at e2; cases e2
    exact fun ρ1 H1 v g1 S1 r1 => k ρ1 H1 v g1 S1 r1
  · rw [hx] at e2; cases e2
    exact fun ρ1 H1 c d g1 S1 r1 => k ρ1 H1 σ c d g1 S1 (E.mono g1) r1
theorem os_exprX {cf : CallF} {cx : CallX} {x : Str} {dds : List D} {m : Nat} {fs : SemA} {e : Expr} {pos : Pos} (ar : ∀ ds st, (∀ r, cf x ds st = some r → ds.length = m) ∧ ∀ r, cx x ds st = some r → ds.length = m) (hv : ∀ ρ H, DRs X.K ρ H dds dvs)
    (he : PE X e (tCalX (spX X.K X.mg cf cx x m) dvs W (tAv X.K fs))) (hs : swapsWith e none pos.line X.env = pure false) : PS X (.Expr e pos) (tSv X.K X.mg W (sExprX cf cx x dds fs)) := PS.imp (ps_expr he hs) fun De σ H q => by
  obtain ⟨ρ, η, st, fl, st', E, S, e, k⟩ := q
  obtain ⟨r, e1, e2⟩ := map_some' e
  refine calX_read ar hv E S e1 (fun d hd => ?_) (fun x hx => ?_)
  · rw [hd] at e2; cases e2
    exact fun ρ1 H1 v g1 S1 r1 => k ρ1 H1 σ g1 S1 (E.mono g1)
  · rw [hx] at e2; cases e2
    exact fun ρ1 H1 c d g1 S1 r1 => k ρ1 H1 σ c d g1 S1 (E.mono g1) r1
theorem os_asgX {cf : CallF} {cx : CallX} {x y : Str} {dds : List D} {m i : Nat} {fs : SemA} {e : Expr} {py pos : Pos} (ar : ∀ ds st, (∀ r, cf x ds st = some r → ds.length = m) ∧ ∀ r, cx x ds st = some r → ds.length = m) (hv : ∀ ρ H, DRs X.K ρ H dds dvs)
    (he : PE X e (tCalX (spX X.K X.mg cf cx x m) dvs W (tAv X.K fs))) (hN : X.N.Nodup) (hi : X.N[i]? = some y) (hx : Loc X.env.scope y) (hs : swapsWith e (some (.Name y py)) pos.line X.env = pure false) (hf : X.fn y = true ∨ X.env.scope.names.lookup y = some .local) :
    PS X (.Assign [.Name y py] e pos) (tSv X.K X.mg W (sAsgX cf cx x dds fs i)) := PS.imp (ps_set hN hi hx he hs hf) fun De σ H q => by
  obtain ⟨ρ, η, st, fl, st', E, S, e, k⟩ := q
  obtain ⟨r, e1, e2⟩ := map_some' e
  refine calX_read ar hv E S e1 (fun d hd => ?_) (fun x hx => ?_)
  · rw [hd] at e2; cases e2
    exact fun ρ1 H1 v g1 S1 r1 => k ρ1 H1 _ g1 S1 ((E.mono g1).set r1 i)
  · rw [hx] at e2; cases e2
    exact fun ρ1 H1 c d g1 S1 r1 => k ρ1 H1 σ c d g1 S1 (E.mono g1) r1
/-- try: body; except c: suite -/
theorem os_try {l : List (Str × Str × Bool)} {c : Str} {cv : Value} {body suite : List Stmt} {b₀ : Stmt} {np pos pos' : Pos} {fb g : SemS} (hs : X.stack = X.env :: X.outer) (hf : X.env.frame = some X.env.locals) (hc : Names X c cv) (tk : L2.Takes X W)
    (hm : ∀ a b C, exmOf l a c = some b → X.mg a = some (.ref C) → PySem.W.exmOne X.K (.ref C) cv = some b)
    (hb : ∀ (W' : WX) (pn : List (Addr × Obj)) (xe : Value → Shared → Prop), L2.Takes (X.tr pn xe) W' → PassesOwn (model X.prog X.w) X.A X.env xe → PSs (X.tr pn xe) body (tSv X.K X.mg W' fb))
    (hsu : ∀ (a : Addr) (pn : List (Addr × Obj)), PSs (X.suite a pn) (b₀ :: suite) (tSv X.K X.mg (fun _ _ _ _ => False) g)) :
    PS X (.Try body [.ExceptHandler (some (.Name c np)) none (b₀ :: suite) pos'] [] [] pos) (tSv X.K X.mg W (sTry l c fb g)) := by
  refine PS.imp (L2.ps_try_many (tb := fun W' => tSv X.K X.mg W' fb) (l := [(cv, fun a cls d => tSv X.K X.mg (fun _ _ _ _ => False) g)]) hs hf tk hb (.cons hc (fun a oe cls d pn _ _ => hsu a _) .nil)) fun De σ H q => ?_
  obtain ⟨ρ, η, st, fl, st', E, S, e, k⟩ := q
  obtain ⟨p, e1, e2⟩ := bind_some e
  refine ⟨ρ, η, st, p.1, p.2, E, S, e1, ?_⟩
  cases hp : p.1 with
  | nx η' => rw [hp] at e2; cases e2; exact k
  | bk η' => rw [hp] at e2; cases e2; exact k
  | ct η' => rw [hp] at e2; cases e2; exact k
  | rt d => rw [hp] at e2; cases e2; exact k
  | ex x η' =>
    rw [hp] at e2
    obtain ⟨b, e3, e4⟩ := bind_some e2
    intro ρ1 H1 σ1 cls d g1 S1 E1 r1
    obtain ⟨C, dx, vs, m1, h2, h3, h4, h5⟩ := id r1
    refine ⟨b, by rw [h2]; exact hm _ _ _ e3 m1, fun hb a na => ?_, fun hb => ?_⟩
    · subst hb
      rw [if_pos rfl] at e4
      obtain ⟨q, e5, e6⟩ := bind_some e4
      refine ⟨ρ1, η', p.2, q.1, q.2, E1, S1, e5, ?_⟩
      cases hq : q.1 with
      | nx η' => rw [hq] at e6; cases e6; exact k.pre g1
      | bk η' => rw [hq] at e6; cases e6; exact k.pre g1
      | ct η' => rw [hq] at e6; cases e6; exact k.pre g1
      | rt d => rw [hq] at e6; cases e6; exact k.pre g1
      | ex x η' => rw [hq] at e6; cases e6
    · subst hb
      rw [if_neg Bool.false_ne_true] at e4
      cases e4
      exact k ρ1 H1 σ1 cls d g1 S1 E1 r1
end
end
end Sim

namespace Sim
open PySem L2
/-! ### the making of an own exception -/
/-- the body of an __init__ that keeps all that it is handed -/
def InitB : List Str → List Stmt → Prop
  | [], b => b = []
  | f :: fl, b => ∃ p1 p2 p3 p4 r, b = .Assign [.Attribute (.Name "self" p1) f p2] (.Name f p3) p4 :: r ∧ InitB fl r
def tIni (K : Frg) : Nat → List Str → TS
  | _, [] => tNext
  | i, f :: fl => tSeq (tOst K f (tVar 0) (tVar (i + 1))) (tIni K (i + 1) fl)
def nmFine (x : Str) : Bool := !(x == ("__debug__" : Str)) && !(x == ("__classdict__" : Str))
theorem ini_pss {X : Cx} (h0 : X.N[0]? = some ("self" : Str)) (vis : ∀ x ∈ X.N, Vis X.env.scope x ∧ nmFine x = true) : ∀ (fl : List Str) (b : List Stmt) (i : Nat), X.N.drop (i + 1) = fl → InitB fl b → PSs X b (tIni X.K i fl)
  | [], b, i, _, h => by cases h; exact pss_nil
  | f :: fl, b, i, hd, h => by
    obtain ⟨p1, p2, p3, p4, r, rfl, h2⟩ := h
    have hi : X.N[i + 1]? = some f := by
      have : (X.N.drop (i + 1))[0]? = some f := by rw [hd]; rfl
      rw [List.getElem?_drop] at this
      simpa using this
    have hd2 : X.N.drop (i + 1 + 1) = fl := by
      rw [← List.drop_drop, hd]; rfl
    have ok : ∀ x, nmFine x = true → (x == ("__debug__" : Str)) = false ∧ (x == ("__classdict__" : Str)) = false := fun x q => by
      unfold nmFine at q
      rw [Bool.and_eq_true, Bool.not_eq_true', Bool.not_eq_true'] at q
      exact q
    obtain ⟨v1, n1⟩ := vis _ (List.mem_of_getElem? h0)
    obtain ⟨v2, n2⟩ := vis _ (List.mem_of_getElem? hi)
    exact pss_cons (ps_ost (pe_var h0 v1 (ok _ n1).1 (ok _ n1).2) (pe_var hi v2 (ok _ n2).1 (ok _ n2).2)) (ini_pss h0 vis fl r (i + 1) hd2 h2)
theorem ini_read {K : Frg} {C a : Addr} (T : OexC K C) {D : Ends} {σ : L2.St} (h0 : σ[0]? = some (some (.ref a))) : ∀ (fl : List Str) (i : Nat) (ws : List V) (H : Hp) (dx : Addr) (fs : List (Str × V)), (∀ f ∈ fl, PySem.W.findIn K (.ref C) f = some none) → ws.length = fl.length → σ.drop (i + 1) = ws.map some →
    H a = some (exo a C (some dx)) → H dx = some (exd dx fs) → a ≠ dx → fs.length + fl.length ≤ 900 → (∀ H' : Hp, H' a = some (exo a C (some dx)) → H' dx = some (exd dx ((fl.zip ws).reverse ++ fs)) → (∀ b, b ≠ dx → H' b = H b) → D.nx σ H') → tIni K i fl D σ H
  | [], i, ws, H, dx, fs, _, _, _, ha, hx, _, _, k => k H ha (by simpa using hx) fun _ _ => rfl
  | f :: fl, i, [], H, dx, fs, _, hl, _, _, _, _, _, _ => by cases hl
  | f :: fl, i, w :: ws, H, dx, fs, hn, hl, hd, ha, hx, ne, hz, k => by
    rw [List.length_cons] at hz
    have hi : σ[i + 1]? = some (some w) := by
      have : (σ.drop (i + 1))[0]? = some (some w) := by rw [hd]; rfl
      rw [List.getElem?_drop] at this
      simpa using this
    have hd2 : σ.drop (i + 1 + 1) = ws.map some := by
      rw [← List.drop_drop, hd]; rfl
    refine ⟨w, hi, _, h0, a, C, rfl, T, hn f List.mem_cons_self, .inr ⟨dx, fs, ha, hx, by omega, ?_⟩⟩
    show tIni K (i + 1) fl D σ _
    refine ini_read T h0 fl (i + 1) ws _ dx ((f, w) :: fs) (fun g hg => hn g (List.mem_cons_of_mem _ hg)) (by simpa using hl) hd2 (by rw [upd_ne ne]; exact ha) upd_same ne (by rw [List.length_cons]; omega) fun H' h1 h2 h3 => k H' h1 (by rw [h2]; simp) fun b hb => by rw [h3 b hb, upd_ne hb]
/-- what an __init__ does -/
def spI (C : Addr) (fl : List Str) : Sp := fun vs H Q _ => ∃ a ws, vs = V.ref a :: ws ∧ ws.length = fl.length ∧ H a = some (exo a C none) ∧
  ∀ (H' : Hp) (dx : Addr), H dx = none → dx ≠ a → H' a = some (exo a C (some dx)) → H' dx = some (exd dx (fl.zip ws).reverse) → (∀ b, b ≠ a → b ≠ dx → H' b = H b) → Q .non H'
theorem init_ok {P : Program} {w : World} {K : Frg} {mg : Str → Option Value} {base : Heap} {x qual : Str} {st : Stmt} {fI C : Addr} {fd : FuncData} {f : Str} {fl : List Str} (F : C8.Fun K x qual st fI fd) (S : FnScope (("self" : Str) :: f :: fl) (("self" : Str) :: f :: fl) (C8.fnScope st)) (T : OexC K C)
    (hb : InitB (f :: fl) (C8.fnBody st)) (hno : ∀ g ∈ f :: fl, PySem.W.findIn K (.ref C) g = some none) (hl : (f :: fl).length ≤ 800) (hn : ∀ g ∈ ("self" : Str) :: f :: fl, nmFine g = true) : FnOk P w K mg base C8.CX0 1 fI fd (("self" : Str) :: f :: fl) (spI C (f :: fl)) := by
  refine C8.fn0 F S (fun vs H Q E h => ?_) fun cdv A outer s H vs Q E hr h => ?_
  · obtain ⟨a, ws, rfl, h1, _⟩ := h
    rw [List.length_cons, List.length_cons, h1]
  · obtain ⟨a, ws, rfl, h1, h2, h3⟩ := h
    refine ⟨tIni K 0 (f :: fl), PSs.imp (ini_pss (X := (cxOf C8.CX0 P w K mg base (("self" : Str) :: f :: fl) qual (C8.fnScope st) fI cdv A outer s H E).nox) rfl (fun y hy => ⟨(S.par y hy).elim .inl fun q => .inr (.inl q), hn y hy⟩) (f :: fl) _ 0 rfl hb) (fun _ _ _ q => q), ?_⟩
    have hst : L2.start (("self" : Str) :: f :: fl) (V.ref a :: ws) = some (.ref a) :: ws.map some := by
      unfold L2.start
      simp [h1]
    rw [hst]
    cases ws with
    | nil => cases h1
    | cons w0 ws =>
      refine ⟨w0, rfl, _, rfl, a, C, rfl, T, hno f List.mem_cons_self, .inl ⟨h2, fun dx hx ne => ?_⟩⟩
      show tIni K 1 fl _ _ _
      refine ini_read T rfl fl 1 ws _ dx [(f, w0)] (fun g hg => hno g (List.mem_cons_of_mem _ hg)) (by simpa using h1) (by simp) upd_same (by rw [upd_ne ne, upd_same]) (fun e => ne e.symm) (by simp at hl ⊢; omega) fun H' q1 q2 q3 => h3 H' dx hx ne q1 (by rw [q2]; simp) fun b hb1 hb2 => by rw [q3 b hb2, upd_ne hb1, upd_ne hb2]
theorem FDR.app {K : Frg} {ρ : Rho} {H : Hp} : ∀ {a c : List (Str × D)} {b d : List (Str × V)}, FDR K ρ H a b → FDR K ρ H c d → FDR K ρ H (a ++ c) (b ++ d)
  | [], _, [], _, _, q => q
  | [], _, _ :: _, _, h, _ => h.elim
  | _ :: _, _, [], _, h, _ => h.elim
  | x :: a, _, y :: b, _, h, q => ⟨h.1, h.2.1, FDR.app h.2.2 q⟩
theorem fdr_zip {K : Frg} {ρ : Rho} {H : Hp} : ∀ {fl : List Str} {ds : List D} {vs : List V}, DRs K ρ H ds vs → FDR K ρ H (fl.zip ds).reverse (fl.zip vs).reverse
  | [], _, _, _ => trivial
  | f :: fl, _, _, .nil => trivial
  | f :: fl, _, _, .cons a t => by
    rw [List.zip_cons_cons, List.zip_cons_cons, List.reverse_cons, List.reverse_cons]
    exact (fdr_zip t).app ⟨rfl, a, trivial⟩
/-- what is known of an own exception -/
structure ExcAt (X : Cx) (c : Str) (fl : List Str) : Prop where
  ex : ∃ (C fI : Addr) (fd : FuncData), X.mg c = some (.ref C) ∧ OexC X.K C ∧ PySem.W.findIn X.K (.ref C) "__init__" = some (some (.ref fI)) ∧ PySem.W.typeIn X.K (.ref fI) = some (.type "function") ∧ FnOk X.prog X.w X.K X.mg X.base C8.CX0 1 fI fd (("self" : Str) :: fl) (spI C fl) ∧ Binds X.K fd (("self" : Str) :: fl) []
  len : fl.length ≤ 800
section
variable {X : Cx} {W : WX}
theorem os_rai {c : Str} {fl : List Str} {fs : SemA} {e : Expr} {es : List Expr} {p pos pos' : Pos} (A : ExcAt X c fl) (hc : X.calm = true) (hr : Room 2 X.A) (tk : L2.Takes X W) (hg : Gl X c) (hd : (c == ("__debug__" : Str)) = false) (ha : PA X (e :: es) (tAv X.K fs))
    (he : starEach (e :: es) X.env = (false, eval e X.env) :: starEach es X.env) (hpl : (backTo pos (starEach es X.env)).any (·.1) = false) : PS X (.Raise (some (.Call (.Name c p) (e :: es) [] pos)) none pos') (tSv X.K X.mg W (sRai c fl fs)) := by
  obtain ⟨C, fI, fd, h1, h2, h3, h4, h5, h6⟩ := A.ex
  refine PS.imp (L2.ps_raise hc tk (pmk_oex h2 h3 h4 h5 hr h6 .nil (C8.pass0) hg h1 ha hd he hpl)) fun De σ H q => ?_
  obtain ⟨ρ, η, st, fl', st', E, S, e, k⟩ := q
  obtain ⟨p, e1, e2⟩ := bind_some e
  obtain ⟨hlen, e3⟩ := ite_some e2
  cases e3
  refine tAv.one E S e1 fun ρ1 H1 vs g1 S1 r1 => ?_
  have lv : vs.length = fl.length := by rw [← r1.length]; exact hlen
  refine ⟨by have := A.len; omega, fun a na => ⟨a, vs ++ [], rfl, by simpa using lv, upd_same, fun H2 dx hx ne q1 q2 q3 => ⟨rfl, dx, (fl.zip vs).reverse, q1, by simpa using q2, ?_, ?_⟩⟩⟩
  · rw [upd_ne ne] at hx; exact hx
  · rw [upd_ne ne] at hx
    have eH : upd (del H2 a) dx (.xd (fl.zip vs).reverse) = upd H1 dx (.xd (fl.zip vs).reverse) := by
      funext b
      by_cases c1 : b = dx
      · subst c1; rw [upd_same, upd_same]
      · rw [upd_ne c1, upd_ne c1]
        by_cases c2 : b = a
        · subst c2; rw [del_same, na]
        · rw [del_ne c2, q3 b c2 c1, upd_ne c2]
    rw [eH]
    have g2 : Gr X.K ρ1 H1 ρ1 (upd H1 dx (.xd (fl.zip vs).reverse)) := Gr.new hx
    refine k ρ1 _ σ _ _ (g1.trans g2) (S1.new hx) (E.mono (g1.trans g2)) ⟨C, dx, _, h1, rfl, rfl, upd_same, ?_⟩
    exact fdr_zip (DRs.mono g2 r1)
end
end Sim

namespace Sim
open PySem PySem.W L2
theorem chkE {M : Model} {A : Around} {E : Value → Shared → Prop} {s : Shared} {x v : Value} {Q : Unit → Shared → Prop} (sub : Looks M s.heap (isInstance x (Value.type "BaseException")) true) (h : Q () s) :
   wpAny M A (checkBuiltinCall "BaseException.__getattribute__" { pos := [x, v] }) Q E s := by
  have p2 := PySem.W.kin_classE._proof_2
  have p3 := PySem.W.kin_classE._proof_3
  have ag := PySem.F.args_bexc_ga x v
  generalize "BaseException.__getattribute__" = I at *
  have k1 := fun (o n : String) (p3 : splitId I = some (o, n)) => @check_slot M A E s I o n x [v] [] Q p2 p3
  have k := k1 _ _ p3
  have k2 := k sub
  have k3 := k2 ag h
  exact k3
theorem clsE {prog : Program} {w : World} {A : Around} {E : Value → Shared → Prop} {s : Shared}
  {K : PySem.W.Frag} {x D : Addr} {ox od : Obj} {Q : Option Value → Shared → Prop} (c : ExcC K D) (X : K.In s.heap) (I : InstAt s.heap x ox D (some od))
  (h : Q (some (Value.ref D)) { heap := s.heap, gens := s.gens, drawn := s.drawn, toks := s.toks + 1, os := s.os }) : wpAny (model prog w) A (getAttr? (Value.ref x) (Str.ofString "__class__")) Q E s := by
  have hd : (clsIn K D).isSome = true := by
    have hdct := c.hd
    unfold hasDictIn at hdct
    cases q : clsIn K D with
    | none => rw [q] at hdct; cases hdct
    | some cd => rfl
  have hf := findObj_data (od := od) (name := Str.ofString "__class__") hd c.ha c.hn c.ht
  obtain ⟨hp, g, d, t, os⟩ := s
  have L0 : Looks (model prog w) hp (typeOf (Value.ref x)) (Value.ref D) := InstAt.type I
  have L1 := looks_findIn (M := model prog w) X c.hg
  have L2 := looks_findIn (M := model prog w) X c.hk
  have L3 := looks_find (M := model prog w) X I hf
  have sub : Looks (model prog w) hp (isInstance (Value.ref x) (Value.type "BaseException")) true := L0.andThen (looks_subIn X c.hs)
  have hx2 : (Value.builtin "BaseException.__getattribute__" == Value.builtin "object.__getattribute__") = false := by decide
  have hx1 : (onTheHeap (Value.ref D) && (Value.builtin "BaseException.__getattribute__" == Value.builtin "object.__getattribute__")) = false := by rw [hx2]; exact Bool.and_false _
  have hx0 : (Value.ref x == Value.builtin "__main__.__loader__#opaque") = false := rfl
  refine wpAny_bind (wpAny_mkText (wpAny_bind (wpAny_attempt (wpAny_holding (wpAny_bind (L0.at (wpAny_bind (L1.at ?_))))))))
  show wpAny _ _ (if (onTheHeap (Value.ref D) && (Value.builtin "BaseException.__getattribute__" == Value.builtin "object.__getattribute__")) = true then _ else _) _ _ _
  rw [hx1, if_neg Bool.false_ne_true]
  unfold getAttrByItsOwn
  refine wpAny_bind ?_
  unfold hookBefore
  rw [if_pos (show (onTheHeap (Value.ref D)) = true from rfl)]
  refine L2.at (wpAny_bind (wpAny_attempt (wpAny_holding ?_)))
  unfold callGetattribute
  rw [Bool.false_and, if_neg Bool.false_ne_true]
  unfold boundAndCalled
  rw [PySem.F.excAttr_ValueError.ga.bind (Value.ref x)]
  refine wpAny_bind (wpAny_pure ?_)
  show wpAny _ _ (call (Value.builtin "BaseException.__getattribute__") [Value.ref x, Value.str (Str.ofString "__class__") t]) _ _ _
  refine wpAny_call (codeAny_call_builtin PySem.F.excAttr_ValueError.ga.plain PySem.F.entry_bexc_ga ?_)
  refine chkE sub ?_
  refine wpAny_bind (wpAny_of_eq rfl (wpAny_bind (wpAny_pure (wpAny_bind (L0.at ?_)))))
  refine wpAny_bind (L3.at ?_)
  show wpAny _ _ (Builtin.ObjectAttr.bindTo (Value.builtin "getset_descriptor.__get__") (Value.builtin "object.__class__") (Value.ref x) (Value.ref D)) _ _ _
  unfold Builtin.ObjectAttr.bindTo
  refine wpAny_bind (wpAny_holding (wpAny_call (class_get X I c.hm (wpAny_pure ?_))))
  show wpAny _ _ (handedOut (Value.ref D)) _ _ _
  rw [handedOut_of rfl]
  exact wpAny_pure (wpAny_pure h)
end Sim

set_option maxHeartbeats 400000
namespace Sim
open PySem PySem.W L2
theorem kitxE {K : PySem.W.Frag} {x D : Addr} {ox : Obj} (c : ExcC K D) : KitX K (Value.ref x) (Value.ref D) (fun h => ∃ od, InstAt h x ox D (some od)) where
  ty := fun M h _ ⟨od, I⟩ => InstAt.type I
  it := fun M h X _ => by
    have hd := c.hd
    unfold hasDictIn clsIn at hd
    split at hd
    · rename_i cls dict cd slots heq
      intro A' Q' E' s' k q
      exact wpAny_bind (wpAny_loadPart (k D _ (X D _ heq)) (wpAny_pure q))
    · cases hd
  ne := fun h tp dd its n sl X htp => by
    have hd := c.hd
    unfold hasDictIn clsIn at hd
    split at hd
    · rename_i cls dict cd slots heq
      refine Bool.eq_false_iff.mpr fun q => ?_
      have e := Value.ref.inj (beq_iff_eq.mp q)
      subst e
      have z := (X D _ heq).symm.trans htp
      injection z with z
      injection z with z1 z2 z3 z4
      cases z3
    · cases hd
  ca := fun X ⟨od, I⟩ k => clsE c X I k
end Sim
namespace Sim
open PySem PySem.W L2
/-- isinstance of a caught error that keeps something: of one class, of a made row of classes -/
def rIsE2 (K : PySem.W.Frag) (a d D : Addr) (xs : List V) (H : Hp) (Q : VK) : Prop := ∃ (c : V) (b : Bool) (fl : List (Str × V)), xs = [.ref a, c] ∧ H d = some (.xd fl) ∧
  ((∃ cv : Value, (∀ u, RelV c u → u = cv) ∧ kitOne K (.ref D) cv = some b) ∨ ∃ (tp : Addr) (cs : List V) (us : List Value), c = .ref tp ∧ H tp = some (.tup cs) ∧ Paired ClsV cs us ∧ kitAny K (.ref D) us = some b) ∧ Q (.bl b) H
theorem cls_val {cs : List V} {us its : List Value} (h : Paired ClsV cs us) (r : Vals cs its) : its = us := by
  induction h generalizing its with
  | nil => cases r; rfl
  | cons hc _ ih =>
    cases r with
    | cons rv rr =>
      rw [ih rr]
      congr 1
      cases hc with
      | ty n => exact rv
      | own C => exact rv
theorem call_isE2 {X : Cx} {a d D : Addr} {oe : Obj} {pn : List (Addr × Obj)} (C : ExcC X.K D) (hz : Zc (Value.ref D) (some d) oe) (hf : ∃ vs, oe.data = Data.fields vs) :
    CallR (X.suite a ((a, oe) :: pn)) (Value.builtin "isinstance") (rIsE2 X.K a d D) := by
  intro pins s σ H xs us Q I r h
  obtain ⟨c, b, fl, rfl, hd, hc, q⟩ := h
  cases r with
  | cons rx rr =>
    cases rr with
    | cons rc r0 =>
      cases r0
      have rx : _ = Value.ref a := rx
      subst rx
      have hget := (I.pin (a, oe) (List.mem_append_left _ List.mem_cons_self)).1
      have hok := I.hok d _ hd
      have hok : ∃ mA, s.heap.Ns1 d mA ∧ ∀ (f : Str), RelO (List.lookup f fl) (mA f) := hok
      obtain ⟨mA, ⟨od, es, ep, ho, _⟩, _⟩ := hok
      have J : ∃ od, InstAt s.heap a oe D (some od) := by
        refine ⟨od, hget, hz.1, ?_, ?_⟩
        · obtain ⟨vs, hv⟩ := hf
          unfold notCls
          rw [hv]
        · rw [hz.2]; exact ho
      have fin : ∀ tk : Nat, EP (X.suite a ((a, oe) :: pn)) pins σ Q (Value.bool b) { heap := s.heap, gens := s.gens, drawn := s.drawn, toks := tk, os := s.os } := fun tk => ⟨.bl b, H, I.kept fun _ _ z => z, rfl, q⟩
      rcases hc with ⟨cv, e1, e2⟩ | ⟨tp, cs, us, rfl, e1, e2, e3⟩
      · rw [e1 _ rc]
        exact kia_one (kitxE C) I.kIn J e2 (fun z => nomatch z) fin
      · have rc : _ = Value.ref tp := rc
        subst rc
        obtain ⟨_, its, vi, ot, h1, h2, n, h3⟩ : cs.length ≤ sizeLine ∧ ∃ its, Vals cs its ∧ PyProof.Rows.IsTup s.heap tp its.toArray := I.hok tp _ e1
        have e := cls_val e2 vi
        subst e
        obtain ⟨cl, dd, da, sl⟩ := ot
        have h2 : cl = Value.type "tuple" := h2
        have h3 : da = Data.seq its.toArray n := h3
        subst h2 h3
        exact kia_tup (kitxE C) I.kIn J h1 e3 (fun z => nomatch z) fin
end Sim

namespace Sim
open PySem PySem.W L2
noncomputable section
/-! ### what an except suite does with the error that it names -/
/-- where the error stands: its address, its dict, its class, its slot -/
structure HX where
  a : Addr
  d : Addr
  C : Addr
  i : Nat
def RHx (K : Frg) (c : HX) (e : Ex) (ρ : Rho) (η : LocD) (st : Sto) (σ : L2.St) (H : Hp) : Prop := ER K ρ H η σ ∧ SR K ρ st H ∧ σ[c.i]? = some (some (.ref c.a)) ∧ ∃ vs, H c.d = some (.xd vs) ∧ FDR K ρ H e.fs vs
def hE (K : Frg) (c : HX) (e : Ex) (f : SemE) : TE := fun σ H Q => ∃ ρ η st dd st', RHx K c e ρ η st σ H ∧ f η st = some (dd, st') ∧ ∀ ρ' H' v, Gr K ρ H ρ' H' → RHx K c e ρ' η st' σ H' → DR K ρ' H' dd v → Q v H'
def hA (K : Frg) (c : HX) (e : Ex) (f : SemA) : TA := fun σ H Q => ∃ ρ η st ds st', RHx K c e ρ η st σ H ∧ f η st = some (ds, st') ∧ ∀ ρ' H' vs, Gr K ρ H ρ' H' → RHx K c e ρ' η st' σ H' → DRs K ρ' H' ds vs → Q vs H'
def hT (K : Frg) (c : HX) (e : Ex) (f : SemT) : TT := fun σ H Q => ∃ ρ η st b st', RHx K c e ρ η st σ H ∧ f η st = some (b, st') ∧ ∀ ρ' H', Gr K ρ H ρ' H' → RHx K c e ρ' η st' σ H' → Q b H'
def PostH (K : Frg) (c : HX) (e : Ex) (ρ : Rho) (H : Hp) (De : Ends) (fl : Fl) (st : Sto) : Prop := match fl with
  | .nx η => ∀ ρ' H' σ', Gr K ρ H ρ' H' → RHx K c e ρ' η st σ' H' → De.nx σ' H'
  | .rt d => ∀ ρ' H' v, Gr K ρ H ρ' H' → SR K ρ' st H' → DR K ρ' H' d v → De.rt v H'
  | _ => False
def hS (K : Frg) (c : HX) (e : Ex) (g : SemS) : TS := fun De σ H => ∃ ρ η st fl st', RHx K c e ρ η st σ H ∧ g η st = some (fl, st') ∧ PostH K c e ρ H De fl st'
theorem PostH.pre {K : Frg} {c : HX} {e : Ex} {ρ ρ' : Rho} {H H' : Hp} {De : Ends} {fl : Fl} {st : Sto} (h : PostH K c e ρ H De fl st) (g : Gr K ρ H ρ' H') : PostH K c e ρ' H' De fl st := by
  cases fl with
  | nx η => exact fun ρ2 H2 σ2 g2 s => h ρ2 H2 σ2 (g.trans g2) s
  | rt d => exact fun ρ2 H2 v g2 s r => h ρ2 H2 v (g.trans g2) s r
  | _ => exact h.elim
theorem FDR.mono {K : Frg} {ρ ρ' : Rho} {H H' : Hp} (g : Gr K ρ H ρ' H') : ∀ {a : List (Str × D)} {b : List (Str × V)}, FDR K ρ H a b → FDR K ρ' H' a b
  | [], [], _ => trivial
  | _ :: _, _ :: _, h => ⟨h.1, h.2.1.mono g, FDR.mono g h.2.2⟩
theorem FDR.look {K : Frg} {ρ : Rho} {H : Hp} {f : Str} {x : D} : ∀ {a : List (Str × D)} {b : List (Str × V)}, FDR K ρ H a b → lookD f a = some x → ∃ v, List.lookup f b = some v ∧ DR K ρ H x v
  | [], [], _, h => by cases h
  | p :: a, q :: b, r, h => by
    unfold lookD at h
    by_cases c : p.1 = f
    · rw [if_pos c] at h
      cases h
      refine ⟨q.2, ?_, r.2.1⟩
      obtain ⟨q1, q2⟩ := q
      have e : q1 = f := r.1.symm.trans c
      rw [List.lookup_cons, e]
      simp
    · rw [if_neg c] at h
      obtain ⟨v, h1, h2⟩ := FDR.look r.2.2 h
      refine ⟨v, ?_, h2⟩
      obtain ⟨q1, q2⟩ := q
      have e : ¬ q1 = f := fun z => c (r.1.trans z)
      rw [List.lookup_cons]
      have e2 : (f == q1) = false := beq_eq_false_iff_ne.mpr fun z => e z.symm
      rw [e2]
      exact h1
/-- a new tuple beside -/
theorem RHx.tup {K : Frg} {c : HX} {e : Ex} {ρ : Rho} {η : LocD} {st : Sto} {σ : L2.St} {H : Hp} (R : RHx K c e ρ η st σ H) {p : Addr} (hp : H p = none) (vs : List V) : RHx K c e ρ η st σ (upd H p (.tup vs)) := by
  obtain ⟨E, S, h, ws, h1, h2⟩ := R
  exact ⟨E.mono (Gr.new hp), S.new hp, h, ws, by rw [upd_ne (ne_of_none h1 hp)]; exact h1, h2.mono (Gr.new hp)⟩
/-- whether an error is of a class that is named -/
def isaE (l : List (Str × Str × Bool)) (a : Str) : List Str → Option Bool
  | [] => some false
  | c :: r => (exmOf l a c).bind fun b => if b = true then some true else isaE l a r
/-- a class that is named: what it stands for -/
structure ClN (X : Cx) (x : Str) (v : V) (cv : Value) : Prop where
  gl : Gl X x
  rel : ClsV v cv
  at' : X.mg x = some cv ∨ X.mg x = none ∧ bootBuiltins x = some cv
theorem ClN.pe {X : Cx} {x : Str} {v : V} {cv : Value} (h : ClN X x v cv) (hn : nmOk x = true) {p : Pos} : PE X (.Name x p) (tC v) := by
  obtain ⟨h1, h2, h3⟩ := nmOk_ok hn
  have r : RelV v cv := by
    cases h.rel with
    | ty n => rfl
    | own C => rfl
  rcases h.at' with q | ⟨q1, q2⟩
  · exact pe_glob h.gl q r h1
  · exact pe_bltn h.gl q1 q2 r h3 h1
section
variable {X : Cx} {c : HX} {e : Ex} {oe : Obj} {pn : List (Addr × Obj)}
theorem he_const {k : Const} {f : SemE} {j : Nat} {pos : Pos} (h : compC k = some f) : PE X (.Constant k j pos) (hE X.K c e f) := by
  have go : ∀ (v : V) (d : D), (∀ ρ H, DR X.K ρ H d v) → PE X (.Constant k j pos) (tC v) → f = fC d → PE X (.Constant k j pos) (hE X.K c e f) := fun v d r p e => by
    subst e
    refine PE.imp p fun σ H Q q => ?_
    obtain ⟨ρ, η, st, d', st', R, e, k⟩ := q
    cases e
    exact k ρ H v (Gr.refl _ _ _) R (r _ _)
  cases k <;> first | (cases h; done) | skip
  · cases h; exact go .non .non (fun _ _ => .non) pe_non rfl
  · cases h; exact go (.bl _) (.bl _) (fun _ _ => .bl _) pe_bl rfl
  · cases h; exact go (.int _) (.int _) (fun _ _ => .int _) pe_int rfl
  · cases h; exact go (.str _) (.str _) (fun _ _ => .str _) pe_str rfl
theorem he_var {x : Str} {j : Nat} {pos : Pos} (hj : X.N[j]? = some x) (hv : Vis X.env.scope x) (hn : nmOk x = true) : PE X (.Name x pos) (hE X.K c e (fVar j)) := by
  obtain ⟨h1, h2, h3⟩ := nmOk_ok hn
  refine PE.imp (pe_var (i := j) hj hv h1 h2) fun σ H Q q => ?_
  obtain ⟨ρ, η, st, d, st', R, e, k⟩ := q
  unfold fVar at e
  split at e
  · cases e
    rename_i hη
    obtain ⟨v, hv, r⟩ := R.1.2 _ _ hη
    exact ⟨v, hv, k ρ H v (Gr.refl _ _ _) R r⟩
  · cases e
def lookE (c : Str) : List (Str × List Str) → Option (List Str)
  | [] => none
  | (x, fl) :: r => if x = c then some fl else lookE c r
/-- the error's own field -/
def fFld (t : List (Str × List Str)) (a : Str) (l : List (Str × D)) (f : Str) : SemE := fun _ st => (lookE a t).bind fun fl => if f ∈ fl then (lookD f l).map fun d => (d, st) else none
theorem he_fld {t : List (Str × List Str)} {x f : Str} {p pos : Pos} (T : XfC X.K c.C) (hno : findIn X.K (Value.ref c.C) f = some none) (hz : Zc (Value.ref c.C) (some c.d) oe) (hf : ∃ vs, oe.data = Data.fields vs) (hi : X.N[c.i]? = some x) (hv : Vis X.env.scope x) (hn : nmOk x = true)
    (ab : attributeBase (.Name x p) f X.env (eval (.Name x p) X.env) = eval (.Name x p) X.env) : PE (X.suite c.a ((c.a, oe) :: pn)) (.Attribute (.Name x p) f pos) (hE X.K c e (fFld t e.cls e.fs f)) := by
  obtain ⟨h1, h2, h3⟩ := nmOk_ok hn
  refine PE.imp (pe_xf T hno hz hf (pe_var (i := c.i) hi hv h1 h2) ab) fun σ H Q q => ?_
  obtain ⟨ρ, η, st, d, st', R, eq0, k⟩ := q
  obtain ⟨fl, _, eq1⟩ := bind_some eq0
  obtain ⟨_, eq2⟩ := ite_some eq1
  obtain ⟨d0, e1, e2⟩ := map_some' eq2
  cases e2
  have R' := R
  obtain ⟨_, _, h, ws, w1, w2⟩ := R'
  obtain ⟨v, l1, l2⟩ := w2.look e1
  exact ⟨.ref c.a, h, rfl, rfl, c.d, ws, v, rfl, w1, l1, k ρ H v (Gr.refl _ _ _) R l2⟩
def fIsa (l : List (Str × Str × Bool)) (a : Str) (cs : List Str) : SemE := fun _ st => (isaE l a cs).map fun b => (.bl b, st)
/-- what is asked of the error's class -/
structure IsaOk (X : Cx) (l : List (Str × Str × Bool)) (a : Str) (C : Addr) : Prop where
  ec : ExcC X.K C
  is : ∀ c b v cv, exmOf l a c = some b → ClN X c v cv → kitOne X.K (.ref C) cv = some b
theorem he_isa {l : List (Str × Str × Bool)} {x y : Str} {v : V} {cv : Value} {p p1 p2 pos : Pos} (O : IsaOk X l e.cls c.C) (hz : Zc (Value.ref c.C) (some c.d) oe) (hf : ∃ vs, oe.data = Data.fields vs) (hi : X.N[c.i]? = some x) (hv : Vis X.env.scope x) (hn : nmOk x = true)
    (gi : Gl X "isinstance") (mi : X.mg "isinstance" = none) (hy : ClN X y v cv) (hny : nmOk y = true) : PE (X.suite c.a ((c.a, oe) :: pn)) (.Call (.Name "isinstance" p) [.Name x p1, .Name y p2] [] pos) (hE X.K c e (fIsa l e.cls [y])) := by
  obtain ⟨h1, h2, h3⟩ := nmOk_ok hn
  refine PE.imp (pe_callB (call_isE2 (X := X) O.ec hz hf) gi mi boot_isi (pa_cons (pe_var (i := c.i) hi hv h1 h2) (pa_cons (ClN.pe (X := X.suite c.a ((c.a, oe) :: pn)) ⟨hy.gl, hy.rel, hy.at'⟩ hny) pa_nil rfl) rfl) (by decide) (by decide) rfl rfl) fun σ H Q q => ?_
  obtain ⟨ρ, η, st, d, st', R, eq0, k⟩ := q
  obtain ⟨b, e1, e2⟩ := map_some' eq0
  cases e2
  have e1 : exmOf l e.cls y = some b := by
    unfold isaE at e1
    obtain ⟨b', q1, q2⟩ := bind_some e1
    by_cases hb : b' = true
    · rw [if_pos hb] at q2; cases q2; rw [q1, hb]
    · rw [if_neg hb] at q2; cases q2; rw [q1]; cases b' <;> first | rfl | exact absurd rfl hb
  have R' := R
  obtain ⟨_, _, h, ws, w1, w2⟩ := R'
  refine ⟨.ref c.a, h, v, b, ws, rfl, w1, .inl ⟨cv, ?_, O.is _ _ _ _ e1 hy⟩, k ρ H _ (Gr.refl _ _ _) R (.bl b)⟩
  intro u ru
  cases hy.rel with
  | ty n => exact ru
  | own C => exact ru
/-- a row of classes -/
def namesOf : List Expr → Option (List Str)
  | [] => some []
  | .Name x _ :: r => if nmOk x = true then (namesOf r).map fun l => x :: l else none
  | _ => none
inductive ClNs (X : Cx) : List Str → List V → List Value → Prop where
  | nil : ClNs X [] [] []
  | cons {x : Str} {v : V} {cv : Value} {xs : List Str} {vs : List V} {cvs : List Value} : ClN X x v cv → ClNs X xs vs cvs → ClNs X (x :: xs) (v :: vs) (cv :: cvs)
theorem ClNs.par {X : Cx} {xs : List Str} {vs : List V} {cvs : List Value} (h : ClNs X xs vs cvs) : Paired ClsV vs cvs := by
  induction h with
  | nil => exact .nil
  | cons h _ ih => exact .cons h.rel ih
theorem ClNs.len {X : Cx} {xs : List Str} {vs : List V} {cvs : List Value} (h : ClNs X xs vs cvs) : vs.length = xs.length := by
  induction h with
  | nil => rfl
  | cons h _ ih => rw [List.length_cons, List.length_cons, ih]
theorem ClNs.suite {X : Cx} {a : Addr} {pn : List (Addr × Obj)} {xs : List Str} {vs : List V} {cvs : List Value} (h : ClNs X xs vs cvs) : ClNs (X.suite a pn) xs vs cvs := by
  induction h with
  | nil => exact .nil
  | cons h _ ih => exact .cons ⟨h.gl, h.rel, h.at'⟩ ih
theorem pa_cls {X : Cx} : ∀ {es : List Expr} {xs : List Str} {vs : List V} {cvs : List Value}, namesOf es = some xs → ClNs X xs vs cvs → PA X es (fun σ H Q => Q vs H)
  | [], xs, vs, cvs, h, q => by
    cases h; cases q
    exact pa_nil
  | .Name x p :: r, xs, vs, cvs, h, q => by
    unfold namesOf at h
    obtain ⟨hn, h2⟩ := ite_some h
    obtain ⟨l, e1, e2⟩ := map_some' h2
    subst e2
    cases q with
    | cons q1 q2 => exact PA.imp (pa_cons (q1.pe hn) (pa_cls e1 q2) rfl) fun σ H Q k => k
theorem isa_any {l : List (Str × Str × Bool)} {a : Str} {C : Addr} (O : IsaOk X l a C) : ∀ {xs : List Str} {vs : List V} {cvs : List Value} {b : Bool}, ClNs X xs vs cvs → isaE l a xs = some b → kitAny X.K (.ref C) cvs = some b
  | [], _, _, b, h, e => by cases h; cases e; rfl
  | x :: xs, _, _, b, h, e => by
    cases h with
    | cons h1 h2 =>
      unfold isaE at e
      obtain ⟨b', q1, q2⟩ := bind_some e
      have k := O.is _ _ _ _ q1 h1
      show (match kitOne X.K (.ref C) _ with
        | some true => some true
        | some false => kitAny X.K (.ref C) _
        | none => none) = some b
      rw [k]
      by_cases hb : b' = true
      · rw [if_pos hb] at q2; cases q2; rw [hb]
      · rw [if_neg hb] at q2
        cases b' with
        | true => exact absurd rfl hb
        | false => exact isa_any O h2 q2
theorem he_isas {l : List (Str × Str × Bool)} {x : Str} {es : List Expr} {ys : List Str} {vs : List V} {cvs : List Value} {p p1 p2 pos : Pos} {j : Nat} (O : IsaOk X l e.cls c.C) (hz : Zc (Value.ref c.C) (some c.d) oe) (hf : ∃ vs, oe.data = Data.fields vs) (hi : X.N[c.i]? = some x) (hv : Vis X.env.scope x) (hn : nmOk x = true)
    (gi : Gl X "isinstance") (mi : X.mg "isinstance" = none) (hy : namesOf es = some ys) (hc : ClNs X ys vs cvs) (hl : ys.length ≤ 100) : PE (X.suite c.a ((c.a, oe) :: pn)) (.Call (.Name "isinstance" p) [.Name x p1, .Tuple es j p2] [] pos) (hE X.K c e (fIsa l e.cls ys)) := by
  obtain ⟨h1, h2, h3⟩ := nmOk_ok hn
  refine PE.imp (pe_callB (call_isE2 (X := X) O.ec hz hf) gi mi boot_isi (pa_cons (pe_var (i := c.i) hi hv h1 h2) (pa_cons (pe_tup (pa_cls (X := X.suite c.a ((c.a, oe) :: pn)) hy hc.suite)) pa_nil rfl) rfl) (by decide) (by decide) rfl rfl) fun σ H Q q => ?_
  obtain ⟨ρ, η, st, d, st', R, eq0, k⟩ := q
  obtain ⟨b, e1, e2⟩ := map_some' eq0
  cases e2
  have R' := R
  obtain ⟨_, _, h, ws, w1, w2⟩ := R'
  refine ⟨.ref c.a, h, by rw [hc.len]; exact Nat.le_trans hl (by decide), fun t ht => ⟨.ref t, b, ws, rfl, by rw [upd_ne (ne_of_none w1 ht)]; exact w1, .inr ⟨t, vs, cvs, rfl, upd_same, hc.par, isa_any O hc e1⟩, k ρ _ _ (Gr.new ht) (R.tup ht _) (.bl b)⟩⟩
end
end
end Sim

namespace Sim
open PySem PySem.W L2
noncomputable section
/-! ### the suites that are carried -/
def notComp : Expr → Bool
  | .ListComp _ _ _ _ => false
  | .SetComp _ _ _ _ => false
  | .DictComp _ _ _ _ _ => false
  | _ => true
theorem sw_no {e : Expr} {t : Option Expr} {l : Nat} {env : Env} (h : notComp e = true) : swapsWith e t l env = pure false := by
  cases e <;> first | rfl | (cases h; done)
def clB (S : Sx) (c : Str) : Bool := nmOk c && glB S.sc c && S.exm.any (fun t => t.2.1 == c)
def hcE (S : Sx) (n : Str) : Expr → Option (Ex → SemE)
  | .Constant k _ _ => (compC k).map fun f _ => f
  | .Name x _ => if x ≠ n ∧ nmOk x = true ∧ visB S.sc x = true then (ixOf x S.N).map fun j _ => fVar j else none
  | .Attribute (.Name y _) f _ => if y = n then some fun e => fFld S.exs e.cls e.fs f else none
  | .Call (.Name i _) [.Name y _, .Name c _] [] _ => if i = "isinstance" ∧ glB S.sc i = true ∧ i ∈ S.blt ∧ y = n ∧ clB S c = true then some fun e => fIsa S.exm e.cls [c] else none
  | .Call (.Name i _) [.Name y _, .Tuple es _ _] [] _ => if i = "isinstance" ∧ glB S.sc i = true ∧ i ∈ S.blt ∧ y = n then (namesOf es).bind fun l => if l.all (clB S) = true ∧ l.length ≤ 100 then some fun e => fIsa S.exm e.cls l else none else none
  | _ => none
def hcA (S : Sx) (n : Str) : List Expr → Option (Ex → SemA)
  | [] => some fun _ => fNil
  | e :: r => if notStar e = true then (hcE S n e).bind fun fe => (hcA S n r).map fun fr x => fCons (fe x) (fr x) else none
def isNC : Expr → Bool
  | .Name _ _ => true
  | .Call _ _ _ _ => true
  | _ => false
def hcT1 (S : Sx) (n : Str) : Expr → Option (Ex → SemT)
  | .UnaryOp .Not a _ => if isNC a = true then (hcE S n a).map fun f x => gNot (gTru (f x)) else none
  | e => if isNC e = true then (hcE S n e).map fun f x => gTru (f x) else none
def hcW (S : Sx) (n : Str) : List Expr → Option (Ex → SemT)
  | [] => none
  | [a] => hcT1 S n a
  | a :: b :: r => (hcT1 S n a).bind fun fa => (hcW S n (b :: r)).map fun fb x => gAnd (fa x) (fb x)
def hcT (S : Sx) (n : Str) : Expr → Option (Ex → SemT)
  | .BoolOp .And vs _ => hcW S n vs
  | e => hcT1 S n e
def hcX (S : Sx) (n : Str) : Expr → Option (Ex → SemE)
  | .Tuple es _ _ => (hcA S n es).map fun f x => fTup (f x)
  | e => hcE S n e
def hcR (S : Sx) (n : Str) : Stmt → Option (Ex → SemS)
  | .Return (some e) _ => (hcX S n e).map fun f x => sRet (f x)
  | .Assign [.Name y _] e _ => if notComp e = true ∧ locB S y = true ∧ y ≠ n then (ixOf y S.N).bind fun j => (hcX S n e).map fun f x => sAsg (f x) (gvName j) else none
  | _ => none
def hcS (S : Sx) (n : Str) : Stmt → Option (Ex → SemS)
  | .If t [b] [] _ => (hcT S n t).bind fun ft => (hcR S n b).map fun fb x => sIf (ft x) (sSeq (fb x) sNil) sNil
  | s => hcR S n s
def hcB (S : Sx) (n : Str) : List Stmt → Option (Ex → SemS)
  | [] => some fun _ => sNil
  | s :: r => (hcS S n s).bind fun f => (hcB S n r).map fun g x => sSeq (f x) (g x)
/-- what is known where a suite begins -/
structure Hh (X : Cx) (S : Sx) (c : HX) (e : Ex) (oe : Obj) (pn : List (Addr × Obj)) (n : Str) : Prop where
  G : Gx X S
  ni : ixOf n S.N = some c.i
  nv : visB S.sc n = true
  nn : nmOk n = true
  is : IsaOk X S.exm e.cls c.C
  T : XfC X.K c.C
  fld : ∀ f fl, lookE e.cls S.exs = some fl → f ∈ fl → findIn X.K (Value.ref c.C) f = some none
  hz : Zc (Value.ref c.C) (some c.d) oe
  hf : ∃ vs, oe.data = Data.fields vs
  cl : ∀ x, clB S x = true → ∃ v cv, ClN X x v cv
  gi : ∀ x, x ∈ S.blt → X.mg x = none
section
variable {X : Cx} {S : Sx} {c : HX} {e : Ex} {oe : Obj} {pn : List (Addr × Obj)} {n : Str}
theorem Hh.cls (h : Hh X S c e oe pn n) : ∀ {l : List Str}, l.all (clB S) = true → ∃ vs cvs, ClNs X l vs cvs
  | [], _ => ⟨[], [], .nil⟩
  | x :: r, q => by
    rw [List.all_cons, Bool.and_eq_true] at q
    obtain ⟨v, cv, h1⟩ := h.cl x q.1
    obtain ⟨vs, cvs, h2⟩ := h.cls q.2
    exact ⟨v :: vs, cv :: cvs, .cons h1 h2⟩
theorem ok_hcE (h : Hh X S c e oe pn n) {a : Expr} {f : Ex → SemE} (q : hcE S n a = some f) : PE (X.suite c.a ((c.a, oe) :: pn)) a (hE X.K c e (f e)) := by
  have hi : X.N[c.i]? = some n := by rw [h.G.hN]; exact ixOf_get h.ni
  have hv : Vis X.env.scope n := by rw [h.G.sc]; exact visB_ok h.nv
  unfold hcE at q
  split at q
  · obtain ⟨g, e1, e2⟩ := map_some' q
    subst e2
    exact he_const (X := X.suite c.a ((c.a, oe) :: pn)) e1
  · obtain ⟨⟨c1, c2, c3⟩, q2⟩ := ite_some q
    obtain ⟨j, e1, e2⟩ := map_some' q2
    subst e2
    exact he_var (X := X.suite c.a ((c.a, oe) :: pn)) (show X.N[j]? = _ by rw [h.G.hN]; exact ixOf_get e1) (show Vis X.env.scope _ by rw [h.G.sc]; exact visB_ok c3) c2
  · rename_i y p f' pos
    obtain ⟨c1, q2⟩ := ite_some q
    cases q2
    subst c1
    by_cases hl : ∃ fl, lookE e.cls S.exs = some fl ∧ f' ∈ fl
    · obtain ⟨fl, l1, l2⟩ := hl
      exact he_fld h.T (h.fld _ _ l1 l2) h.hz h.hf hi hv h.nn (attrB rfl)
    · refine ⟨fun pins s σ H Q I k => ?_⟩
      obtain ⟨ρ, η, st, d, st', R, eq0, k⟩ := k
      obtain ⟨fl, q1, q2⟩ := bind_some eq0
      obtain ⟨q3, _⟩ := ite_some q2
      exact absurd ⟨fl, q1, q3⟩ hl
  · obtain ⟨⟨c1, c2, c3, c4, c5⟩, q2⟩ := ite_some q
    cases q2
    subst c1 c4
    obtain ⟨v, cv, h1⟩ := h.cl _ c5
    have c5' := c5
    unfold clB at c5'
    simp only [Bool.and_eq_true] at c5'
    exact he_isa h.is h.hz h.hf hi hv h.nn (glB_ok h.G c2) (h.gi _ c3) h1 c5'.1.1
  · obtain ⟨⟨c1, c2, c3, c4⟩, q2⟩ := ite_some q
    obtain ⟨l, e1, q3⟩ := bind_some q2
    obtain ⟨⟨c5, c6⟩, q4⟩ := ite_some q3
    cases q4
    subst c1 c4
    obtain ⟨vs, cvs, h1⟩ := h.cls c5
    exact he_isas h.is h.hz h.hf hi hv h.nn (glB_ok h.G c2) (h.gi _ c3) e1 h1 c6
  · cases q
theorem ok_hcA (h : Hh X S c e oe pn n) : ∀ {es : List Expr} {f : Ex → SemA}, hcA S n es = some f → PA (X.suite c.a ((c.a, oe) :: pn)) es (hA X.K c e (f e))
  | [], f, q => by
    cases q
    refine PA.imp pa_nil fun σ H Q k => ?_
    obtain ⟨ρ, η, st, ds, st', R, eq0, k⟩ := k
    cases eq0
    exact k ρ H [] (Gr.refl _ _ _) R .nil
  | a :: r, f, q => by
    unfold hcA at q
    obtain ⟨c1, q2⟩ := ite_some q
    obtain ⟨fe, e1, q3⟩ := bind_some q2
    obtain ⟨fr, e2, e3⟩ := map_some' q3
    subst e3
    refine PA.imp (pa_cons (ok_hcE h e1) (ok_hcA h e2) (star1 c1)) fun σ H Q k => ?_
    obtain ⟨ρ, η, st, ds, st', R, eq0, k⟩ := k
    obtain ⟨p, q1, q4⟩ := bind_some eq0
    obtain ⟨z, q5, q6⟩ := map_some' q4
    cases q6
    exact ⟨ρ, η, st, p.1, p.2, R, q1, fun ρ1 H1 v g1 R1 r1 => ⟨ρ1, η, p.2, z.1, z.2, R1, q5, fun ρ2 H2 vs g2 R2 r2 => k ρ2 H2 _ (g1.trans g2) R2 (.cons (r1.mono g2) r2)⟩⟩
theorem ok_hcX (h : Hh X S c e oe pn n) {a : Expr} {f : Ex → SemE} (q : hcX S n a = some f) : PE (X.suite c.a ((c.a, oe) :: pn)) a (hE X.K c e (f e)) := by
  unfold hcX at q
  split at q
  · obtain ⟨g, e1, e2⟩ := map_some' q
    subst e2
    refine PE.imp (pe_tup (ok_hcA h e1)) fun σ H Q k => ?_
    obtain ⟨ρ, η, st, d, st', R, eq0, k⟩ := k
    obtain ⟨p, q1, q2⟩ := bind_some eq0
    obtain ⟨c1, q3⟩ := ite_some q2
    cases q3
    exact ⟨ρ, η, st, p.1, p.2, R, q1, fun ρ1 H1 vs g1 R1 r1 => ⟨by rw [← r1.length]; exact most_line c1, fun t ht => k ρ1 _ _ (g1.trans (Gr.new ht)) (R1.tup ht _) (.tup upd_same (r1.mono (Gr.new ht)))⟩⟩
  · exact ok_hcE h q
theorem hE_tru {X : Cx} {a : Expr} {fa : SemE} (ha : PE X a (hE X.K c e fa)) (he : ∀ whole, isTrue a X.env whole = (do let v ← whole; standAt a.pos; holding [v] (truthy v))) : PT X a (hT X.K c e (gTru fa)) := by
  refine PT.imp (pt_truth ha he) fun σ H Q k => ?_
  obtain ⟨ρ, η, st, b, st', R, eq0, k⟩ := k
  obtain ⟨p, e1, e2⟩ := bind_some eq0
  obtain ⟨c0, e3, e4⟩ := map_some' e2
  cases e4
  exact ⟨ρ, η, st, p.1, p.2, R, e1, fun ρ1 H1 v g1 R1 r1 => ⟨b, truth_ok R1.2.1 r1 e3, k ρ1 H1 g1 R1⟩⟩
theorem ok_nc (h : Hh X S c e oe pn n) {a : Expr} {f : Ex → SemE} (hn : isNC a = true) (q : hcE S n a = some f) : PT (X.suite c.a ((c.a, oe) :: pn)) a (hT X.K c e (gTru (f e))) := by
  have p := ok_hcE h q
  cases a <;> first | (cases hn; done) | exact hE_tru (X := X.suite c.a ((c.a, oe) :: pn)) p fun _ => rfl
theorem ok_hcT1 (h : Hh X S c e oe pn n) {a : Expr} {f : Ex → SemT} (q : hcT1 S n a = some f) : PT (X.suite c.a ((c.a, oe) :: pn)) a (hT X.K c e (f e)) := by
  unfold hcT1 at q
  split at q
  · obtain ⟨c1, q2⟩ := ite_some q
    obtain ⟨g, e1, e2⟩ := map_some' q2
    subst e2
    refine PT.imp (pt_not (ok_nc h c1 e1)) fun σ H Q k => ?_
    obtain ⟨ρ, η, st, b, st', R, eq0, k⟩ := k
    obtain ⟨p, q1, q3⟩ := map_some' eq0
    cases q3
    exact ⟨ρ, η, st, p.1, p.2, R, q1, fun ρ1 H1 g1 R1 => k ρ1 H1 g1 R1⟩
  · obtain ⟨c1, q2⟩ := ite_some q
    obtain ⟨g, e1, e2⟩ := map_some' q2
    subst e2
    exact ok_nc h c1 e1
theorem ok_hcW (h : Hh X S c e oe pn n) {pos : Pos} : ∀ {vs : List Expr} {f : Ex → SemT}, hcW S n vs = some f → PW (X.suite c.a ((c.a, oe) :: pn)) (.BoolOp .And vs pos) (hT X.K c e (f e))
  | [], _, q => by cases q
  | [a], f, q => pw_and1 (ok_hcT1 h q)
  | a :: b :: r, f, q => by
    unfold hcW at q
    obtain ⟨fa, e1, q2⟩ := bind_some q
    obtain ⟨fb, e2, e3⟩ := map_some' q2
    subst e3
    refine PW.imp (pw_and (ok_hcT1 h e1) (ok_hcW h e2)) fun σ H Q k => ?_
    obtain ⟨ρ, η, st, b0, st', R, eq0, k⟩ := k
    obtain ⟨p, q1, q3⟩ := bind_some eq0
    refine ⟨ρ, η, st, p.1, p.2, R, q1, fun ρ1 H1 g1 R1 => ?_⟩
    cases hp : p.1 with
    | true => rw [hp, if_pos rfl] at q3; rw [if_pos rfl]; exact ⟨ρ1, η, p.2, b0, st', R1, q3, fun ρ2 H2 g2 R2 => k ρ2 H2 (g1.trans g2) R2⟩
    | false => rw [hp, if_neg Bool.false_ne_true] at q3; rw [if_neg Bool.false_ne_true]; cases q3; exact k ρ1 H1 g1 R1
theorem ok_hcT (h : Hh X S c e oe pn n) {a : Expr} {f : Ex → SemT} (q : hcT S n a = some f) : PT (X.suite c.a ((c.a, oe) :: pn)) a (hT X.K c e (f e)) := by
  unfold hcT at q
  split at q
  · exact (ok_hcW h q).pt
  · exact ok_hcT1 h q
theorem RHx.set {K : Frg} {ρ : Rho} {η : LocD} {st : Sto} {σ : L2.St} {H : Hp} (R : RHx K c e ρ η st σ H) {d : D} {v : V} (r : DR K ρ H d v) {j : Nat} (hj : j ≠ c.i) : RHx K c e ρ (η.set j (some d)) st (σ.set j (some v)) H :=
  ⟨R.1.set r j, R.2.1, by rw [List.getElem?_set_ne hj]; exact R.2.2.1, R.2.2.2⟩
theorem ok_hcR (h : Hh X S c e oe pn n) {s : Stmt} {f : Ex → SemS} (q : hcR S n s = some f) : PS (X.suite c.a ((c.a, oe) :: pn)) s (hS X.K c e (f e)) := by
  unfold hcR at q
  split at q
  · obtain ⟨g, e1, e2⟩ := map_some' q
    subst e2
    refine PS.imp (ps_ret (ok_hcX h e1)) fun De σ H k => ?_
    obtain ⟨ρ, η, st, fl, st', R, eq0, k⟩ := k
    obtain ⟨p, q1, q2⟩ := map_some' eq0
    cases q2
    exact ⟨ρ, η, st, p.1, p.2, R, q1, fun ρ1 H1 v g1 R1 r1 => k ρ1 H1 v g1 R1.2.1 r1⟩
  · rename_i y py a pos
    obtain ⟨⟨c1, c2, c3⟩, q2⟩ := ite_some q
    obtain ⟨j, e0, q3⟩ := bind_some q2
    obtain ⟨g, e1, e2⟩ := map_some' q3
    subst e2
    have G' : Gx (X.suite c.a ((c.a, oe) :: pn)) S := ⟨h.G.hN, h.G.nd, h.G.sc, h.G.fn⟩
    obtain ⟨l1, l2⟩ := locB_ok G' c2
    have hj : j ≠ c.i := fun z => by
      have h1 := ixOf_get e0
      have h2 := ixOf_get h.ni
      rw [z, h2] at h1
      exact c3 (Option.some.inj h1).symm
    refine PS.imp (ps_set (by rw [G'.hN]; exact G'.nd) (by rw [G'.hN]; exact ixOf_get e0) l1 (ok_hcX h e1) (sw_no c1) l2) fun De σ H k => ?_
    obtain ⟨ρ, η, st, fl, st', R, eq0, k⟩ := k
    obtain ⟨p, q1, q2⟩ := bind_some eq0
    obtain ⟨η', q4, q5⟩ := map_some' q2
    cases q5; cases q4
    exact ⟨ρ, η, st, p.1, p.2, R, q1, fun ρ1 H1 v g1 R1 r1 => k ρ1 H1 _ g1 (R1.set r1 hj)⟩
  · cases q
theorem hs_nil : PSs X [] (hS X.K c e sNil) := PSs.imp pss_nil fun De σ H k => by
  obtain ⟨ρ, η, st, fl, st', R, eq0, k⟩ := k
  cases eq0
  exact k ρ H σ (Gr.refl _ _ _) R
theorem hs_cons {s : Stmt} {r : List Stmt} {f g : SemS} (h1 : PS X s (hS X.K c e f)) (h2 : PSs X r (hS X.K c e g)) : PSs X (s :: r) (hS X.K c e (sSeq f g)) := PSs.imp (pss_cons h1 h2) fun De σ H k => by
  obtain ⟨ρ, η, st, fl, st', R, eq0, k⟩ := k
  obtain ⟨p, e1, e2⟩ := bind_some eq0
  refine ⟨ρ, η, st, p.1, p.2, R, e1, ?_⟩
  cases hp : p.1 with
  | nx η' => rw [hp] at e2; exact fun ρ1 H1 σ1 g1 R1 => ⟨ρ1, η', p.2, fl, st', R1, e2, k.pre g1⟩
  | bk η' => rw [hp] at e2; cases e2; exact k.elim
  | ct η' => rw [hp] at e2; cases e2; exact k.elim
  | rt d => rw [hp] at e2; cases e2; exact k
  | ex x η' => rw [hp] at e2; cases e2; exact k.elim
theorem ok_hcS (h : Hh X S c e oe pn n) {s : Stmt} {f : Ex → SemS} (q : hcS S n s = some f) : PS (X.suite c.a ((c.a, oe) :: pn)) s (hS X.K c e (f e)) := by
  unfold hcS at q
  split at q
  · obtain ⟨ft, e1, q2⟩ := bind_some q
    obtain ⟨fb, e2, e3⟩ := map_some' q2
    subst e3
    refine PS.imp (ps_if (ok_hcT h e1) (hs_cons (X := X.suite c.a ((c.a, oe) :: pn)) (ok_hcR h e2) hs_nil) (hs_nil (X := X.suite c.a ((c.a, oe) :: pn)) (c := c) (e := e))) fun De σ H k => ?_
    obtain ⟨ρ, η, st, fl, st', R, eq0, k⟩ := k
    obtain ⟨p, q1, q3⟩ := bind_some eq0
    refine ⟨ρ, η, st, p.1, p.2, R, q1, fun ρ1 H1 g1 R1 => ?_⟩
    cases hp : p.1 with
    | true => rw [hp, if_pos rfl] at q3; rw [if_pos rfl]; exact ⟨ρ1, η, p.2, fl, st', R1, q3, k.pre g1⟩
    | false => rw [hp, if_neg Bool.false_ne_true] at q3; rw [if_neg Bool.false_ne_true]; exact ⟨ρ1, η, p.2, fl, st', R1, q3, k.pre g1⟩
  · exact ok_hcR h q
theorem ok_hcB (h : Hh X S c e oe pn n) : ∀ {b : List Stmt} {f : Ex → SemS}, hcB S n b = some f → PSs (X.suite c.a ((c.a, oe) :: pn)) b (hS X.K c e (f e))
  | [], f, q => by cases q; exact hs_nil (X := X.suite c.a ((c.a, oe) :: pn))
  | s :: r, f, q => by
    unfold hcB at q
    obtain ⟨g, e1, q2⟩ := bind_some q
    obtain ⟨g2, e2, e3⟩ := map_some' q2
    subst e3
    exact hs_cons (X := X.suite c.a ((c.a, oe) :: pn)) (ok_hcS h e1) (ok_hcB h e2)
end
/-! ### try: body; except c as n: suite -/
def sTryAs (l : List (Str × Str × Bool)) (exi : List Str) (c : Str) (i : Nat) (fb : SemS) (g : Ex → SemS) : SemS := fun η st => (fb η st).bind fun p => match p.1 with
  | .ex e η' => (exmOf l e.cls c).bind fun b => if b = true then (if e.cls ∈ exi ∧ i < η'.length then (g e (η'.set i none) p.2).bind fun q => match q.1 with
    | .nx η2 => some (.nx (η2.set i none), q.2)
    | .rt d => some (.rt d, q.2)
    | _ => none else none) else some (.ex e η', p.2)
  | fl => some (fl, p.2)
theorem ER.none {K : Frg} {ρ : Rho} {H : Hp} {η : LocD} {σ : L2.St} (E : ER K ρ H η σ) (i : Nat) (o : Option V) : ER K ρ H (η.set i none) (σ.set i o) := by
  refine ⟨by rw [List.length_set, List.length_set]; exact E.1, fun j d h => ?_⟩
  by_cases q : i = j
  · subst q
    rw [List.getElem?_set] at h
    simp only [if_true] at h
    split at h <;> cases h
  · rw [List.getElem?_set_ne q] at h ⊢
    exact E.2 j d h
theorem os_tryAs {X : Cx} {W : WX} {l : List (Str × Str × Bool)} {exi : List Str} {c n : Str} {cv : Value} {i : Nat} {body suite : List Stmt} {b₀ : Stmt} {np pos pos' : Pos} {fb : SemS} {g : Ex → SemS} (hs : X.stack = X.env :: X.outer) (hf : X.env.frame = some X.env.locals) (nd : X.N.Nodup) (hi : X.N[i]? = some n) (hk : X.env.kindOf n = some NameKind.local) (hc : Names X c cv) (tk : L2.Takes X W)
    (hm : ∀ a b C, exmOf l a c = some b → X.mg a = some (.ref C) → PySem.W.exmOne X.K (.ref C) cv = some b)
    (hb : ∀ (W' : WX) (pn : List (Addr × Obj)) (xe : Value → Shared → Prop), L2.Takes (X.tr pn xe) W' → PassesOwn (model X.prog X.w) X.A X.env xe → PSs (X.tr pn xe) body (tSv X.K X.mg W' fb))
    (hsu : ∀ (e : Ex) (C a d : Addr) (oe : Obj) (pn : List (Addr × Obj)), e.cls ∈ exi → X.mg e.cls = some (.ref C) → Zc (Value.ref C) (some d) oe → (∃ vs, oe.data = Data.fields vs) → PSs (X.suite a ((a, oe) :: pn)) (b₀ :: suite) (hS X.K ⟨a, d, C, i⟩ e (g e))) :
    PS X (.Try body [.ExceptHandler (some (.Name c np)) (some n) (b₀ :: suite) pos'] [] [] pos) (tSv X.K X.mg W (sTryAs l exi c i fb g)) := by
  refine PS.imp (ps_try_as (tb := fun W' => tSv X.K X.mg W' fb) (i := i) (c := cv) (ts := fun a cls d De σ H => ∃ (e : Ex) (C dx : Addr), e.cls ∈ exi ∧ X.mg e.cls = some (.ref C) ∧ cls = .ref C ∧ d = some dx ∧ hS X.K ⟨a, dx, C, i⟩ e (g e) De σ H) hs hf nd hi hk hc tk hb fun a oe cls d pn hz hf' => ⟨fun pins s σ H De I q => ?_⟩) fun De σ H q => ?_
  · obtain ⟨e, C, dx, h1, h2, h3, h4, h5⟩ := q
    subst h3 h4
    exact (hsu e C a dx oe pn h1 h2 hz hf').run pins s σ H De I h5
  obtain ⟨ρ, η, st, fl, st', E, S, e, k⟩ := q
  obtain ⟨p, e1, e2⟩ := bind_some e
  refine ⟨ρ, η, st, p.1, p.2, E, S, e1, ?_⟩
  cases hp : p.1 with
  | nx η' => rw [hp] at e2; cases e2; exact k
  | bk η' => rw [hp] at e2; cases e2; exact k
  | ct η' => rw [hp] at e2; cases e2; exact k
  | rt d => rw [hp] at e2; cases e2; exact k
  | ex x η' =>
    rw [hp] at e2
    obtain ⟨b, e3, e4⟩ := bind_some e2
    intro ρ1 H1 σ1 cls d g1 S1 E1 r1
    obtain ⟨C, dx, vs, m1, h2, h3, h4, h5⟩ := id r1
    refine ⟨b, by rw [h2]; exact hm _ _ _ e3 m1, fun hb a na => ?_, fun hb => ?_⟩
    · subst hb
      rw [if_pos rfl] at e4
      obtain ⟨⟨hx, hlen0⟩, e4⟩ := ite_some e4
      obtain ⟨q, e5, e6⟩ := bind_some e4
      have hlen : i < σ1.length := by rw [E1.1]; exact hlen0
      refine ⟨x, C, dx, hx, m1, h2, h3, ρ1, η'.set i none, p.2, q.1, q.2, ⟨E1.none i _, S1, by rw [List.getElem?_set]; simp [hlen], vs, h4, h5⟩, e5, ?_⟩
      cases hq : q.1 with
      | nx η2 =>
        rw [hq] at e6; cases e6
        exact fun ρ2 H2 σ2 g2 R2 => k ρ2 H2 _ (g1.trans g2) R2.2.1 (R2.1.none i none)
      | bk η' => rw [hq] at e6; cases e6
      | ct η' => rw [hq] at e6; cases e6
      | rt d =>
        rw [hq] at e6; cases e6
        exact fun ρ2 H2 v g2 S2 r2 => k ρ2 H2 v (g1.trans g2) S2 r2
      | ex x η' => rw [hq] at e6; cases e6
    · subst hb
      rw [if_neg Bool.false_ne_true] at e4
      cases e4
      exact k ρ1 H1 σ1 cls d g1 S1 E1 r1
/-! ### return of a pair: a constant, and what a def that may raise tells -/
def sRetTX (f0 : SemE) (cf : CallF) (cx : CallX) (x : Str) (dds : List D) (fs : SemA) : SemS := fun η st => (f0 η st).bind fun p => (calX cf cx x dds fs η p.2).map fun r => match r.1 with
  | .inl d => (.rt (.tup [p.1, d]), r.2)
  | .inr e => (.ex e η, r.2)
theorem os_retTX {X : Cx} {W : WX} {f0 : SemE} {e0 : Expr} {cf : CallF} {cx : CallX} {x : Str} {dds : List D} {dvs : List V} {m : Nat} {fs : SemA} {e : Expr} {pos p2 : Pos} {j : Nat} (h0 : PE X e0 (tEv X.K f0)) (hn0 : notStar e0 = true) (hn : notStar e = true) (ar : ∀ ds st, (∀ r, cf x ds st = some r → ds.length = m) ∧ ∀ r, cx x ds st = some r → ds.length = m) (hv : ∀ ρ H, DRs X.K ρ H dds dvs)
    (he : PE X e (tCalX (spX X.K X.mg cf cx x m) dvs W (tAv X.K fs))) : PS X (.Return (some (.Tuple [e0, e] j p2)) pos) (tSv X.K X.mg W (sRetTX f0 cf cx x dds fs)) := PS.imp (ps_ret (pe_tup (pa_cons h0 (pa_cons he pa_nil (star1 hn)) (star1 hn0)))) fun De σ H q => by
  obtain ⟨ρ, η, st, fl, st', E, S, e, k⟩ := q
  obtain ⟨p, e1, e2⟩ := bind_some e
  obtain ⟨r, e3, e4⟩ := map_some' e2
  refine tEv.then E S e1 fun ρ1 H1 v g1 S1 r1 => ?_
  refine calX_read ar hv (E.mono g1) S1 e3 (fun d hd => ?_) (fun x hx => ?_)
  · rw [hd] at e4; cases e4
    exact fun ρ2 H2 v2 g2 S2 r2 => ⟨by show 2 ≤ sizeLine; decide, fun t ht => k ρ2 _ _ ((g1.trans g2).trans (Gr.new ht)) (S2.new ht) (.tup upd_same (.cons ((r1.mono g2).mono (Gr.new ht)) (.cons (r2.mono (Gr.new ht)) .nil)))⟩
  · rw [hx] at e4; cases e4
    exact fun ρ2 H2 c d g2 S2 r2 => k ρ2 H2 σ c d (g1.trans g2) S2 ((E.mono g1).mono g2) r2
end
end Sim

namespace Sim
open PySem L2
noncomputable section
/-! ### x = f(..) is c, f a def that may raise -/
def sAsgIX (cf : CallF) (cx : CallX) (x : Str) (dds : List D) (fs : SemA) (fc : SemE) (i : Nat) : SemS := fun η st => (calX cf cx x dds fs η st).bind fun r => match r.1 with
  | .inl d => (fc η r.2).bind fun q => (cmpop .Is d q.1 q.2).map fun b => (.nx (η.set i (some (.bl b))), q.2)
  | .inr e => some (.ex e η, r.2)
section
variable {X : Cx} {W : WX} {dvs : List V}
theorem os_asgIX {cf : CallF} {cx : CallX} {x y : Str} {dds : List D} {m i : Nat} {fs : SemA} {fc : SemE} {e c : Expr} {py pos p2 : Pos} (hu : X.A.units + 65 < cLine) (ar : ∀ ds st, (∀ r, cf x ds st = some r → ds.length = m) ∧ ∀ r, cx x ds st = some r → ds.length = m) (hv : ∀ ρ H, DRs X.K ρ H dds dvs)
    (he : PE X e (tCalX (spX X.K X.mg cf cx x m) dvs W (tAv X.K fs))) (hc : PE X c (tEv X.K fc)) (hset : notSet c = true) (hN : X.N.Nodup) (hi : X.N[i]? = some y) (hx : Loc X.env.scope y) (hs : swapsWith (.Compare e [.Is] [c] p2) (some (.Name y py)) pos.line X.env = pure false) (hf : X.fn y = true ∨ X.env.scope.names.lookup y = some .local) :
    PS X (.Assign [.Name y py] (.Compare e [.Is] [c] p2) pos) (tSv X.K X.mg W (sAsgIX cf cx x dds fs fc i)) := PS.imp (ps_set hN hi hx (pe_cmpR (ok_cmp hu .Is) he hc (setMark hset)) hs hf) fun De σ H q => by
  obtain ⟨ρ, η, st, fl, st', E, S, e, k⟩ := q
  obtain ⟨r, e1, e2⟩ := bind_some e
  refine calX_read ar hv E S e1 (fun d hd => ?_) (fun x hx => ?_)
  · rw [hd] at e2
    obtain ⟨q, e3, e4⟩ := bind_some e2
    obtain ⟨b, e5, e6⟩ := map_some' e4
    cases e6
    refine fun ρ1 H1 v g1 S1 r1 => tEv.then (E.mono g1) S1 e3 fun ρ2 H2 w g2 S2 r2 => ?_
    refine ⟨ρ2, q.2, d, q.1, .bl b, q.2, S2, r1.mono g2, r2, by unfold cmpR; rw [e5]; rfl, fun ρ3 H3 v3 g3 S3 r3 => ?_⟩
    exact k ρ3 H3 _ ((g1.trans g2).trans g3) S3 (((E.mono (g1.trans g2)).mono g3).set r3 i)
  · rw [hx] at e2; cases e2
    exact fun ρ1 H1 c d g1 S1 r1 => k ρ1 H1 σ c d g1 S1 (E.mono g1) r1
end
end
end Sim

namespace Sim
open PySem L2
noncomputable section

theorem sw_sole {t e : Expr} {l : Nat} {env : Env} (h : notComp e = true) : swapsWithSole [t] e l env = pure false := by
  show swapsWith e (some t) l env = pure false
  exact sw_no h
def swNames (sc : Scope) (ts : List Expr) : List Str := ts.filterMap fun
    | .Name id pos => if (sc.names.lookup id == some .local && pos.line == (ts.head?.map (·.pos.line)).getD 0) = true then some id else none
    | _ => none
/-- which stores an assignment of a written tuple to a written tuple turns about; none: not told -/
def swKind (sc : Scope) (ts vs : List Expr) : Option (Option (List Str)) :=
  if (!(ts.length == 2 || ts.length == 3) || vs.length != ts.length) = true then some none
  else if (vs.any fun | .Starred .. => true | _ => false) = true then some none
  else if ((swNames sc ts).length != ts.length || (swNames sc ts).eraseDups.length != (swNames sc ts).length) = true then some none
  else if vs.all (foldedForSure 8) = true then some none
  else if vs.all (constantsAlone 8) = true then none
  else some (some (swNames sc ts))
theorem sw_eq {ts vs : List Expr} {k k2 : Nat} {p p2 : Pos} {env : Env} {o : Option (List Str)} (hk : env.scope.kind = .function) (h : swKind env.scope ts vs = some o) : swappedStores [.Tuple ts k p] (.Tuple vs k2 p2) env = pure o := by
  have hb : env.blockKind = .function := by unfold Env.blockKind; rw [hk]; rfl
  have hf : (ScopeKind.function != ScopeKind.function) = false := by decide
  unfold swKind at h
  unfold swappedStores
  simp only [hb, hf, Bool.or_false]
  simp only [Env.kindOf]
  by_cases c1 : (!(ts.length == 2 || ts.length == 3) || vs.length != ts.length) = true
  · rw [if_pos c1] at h ⊢; cases h; rfl
  rw [if_neg c1] at h ⊢
  by_cases c2 : (vs.any fun | .Starred .. => true | _ => false) = true
  · rw [if_pos c2] at h; cases h; exact if_pos c2
  rw [if_neg c2] at h
  refine (if_neg c2).trans ?_
  by_cases c3 : ((swNames env.scope ts).length != ts.length || (swNames env.scope ts).eraseDups.length != (swNames env.scope ts).length) = true
  · rw [if_pos c3] at h; cases h; exact if_pos c3
  rw [if_neg c3] at h
  refine (if_neg c3).trans ?_
  by_cases c4 : vs.all (foldedForSure 8) = true
  · rw [if_pos c4] at h; cases h; exact if_pos c4
  rw [if_neg c4] at h
  refine (if_neg c4).trans ?_
  by_cases c5 : vs.all (constantsAlone 8) = true
  · rw [if_pos c5] at h; cases h
  rw [if_neg c5] at h
  refine (if_neg c5).trans ?_
  cases h
  rfl

abbrev RS := Stmt → Option SemS
def compB (rS : RS) : List Stmt → Option SemS
  | [] => some sNil
  | s :: r => (rS s).bind fun f => (compB rS r).map fun g => sSeq f g
def isFn : ScopeKind → Bool
  | .function => true
  | _ => false
/-- target = value -/
def stepAsg (rE : Expr → Option SemE) (S : Sx) (tg e : Expr) : Option SemS :=
  match tg with
  | .Name x py => match e with
    | .ListComp elt gs scope pos => if S.sc.names.lookup x = some .local ∧ isFn S.sc.kind = true ∧ (py.line == pos.line) = true ∧ (scope.names.any fun (n, k) => n == x && (k == .local || k == .cell)) = false then
        (ixOf x S.N).bind fun i => (rE e).map fun fe => sAsg fe (gvName i)
      else if S.sc.names.lookup x = some .cell ∧ S.top = true then (ixOf x S.N).bind fun i => (rE e).map fun fe => sAsg fe (gvName i) else none
    | _ => if notComp e = true ∧ locB S x = true then (ixOf x S.N).bind fun i => (rE e).map fun fe => sAsg fe (gvName i) else none
  | .Tuple ts _ _ => match e with
    | .Tuple vs _ _ => if isFn S.sc.kind = true then match swKind S.sc ts vs with
      | some none => (compG S 3 tg).bind fun g => (rE e).map fun fe => sAsg fe g.1
      | some (some l) => match ts, vs with
        | [.Name x _, .Name y _], [a, b] => if l = [x, y] ∧ x ≠ y ∧ S.sc.names.lookup x = some .local ∧ S.sc.names.lookup y = some .local then
            (ixOf x S.N).bind fun i => (ixOf y S.N).bind fun j => (compA rE [a, b]).map fun fs => sPar2 i j fs else none
        | [.Name x _, .Name y _, .Name z _], [a, b, c] => if l = [x, y, z] ∧ (x ≠ y ∧ x ≠ z ∧ y ≠ z) ∧ S.sc.names.lookup x = some .local ∧ S.sc.names.lookup y = some .local ∧ S.sc.names.lookup z = some .local then
            (ixOf x S.N).bind fun i => (ixOf y S.N).bind fun j => (ixOf z S.N).bind fun l => (compA rE [a, b, c]).map fun fs => sPar3 i j l fs else none
        | _, _ => none
      | none => none
      else none
    | _ => if notComp e = true then (compG S 3 tg).bind fun g => (rE e).map fun fe => sAsg fe g.1 else none
  | .Subscript o i _ => if notComp e = true ∧ notSlice i = true then (rE o).bind fun fo => (rE i).bind fun fi => (rE e).map fun fe => sSub fo fi fe else none
  | _ => none
def stepS (rE : RE) (rT : RT) (rS : RS) (S : Sx) (s : Stmt) : Option SemS :=
  match s with
  | .Return none _ => some sRetN
  | .Return (some e) _ => (rE S e).map fun fe => sRet fe
  | .Pass _ => some sNil
  | .Break _ => some sBrk
  | .Continue _ => some sCnt
  | .Expr e _ => if notComp e = true then (rE S e).map fun fe => sExpr fe else none
  | .If c a b _ => (rT S c).bind fun fc => (compB rS a).bind fun fa => (compB rS b).map fun fb => sIf fc fa fb
  | .While c b [] _ => (rT S c).bind fun fc => (compB rS b).map fun fb => sWhile fc fb
  | .For tg iter b [] _ => if notSet iter = true then (compI (rE S) S tg iter).bind fun fi => (compG S 3 tg).bind fun g => (compB rS b).map fun fb => sFor fi g.1 fb else none
  | .Assign [tg] e _ => stepAsg (rE S) S tg e
  | .AugAssign (.Name x _) op e _ => if locB S x = true then (ixOf x S.N).bind fun i => (rE S e).map fun fe => sAug i op fe else none
  | .AugAssign (.Subscript o i _) op e _ => if notSlice i = true then (rE S o).bind fun fo => (rE S i).bind fun fi => (rE S e).map fun fe => sAugS fo fi op fe else none
  | .Raise _ _ _ => some sStuck
  | _ => none
/-- an except suite: one plain statement -/
def suiteS (S : Sx) : List Stmt → Option SemS
  | [.Return (some (.Constant c _ _)) _] => (compC c).map fun fe => sSeq (sRet fe) sNil
  | [.Assign [.Name x _] (.Constant c _ _) _] => if locB S x = true then (ixOf x S.N).bind fun i => (compC c).map fun fe => sSeq (sAsg fe (gvName i)) sNil else none
  | _ => none
/-- statements that may raise -/
def stepX (rE : Expr → Option SemE) (rS : RS) (cf : CallF) (cx : CallX) (S : Sx) (s : Stmt) : Option SemS :=
  match s with
  | .Raise (some (.Call (.Name c _) (a :: es) [] _)) none _ => (lookE c S.exs).bind fun fl => if glB S.sc c = true ∧ nmOk c = true then (compA rE (a :: es)).map fun fs => sRai c fl fs else none
  | .Return (some (.Call (.Name x _) (a :: es) [] _)) _ => if x ∈ S.rz ∧ glB S.sc x = true ∧ nmOk x = true then (dfOf S.dfl x (a :: es).length).bind fun dds => (compA rE (a :: es)).map fun fs => sRetX cf cx x dds fs else none
  | .Expr (.Call (.Name x _) (a :: es) [] _) _ => if x ∈ S.rz ∧ glB S.sc x = true ∧ nmOk x = true then (dfOf S.dfl x (a :: es).length).bind fun dds => (compA rE (a :: es)).map fun fs => sExprX cf cx x dds fs else none
  | .Assign [.Name y _] (.Call (.Name x _) (a :: es) [] _) _ => if x ∈ S.rz ∧ glB S.sc x = true ∧ nmOk x = true ∧ locB S y = true then (dfOf S.dfl x (a :: es).length).bind fun dds => (ixOf y S.N).bind fun i => (compA rE (a :: es)).map fun fs => sAsgX cf cx x dds fs i else none
  | .Assign [.Name y _] (.Compare (.Call (.Name x _) (a :: es) [] _) [.Is] [.Constant k _ _] _) _ => if x ∈ S.rz ∧ glB S.sc x = true ∧ nmOk x = true ∧ locB S y = true then (compC k).bind fun fc => (dfOf S.dfl x (a :: es).length).bind fun dds => (ixOf y S.N).bind fun i => (compA rE (a :: es)).map fun fs => sAsgIX cf cx x dds fs fc i else none
  | .Return (some (.Tuple [.Constant k _ _, .Call (.Name x _) (a :: es) [] _] _ _)) _ => if x ∈ S.rz ∧ glB S.sc x = true ∧ nmOk x = true then (compC k).bind fun f0 => (dfOf S.dfl x (a :: es).length).bind fun dds => (compA rE (a :: es)).map fun fs => sRetTX f0 cf cx x dds fs else none
  | .Try body [.ExceptHandler (some (.Name c _)) (some n) (q :: qs) _] [] [] _ => if glB S.sc c = true ∧ nmOk c = true ∧ (S.exm.any fun t => t.2.1 == c) = true ∧ nmOk n = true ∧ S.sc.names.lookup n = some .local ∧ (S.exi.all fun a => exmOf S.exm a a == some true) = true then (ixOf n S.N).bind fun i => (compB rS body).bind fun fb => (hcB S n (q :: qs)).map fun g => sTryAs S.exm S.exi c i fb g else none
  | .Try body [.ExceptHandler (some (.Name c _)) none (q :: qs) _] [] [] _ => if glB S.sc c = true ∧ nmOk c = true ∧ (S.exm.any fun t => t.2.1 == c) = true then (compB rS body).bind fun fb => (suiteS S (q :: qs)).map fun g => sTry S.exm c fb g else none
  | _ => none
def compS (cf : CallF) (cx : CallX) (d : Nat) (S : Sx) : Nat → Stmt → Option SemS
  | 0, _ => none
  | k + 1, s => match stepX (compE cf d S) (compS cf cx d S k) cf cx S s with
    | some f => some f
    | none => stepS (compE cf d) (compT cf d) (compS cf cx d S k) S s

def HS (rS : RS) (X : Cx) (W : WX) : Prop := ∀ (s : Stmt) (f : SemS), rS s = some f → PS X s (tSv X.K X.mg W f)
section
variable {X : Cx} {W : WX} {S : Sx} {cf : CallF} {cx : CallX} {n : Nat}
theorem ok_compB {rS : RS} (hS : HS rS X W) : ∀ {b : List Stmt} {f : SemS}, compB rS b = some f → PSs X b (tSv X.K X.mg W f)
  | [], _, h => by cases h; exact os_nil
  | s :: r, _, h => by
    unfold compB at h
    obtain ⟨f, e1, h2⟩ := bind_some h
    obtain ⟨g, e2, e3⟩ := map_some' h2
    subst e3
    exact os_cons (hS _ _ e1) (ok_compB hS e2)
theorem set_name (G : Gx X S) {x : Str} {i : Nat} {e : Expr} {fe : SemE} {py pos : Pos} (hi : ixOf x S.N = some i) (hl : locB S x = true) (he : PE X e (tEv X.K fe)) (hs : swapsWith e (some (.Name x py)) pos.line X.env = pure false) :
    PS X (.Assign [.Name x py] e pos) (tSv X.K X.mg W (sAsg fe (gvName i))) := by
  obtain ⟨h1, h2⟩ := locB_ok G hl
  refine PS.imp (ps_set (by rw [G.hN]; exact G.nd) (by rw [G.hN]; exact ixOf_get hi) h1 he hs h2) fun De σ H q => ?_
  obtain ⟨ρ, η, st, fl, st', E, S, e, k⟩ := q
  obtain ⟨p, e1, e2⟩ := bind_some e
  obtain ⟨η', e3, e4⟩ := map_some' e2
  cases e4; cases e3
  exact tEv.then E S e1 fun ρ1 H1 v g1 S1 r1 => k ρ1 H1 _ g1 S1 ((E.mono g1).set r1 i)
theorem isFn_ok (G : Gx X S) (h : isFn S.sc.kind = true) : X.env.scope.kind = .function := by
  rw [G.sc]
  unfold isFn at h
  split at h
  · assumption
  · cases h
theorem ok_stepAsg {rE : RE} {rT : RT} (hE : HE rE cf n) (F : Fx X S cf n) (G : Gx X S) (hL : ∀ elt gs scope f, rE S (.ListComp elt gs scope ⟨0, 0, 0, 0⟩) = some f → True)
    (hLc : ∀ {i : Nat} {y : Str} {py : Pos} {elt : Expr} {gs : List Comprehension} {scope : Scope} {pos spos : Pos} {f : SemE}, rE S (.ListComp elt gs scope pos) = some f → ixOf y S.N = some i → S.sc.names.lookup y = some .local →
      swapsWith (.ListComp elt gs scope pos) (some (.Name y py)) spos.line X.env = pure true → PS X (.Assign [.Name y py] (.ListComp elt gs scope pos) spos) (tSv X.K X.mg W (sAsg f (gvName i))))
    {tg e : Expr} {f : SemS} {spos : Pos} (h : stepAsg (rE S) S tg e = some f) : PS X (.Assign [tg] e spos) (tSv X.K X.mg W f) := by
  have hE' : ∀ e f, rE S e = some f → PE X e (tEv X.K f) := fun e f => hE X S e f G F
  have hN : X.N.Nodup := by rw [G.hN]; exact G.nd
  unfold stepAsg at h
  split at h
  · rename_i x py
    split at h
    · rename_i elt gs scope pos
      by_cases c : S.sc.names.lookup x = some .local ∧ isFn S.sc.kind = true ∧ (py.line == pos.line) = true ∧ (scope.names.any fun (n, k) => n == x && (k == .local || k == .cell)) = false
      · rw [if_pos c] at h
        obtain ⟨i, e1, h2⟩ := bind_some h
        obtain ⟨fe, e2, e3⟩ := map_some' h2
        subst e3
        exact hLc e2 e1 c.1 (sw_true (isFn_ok G c.2.1) (by rw [G.sc]; exact c.1) c.2.2.1 c.2.2.2)
      · rw [if_neg c] at h
        obtain ⟨⟨c1, c2⟩, h2⟩ := ite_some h
        obtain ⟨i, e1, h3⟩ := bind_some h2
        obtain ⟨fe, e2, e3⟩ := map_some' h3
        subst e3
        refine set_name G e1 (by unfold locB; rw [c1]; exact c2) (hE' _ _ e2) ?_
        have kx : X.env.kindOf x = some .cell := by show X.env.scope.names.lookup x = _; rw [G.sc]; exact c1
        unfold swapsWith
        simp only [kx]
        have : (some NameKind.cell == some NameKind.local) = false := by decide
        simp [this]
    · obtain ⟨⟨c1, c2⟩, h2⟩ := ite_some h
      obtain ⟨i, e1, h3⟩ := bind_some h2
      obtain ⟨fe, e2, e3⟩ := map_some' h3
      subst e3
      exact set_name G e1 c2 (hE' _ _ e2) (sw_no c1)
  · rename_i ts kt pt
    split at h
    · rename_i vs k2 p2
      obtain ⟨c1, h2⟩ := ite_some h
      have hk := isFn_ok G c1
      split at h2
      · rename_i hsw
        obtain ⟨g, e1, h3⟩ := bind_some h2
        obtain ⟨fe, e2, e3⟩ := map_some' h3
        subst e3
        exact PS.imp (ps_asg (hE' _ _ e2) (ok_compG F G 3 e1) rfl (sw_eq hk (by rw [G.sc]; exact hsw)) rfl) fun De σ H q => rd_asg q
      · rename_i l hsw
        split at h2
        · obtain ⟨⟨c2, c3, c4, c5⟩, h3⟩ := ite_some h2
          obtain ⟨i, e1, h4⟩ := bind_some h3
          obtain ⟨j, e2, h5⟩ := bind_some h4
          obtain ⟨fs, e3, e4⟩ := map_some' h5
          subst e4 c2
          have gi := ixOf_get e1
          have gj := ixOf_get e2
          exact os_par2 F.calm hN (by rw [G.hN]; exact gi) (by rw [G.hN]; exact gj) (fun z => c3 (by rw [z, gj] at gi; exact (Option.some.inj gi).symm)) (by rw [G.sc]; exact c4) (by rw [G.sc]; exact c5) (ok_args hE' e3).1 (sw_eq hk (by rw [G.sc]; exact hsw))
        · obtain ⟨⟨c2, ⟨c3, c4, c5⟩, c6, c7, c8⟩, h3⟩ := ite_some h2
          obtain ⟨i, e1, h4⟩ := bind_some h3
          obtain ⟨j, e2, h5⟩ := bind_some h4
          obtain ⟨l', e3, h6⟩ := bind_some h5
          obtain ⟨fs, e4, e5⟩ := map_some' h6
          subst e5 c2
          have gi := ixOf_get e1
          have gj := ixOf_get e2
          have gl := ixOf_get e3
          exact os_par3 F.calm hN (by rw [G.hN]; exact gi) (by rw [G.hN]; exact gj) (by rw [G.hN]; exact gl) (fun z => c3 (by rw [z, gj] at gi; exact (Option.some.inj gi).symm)) (fun z => c4 (by rw [z, gl] at gi; exact (Option.some.inj gi).symm))
            (fun z => c5 (by rw [z, gl] at gj; exact (Option.some.inj gj).symm)) (by rw [G.sc]; exact c6) (by rw [G.sc]; exact c7) (by rw [G.sc]; exact c8) (ok_args hE' e4).1 (sw_eq hk (by rw [G.sc]; exact hsw))
        · cases h2
      · cases h2
    · rename_i hne
      obtain ⟨c1, h2⟩ := ite_some h
      obtain ⟨g, e1, h3⟩ := bind_some h2
      obtain ⟨fe, e2, e3⟩ := map_some' h3
      subst e3
      have hw : swappedStores [.Tuple ts kt pt] e X.env = pure none := by
        cases e <;> first | rfl | (exact absurd rfl (hne _ _ _))
      exact PS.imp (ps_asg (hE' _ _ e2) (ok_compG F G 3 e1) (sw_sole c1) hw rfl) fun De σ H q => rd_asg q
  · obtain ⟨⟨c1, c2⟩, h2⟩ := ite_some h
    obtain ⟨fo, e1, h3⟩ := bind_some h2
    obtain ⟨fi, e2, h4⟩ := bind_some h3
    obtain ⟨fe, e3, e4⟩ := map_some' h4
    subst e4
    exact os_sub (by have := F.room.un; omega) c2 (hE' _ _ e1) (hE' _ _ e2) (hE' _ _ e3) (sw_sole c1)
  · cases h
theorem ok_stepS {d : Nat} {rS : RS} (hS : HS rS X W) (F : Fx X S cf n) (G : Gx X S) {s : Stmt} {f : SemS} (h : stepS (compE cf d) (compT cf d) rS S s = some f) : PS X s (tSv X.K X.mg W f) := by
  obtain ⟨hE, hT⟩ := ok_comp cf n d
  have hE' : ∀ e f, compE cf d S e = some f → PE X e (tEv X.K f) := fun e f => hE X S e f G F
  have hT' : ∀ e f, compT cf d S e = some f → PT X e (tTv X.K f) := fun e f => hT X S e f G F
  have hN : X.N.Nodup := by rw [G.hN]; exact G.nd
  unfold stepS at h
  split at h
  · cases h; exact os_retN
  · obtain ⟨fe, e1, e2⟩ := map_some' h
    subst e2
    exact os_ret (hE' _ _ e1)
  · cases h; exact os_pass
  · cases h; exact os_brk
  · cases h; exact os_cnt
  · obtain ⟨c1, h2⟩ := ite_some h
    obtain ⟨fe, e1, e2⟩ := map_some' h2
    subst e2
    exact os_expr (hE' _ _ e1) (sw_no c1)
  · obtain ⟨fc, e1, h2⟩ := bind_some h
    obtain ⟨fa, e2, h3⟩ := bind_some h2
    obtain ⟨fb, e3, e4⟩ := map_some' h3
    subst e4
    exact os_if (hT' _ _ e1) (ok_compB hS e2) (ok_compB hS e3)
  · obtain ⟨fc, e1, h2⟩ := bind_some h
    obtain ⟨fb, e2, e3⟩ := map_some' h2
    subst e3
    exact os_while F.px (hT' _ _ e1) (ok_compB hS e2)
  · obtain ⟨c1, h2⟩ := ite_some h
    obtain ⟨fi, e1, h3⟩ := bind_some h2
    obtain ⟨g, e2, h4⟩ := bind_some h3
    obtain ⟨fb, e3, e4⟩ := map_some' h4
    subst e4
    exact os_for F.px F.calm (ok_compI hE' F G e1) (ok_compG F G 3 e2) (ok_compB hS e3) c1
  · refine ok_stepAsg (rT := compT cf d) hE F G (fun _ _ _ _ _ => trivial) ?_ h
    intro i y py elt gs scope pos spos f' h1 h2 h3 h4
    cases d with
    | zero => unfold compE at h1; cases h1
    | succ d =>
      obtain ⟨hE1, hT1⟩ := ok_comp cf n d
      unfold compE at h1
      have hk : stepK (compE cf d S) S (.ListComp elt gs scope pos) = none := by
        unfold stepK
        split <;> rfl
      rw [hk] at h1
      obtain ⟨tg, iter, ifs, fi, g, is, tt, fe, rfl, c2, ok, p1, p2, p3, p4, p5⟩ := ok_lcParts hE1 hT1 F G (show stepLc (compE cf d) (compT cf d) S elt gs scope = some f' from h1)
      refine PS.imp (ps_setLc (i := i) F.calm hN (by rw [G.hN]; exact ixOf_get h2) (by rw [G.sc]; exact h3) h4 p1 ok p2 p3 p4 (setFold c2)) fun De σ H q => ?_
      obtain ⟨ρ, η, st, fl, st', E, S', e, k⟩ := q
      obtain ⟨p, e1, e2⟩ := bind_some e
      obtain ⟨η', e3, e4⟩ := map_some' e2
      cases e4; cases e3
      exact p5 σ H _ (tEv.then E S' e1 fun ρ1 H1 v g1 S1 r1 => k ρ1 H1 _ g1 S1 ((E.mono g1).set r1 i))
  · obtain ⟨c1, h2⟩ := ite_some h
    obtain ⟨i, e1, h3⟩ := bind_some h2
    obtain ⟨fe, e2, e3⟩ := map_some' h3
    subst e3
    obtain ⟨q1, q2⟩ := locB_ok G c1
    exact os_aug hN (by rw [G.hN]; exact ixOf_get e1) q1 q2 (hE' _ _ e2)
  · obtain ⟨c1, h2⟩ := ite_some h
    obtain ⟨fo, e1, h3⟩ := bind_some h2
    obtain ⟨fi, e2, h4⟩ := bind_some h3
    obtain ⟨fe, e3, e4⟩ := map_some' h4
    subst e4
    exact os_augS (by have := F.room.un; omega) c1 (hE' _ _ e1) (hE' _ _ e2) (hE' _ _ e3)
  · cases h; exact os_stuck
  · cases h
theorem ok_suite (G : Gx X S) {b : List Stmt} {g : SemS} (h : suiteS S b = some g) : PSs X b (tSv X.K X.mg W g) := by
  unfold suiteS at h
  split at h
  · obtain ⟨fe, e1, e2⟩ := map_some' h
    subst e2
    exact os_cons (os_ret (ok_const e1)) os_nil
  · obtain ⟨c1, h2⟩ := ite_some h
    obtain ⟨i, e1, h3⟩ := bind_some h2
    obtain ⟨fe, e2, e3⟩ := map_some' h3
    subst e3
    exact os_cons (set_name G e1 c1 (ok_const e2) (sw_no rfl)) os_nil
  · cases h
structure OwnX (X : Cx) (dfl : List (Str × Nat × List D)) (cf : CallF) (cx : CallX) (n : Nat) (f : Str) (fa : Addr) (fd : FuncData) (ps : List Str) : Prop where
  mg : X.mg f = some (.ref fa)
  kp : PySem.W.keepIn X.K (.ref fa) = true
  bd : ∀ m dds, dfOf dfl f m = some dds → ∃ us vs, Vals vs us ∧ Binds X.K fd ps us ∧ ∀ ρ H, DRs X.K ρ H dds vs
  ok : FnG X.prog X.w X.K X.mg X.base (L2.CX X.prog X.w) n fa fd ps (spX X.K X.mg cf cx f ps.length)
  ar : ∀ ds st, (∀ r, cf f ds st = some r → ds.length = ps.length) ∧ ∀ r, cx f ds st = some r → ds.length = ps.length
/-- a context that lets out what W wishes for -/
structure Fw (X : Cx) (S : Sx) (cf : CallF) (cx : CallX) (n : Nat) (W : WX) : Prop extends Fx X S cf n where
  tk : L2.Takes X W
  hs : X.stack = X.env :: X.outer
  hf : X.env.frame = some X.env.locals
  hr : Room 2 X.A
  ownx : ∀ f, f ∈ S.rz → ∃ fa fd ps, OwnX X S.dfl cf cx n f fa fd ps
  exs : ∀ c fl, lookE c S.exs = some fl → ExcAt X c fl
  exm : ∀ c, (S.exm.any fun t => t.2.1 == c) = true → ∃ v cv, ClsV v cv ∧ (X.mg c = some cv ∨ X.mg c = none ∧ bootBuiltins c = some cv) ∧ ∀ a b C, exmOf S.exm a c = some b → X.mg a = some (.ref C) → PySem.W.exmOne X.K (.ref C) cv = some b
  exi : ∀ a C, a ∈ S.exi → X.mg a = some (.ref C) → ExcC X.K C ∧ ∀ fl g, lookE a S.exs = some fl → g ∈ fl → PySem.W.findIn X.K (.ref C) g = some none
theorem Fw.tr (F : Fw X S cf cx n W) {W' : WX} {pn : List (Addr × Obj)} {xe : Value → Shared → Prop} (tk : L2.Takes (X.tr pn xe) W') (px : PassesOwn (model X.prog X.w) X.A X.env xe) : Fw (X.tr pn xe) S cf cx n W' where
  room := F.room
  gu := F.gu
  calm := F.calm
  px := px
  own := fun f hf => let ⟨fa, fd, ps, sp, o⟩ := F.own f hf; ⟨fa, fd, ps, sp, ⟨o.mg, o.kp, o.bd, o.ok, o.im, o.ar⟩⟩
  blt := F.blt
  mth := F.mth
  glo := F.glo
  gds := F.gds
  lam := F.lam
  tk := tk
  hs := F.hs
  hf := F.hf
  hr := F.hr
  ownx := fun f hf => let ⟨fa, fd, ps, o⟩ := F.ownx f hf; ⟨fa, fd, ps, ⟨o.mg, o.kp, o.bd, o.ok, o.ar⟩⟩
  exs := fun c fl h => ⟨(F.exs c fl h).ex, (F.exs c fl h).len⟩
  exm := F.exm
  exi := F.exi
theorem exmOf_any {l : List (Str × Str × Bool)} {a c : Str} {b : Bool} (h : exmOf l a c = some b) : (l.any fun t => t.2.1 == c) = true := by
  induction l with
  | nil => cases h
  | cons t r ih =>
    obtain ⟨x, y, z⟩ := t
    unfold exmOf at h
    rw [List.any_cons, Bool.or_eq_true]
    by_cases q : x = a ∧ y = c
    · exact .inl (by rw [q.2]; exact beq_self_eq_true c)
    · rw [if_neg q] at h; exact .inr (ih h)
theorem exm_kit {K : Frg} {t c : Value} {b : Bool} (h : PySem.W.exmOne K t c = some b) : PySem.W.kitCls K t c = some b := by
  unfold PySem.W.exmOne at h
  exact (ite_some h).2
theorem isa_ok (F : Fw X S cf cx n W) (hr : (S.exi.all fun a => exmOf S.exm a a == some true) = true) {a : Str} {C : Addr} (ha : a ∈ S.exi) (mC : X.mg a = some (.ref C)) : IsaOk X S.exm a C := by
  refine ⟨(F.exi _ _ ha mC).1, fun c b v cv hb hcl => ?_⟩
  have at2 : ∀ {c b cv v}, exmOf S.exm a c = some b → ClN X c v cv → PySem.W.kitCls X.K (.ref C) cv = some b := fun {c b cv v} hb hcl => by
    obtain ⟨v2, cv2, _, h2, h3⟩ := F.exm c (exmOf_any hb)
    have e : cv2 = cv := by
      rcases h2 with q | ⟨q1, q2⟩ <;> rcases hcl.at' with z | ⟨z1, z2⟩
      · rw [q] at z; exact Option.some.inj z
      · rw [q] at z1; cases z1
      · rw [q1] at z; cases z
      · rw [q2] at z2; exact Option.some.inj z2
    rw [← e]
    exact exm_kit (h3 _ _ _ hb mC)
  have k := at2 hb hcl
  unfold PySem.W.kitOne
  by_cases q : (Value.ref C == cv) = true
  · rw [if_pos q]
    have e : Value.ref C = cv := eq_of_beq q
    subst e
    have hs : exmOf S.exm a a = some true := by
      have := List.all_eq_true.mp hr a ha
      exact eq_of_beq this
    obtain ⟨v2, cv2, _, h2, h3⟩ := F.exm a (exmOf_any hs)
    have e2 : cv2 = .ref C := by
      rcases h2 with z | ⟨z1, _⟩
      · rw [mC] at z; exact (Option.some.inj z).symm
      · rw [mC] at z1; cases z1
    subst e2
    have k2 := exm_kit (h3 _ _ _ hs mC)
    rw [k2] at k
    exact k
  · rw [if_neg q]; exact k
theorem cl_ok (F : Fw X S cf cx n W) (G : Gx X S) {x : Str} (h : clB S x = true) : ∃ v cv, ClN X x v cv := by
  unfold clB at h
  simp only [Bool.and_eq_true] at h
  obtain ⟨v, cv, h1, h2, _⟩ := F.exm x h.2
  exact ⟨v, cv, glB_ok G h.1.2, h1, h2⟩
theorem ok_stepX {d : Nat} {rS : RS} (hT : ∀ (W' : WX) (pn : List (Addr × Obj)) (xe : Value → Shared → Prop), L2.Takes (X.tr pn xe) W' → PassesOwn (model X.prog X.w) X.A X.env xe → HS rS (X.tr pn xe) W') (F : Fw X S cf cx n W) (G : Gx X S) {s : Stmt} {f : SemS}
    (h : stepX (compE cf d S) rS cf cx S s = some f) : PS X s (tSv X.K X.mg W f) := by
  obtain ⟨hE, _⟩ := ok_comp cf n d
  have hE' : ∀ e f, compE cf d S e = some f → PE X e (tEv X.K f) := fun e f => hE X S e f G F.toFx
  have st : ∀ {a : Expr} {es : List Expr} {fs : SemA}, compA (compE cf d S) (a :: es) = some fs → PA X (a :: es) (tAv X.K fs) ∧ notStar a = true ∧ es.all notStar = true := fun e => by
    obtain ⟨h1, h2⟩ := ok_args hE' e
    rw [List.all_cons, Bool.and_eq_true] at h2
    exact ⟨h1, h2.1⟩
  have call : ∀ {x : Str} {a : Expr} {es : List Expr} {p pos : Pos} {dds : List D} {fs : SemA}, x ∈ S.rz → glB S.sc x = true → nmOk x = true → dfOf S.dfl x (a :: es).length = some dds → compA (compE cf d S) (a :: es) = some fs →
      ∃ m dvs, (∀ ds st, (∀ r, cf x ds st = some r → ds.length = m) ∧ ∀ r, cx x ds st = some r → ds.length = m) ∧ (∀ ρ H, DRs X.K ρ H dds dvs) ∧ PE X (.Call (.Name x p) (a :: es) [] pos) (tCalX (spX X.K X.mg cf cx x m) dvs W (tAv X.K fs)) := fun hx hg hn hd e => by
    obtain ⟨fa, fd, ps, o⟩ := F.ownx _ hx
    obtain ⟨us, vs, hv, bd, hr⟩ := o.bd _ _ hd
    obtain ⟨h1, h2, h3⟩ := st e
    exact ⟨_, vs, o.ar, hr, pe_callX F.tk o.ok F.room F.gu (glB_ok G hg) o.mg o.kp bd hv h1 (nmOk_ok hn).1 (star1 h2) (starAny h3)⟩
  unfold stepX at h
  split at h
  · obtain ⟨fl, e1, h2⟩ := bind_some h
    obtain ⟨⟨c1, c2⟩, h3⟩ := ite_some h2
    obtain ⟨fs, e2, e3⟩ := map_some' h3
    subst e3
    obtain ⟨q1, q2, q3⟩ := st e2
    exact os_rai (F.exs _ _ e1) F.calm F.hr F.tk (glB_ok G c1) (nmOk_ok c2).1 q1 (star1 q2) (starAny q3)
  · obtain ⟨⟨c1, c2, c3⟩, h2⟩ := ite_some h
    obtain ⟨dds, e1, h3⟩ := bind_some h2
    obtain ⟨fs, e2, e3⟩ := map_some' h3
    subst e3
    obtain ⟨m, dvs, q1, q2, q3⟩ := call c1 c2 c3 e1 e2
    exact os_retX q1 q2 q3
  · obtain ⟨⟨c1, c2, c3⟩, h2⟩ := ite_some h
    obtain ⟨dds, e1, h3⟩ := bind_some h2
    obtain ⟨fs, e2, e3⟩ := map_some' h3
    subst e3
    obtain ⟨m, dvs, q1, q2, q3⟩ := call c1 c2 c3 e1 e2
    exact os_exprX q1 q2 q3 (sw_no rfl)
  · obtain ⟨⟨c1, c2, c3, c4⟩, h2⟩ := ite_some h
    obtain ⟨dds, e1, h3⟩ := bind_some h2
    obtain ⟨i, e0, h4⟩ := bind_some h3
    obtain ⟨fs, e2, e3⟩ := map_some' h4
    subst e3
    obtain ⟨m, dvs, q1, q2, q3⟩ := call c1 c2 c3 e1 e2
    obtain ⟨l1, l2⟩ := locB_ok G c4
    exact os_asgX q1 q2 q3 (by rw [G.hN]; exact G.nd) (by rw [G.hN]; exact ixOf_get e0) l1 (sw_no rfl) l2
  · obtain ⟨⟨c1, c2, c3, c4⟩, h2⟩ := ite_some h
    obtain ⟨fc, e9, h2⟩ := bind_some h2
    obtain ⟨dds, e1, h3⟩ := bind_some h2
    obtain ⟨i, e0, h4⟩ := bind_some h3
    obtain ⟨fs, e2, e3⟩ := map_some' h4
    subst e3
    obtain ⟨m, dvs, q1, q2, q3⟩ := call c1 c2 c3 e1 e2
    obtain ⟨l1, l2⟩ := locB_ok G c4
    exact os_asgIX (by have := F.room.un; omega) q1 q2 q3 (ok_const e9) rfl (by rw [G.hN]; exact G.nd) (by rw [G.hN]; exact ixOf_get e0) l1 (sw_no rfl) l2
  · obtain ⟨⟨c1, c2, c3⟩, h2⟩ := ite_some h
    obtain ⟨f0, e0, h3⟩ := bind_some h2
    obtain ⟨dds, e1, h4⟩ := bind_some h3
    obtain ⟨fs, e2, e3⟩ := map_some' h4
    subst e3
    obtain ⟨m, dvs, q1, q2, q3⟩ := call c1 c2 c3 e1 e2
    exact os_retTX (ok_const e0) rfl rfl q1 q2 q3
  · obtain ⟨⟨c1, c2, c3, c4, c5, c6⟩, h2⟩ := ite_some h
    obtain ⟨i, e0, h3⟩ := bind_some h2
    obtain ⟨fb, e1, h4⟩ := bind_some h3
    obtain ⟨g, e2, e3⟩ := map_some' h4
    subst e3
    obtain ⟨v, cv, m0, m1, m2⟩ := F.exm _ c3
    refine os_tryAs F.hs F.hf (by rw [G.hN]; exact G.nd) (by rw [G.hN]; exact ixOf_get e0) (by show X.env.scope.names.lookup _ = _; rw [G.sc]; exact c5) ⟨glB_ok G c1, (nmOk_ok c2).1, m1.imp id fun z => ⟨z.1, z.2, (nmOk_ok c2).2.2⟩⟩ F.tk m2 (fun W' pn xe tk px => ok_compB (hT W' pn xe tk px) e1)
      fun e C a d oe pn hx mC hz hf => ok_hcB (X := X) (S := S) (c := ⟨a, d, C, i⟩) ⟨G, e0, ?_, c4, isa_ok F c6 hx mC, ?_, fun f fl z1 z2 => (F.exi _ _ hx mC).2 fl f z1 z2, hz, hf, fun x hcl => cl_ok F G hcl, F.blt⟩ e2
    · unfold visB; rw [c5]
    · have z := (F.exi _ _ hx mC).1
      exact ⟨z.hg, z.hk, z.hs, z.hd⟩
  · obtain ⟨⟨c1, c2, c3⟩, h2⟩ := ite_some h
    obtain ⟨fb, e1, h3⟩ := bind_some h2
    obtain ⟨g, e2, e3⟩ := map_some' h3
    subst e3
    obtain ⟨v, cv, m0, m1, m2⟩ := F.exm _ c3
    exact os_try F.hs F.hf ⟨glB_ok G c1, (nmOk_ok c2).1, m1.imp id fun z => ⟨z.1, z.2, (nmOk_ok c2).2.2⟩⟩ F.tk m2 (fun W' pn xe tk px => ok_compB (hT W' pn xe tk px) e1) fun a pn => ok_suite (X := X.suite a pn) ⟨G.hN, G.nd, G.sc, G.fn⟩ e2
  · cases h
theorem ok_compS {d : Nat} : ∀ (k : Nat) {X : Cx} {W : WX}, Fw X S cf cx n W → Gx X S → HS (compS cf cx d S k) X W
  | 0, _, _, _, _, s, f, h => by unfold compS at h; cases h
  | k + 1, X, W, F, G, s, f, h => by
    unfold compS at h
    split at h
    · rename_i g hg
      cases h
      exact ok_stepX (fun W' pn xe tk px => ok_compS k (F.tr tk px) ⟨G.hN, G.nd, G.sc, G.fn⟩) F G hg
    · exact ok_stepS (ok_compS k F G) F.toFx G h
end

/-! ### the program -/
/-- a def: its name, its statement, its names by slot, how many of them are parameters -/
structure Def where
  name : Str
  st : Stmt
  N : List Str
  ps : List Str
  /-- the defaults of the last parameters -/
  dfl : List D := []
structure Pg where
  defs : List Def
  blt : List Str
  mth : List Str
  glo : List (Str × D)
  gds : List (Str × List (Str × D)) := []
  tds : List (Nat × Nat) := []
  rz : List Str := []
  exs : List (Str × List Str) := []
  exm : List (Str × Str × Bool) := []
  exi : List Str := []
  kts : List (Nat × Nat) := []
  /-- defs that make lambdas, what their code objects are called -/
  tq : List (Str × Str) := []
def dflOf : List Def → List (Str × Nat × List D)
  | [] => []
  | d :: r => match d.dfl with
    | [] => dflOf r
    | x :: l => (d.name, d.ps.length, x :: l) :: dflOf r
def Pg.dfl (P : Pg) : List (Str × Nat × List D) := dflOf P.defs
def Pg.own (P : Pg) : List Str := P.defs.map (·.name)
def Pg.sx (P : Pg) (d : Def) : Sx := { N := d.N, sc := defScope d.st, top := true, own := P.own, blt := P.blt, mth := P.mth, glo := P.glo, dfl := P.dfl, gds := P.gds, tds := P.tds, rz := P.rz, exs := P.exs, exm := P.exm, exi := P.exi, kts := P.kts, nm := d.name, tq := P.tq }
def look (f : Str) : List Def → Option Def
  | [] => none
  | d :: r => if d.name = f then some d else look f r
def runB (f : SemS) (d : Def) (ds : List D) (st : Sto) : R :=
  if ds.length = d.ps.length then (f (ds.map some ++ List.replicate (d.N.length - ds.length) none) st).bind fun p => match p.1 with
    | .rt v => some (v, p.2)
    | .nx _ => some (.non, p.2)
    | _ => none
  else none
/-- what a body raises -/
def runE (f : SemS) (d : Def) (ds : List D) (st : Sto) : Option (Ex × Sto) :=
  if ds.length = d.ps.length then (f (ds.map some ++ List.replicate (d.N.length - ds.length) none) st).bind fun p => match p.1 with
    | .ex e _ => some (e, p.2)
    | _ => none
  else none
/-- the defs, to a depth of n calls: what they tell, what they raise -/
def callU (P : Pg) : Nat → CallF × CallX
  | 0 => (fun _ _ _ => none, fun _ _ _ => none)
  | n + 1 => (fun f ds st => (look f P.defs).bind fun d => (compB (compS (callU P n).1 (callU P n).2 60 (P.sx d) 30) (defBody d.st)).bind fun b => runB b d ds st,
    fun f ds st => (look f P.defs).bind fun d => (compB (compS (callU P n).1 (callU P n).2 60 (P.sx d) 30) (defBody d.st)).bind fun b => runE b d ds st)
def callN (P : Pg) (n : Nat) : CallF := (callU P n).1
def callX (P : Pg) (n : Nat) : CallX := (callU P n).2
end
end Sim

namespace Sim
open PySem L2

/-! ### each def keeps what callN says of it -/
structure DefOk (d : Def) (K : Frg) (mg : Str → Option Value) (fa : Addr) (fd : FuncData) : Prop where
  at' : mg d.name = some (.ref fa)
  fn : ∃ dV, (d.dfl = [] → dV = .none) ∧ FunE K d.name d.name d.st dV fa fd
  dl : d.dfl.length ≤ d.ps.length
  bd : ∀ j, j ≤ d.dfl.length → ∃ us vs, Vals vs us ∧ Binds K fd d.ps us ∧ ∀ ρ H, DRs K ρ H (d.dfl.drop j) vs
  sc : FnScope d.N d.ps (defScope d.st)
structure PgOk (P : Pg) (K : Frg) (w : World) (mg : Str → Option Value) : Prop where
  defs : ∀ d ∈ P.defs, ∃ fa fd, DefOk d K mg fa fd
  blt : ∀ x, x ∈ P.blt → mg x = none
  mth : ("gcd" : Str) ∈ P.mth → mg "gcd" = some (.builtin "math.gcd")
  nm : ∀ d ∈ P.defs, nmOk d.name = true
  glo : ∀ x d, lookD x P.glo = some d → ∃ u v, mg x = some u ∧ RelV v u ∧ ∀ ρ H, DR K ρ H d v
  gds : ∀ x tb, lookG x P.gds = some tb → ∃ a, mg x = some (.ref a) ∧ GTab K w a tb
  uq : (P.defs.map (·.name)).Nodup
  rz : ∀ f, f ∈ P.rz → f ∈ P.defs.map (·.name) := by intro f h; cases h
  exs : ∀ c fl, lookE c P.exs = some fl → fl.length ≤ 800 ∧ ∃ (C fI : Addr) (fd : FuncData), mg c = some (.ref C) ∧ OexC K C ∧ PySem.W.findIn K (.ref C) "__init__" = some (some (.ref fI)) ∧ PySem.W.typeIn K (.ref fI) = some (.type "function") ∧
    (∀ (prog : Program) (base : Heap), FnOk prog w K mg base C8.CX0 1 fI fd (("self" : Str) :: fl) (spI C fl)) ∧ Binds K fd (("self" : Str) :: fl) [] := by intro c fl h; cases h
  exm : ∀ c, (P.exm.any fun t => t.2.1 == c) = true → ∃ v cv, ClsV v cv ∧ (mg c = some cv ∨ mg c = none ∧ bootBuiltins c = some cv) ∧ ∀ a b C, exmOf P.exm a c = some b → mg a = some (.ref C) → PySem.W.exmOne K (.ref C) cv = some b := by intro c h; cases h
  exi : ∀ a C, a ∈ P.exi → mg a = some (.ref C) → ExcC K C ∧ ∀ fl g, lookE a P.exs = some fl → g ∈ fl → PySem.W.findIn K (.ref C) g = some none := by intro a C h; cases h
  tq : ∀ x q, (x, q) ∈ P.tq → q = (x ++ ".<locals>.") ++ "<lambda>" ∧ ∃ (fa c a : Addr) (o : Obj) (fdd : FuncData), mg x = some (.ref fa) ∧ K.lookup fa = some o ∧ o.data = .func fdd ∧ fdd.code = .ref c ∧ PySem.W.tabIn K x = some (c, a) ∧ ∀ z ∈ P.tq, TabOf K z.1 a → z.2 = q := by intro x q h; cases h
/-- a def without defaults -/
theorem DefOk.mk0 {d : Def} {K : Frg} {mg : Str → Option Value} {fa : Addr} {fd : FuncData} (hd : d.dfl = []) (at' : mg d.name = some (.ref fa)) (F : FunE K d.name d.name d.st .none fa fd) (b : Binds K fd d.ps []) (sc : FnScope d.N d.ps (defScope d.st)) : DefOk d K mg fa fd where
  at' := at'
  fn := ⟨.none, fun _ => rfl, F⟩
  dl := by rw [hd]; exact Nat.zero_le _
  bd := fun j _ => ⟨[], [], .nil, b, fun ρ H => by rw [hd, List.drop_nil]; exact .nil⟩
  sc := sc
/-- the law's def -/
theorem DefOk.law {d : Def} {K : Frg} {mg : Str → Option Value} {fa : Addr} {fd : FuncData} (D : DefOk d K mg fa fd) (hd : d.dfl = []) : FunE K d.name d.name d.st .none fa fd := by
  obtain ⟨dV, h1, h2⟩ := D.fn
  rw [h1 hd] at h2
  exact h2
/-- a written dict's row: its value a tuple of texts -/
theorem rowE_tup {K : Frg} {x : Str} {t : Tok} {h : Int} {a : Addr} {sl : Array (Option Value)} {its : Array Value} {n : Nat} {ds : List D} {vs : List V} (l : K.lookup a = some ⟨.type "tuple", none, .seq its n, sl⟩) (hz : its.size ≤ sizeLine) (hv : Vals vs its.toList) (hr : ∀ ρ H, DRs K ρ H ds vs) :
    RowE K ⟨h, .str x t, .ref a⟩ (x, .ktup ds) := ⟨⟨t, rfl⟩, .ref a, rfl, fun ρ H => .ktup (.inl ⟨_, its, n, l, rfl, rfl, rfl, hz, hv⟩) (hr ρ H)⟩
/-! ### global constants: numbers, texts, tuples that stand in the module -/
theorem glo_str {K : Frg} {mg : Str → Option Value} {x z : Str} {t : Tok} (h : mg x = some (Value.str z t)) : ∃ u v, mg x = some u ∧ RelV v u ∧ ∀ ρ H, DR K ρ H (.str z) v := ⟨_, .str z, h, ⟨t, rfl⟩, fun _ _ => .str z⟩
theorem glo_int {K : Frg} {mg : Str → Option Value} {x : Str} {i : Int} {t : Tok} (h : mg x = some (Value.int i t)) : ∃ u v, mg x = some u ∧ RelV v u ∧ ∀ ρ H, DR K ρ H (.int i) v := ⟨_, .int i, h, ⟨t, rfl⟩, fun _ _ => .int i⟩
theorem glo_tup {K : Frg} {mg : Str → Option Value} {x : Str} {a : Addr} {o : Obj} {its : Array Value} {n : Nat} {vs : List V} {ds : List D} (h : mg x = some (Value.ref a)) (hl : K.lookup a = some o) (hc : o.cls = .type "tuple") (hn : o.dict = none) (hd : o.data = .seq its n) (hz : its.size ≤ sizeLine) (hv : Vals vs its.toList)
    (hr : ∀ ρ H, DRs K ρ H ds vs) : ∃ u v, mg x = some u ∧ RelV v u ∧ ∀ ρ H, DR K ρ H (.ktup ds) v := ⟨_, .ref a, h, rfl, fun ρ H => .ktup (.inl ⟨o, its, n, hl, hc, hn, hd, hz, hv⟩) (hr ρ H)⟩
theorem look_mem {f : Str} : ∀ {l : List Def} {d : Def}, look f l = some d → d ∈ l ∧ d.name = f
  | [], _, h => by cases h
  | e :: r, d, h => by
    unfold look at h
    by_cases c : e.name = f
    · rw [if_pos c] at h; cases h; exact ⟨List.mem_cons_self, c⟩
    · rw [if_neg c] at h
      obtain ⟨h1, h2⟩ := look_mem h
      exact ⟨List.mem_cons_of_mem _ h1, h2⟩
theorem look_of {f : Str} : ∀ {l : List Def}, f ∈ l.map (·.name) → ∃ d, look f l = some d
  | [], h => by cases h
  | e :: r, h => by
    unfold look
    by_cases c : e.name = f
    · exact ⟨e, if_pos c⟩
    · rw [if_neg c]
      rw [List.map_cons, List.mem_cons] at h
      rcases h with h | h
      · exact absurd h.symm c
      · exact look_of h
theorem start_ER {K : Frg} {ρ : Rho} {H : Hp} {ds : List D} {vs : List V} (r : DRs K ρ H ds vs) (N : List Str) : ER K ρ H (ds.map some ++ List.replicate (N.length - ds.length) none) (L2.start N vs) := by
  have hl := r.length
  unfold L2.start
  refine ⟨by simp [hl], fun i d h => ?_⟩
  by_cases q : i < ds.length
  · rw [List.getElem?_append_left (by simpa using q), List.getElem?_map] at h
    cases e : ds[i]? with
    | none => rw [e] at h; cases h
    | some x =>
      rw [e] at h
      cases h
      obtain ⟨v, hv, rv⟩ := r.get e
      refine ⟨v, ?_, rv⟩
      rw [List.getElem?_append_left (by simp; omega), List.getElem?_map, hv]; rfl
  · rw [List.getElem?_append_right (by simpa using q), List.getElem?_replicate] at h
    split at h <;> cases h

theorem callN_split {P : Pg} {n : Nat} {f : Str} {ds : List D} {st : Sto} {r : D × Sto} (h : callN P (n + 1) f ds st = some r) :
    ∃ d b, look f P.defs = some d ∧ compB (compS (callN P n) (callX P n) 60 (P.sx d) 30) (defBody d.st) = some b ∧ runB b d ds st = some r := by
  have h : (look f P.defs).bind _ = some r := h
  obtain ⟨d, e1, h2⟩ := bind_some h
  obtain ⟨b, e2, e3⟩ := bind_some h2
  exact ⟨d, b, e1, e2, e3⟩
theorem callX_split {P : Pg} {n : Nat} {f : Str} {ds : List D} {st : Sto} {r : Ex × Sto} (h : callX P (n + 1) f ds st = some r) :
    ∃ d b, look f P.defs = some d ∧ compB (compS (callN P n) (callX P n) 60 (P.sx d) 30) (defBody d.st) = some b ∧ runE b d ds st = some r := by
  have h : (look f P.defs).bind _ = some r := h
  obtain ⟨d, e1, h2⟩ := bind_some h
  obtain ⟨b, e2, e3⟩ := bind_some h2
  exact ⟨d, b, e1, e2, e3⟩
theorem callN_len {P : Pg} {n : Nat} {f : Str} {ds : List D} {st : Sto} {r : D × Sto} {d : Def} (hl : look f P.defs = some d) (h : callN P n f ds st = some r) : ds.length = d.ps.length := by
  cases n with
  | zero => cases h
  | succ n =>
    obtain ⟨d', b, e1, e2, e3⟩ := callN_split h
    rw [hl] at e1; cases e1
    exact (ite_some e3).1
theorem callX_len {P : Pg} {n : Nat} {f : Str} {ds : List D} {st : Sto} {r : Ex × Sto} {d : Def} (hl : look f P.defs = some d) (h : callX P n f ds st = some r) : ds.length = d.ps.length := by
  cases n with
  | zero => cases h
  | succ n =>
    obtain ⟨d', b, e1, e2, e3⟩ := callX_split h
    rw [hl] at e1; cases e1
    exact (ite_some e3).1

theorem mem_dfl {f : Str} {z : Nat × List D} : ∀ {l : List Def}, lookG f (dflOf l) = some z → f ∈ l.map (·.name)
  | [], h => by cases h
  | e :: r, h => by
    rw [List.map_cons, List.mem_cons]
    cases hd : e.dfl with
    | nil => unfold dflOf at h; rw [hd] at h; exact .inr (mem_dfl h)
    | cons x l =>
      unfold dflOf at h
      rw [hd] at h
      unfold lookG at h
      by_cases c : e.name = f
      · exact .inl c.symm
      · rw [if_neg c] at h; exact .inr (mem_dfl h)
theorem lookG_dfl {f : Str} {np : Nat} {ds : List D} : ∀ {l : List Def} {d : Def}, look f l = some d → lookG f (dflOf l) = some (np, ds) → (l.map (·.name)).Nodup → np = d.ps.length ∧ ds = d.dfl
  | [], _, h, _, _ => by cases h
  | e :: r, d, h, g, u => by
    rw [List.map_cons, List.nodup_cons] at u
    unfold look at h
    by_cases c : e.name = f
    · rw [if_pos c] at h; cases h
      cases hd : e.dfl with
      | nil =>
        unfold dflOf at g
        rw [hd] at g
        exact absurd (mem_dfl g) (by rw [← c]; exact u.1)
      | cons x l =>
        unfold dflOf at g
        rw [hd] at g
        unfold lookG at g
        rw [if_pos c] at g
        cases g
        exact ⟨rfl, rfl⟩
    · rw [if_neg c] at h
      refine lookG_dfl h ?_ u.2
      cases hd : e.dfl with
      | nil => unfold dflOf at g; rw [hd] at g; exact g
      | cons x l =>
        unfold dflOf at g
        rw [hd] at g
        unfold lookG at g
        rw [if_neg c] at g
        exact g
section
variable {P : Pg} {K : Frg} {mg : Str → Option Value}
theorem dfl_ok {f : Str} {d : Def} {fa : Addr} {fd : FuncData} {m : Nat} {dds : List D} (hu : (P.defs.map (·.name)).Nodup) (hd : look f P.defs = some d) (Dg : DefOk d K mg fa fd) (q : dfOf P.dfl f m = some dds) : ∃ us vs, Vals vs us ∧ Binds K fd d.ps us ∧ ∀ ρ H, DRs K ρ H dds vs := by
  unfold dfOf at q
  split at q
  · cases q
    obtain ⟨us, vs, h1, h2, h3⟩ := Dg.bd d.dfl.length (Nat.le_refl _)
    rw [List.drop_length] at h3
    exact ⟨us, vs, h1, h2, h3⟩
  · rename_i np ds hg
    obtain ⟨_, q⟩ := ite_some q
    cases q
    obtain ⟨rfl, rfl⟩ := lookG_dfl hd hg hu
    exact Dg.bd _ (by omega)
end
section
variable {P : Pg} {prog : Program} {w : World} {K : Frg} {mg : Str → Option Value} {base : Heap}
theorem spX_of {cf : CallF} {cx : CallX} {f : Str} {m : Nat} {vs : List V} {H : Hp} {Q : VK} {E : XK} (h : spF K cf f m vs H Q E) : spX K mg cf cx f m vs H Q E := ⟨h.1, .inl h.2⟩
theorem all_ok (O : PgOk P K w mg) (hT : ∀ x q c a, (x, q) ∈ P.tq → PySem.W.tabIn K x = some (c, a) → LamX.TabB base mg c a) : ∀ (n : Nat) (f : Str) (d : Def), look f P.defs = some d → ∀ fa fd, DefOk d K mg fa fd → FnG prog w K mg base (L2.CX prog w) (n + 2) fa fd d.ps (spX K mg (callN P n) (callX P n) f d.ps.length)
  | 0, f, d, hl, fa, fd, D0 => by
    refine ⟨fun vs H Q E h => h.1, fun A outer s H args us vs Q E _ _ _ _ _ h => ?_⟩
    obtain ⟨_, ⟨ρ, st, ds, dd, st', _, _, e, _⟩ | ⟨ρ, st, ds, dd, st', _, _, e, _⟩⟩ := h
    · cases e
    · cases e
  | n + 1, f, d, hl, fa, fd, D0 => by
    have ih := all_ok O hT n
    obtain ⟨dV0, hdV0, fn0⟩ := D0.fn
    refine FunE.okG (k := n + 2) fn0 D0.sc (fun vs H Q E h => h.1) fun cdv A outer s H vs Q E hcd gu room h => ?_
    have G : Gx (cxOf (L2.CX prog w) prog w K mg base d.N d.name (defScope d.st) fa cdv A outer s H E) (P.sx d) := ⟨rfl, D0.sc.nd, rfl, fun _ _ => rfl⟩
    have own : ∀ g, g ∈ P.defs.map (·.name) → ∃ ga gd ps, OwnX (cxOf (L2.CX prog w) prog w K mg base d.N d.name (defScope d.st) fa cdv A outer s H E) (P.sx d).dfl (callN P n) (callX P n) (n + 2) g ga gd ps := fun g hg => by
      obtain ⟨dg, hd⟩ := look_of hg
      obtain ⟨hm, hn⟩ := look_mem hd
      obtain ⟨ga, gd, Dg⟩ := O.defs dg hm
      obtain ⟨dV1, _, fn1⟩ := Dg.fn
      exact ⟨ga, gd, dg.ps, ⟨by rw [← hn]; exact Dg.at', fn1.kp, fun m dds q => dfl_ok O.uq hd Dg q, ih g dg hd ga gd Dg, fun ds st => ⟨fun r q => callN_len hd q, fun r q => callX_len hd q⟩⟩⟩
    have F : Fw (cxOf (L2.CX prog w) prog w K mg base d.N d.name (defScope d.st) fa cdv A outer s H E) (P.sx d) (callN P n) (callX P n) (n + 2) (fun cls d _ H => E cls d H) := {
      room := room
      gu := gu
      calm := rfl
      px := L2.passes_of rfl
      own := fun g hg => by
        obtain ⟨ga, gd, ps, o⟩ := own g hg
        exact ⟨ga, gd, ps, _, ⟨o.mg, o.kp, o.bd, o.ok, fun _ _ _ z => spX_of z, fun ds st r q => (o.ar ds st).1 r q⟩⟩
      blt := O.blt
      mth := O.mth
      glo := O.glo
      gds := O.gds
      lam := fun q hq => by
        obtain ⟨e1, fa', c, a, o, fdd, m1, l1, d1, k1, t1, u1⟩ := O.tq d.name q hq
        have ef := D0.at'
        rw [m1] at ef; cases ef
        obtain ⟨o', fdd', l2, d2, k2⟩ := hcd
        rw [l1] at l2; cases l2
        rw [d1] at d2; cases d2
        refine ⟨room.mono (by omega), c, a, ?_, t1, hT _ q c a hq t1, e1, u1⟩
        show cdv = .ref c
        rw [← k2, k1]
      tk := L2.takes_of rfl rfl rfl rfl
      hs := rfl
      hf := rfl
      hr := room.mono (by omega)
      ownx := fun g hg => own g (O.rz g hg)
      exs := fun c fl hc => by
        obtain ⟨h1, C, fI, fd, q1, q2, q3, q4, q5, q6⟩ := O.exs c fl hc
        exact ⟨⟨C, fI, fd, q1, q2, q3, q4, q5 _ _, q6⟩, h1⟩
      exm := O.exm
      exi := O.exi }
    obtain ⟨hlen, ⟨ρ, st, ds, dd, st', SRr, r, e, k⟩ | ⟨ρ, st, ds, dd, st', SRr, r, e, k⟩⟩ := h
    · obtain ⟨d', b, e1, e2, e3⟩ := callN_split e
      rw [hl] at e1; cases e1
      obtain ⟨hds, e4⟩ := ite_some e3
      obtain ⟨p, e5, e6⟩ := bind_some e4
      refine ⟨tSv K mg _ b, ok_compB (ok_compS 30 F G) e2, ρ, _, st, p.1, p.2, start_ER r d.N, SRr, e5, ?_⟩
      cases hp : p.1 with
      | rt v => rw [hp] at e6; cases e6; exact fun ρ1 H1 v1 g1 S1 r1 => k ρ1 H1 v1 g1 S1 r1
      | nx η => rw [hp] at e6; cases e6; exact fun ρ1 H1 σ1 g1 S1 E1 => k ρ1 H1 _ g1 S1 .non
      | bk η => rw [hp] at e6; cases e6
      | ct η => rw [hp] at e6; cases e6
      | ex x η => rw [hp] at e6; cases e6
    · obtain ⟨d', b, e1, e2, e3⟩ := callX_split e
      rw [hl] at e1; cases e1
      obtain ⟨hds, e4⟩ := ite_some e3
      obtain ⟨p, e5, e6⟩ := bind_some e4
      refine ⟨tSv K mg _ b, ok_compB (ok_compS 30 F G) e2, ρ, _, st, p.1, p.2, start_ER r d.N, SRr, e5, ?_⟩
      cases hp : p.1 with
      | ex x η => rw [hp] at e6; cases e6; exact fun ρ1 H1 σ1 c d g1 S1 E1 r1 => k ρ1 H1 c d g1 S1 r1
      | rt v => rw [hp] at e6; cases e6
      | nx η => rw [hp] at e6; cases e6
      | bk η => rw [hp] at e6; cases e6
      | ct η => rw [hp] at e6; cases e6
end
/-- the law at every script -/
def LawOk (P : Pg) (n : Nat) : Prop := ∀ (ns : List Int) (o : O), ns.length ≤ 63 → (o = .lst (ns.map .int) ∨ o = .frz (ns.map .int)) → ∃ st', callN P n "law" [.ref 0] [o] = some (.bl true, st')
theorem drs_ints {K : Frg} {ρ : Rho} {H : Hp} : ∀ ns : List Int, DRs K ρ H (ns.map .int) (ns.map V.int)
  | [] => .nil
  | n :: ns => .cons (.int n) (drs_ints ns)
theorem sr_one {K : Frg} {H : Hp} {a : Addr} {o : O} (h : OR K [a] H o a) : SR K [a] [o] H := by
  refine ⟨rfl, fun n x b h1 h2 => ?_, fun n m x y b h1 h2 _ _ _ _ => ?_, fun n x h1 _ => by cases h1⟩
  · cases n with
    | zero => cases h1; cases h2; exact h
    | succ n => cases h1
  · cases n with
    | zero => cases m with
      | zero => rfl
      | succ m => cases h2
    | succ n => cases h1
theorem law_sp {P : Pg} {n : Nat} (L : LawOk P n) {K : Frg} {H : Hp} {a : Addr} {ns : List Int} (hl : ns.length ≤ 63) (hS : SqL K H a (ns.map V.int)) (E : XK) : spF K (callN P n) "law" 1 [.ref a] H (fun v _ => v = .bl true) E := by
  have go : ∀ o : O, (o = .lst (ns.map .int) ∨ o = .frz (ns.map .int)) → OR K [a] H o a → spF K (callN P n) "law" 1 [.ref a] H (fun v _ => v = .bl true) E := fun o ho h => by
    obtain ⟨st', e⟩ := L ns o hl ho
    exact ⟨rfl, [a], [o], [.ref 0], .bl true, st', sr_one h, .cons (.ref rfl) .nil, e, fun ρ' H' v _ _ r => by cases r; rfl⟩
  rcases hS with (h | ⟨u, h⟩) | h
  · exact go _ (.inl rfl) ⟨_, h, drs_ints ns⟩
  · exact go _ (.inr rfl) ⟨_, .inl ⟨u, h⟩, drs_ints ns⟩
  · exact go _ (.inr rfl) ⟨_, .inr h, drs_ints ns⟩
theorem FnG.imp {P : Program} {w : World} {K : Frg} {mg : Str → Option Value} {base : Heap} {CX : CXT} {k : Nat} {f : Addr} {fd : FuncData} {ps : List Str} {sp sp' : Sp} (F : FnG P w K mg base CX k f fd ps sp) (h : ∀ vs H Q E, sp' vs H Q E → sp vs H Q E) : FnG P w K mg base CX k f fd ps sp' :=
  ⟨fun vs H Q E q => F.len vs H Q E (h _ _ _ _ q), fun A outer s H args us vs Q E r g e b v q => F.run A outer s H args us vs Q E r g e b v (h _ _ _ _ q)⟩
theorem finish {P : Pg} {n : Nat} (L : LawOk P n) (h0 : P.tq = []) {dl : Def} (hdl : look "law" P.defs = some dl) (hps : dl.ps = (["_law_script"] : List Str)) {l : PySem.W.OpenLaw} {q : Program} {loose : List Str} {XP : (Str → Option Value) → Heap → Prop} {YP : World → Heap → Prop} {d : DefRec} {K : Params → Frg}
    (hn : l.most = some 63) (hdf : d.params.defaults = []) (room : Room (n + 2) callerA) (hY : ∀ (w : World) (h : Heap), YP w h → (K w.params).In h) (hname : d.name = "law")
    (F : ∀ (w : World) (mg : Str → Option Value) (h : Heap), (K w.params).In h → h.Ns mainGlobals mg → PgOk P (K w.params) w mg)
    (B : ∀ (w : World) (mg : Str → Option Value) (fa : Addr) (fd : FuncData), DefOk dl (K w.params) mg fa fd → ∀ (s : Shared) (u : Value), BindsTo s fd ⟨[u], []⟩ [("_law_script", u)]) :
    PySem.W.WalkO q loose XP YP l.row.toRowW d [] (fun f vs => PySem.call f vs) := by
  refine walkG (n := 63) (k := n + 2) (x := "_law_script") (CX := fun w => L2.CX l.prog w) (sp := fun w => spF (K w.params) (callN P n) "law" 1) hn (by decide) hdf room hY (fun w mg fa h KX G hmg => ?_) (fun w H a ns hl _ hS => law_sp L hl hS _) fun _ _ _ _ _ z => by
    obtain ⟨_, _, _, _, _, _, _, _, _, _, _, _, z⟩ := z
    exact z
  have O := F w mg h KX G
  obtain ⟨hm, hnm⟩ := look_mem hdl
  obtain ⟨fa', fd, Dl⟩ := O.defs dl hm
  have e : fa' = fa := by
    have h1 := Dl.at'
    rw [hnm, ← hname, hmg] at h1
    cases h1; rfl
  subst e
  refine ⟨fd, B w mg fa' fd Dl, fun b _ _ => ?_⟩
  have := all_ok (prog := l.prog) (w := w) (base := b) O (fun x q c a h => by rw [h0] at h; cases h) n "law" dl hdl fa' fd Dl
  have this := this.imp fun vs H Q E q => spX_of q
  rw [hps] at this
  exact this
end Sim

namespace Sim
open PySem
variable {η : LocD} {st : Sto} {fa fb fc fo fi fe : SemE} {ft fu : SemT} {fs fr : SemA} {f g : SemS} {d : D} {i j l : Nat} {op : Operator} {cf : CallF} {x : Str} {gd : SemG} {gs : SemGs}
theorem callN_of {P : Pg} {n : Nat} {f : PySem.Str} {ds : List D} {st : Sto} {d : Def} {b : SemS} (hl : look f P.defs = some d) (hb : compB (compS (callN P n) (callX P n) 60 (P.sx d) 30) (L2.defBody d.st) = some b) : callN P (n + 1) f ds st = runB b d ds st := by
  show (look f P.defs).bind _ = _
  rw [hl]
  show (compB (compS (callN P n) (callX P n) 60 (P.sx d) 30) (L2.defBody d.st)).bind _ = _
  rw [hb]
  rfl
theorem callX_of {P : Pg} {n : Nat} {f : PySem.Str} {ds : List D} {st : Sto} {d : Def} {b : SemS} (hl : look f P.defs = some d) (hb : compB (compS (callN P n) (callX P n) 60 (P.sx d) 30) (L2.defBody d.st) = some b) : callX P (n + 1) f ds st = runE b d ds st := by
  show (look f P.defs).bind _ = _
  rw [hl]
  show (compB (compS (callN P n) (callX P n) 60 (P.sx d) 30) (L2.defBody d.st)).bind _ = _
  rw [hb]
  rfl
@[simp] theorem fC_ev : fC d η st = some (d, st) := rfl
@[simp] theorem fVar_ev : fVar i η st = match η[i]? with
  | some (some d) => some (d, st)
  | _ => none := rfl
@[simp] theorem fBin_ev : fBin op fa fb η st = (fa η st).bind fun p => (fb η p.2).bind fun q => binop op p.1 q.1 q.2 := rfl
@[simp] theorem fCmp_ev {op : CmpOp} : fCmp op fa fb η st = (fa η st).bind fun p => (fb η p.2).bind fun q => (cmpop op p.1 q.1 q.2).map fun b => (.bl b, q.2) := rfl
@[simp] theorem fIx_ev : fIx fa fb η st = (fa η st).bind fun p => (fb η p.2).bind fun q => (ix p.1 q.1 q.2).map fun d => (d, q.2) := rfl
@[simp] theorem fNil_ev : fNil η st = some ([], st) := rfl
@[simp] theorem fCons_ev : fCons fa fr η st = (fa η st).bind fun p => (fr η p.2).map fun q => (p.1 :: q.1, q.2) := rfl
@[simp] theorem fTup_ev : fTup fs η st = (fs η st).bind fun p => if p.1.length ≤ most then some (.tup p.1, p.2) else none := rfl
@[simp] theorem fLst_ev : fLst fs η st = (fs η st).bind fun p => if p.1.length ≤ most then alloc (.lst p.1) p.2 else none := rfl
@[simp] theorem fCall_ev : fCall cf x fs η st = (fs η st).bind fun p => cf x p.1 p.2 := rfl
@[simp] theorem fBlt_ev {g : List D → Sto → R} : fBlt g fs η st = (fs η st).bind fun p => g p.1 p.2 := rfl
@[simp] theorem fNeg_ev : fNeg fa η st = (fa η st).bind fun p => match p.1 with
  | .int i => some (.int (-i), p.2)
  | .bl b => some (.int (-(if b = true then (1 : Int) else 0)), p.2)
  | _ => none := rfl
@[simp] theorem fRev_ev : fRev fa η st = (fa η st).bind fun p => revD p.1 p.2 := rfl
@[simp] theorem fUpp_ev : fUpp fa η st = (fa η st).bind fun p => match p.1 with
  | .str s => if s.length ≤ most then some (.str (Txt.upper s), p.2) else none
  | _ => none := rfl
@[simp] theorem sStuck_ev : sStuck η st = none := rfl
@[simp] theorem fIf_ev : fIf ft fa fb η st = (ft η st).bind fun p => if p.1 = true then fa η p.2 else fb η p.2 := rfl
@[simp] theorem fNotV_ev : fNotV fa η st = (fa η st).bind fun p => (truth p.1 p.2).map fun b => (.bl (!b), p.2) := rfl
@[simp] theorem fAndV_ev : fAndV fa fb η st = (fa η st).bind fun p => (truth p.1 p.2).bind fun b => if b = true then fb η p.2 else some p := rfl
@[simp] theorem fOrV_ev : fOrV fa fb η st = (fa η st).bind fun p => (truth p.1 p.2).bind fun b => if b = true then some p else fb η p.2 := rfl
@[simp] theorem gTru_ev : gTru fa η st = (fa η st).bind fun p => (truth p.1 p.2).map fun b => (b, p.2) := rfl
@[simp] theorem gNot_ev : gNot ft η st = (ft η st).map fun p => (!p.1, p.2) := rfl
@[simp] theorem gAnd_ev : gAnd ft fu η st = (ft η st).bind fun p => if p.1 = true then fu η p.2 else some (false, p.2) := rfl
@[simp] theorem gOr_ev : gOr ft fu η st = (ft η st).bind fun p => if p.1 = true then some (true, p.2) else fu η p.2 := rfl
@[simp] theorem gCmp_ev {op : CmpOp} : gCmp op fa fb η st = (fa η st).bind fun p => (fb η p.2).bind fun q => (cmpop op p.1 q.1 q.2).map fun b => (b, q.2) := rfl
@[simp] theorem gCh_ev {o1 o2 : CmpOp} : gCh o1 o2 fa fb fc η st = (fa η st).bind fun p => (fb η p.2).bind fun q => (cmpop o1 p.1 q.1 q.2).bind fun b =>
  if b = true then (fc η q.2).bind fun r => (cmpop o2 q.1 r.1 r.2).map fun c => (c, r.2) else some (false, q.2) := rfl
@[simp] theorem fCh_ev {o1 o2 : CmpOp} : fCh o1 o2 fa fb fc η st = (gCh o1 o2 fa fb fc η st).map fun p => (.bl p.1, p.2) := rfl
@[simp] theorem oNone_ev : oNone η st = some (none, st) := rfl
@[simp] theorem oSome_ev : oSome fa η st = (fa η st).bind fun p => match p.1 with
  | .int i => some (some i, p.2)
  | _ => none := rfl
@[simp] theorem fSl_ev {fl fh : SemO} : fSl fa fl fh η st = (fa η st).bind fun p => (fl η p.2).bind fun l => (fh η l.2).bind fun h => slD p.1 l.1 h.1 h.2 := rfl
@[simp] theorem fIsi_ev {T : String} : fIsi T fa η st = (fa η st).bind fun p => (isInst T p.1 p.2).map fun b => (.bl b, p.2) := rfl
@[simp] theorem gvName_ev : gvName i d η = some (η.set i (some d)) := rfl
@[simp] theorem gvTup_ev {xs : List D} : gvTup gs (.tup xs) η = gs xs η := rfl
@[simp] theorem gvNil_ev : gvNil [] η = some η := rfl
@[simp] theorem gvCons_ev {r : List D} : gvCons gd gs (d :: r) η = (gd d η).bind fun η1 => gs r η1 := rfl
@[simp] theorem iPlain_ev : iPlain fa η st = (fa η st).bind fun p => (srcOf p.1 p.2).map fun s => (s, p.2) := rfl
@[simp] theorem srcOf_tup {xs : List D} : srcOf (.tup xs) st = some ⟨xs, none⟩ := rfl
@[simp] theorem iRng_ev : iRng fs η st = (fs η st).bind fun p => (rngOf p.1).map fun xs => (⟨xs, none⟩, p.2) := rfl
@[simp] theorem sNil_ev : sNil η st = some (.nx η, st) := rfl
@[simp] theorem sSeq_ev : sSeq f g η st = (f η st).bind fun p => match p.1 with
  | .nx η' => g η' p.2
  | fl => some (fl, p.2) := rfl
@[simp] theorem sAsg_ev : sAsg fe gd η st = (fe η st).bind fun p => (gd p.1 η).map fun η' => (.nx η', p.2) := rfl
@[simp] theorem sPar2_ev : sPar2 i j fs η st = (fs η st).bind fun p => match p.1 with
  | [a, b] => some (.nx ((η.set i (some a)).set j (some b)), p.2)
  | _ => none := rfl
@[simp] theorem sPar3_ev : sPar3 i j l fs η st = (fs η st).bind fun p => match p.1 with
  | [a, b, c] => some (.nx (((η.set i (some a)).set j (some b)).set l (some c)), p.2)
  | _ => none := rfl
@[simp] theorem sSub_ev : sSub fo fi fe η st = (fe η st).bind fun p => (fo η p.2).bind fun q => (fi η q.2).bind fun r => (setI q.1 r.1 p.1 r.2).map fun st' => (.nx η, st') := rfl
@[simp] theorem sAug_ev : sAug i op fe η st = (fVar i η st).bind fun x => (fe η st).bind fun p => (inplc op x.1 p.1).map fun z => (.nx (η.set i (some z)), p.2) := rfl
@[simp] theorem sAugS_ev : sAugS fo fi op fe η st = (fo η st).bind fun p => (fi η p.2).bind fun q => (getI p.1 q.1 q.2).bind fun x => (fe η q.2).bind fun r => (inplc op x r.1).bind fun z =>
  (setI p.1 q.1 z r.2).map fun st' => (.nx η, st') := rfl
@[simp] theorem sRet_ev : sRet fe η st = (fe η st).map fun p => (.rt p.1, p.2) := rfl
@[simp] theorem sRetN_ev : sRetN η st = some (.rt .non, st) := rfl
@[simp] theorem sIf_ev : sIf ft f g η st = (ft η st).bind fun p => if p.1 = true then f η p.2 else g η p.2 := rfl
@[simp] theorem sExpr_ev : sExpr fe η st = (fe η st).map fun p => (.nx η, p.2) := rfl
@[simp] theorem sBrk_ev : sBrk η st = some (.bk η, st) := rfl
@[simp] theorem sCnt_ev : sCnt η st = some (.ct η, st) := rfl
@[simp] theorem sFor_ev {fi : SemI} : sFor fi gd f η st = (fi η st).bind fun p => forGo gd f p.1.gd p.1.xs η p.2 := rfl
@[simp] theorem sWhile_ev : sWhile ft f η st = whGo ft f fuel η st := rfl
@[simp] theorem fLc_ev {fi : SemI} {vs : List Nat} : fLc fi gd ft fe vs η st = (fi η st).bind fun p => (lcGo gd ft fe (wipeD η vs) p.1.gd p.2.length p.1.xs (p.2 ++ [.lst []])).map fun st' => (.ref p.2.length, st') := rfl
@[simp] theorem gYes_ev : gYes η st = some (true, st) := rfl
@[simp] theorem sRetX_ev {cf : CallF} {cx : CallX} {x : PySem.Str} {dds : List D} {fs : SemA} : sRetX cf cx x dds fs η st = (calX cf cx x dds fs η st).map fun r => match r.1 with
  | .inl d => (.rt d, r.2)
  | .inr e => (.ex e η, r.2) := rfl
@[simp] theorem sAsgX_ev {cf : CallF} {cx : CallX} {x : PySem.Str} {dds : List D} {fs : SemA} {i : Nat} : sAsgX cf cx x dds fs i η st = (calX cf cx x dds fs η st).map fun r => match r.1 with
  | .inl d => (.nx (η.set i (some d)), r.2)
  | .inr e => (.ex e η, r.2) := rfl
@[simp] theorem sExprX_ev {cf : CallF} {cx : CallX} {x : PySem.Str} {dds : List D} {fs : SemA} : sExprX cf cx x dds fs η st = (calX cf cx x dds fs η st).map fun r => match r.1 with
  | .inl d => (.nx η, r.2)
  | .inr e => (.ex e η, r.2) := rfl
@[simp] theorem fTupK_ev : fTupK fs η st = (fs η st).bind fun p => if p.1.length ≤ most then some (.ktup p.1, p.2) else none := rfl
@[simp] theorem fAddK_ev : fAddK fa fb η st = (fa η st).bind fun p => (fb η p.2).bind fun q => addK p.1 q.1 q.2 := rfl
@[simp] theorem fMulK_ev : fMulK fa fb η st = (fa η st).bind fun p => (fb η p.2).bind fun q => mulK p.1 q.1 q.2 := rfl
@[simp] theorem fRevK_ev : fRevK fa η st = (fa η st).bind fun p => match p.1 with
  | .ktup xs => some (.ktup xs.reverse, p.2)
  | _ => none := rfl
@[simp] theorem fSlK_ev {fl fh : SemO} : fSlK fa fl fh η st = (fa η st).bind fun p => (fl η p.2).bind fun l => (fh η l.2).bind fun h => slK p.1 l.1 h.1 h.2 := rfl
@[simp] theorem fCntK_ev : fCntK fa fe η st = (fa η st).bind fun p => match p.1 with
  | .ktup xs => (mapO strD xs).bind fun ys => (fe η p.2).bind fun q => match q.1 with
    | .str z => some (.int (ys.countP (fun y => y == z) : Nat), q.2)
    | _ => none
  | .ref n => match p.2[n]? with
    | some (.lst _) => (fe η p.2).bind fun q => match q.1 with
      | .str z => match q.2[n]? with
        | some (.lst xs) => (mapO strD xs).map fun ys => (.int (ys.countP (fun y => y == z) : Nat), q.2)
        | _ => none
      | _ => none
    | _ => none
  | _ => none := rfl
@[simp] theorem sRetTX_ev {f0 : SemE} {cf : CallF} {cx : CallX} {x : PySem.Str} {dds : List D} {fs : SemA} : sRetTX f0 cf cx x dds fs η st = (f0 η st).bind fun p => (calX cf cx x dds fs η p.2).map fun r => match r.1 with
  | .inl d => (.rt (.tup [p.1, d]), r.2)
  | .inr e => (.ex e η, r.2) := rfl
@[simp] theorem sAsgIX_ev {cf : CallF} {cx : CallX} {x : PySem.Str} {dds : List D} {fs : SemA} {fc : SemE} {i : Nat} : sAsgIX cf cx x dds fs fc i η st = (calX cf cx x dds fs η st).bind fun r => match r.1 with
  | .inl d => (fc η r.2).bind fun q => (cmpop .Is d q.1 q.2).map fun b => (.nx (η.set i (some (.bl b))), q.2)
  | .inr e => some (.ex e η, r.2) := rfl
@[simp] theorem fCallD_ev {cf : CallF} {x : PySem.Str} {dds : List D} {fs : SemA} : fCallD cf x dds fs η st = (fs η st).bind fun p => cf x (p.1 ++ dds) p.2 := rfl
theorem tryAs_rt {l : List (PySem.Str × PySem.Str × Bool)} {exi : List PySem.Str} {c : PySem.Str} {i : Nat} {fb : SemS} {g : Ex → SemS} {st' : Sto} (h : fb η st = some (.rt d, st')) : sTryAs l exi c i fb g η st = some (.rt d, st') := by
  unfold sTryAs
  rw [h]; rfl
theorem tryAs_nx {l : List (PySem.Str × PySem.Str × Bool)} {exi : List PySem.Str} {c : PySem.Str} {i : Nat} {fb : SemS} {g : Ex → SemS} {η' : LocD} {st' : Sto} (h : fb η st = some (.nx η', st')) : sTryAs l exi c i fb g η st = some (.nx η', st') := by
  unfold sTryAs
  rw [h]; rfl
theorem tryAs_ex {l : List (PySem.Str × PySem.Str × Bool)} {exi : List PySem.Str} {c : PySem.Str} {i : Nat} {fb : SemS} {g : Ex → SemS} {η' : LocD} {st' : Sto} {e : Ex} (h : fb η st = some (.ex e η', st')) (hm : exmOf l e.cls c = some true) (hx : e.cls ∈ exi) (hi : i < η'.length) : sTryAs l exi c i fb g η st = (g e (η'.set i none) st').bind fun q => match q.1 with
    | .nx η2 => some (.nx (η2.set i none), q.2)
    | .rt d => some (.rt d, q.2)
    | _ => none := by
  unfold sTryAs
  rw [h]
  simp only [Option.bind_some, hm, if_true, if_pos (And.intro hx hi)]
  all_goals rfl
@[simp] theorem fIsa_ev {l : List (PySem.Str × PySem.Str × Bool)} {a : PySem.Str} {cs : List PySem.Str} : fIsa l a cs η st = (isaE l a cs).map fun b => (.bl b, st) := rfl
@[simp] theorem fFld_ev {t : List (PySem.Str × List PySem.Str)} {a : PySem.Str} {l : List (PySem.Str × D)} {f : PySem.Str} : fFld t a l f η st = (lookE a t).bind fun fl => if f ∈ fl then (lookD f l).map fun d => (d, st) else none := rfl
@[simp] theorem sRai_ev {c : PySem.Str} {fl : List PySem.Str} {fs : SemA} : sRai c fl fs η st = (fs η st).bind fun p => if p.1.length = fl.length then some (.ex ⟨c, (fl.zip p.1).reverse⟩ η, p.2) else none := rfl
theorem calX_ok {cf : CallF} {cx : CallX} {x : PySem.Str} {dds ds : List D} {fs : SemA} {s1 : Sto} {r : D × Sto} (h1 : fs η st = some (ds, s1)) (h2 : cf x (ds ++ dds) s1 = some r) : calX cf cx x dds fs η st = some (.inl r.1, r.2) := by
  unfold calX
  rw [h1]
  simp only [Option.bind_some, h2]
theorem calX_ex {cf : CallF} {cx : CallX} {x : PySem.Str} {dds ds : List D} {fs : SemA} {s1 : Sto} {r : Ex × Sto} (h1 : fs η st = some (ds, s1)) (h0 : cf x (ds ++ dds) s1 = none) (h2 : cx x (ds ++ dds) s1 = some r) : calX cf cx x dds fs η st = some (.inr r.1, r.2) := by
  unfold calX
  rw [h1]
  simp only [Option.bind_some, h0, h2]
  rfl
theorem runE_ev {dd : Def} {ds : List D} (h : ds.length = dd.ps.length) : runE f dd ds st = (f (ds.map some ++ List.replicate (dd.N.length - ds.length) none) st).bind fun p => match p.1 with
    | .ex e _ => some (e, p.2)
    | _ => none := if_pos h
theorem runB_ev {dd : Def} {ds : List D} (h : ds.length = dd.ps.length) : runB f dd ds st = (f (ds.map some ++ List.replicate (dd.N.length - ds.length) none) st).bind fun p => match p.1 with
    | .rt v => some (v, p.2)
    | .nx _ => some (.non, p.2)
    | _ => none := if_pos h
@[simp] theorem add_int {a b : Int} : binop .Add (.int a) (.int b) st = some (.int (a + b), st) := rfl
@[simp] theorem sub_int {a b : Int} : binop .Sub (.int a) (.int b) st = some (.int (a - b), st) := rfl
theorem mul_int {a b : Int} {m n : Nat} (ha : a.natAbs < 2 ^ m) (hb : b.natAbs < 2 ^ n) (h0 : 0 < m) (h1 : 0 < n) (h : m + n ≤ 1000000) : binop .Mult (.int a) (.int b) st = some (.int (a * b), st) := by
  have h : a.natAbs.log2 + b.natAbs.log2 < 1000000 := L2.wide_mul ha hb h0 h1 h
  show (gMul a b).map _ = _
  unfold gMul
  rw [if_pos h]; rfl
theorem mod_int {a b : Int} (h : 0 < b) : binop .Mod (.int a) (.int b) st = some (.int (a % b), st) := by
  show (gMod a b).map _ = _
  unfold gMod
  rw [if_pos h]; rfl
theorem div_int {a b : Int} {n : Nat} (h : 0 < b) (hb : b.natAbs < 2 ^ n) (h0 : 0 < n) (h9 : n ≤ 9000) : binop .FloorDiv (.int a) (.int b) st = some (.int (a / b), st) := by
  have h2 : 0 < b ∧ b.natAbs.log2 < 9000 := L2.wide_div (i := 0) h hb h0 h9
  show (gDiv a b).map _ = _
  unfold gDiv
  rw [if_pos h2]; rfl
@[simp] theorem lt_int {a b : Int} : cmpop .Lt (.int a) (.int b) st = some (decide (a < b)) := rfl
@[simp] theorem le_int {a b : Int} : cmpop .LtE (.int a) (.int b) st = some (decide (a ≤ b)) := rfl
@[simp] theorem gt_int {a b : Int} : cmpop .Gt (.int a) (.int b) st = some (decide (b < a)) := rfl
@[simp] theorem ge_int {a b : Int} : cmpop .GtE (.int a) (.int b) st = some (decide (b ≤ a)) := rfl
theorem eq_data {x y : D} {d e : PyData} (hx : toP st 40 x = some d) (hy : toP st 40 y = some e) (h1 : SeqAt.shaped d = true) (h2 : SeqAt.shaped e = true) : cmpop .Eq x y st = some (PyData.eqv d e) := by
  have q : eqP x y st = some (PyData.eqv d e) := by
    unfold eqP
    rw [hx, hy]
    show (if (SeqAt.shaped d && SeqAt.shaped e) = true then _ else _) = _
    rw [h1, h2]; rfl
  show eqD x y st = _
  unfold eqD
  cases c : eqSS x y with
  | none => exact q
  | some b =>
    unfold eqSS at c
    split at c
    · cases c
      cases hx; cases hy; rfl
    · cases c
@[simp] theorem eq_str {a b : Str} : cmpop .Eq (.str a) (.str b) st = some (a == b) := rfl
@[simp] theorem ne_str {a b : Str} : cmpop .NotEq (.str a) (.str b) st = some (!(a == b)) := rfl
@[simp] theorem eq_int {a b : Int} : cmpop .Eq (.int a) (.int b) st = some (decide (a = b)) := by
  rw [eq_data (d := .int a) (e := .int b) rfl rfl rfl rfl]
  show some (a == b) = _
  rfl
@[simp] theorem ne_int {a b : Int} : cmpop .NotEq (.int a) (.int b) st = some (!decide (a = b)) := by
  show (cmpop .Eq (.int a) (.int b) st).map _ = _
  rw [eq_int]; rfl
theorem shaped_str {a : Str} (h : a.cps.all (· < 0x110000) = true) : SeqAt.shaped (.str a) = true := by
  show (PyData.strOk a && _) = true
  unfold PyData.strOk
  rw [h]; rfl
@[simp] theorem ix_tup0 {a : D} {r : List D} : ix (.tup (a :: r)) (.int 0) st = some a := by
  refine ix_of ?_
  show L2.atI (a :: r) 0 = some a
  exact L2.atI_nat (j := 0) rfl
@[simp] theorem ix_tup1 {a b : D} {r : List D} : ix (.tup (a :: b :: r)) (.int 1) st = some b := by
  refine ix_of ?_
  show L2.atI (a :: b :: r) 1 = some b
  exact L2.atI_nat (j := 1) rfl
@[simp] theorem ix_tup2 {a b c : D} {r : List D} : ix (.tup (a :: b :: c :: r)) (.int 2) st = some c := by
  refine ix_of ?_
  show L2.atI (a :: b :: c :: r) 2 = some c
  exact L2.atI_nat (j := 2) rfl
@[simp] theorem truth_bl {b : Bool} : truth (.bl b) st = some b := rfl
@[simp] theorem truth_int {i : Int} : truth (.int i) st = some (i != 0) := rfl
@[simp] theorem most_eq : (most : Nat) = 100000 := rfl
end Sim

namespace Sim
open PySem
/-! ### the feed of a law, a list of four -/
def fd (g : Nat) (i c k : Int) : O := .lst [.ref g, .int i, .int c, .int k]
structure FeedAt (st : Sto) (f g : Nat) (ns : List Int) (t : Nat) : Prop where
  ex : ∃ i c k : Int, st[f]? = some (fd g i c k) ∧ st[g]? = some (.lst (ns.map .int)) ∧ 0 ≤ i ∧ 0 ≤ k ∧ k ≤ t
def Keep (f : Nat) (st st' : Sto) : Prop := ∀ (n : Nat) (o : O), n ≠ f → st[n]? = some o → st'[n]? = some o
theorem Keep.refl (f : Nat) (st : Sto) : Keep f st st := fun _ _ _ h => h
theorem Keep.trans {f : Nat} {a b c : Sto} (h : Keep f a b) (k : Keep f b c) : Keep f a c := fun n o e q => k n o e (h n o e q)
theorem Keep.set {f : Nat} {st : Sto} {o : O} : Keep f st (st.set f o) := fun n o' e h => by
  rw [List.getElem?_set_ne (fun q => e q.symm)]; exact h
theorem Keep.app {f : Nat} {st : Sto} {o : O} : Keep f st (st ++ [o]) := fun n o' e h => get_app h
theorem FeedAt.app {st : Sto} {f g : Nat} {ns : List Int} {t : Nat} {o : O} (h : FeedAt st f g ns t) : FeedAt (st ++ [o]) f g ns t := by
  obtain ⟨i, c, k, h1, h2, h3⟩ := h.ex
  exact ⟨i, c, k, get_app h1, get_app h2, h3⟩
theorem FeedAt.set {st : Sto} {f g n : Nat} {ns : List Int} {t : Nat} {o : O} (h : FeedAt st f g ns t) (hf : n ≠ f) (hg : n ≠ g) : FeedAt (st.set n o) f g ns t := by
  obtain ⟨i, c, k, h1, h2, h3⟩ := h.ex
  exact ⟨i, c, k, by rw [List.getElem?_set_ne hf]; exact h1, by rw [List.getElem?_set_ne hg]; exact h2, h3⟩
theorem FeedAt.mono {st : Sto} {f g : Nat} {ns : List Int} {t u : Nat} (h : FeedAt st f g ns t) (k : t ≤ u) : FeedAt st f g ns u := by
  obtain ⟨i, c, k', h1, h2, h3, h4, h5⟩ := h.ex
  exact ⟨i, c, k', h1, h2, h3, h4, by omega⟩
section
variable {st : Sto} {f g : Nat} {i c k : Int}
theorem fd_ix0 (h : st[f]? = some (fd g i c k)) : ix (.ref f) (.int 0) st = some (.ref g) := by
  refine ix_of ?_
  show (items (.ref f) st).bind _ = _
  unfold items; simp only [h, fd]; rfl
theorem fd_ix1 (h : st[f]? = some (fd g i c k)) : ix (.ref f) (.int 1) st = some (.int i) := by
  refine ix_of ?_
  show (items (.ref f) st).bind _ = _
  unfold items; simp only [h, fd]; rfl
theorem fd_ix2 (h : st[f]? = some (fd g i c k)) : ix (.ref f) (.int 2) st = some (.int c) := by
  refine ix_of ?_
  show (items (.ref f) st).bind _ = _
  unfold items; simp only [h, fd]; rfl
theorem fd_ix3 (h : st[f]? = some (fd g i c k)) : ix (.ref f) (.int 3) st = some (.int k) := by
  refine ix_of ?_
  show (items (.ref f) st).bind _ = _
  unfold items; simp only [h, fd]; rfl
theorem fd_get1 (h : st[f]? = some (fd g i c k)) : getI (.ref f) (.int 1) st = some (.int i) := by
  refine get_of ?_
  unfold getL; simp only [h, fd]; rfl
theorem fd_get3 (h : st[f]? = some (fd g i c k)) : getI (.ref f) (.int 3) st = some (.int k) := by
  refine get_of ?_
  unfold getL; simp only [h, fd]; rfl
theorem fd_set1 (h : st[f]? = some (fd g i c k)) {x : Int} : setI (.ref f) (.int 1) (.int x) st = some (st.set f (fd g x c k)) := by
  refine set_of ?_
  unfold setL; simp only [h, fd]; rfl
theorem fd_set2 (h : st[f]? = some (fd g i c k)) {x : Int} : setI (.ref f) (.int 2) (.int x) st = some (st.set f (fd g i x k)) := by
  refine set_of ?_
  unfold setL; simp only [h, fd]; rfl
theorem fd_set3 (h : st[f]? = some (fd g i c k)) {x : Int} : setI (.ref f) (.int 3) (.int x) st = some (st.set f (fd g i c x)) := by
  refine set_of ?_
  unfold setL; simp only [h, fd]; rfl
theorem set_self {o o' : O} (h : st[f]? = some o) : (st.set f o')[f]? = some o' := by
  rw [List.getElem?_set_self]
  exact (List.getElem?_eq_some_iff.mp h).1
theorem mapO_ints {n : Nat} : ∀ ns : List Int, mapO (fun x => toP st (n + 1) x) (ns.map .int) = some (ns.map PyData.int)
  | [] => rfl
  | m :: ns => by
    show (some (PyData.int m)).bind _ = _
    show (mapO _ _).map _ = _
    rw [mapO_ints ns]; rfl
theorem lay_ints : ∀ ns : List Int, PyData.canLayAll0 (ns.map PyData.int) = true
  | [] => rfl
  | m :: ns => by
    show (PyData.canLay0 (.int m) && _) = true
    rw [lay_ints ns]; rfl
theorem dep_ints : ∀ ns : List Int, PyData.depthAll (ns.map PyData.int) = 0
  | [] => rfl
  | m :: ns => by
    show max _ _ = 0
    rw [dep_ints ns]; rfl
theorem shaped_ints (ns : List Int) : SeqAt.shaped (.list (ns.map PyData.int)) = true := by
  show (PyData.canLayAll0 _ && decide (PyData.depthAll _ + 1 ≤ 64)) = true
  rw [lay_ints, dep_ints]; rfl
theorem eq_nil {ns : List Int} (h : st[g]? = some (.lst (ns.map .int))) : cmpop .Eq (.ref g) (.ref st.length) (st ++ [.lst []]) = some ns.isEmpty := by
  rw [eq_data (d := .list (ns.map PyData.int)) (e := .list []) ?_ ?_ (shaped_ints ns) rfl]
  · cases ns <;> rfl
  · unfold toP
    rw [get_app h]
    show (mapO _ _).map _ = _
    rw [mapO_ints]; rfl
  · unfold toP
    rw [List.getElem?_append_right (Nat.le_refl _)]; simp; rfl
theorem len_ref {xs : List D} (h : st[g]? = some (.lst xs)) : bLen [.ref g] st = some (.int xs.length, st) := by
  unfold bLen dctOf2
  simp only [h]
  show (items (.ref g) st).map _ = _
  unfold items; simp only [h]; rfl
theorem ix_ref {xs : List D} {j : Nat} {d : D} (h : st[g]? = some (.lst xs)) (hj : xs[j]? = some d) : ix (.ref g) (.int j) st = some d := by
  refine ix_of ?_
  show (items (.ref g) st).bind _ = _
  unfold items; simp only [h]
  exact L2.atI_nat hj
end
end Sim

namespace Sim
open PySem
noncomputable def drawB : SemS :=
    sSeq (sAugS (fVar 0) (fC (.int 3)) .Add (fC (.int 1)))
    (sSeq (sIf (gCmp .Gt (fIx (fVar 0) (fC (.int 2))) (fC (.int 0)))
      (sSeq (sAsg (fBin .Mod (fIx (fVar 0) (fC (.int 2))) (fVar 1)) (gvName 5))
        (sSeq (sSub (fVar 0) (fC (.int 2)) (fBin .FloorDiv (fIx (fVar 0) (fC (.int 2))) (fVar 1)))
        (sSeq (sRet (fVar 5))
        (sNil))))
      (sNil))
    (sSeq (sAsg (fIf (gCmp .Eq (fIx (fVar 0) (fC (.int 0))) (fLst (fNil))) (fC (.int 7)) (fIx (fIx (fVar 0) (fC (.int 0))) (fBin .Mod (fIx (fVar 0) (fC (.int 1))) (fBlt bLen (fCons (fIx (fVar 0) (fC (.int 0))) (fNil)))))) (gvName 2))
    (sSeq (sAugS (fVar 0) (fC (.int 1)) .Add (fC (.int 1)))
    (sSeq (sIf (gAnd (gCmp .GtE (fVar 2) (fBin .Pow (fC (.int 10)) (fC (.int 18)))) (gCmp .LtE (fIx (fVar 0) (fC (.int 1))) (fBlt bLen (fCons (fIx (fVar 0) (fC (.int 0))) (fNil)))))
      (sSeq (sSub (fVar 0) (fC (.int 2)) (fBin .FloorDiv (fVar 2) (fVar 1)))
        (sSeq (sRet (fBin .Mod (fVar 2) (fVar 1)))
        (sNil)))
      (sNil))
    (sSeq (sAsg (fIx (fVar 0) (fC (.int 3))) (gvName 3))
    (sSeq (sAsg (fBin .Mod (fBin .Add (fBin .Add (fBin .Mod (fVar 2) (fC (.int 2147483629))) (fBin .Mult (fBin .Mult (fC (.int 69621)) (fVar 3)) (fVar 3))) (fBin .Mult (fC (.int 7)) (fVar 3))) (fC (.int 2147483629))) (gvName 4))
    (sSeq (sAsg (fBin .Mod (fBin .Add (fBin .Mult (fVar 4) (fVar 4)) (fBin .Mult (fC (.int 48271)) (fVar 3))) (fC (.int 2147483647))) (gvName 4))
    (sSeq (sAsg (fBin .Mod (fBin .Add (fBin .Mult (fVar 4) (fVar 4)) (fBin .Mult (fC (.int 16807)) (fVar 3))) (fC (.int 2147483587))) (gvName 4))
    (sSeq (sRet (fBin .Mod (fBin .FloorDiv (fBin .Mod (fBin .Add (fBin .Mult (fVar 4) (fVar 4)) (fVar 3)) (fC (.int 2147483629))) (fC (.int 131))) (fVar 1)))
    (sNil))))))))))
/-- multiplication, both below 2^64 -/
theorem mul_small {st : Sto} {a b : Int} (ha : 0 ≤ a) (hb : 0 ≤ b) (h1 : a < 2 ^ 200) (h2 : b < 2 ^ 200) : binop .Mult (.int a) (.int b) st = some (.int (a * b), st) :=
  mul_int (m := 200) (n := 200) (by omega) (by omega) (by decide) (by decide) (by decide)
theorem mulS {a b : Int} {st : Sto} (h : a.natAbs < 2 ^ 300 ∧ b.natAbs < 2 ^ 300) : binop .Mult (.int a) (.int b) st = some (.int (a * b), st) :=
  mul_int (m := 300) (n := 300) h.1 h.2 (by decide) (by decide) (by decide)
theorem div_small {st : Sto} {a b : Int} (hb : 0 < b) (h2 : b < 2 ^ 200) : binop .FloorDiv (.int a) (.int b) st = some (.int (a / b), st) :=
  div_int (n := 200) hb (by omega) (by decide) (by decide)
@[simp] theorem pow_18 {st : Sto} : binop .Pow (.int 10) (.int 18) st = some (.int 1000000000000000000, st) := rfl
theorem em_lt {a m : Int} (h : 0 < m) : 0 ≤ a % m ∧ a % m < m := ⟨Int.emod_nonneg _ (by omega), Int.emod_lt_of_pos _ h⟩

theorem draw_tail {st : Sto} {f g : Nat} {i c k cell m : Int} (hm : 0 < m) (hM : m < 2 ^ 60) (h : st[f]? = some (fd g i c k)) (hk : 0 ≤ k) (hK : k < 2 ^ 60) {x4 x5 : Option D} :
    ∃ r : Int, 0 ≤ r ∧ r < m ∧ (sSeq (sAsg (fIx (fVar 0) (fC (.int 3))) (gvName 3))
    (sSeq (sAsg (fBin .Mod (fBin .Add (fBin .Add (fBin .Mod (fVar 2) (fC (.int 2147483629))) (fBin .Mult (fBin .Mult (fC (.int 69621)) (fVar 3)) (fVar 3))) (fBin .Mult (fC (.int 7)) (fVar 3))) (fC (.int 2147483629))) (gvName 4))
    (sSeq (sAsg (fBin .Mod (fBin .Add (fBin .Mult (fVar 4) (fVar 4)) (fBin .Mult (fC (.int 48271)) (fVar 3))) (fC (.int 2147483647))) (gvName 4))
    (sSeq (sAsg (fBin .Mod (fBin .Add (fBin .Mult (fVar 4) (fVar 4)) (fBin .Mult (fC (.int 16807)) (fVar 3))) (fC (.int 2147483587))) (gvName 4))
    (sSeq (sRet (fBin .Mod (fBin .FloorDiv (fBin .Mod (fBin .Add (fBin .Mult (fVar 4) (fVar 4)) (fVar 3)) (fC (.int 2147483629))) (fC (.int 131))) (fVar 1)))
    (sNil)))))) [some (.ref f), some (.int m), some (.int cell), none, x4, x5] st = some (.rt (.int r), st) := by
  generalize e1 : (cell % 2147483629 + 69621 * k * k + 7 * k) % 2147483629 = u1
  generalize e2 : (u1 * u1 + 48271 * k) % 2147483647 = u2
  generalize e3 : (u2 * u2 + 16807 * k) % 2147483587 = u3
  have b1 := em_lt (a := cell % 2147483629 + 69621 * k * k + 7 * k) (m := 2147483629) (by decide)
  have b2 := em_lt (a := u1 * u1 + 48271 * k) (m := 2147483647) (by decide)
  have b3 := em_lt (a := u2 * u2 + 16807 * k) (m := 2147483587) (by decide)
  rw [e1] at b1; rw [e2] at b2; rw [e3] at b3
  have q1 : ∀ st : Sto, binop .Mult (.int 69621) (.int k) st = some (.int (69621 * k), st) := fun st => mul_small (by omega) hk (by omega) (by omega)
  have q2 : ∀ st : Sto, binop .Mult (.int (69621 * k)) (.int k) st = some (.int (69621 * k * k), st) := fun st => mul_small (by omega) hk (by omega) (by omega)
  have q3 : ∀ st : Sto, binop .Mult (.int 7) (.int k) st = some (.int (7 * k), st) := fun st => mul_small (by omega) hk (by omega) (by omega)
  have q4 : ∀ st : Sto, binop .Mult (.int 48271) (.int k) st = some (.int (48271 * k), st) := fun st => mul_small (by omega) hk (by omega) (by omega)
  have q5 : ∀ st : Sto, binop .Mult (.int 16807) (.int k) st = some (.int (16807 * k), st) := fun st => mul_small (by omega) hk (by omega) (by omega)
  have q6 : ∀ st : Sto, binop .Mult (.int u1) (.int u1) st = some (.int (u1 * u1), st) := fun st => mul_small (by omega) (by omega) (by omega) (by omega)
  have q7 : ∀ st : Sto, binop .Mult (.int u2) (.int u2) st = some (.int (u2 * u2), st) := fun st => mul_small (by omega) (by omega) (by omega) (by omega)
  have q8 : ∀ st : Sto, binop .Mult (.int u3) (.int u3) st = some (.int (u3 * u3), st) := fun st => mul_small (by omega) (by omega) (by omega) (by omega)
  have m1 : ∀ (a : Int) (st : Sto), binop .Mod (.int a) (.int 2147483629) st = some (.int (a % 2147483629), st) := fun a st => mod_int (by decide)
  have m2 : ∀ (a : Int) (st : Sto), binop .Mod (.int a) (.int 2147483647) st = some (.int (a % 2147483647), st) := fun a st => mod_int (by decide)
  have m3 : ∀ (a : Int) (st : Sto), binop .Mod (.int a) (.int 2147483587) st = some (.int (a % 2147483587), st) := fun a st => mod_int (by decide)
  have m4 : ∀ (a : Int) (st : Sto), binop .Mod (.int a) (.int m) st = some (.int (a % m), st) := fun a st => mod_int hm
  have d1 : ∀ (a : Int) (st : Sto), binop .FloorDiv (.int a) (.int 131) st = some (.int (a / 131), st) := fun a st => div_small (by decide) (by decide)
  refine ⟨(u3 * u3 + k) % 2147483629 / 131 % m, (em_lt hm).1, (em_lt hm).2, ?_⟩
  simp [fd_ix3 h, q1, q2, q3, q4, q5, q6, q7, q8, m1, m2, m3, m4, d1, e1, e2, e3]
theorem draw_run {st : Sto} {f g : Nat} {ns : List Int} {t : Nat} {dd : Def} (h : FeedAt st f g ns t) (hfg : f ≠ g) {m : Int} (hm : 0 < m) (hM : m < 2 ^ 60) (ht : t + 1 < 2 ^ 60) (hp : dd.ps.length = 2) (hN : dd.N.length = 6) :
    ∃ (r : Int) (st' : Sto), runB drawB dd [.ref f, .int m] st = some (.int r, st') ∧ 0 ≤ r ∧ r < m ∧ FeedAt st' f g ns (t + 1) ∧ Keep f st st' := by
  obtain ⟨i, c, k, h1, h2, hi, hk, hkt⟩ := h.ex
  rw [runB_ev (by rw [hp]; rfl)]
  rw [hN]
  show ∃ (r : Int) (st' : Sto), (Option.bind (drawB [some (.ref f), some (.int m), none, none, none, none] st) _) = _ ∧ _
  have K1 : Keep f st (st.set f (fd g i c (k + 1))) := Keep.set
  have s1 : (st.set f (fd g i c (k + 1)))[f]? = some (fd g i c (k + 1)) := set_self h1
  have s2 : (st.set f (fd g i c (k + 1)))[g]? = some (.lst (ns.map .int)) := K1 _ _ (Ne.symm hfg) h2
  have a1 := fd_get3 h1
  have a2 := fd_set3 h1 (x := k + 1)
  generalize st.set f (fd g i c (k + 1)) = sa at *
  have m4 : ∀ (a : Int) (st : Sto), binop .Mod (.int a) (.int m) st = some (.int (a % m), st) := fun a st => mod_int hm
  have d4 : ∀ (a : Int) (st : Sto), binop .FloorDiv (.int a) (.int m) st = some (.int (a / m), st) := fun a st => div_small hm (by omega)
  unfold drawB
  by_cases hc : 0 < c
  · refine ⟨c % m, sa.set f (fd g i (c / m) (k + 1)), ?_, (em_lt hm).1, (em_lt hm).2, ⟨i, c / m, k + 1, set_self s1, by rw [List.getElem?_set_ne hfg]; exact s2, hi, by omega, by omega⟩, K1.trans Keep.set⟩
    simp [a1, a2, inplc, fd_ix2 s1, hc, m4, d4, fd_set2 s1]
  have K2 : Keep f st (sa ++ [O.lst []]) := K1.trans Keep.app
  have t1 : (sa ++ [O.lst []])[f]? = some (fd g i c (k + 1)) := get_app s1
  have t2 : (sa ++ [O.lst []])[g]? = some (.lst (ns.map .int)) := get_app s2
  have en := eq_nil s2
  -- the cell
  have cell : ∃ x : Int, (fIf (gCmp .Eq (fIx (fVar 0) (fC (.int 0))) (fLst (fNil))) (fC (.int 7)) (fIx (fIx (fVar 0) (fC (.int 0))) (fBin .Mod (fIx (fVar 0) (fC (.int 1))) (fBlt bLen (fCons (fIx (fVar 0) (fC (.int 0))) (fNil)))))) [some (.ref f), some (.int m), none, none, none, none] sa = some (.int x, sa ++ [O.lst []]) := by
    cases ns with
    | nil =>
      refine ⟨7, ?_⟩
      simp [fd_ix0 s1, alloc] at en ⊢
      simp [en]
    | cons n r =>
      have hl : 0 < (((n :: r).length : Nat) : Int) := by simp only [List.length_cons]; omega
      have q1 := em_lt (a := i) hl
      have q2 : (i % (((n :: r).length : Nat) : Int)).toNat < (n :: r).length := by omega
      obtain ⟨x, hx⟩ : ∃ x, (n :: r)[(i % (((n :: r).length : Nat) : Int)).toNat]? = some x := ⟨_, List.getElem?_eq_getElem q2⟩
      refine ⟨x, ?_⟩
      have q3 : ((n :: r).map D.int)[(i % (((n :: r).length : Nat) : Int)).toNat]? = some (.int x) := by rw [List.getElem?_map, hx]; rfl
      have q4 := ix_ref t2 q3
      rw [Int.toNat_of_nonneg q1.1] at q4
      have q5 : bLen [.ref g] (sa ++ [O.lst []]) = some (.int (((n :: r).length : Nat) : Int), sa ++ [O.lst []]) := by
        have := len_ref t2
        rwa [List.length_map] at this
      have q6 : binop .Mod (.int i) (.int (((n :: r).length : Nat) : Int)) (sa ++ [O.lst []]) = some (.int (i % (((n :: r).length : Nat) : Int)), sa ++ [O.lst []]) := mod_int hl
      generalize (((n :: r).length : Nat) : Int) = L at *
      simp only [fIf_ev, gCmp_ev, fIx_ev, fVar_ev, fC_ev, fLst_ev, fNil_ev, fBin_ev, fBlt_ev, fCons_ev, List.getElem?_cons_zero, Option.bind_some, Option.map_some, fd_ix0 s1, fd_ix0 t1, fd_ix1 t1, alloc, List.length_nil, Nat.zero_le, if_true, en, q4, q5, q6, List.isEmpty_cons, Bool.false_eq_true, if_false]
  generalize (fIf (gCmp .Eq (fIx (fVar 0) (fC (.int 0))) (fLst (fNil))) (fC (.int 7)) (fIx (fIx (fVar 0) (fC (.int 0))) (fBin .Mod (fIx (fVar 0) (fC (.int 1))) (fBlt bLen (fCons (fIx (fVar 0) (fC (.int 0))) (fNil)))))) = E at cell ⊢
  obtain ⟨x, hx⟩ := cell
  have K3 : Keep f st ((sa ++ [O.lst []]).set f (fd g (i + 1) c (k + 1))) := K2.trans Keep.set
  have u1 : ((sa ++ [O.lst []]).set f (fd g (i + 1) c (k + 1)))[f]? = some (fd g (i + 1) c (k + 1)) := set_self t1
  have u2 : ((sa ++ [O.lst []]).set f (fd g (i + 1) c (k + 1)))[g]? = some (.lst (ns.map .int)) := K3 _ _ (Ne.symm hfg) h2
  have a3 := fd_get1 t1
  have a4 := fd_set1 t1 (x := i + 1)
  have q5 := len_ref u2
  generalize (sa ++ [O.lst []]).set f (fd g (i + 1) c (k + 1)) = sb at *
  by_cases hb : 1000000000000000000 ≤ x ∧ i + 1 ≤ (((ns.map D.int).length : Nat) : Int)
  · refine ⟨x % m, sb.set f (fd g (i + 1) (x / m) (k + 1)), ?_, (em_lt hm).1, (em_lt hm).2, ⟨i + 1, x / m, k + 1, set_self u1, by rw [List.getElem?_set_ne hfg]; exact u2, by omega, by omega, by omega⟩, K3.trans Keep.set⟩
    obtain ⟨hb1, hb2⟩ := hb
    generalize (((ns.map D.int).length : Nat) : Int) = L at *
    simp [a1, a2, a3, a4, inplc, fd_ix2 s1, hc, hx, m4, d4, fd_ix0 u1, fd_ix1 u1, fd_set2 u1, q5, hb1, hb2]
  · obtain ⟨r, r0, r1, hr⟩ := draw_tail (cell := x) hm hM u1 (by omega) (by omega) (x4 := none) (x5 := none)
    refine ⟨r, sb, ?_, r0, r1, ⟨i + 1, c, k + 1, u1, u2, by omega, by omega, by omega⟩, K3⟩
    generalize hT : (sSeq (sAsg (fIx (fVar 0) (fC (.int 3))) (gvName 3)) _) = T at hr ⊢
    generalize (((ns.map D.int).length : Nat) : Int) = L at *
    by_cases hb1 : 1000000000000000000 ≤ x
    · have hb2 : ¬ (i + 1 ≤ L) := fun q => hb ⟨hb1, q⟩
      simp [a1, a2, a3, a4, inplc, fd_ix2 s1, hc, hx, fd_ix0 u1, fd_ix1 u1, q5, hb1, hb2, hr]
    · simp [a1, a2, a3, a4, inplc, fd_ix2 s1, hc, hx, fd_ix0 u1, fd_ix1 u1, q5, hb1, hr]
end Sim

namespace Sim
open PySem
/-! ### lowest terms -/
def q2 (p : Nat × Nat) : D := .tup [.int (p.1 : Nat), .int (p.2 : Nat)]
def cut (a b : Nat) : Nat × Nat := (a / a.gcd b, b / a.gcd b)
theorem gcd_pos {a b : Nat} (h : 0 < b) : 0 < a.gcd b := Nat.gcd_pos_of_pos_right a h
theorem cut_pos {a b : Nat} (h : 0 < b) : 0 < (cut a b).2 := Nat.div_pos (Nat.le_of_dvd h (Nat.gcd_dvd_right a b)) (gcd_pos h)
theorem cut_le1 {a b : Nat} : (cut a b).1 ≤ a := Nat.div_le_self _ _
theorem cut_le2 {a b : Nat} : (cut a b).2 ≤ b := Nat.div_le_self _ _
theorem cut_co {a b : Nat} (h : 0 < b) : (cut a b).1.gcd (cut a b).2 = 1 := Nat.gcd_div_gcd_div_gcd_of_pos_right h
theorem cut_self {a b : Nat} (h : a.gcd b = 1) : cut a b = (a, b) := by
  unfold cut; rw [h, Nat.div_one, Nat.div_one]
theorem co_eq {a b c d : Nat} (hb : 0 < b) (hd : 0 < d) (h1 : a.gcd b = 1) (h2 : c.gcd d = 1) (h : a * d = c * b) : a = c ∧ b = d := by
  have e1 : b ∣ d := by
    have : b ∣ a * d := ⟨c, by rw [h, Nat.mul_comm]⟩
    exact Nat.Coprime.dvd_of_dvd_mul_left (show Nat.Coprime b a from by show Nat.gcd b a = 1; rw [Nat.gcd_comm]; exact h1) this
  have e2 : d ∣ b := by
    have : d ∣ c * b := ⟨a, by rw [← h, Nat.mul_comm]⟩
    exact Nat.Coprime.dvd_of_dvd_mul_left (show Nat.Coprime d c from by show Nat.gcd d c = 1; rw [Nat.gcd_comm]; exact h2) this
  have e : b = d := Nat.dvd_antisymm e1 e2
  subst e
  exact ⟨Nat.eq_of_mul_eq_mul_right hb h, rfl⟩
theorem cut_eq {a b c d : Nat} (hb : 0 < b) (hd : 0 < d) (h : a * d = c * b) : cut a b = cut c d := by
  have ga := Nat.div_mul_cancel (Nat.gcd_dvd_left a b)
  have gb := Nat.div_mul_cancel (Nat.gcd_dvd_right a b)
  have gc := Nat.div_mul_cancel (Nat.gcd_dvd_left c d)
  have gd := Nat.div_mul_cancel (Nat.gcd_dvd_right c d)
  have p1 := gcd_pos (a := a) hb
  have p2 := gcd_pos (a := c) hd
  have k : (cut a b).1 * (cut c d).2 = (cut c d).1 * (cut a b).2 := by
    unfold cut
    show a / a.gcd b * (d / c.gcd d) = c / c.gcd d * (b / a.gcd b)
    refine Nat.eq_of_mul_eq_mul_right (Nat.mul_pos p1 p2) ?_
    generalize a.gcd b = g at *
    generalize c.gcd d = k at *
    calc a / g * (d / k) * (g * k) = (a / g * g) * (d / k * k) := by simp [Nat.mul_assoc, Nat.mul_comm, Nat.mul_left_comm]
      _ = (c / k * k) * (b / g * g) := by rw [ga, gb, gc, gd, h]
      _ = c / k * (b / g) * (g * k) := by simp [Nat.mul_assoc, Nat.mul_comm, Nat.mul_left_comm]
  obtain ⟨x, y⟩ := co_eq (cut_pos hb) (cut_pos hd) (cut_co hb) (cut_co hd) k
  exact Prod.ext x y
theorem cut_cross {a b : Nat} : (cut a b).1 * b = a * (cut a b).2 := by
  unfold cut
  show a / a.gcd b * b = a * (b / a.gcd b)
  rw [Nat.div_mul_right_comm (Nat.gcd_dvd_left a b), Nat.mul_div_assoc _ (Nat.gcd_dvd_right a b)]
@[simp] theorem ix_q2a {p : Nat × Nat} {st : Sto} : ix (q2 p) (.int 0) st = some (.int (p.1 : Nat)) := ix_tup0
@[simp] theorem ix_q2b {p : Nat × Nat} {st : Sto} : ix (q2 p) (.int 1) st = some (.int (p.2 : Nat)) := ix_tup1
theorem mlt {a b : Nat} (ha : a < 2 ^ 98) (hb : b < 2 ^ 98) : a * b < 2 ^ 196 := by
  have := Nat.mul_lt_mul'' ha hb
  rwa [← Nat.pow_add] at this
theorem mul_nat {a b : Nat} {st : Sto} (ha : a < 2 ^ 98) (hb : b < 2 ^ 98) : binop .Mult (.int (a : Nat)) (.int (b : Nat)) st = some (.int ((a * b : Nat) : Int), st) := by
  rw [mul_int (m := 98) (n := 98) (by omega) (by omega) (by decide) (by decide) (by decide), Int.natCast_mul]
theorem div_nat {a b : Nat} {st : Sto} (hb : 0 < b) (h : b < 2 ^ 200) : binop .FloorDiv (.int (a : Nat)) (.int (b : Nat)) st = some (.int ((a / b : Nat) : Int), st) := by
  rw [div_small (by omega) (by omega), Int.natCast_ediv]
theorem mod_nat {a b : Nat} {st : Sto} (hb : 0 < b) : binop .Mod (.int (a : Nat)) (.int (b : Nat)) st = some (.int ((a % b : Nat) : Int), st) := by
  rw [mod_int (by omega), Int.natCast_emod]
/-! ### what repr shows -/
theorem short_int {i : Int} {k : Nat} (hk : 0 < k) (h : i.natAbs < 2 ^ k) : (PyData.shown (.int i)).length ≤ k + 1 := by
  show (Str.ofString (toString i)).length ≤ _
  rw [ofString_length]
  refine int_text_length_le hk ?_
  by_cases h0 : i.natAbs = 0
  · rw [h0]; exact hk
  · exact (Nat.log2_lt h0).mpr h
theorem log_lt {i : Int} {k : Nat} (hk : 0 < k) (h : i.natAbs < 2 ^ k) : i.natAbs.log2 < k := by
  by_cases h0 : i.natAbs = 0
  · rw [h0]; exact hk
  · exact (Nat.log2_lt h0).mpr h
theorem shows_of {p : PyData} (hs : p.showable = true) (hd : p.hasDict = false) (hp : p.depth ≤ 60) (hl : p.leavesShort 201 = true) (hw : p.weight ≤ 4000) : shows p = true := by
  have := PyData.shown_le 201 (by decide) p hl
  have h2 : (201 + 2) * p.weight ≤ 203 * 4000 := Nat.mul_le_mul (by decide) hw
  unfold shows
  rw [hs, hd]
  simp only [Bool.not_false, Bool.true_and, Bool.and_eq_true, decide_eq_true_eq]
  exact ⟨hp, by omega⟩
/-- data whose leaves are short, of at most n weight -/
structure Shw (p : PyData) (d n : Nat) : Prop where
  s : p.showable = true
  h : p.hasDict = false
  d : p.depth ≤ d
  l : p.leavesShort 201 = true
  w : p.weight ≤ n
structure Shws (p : List PyData) (d n : Nat) : Prop where
  s : PyData.showableAll p = true
  h : PyData.hasDictAll p = false
  d : PyData.depthAll p ≤ d
  l : PyData.leavesShortAll 201 p = true
  w : PyData.weightAll p ≤ n
theorem Shw.shows {p : PyData} {d n : Nat} (x : Shw p d n) (h1 : d ≤ 60) (h2 : n ≤ 4000) : shows p = true := shows_of x.s x.h (Nat.le_trans x.d h1) x.l (Nat.le_trans x.w h2)
theorem Shw.int {i : Int} {d : Nat} (h : i.natAbs < 2 ^ 200) : Shw (.int i) d 200 := by
  refine ⟨?_, rfl, Nat.zero_le _, ?_, ?_⟩
  · simp only [PyData.showable, decide_eq_true_eq]
    exact Nat.lt_trans (log_lt (k := 200) (by decide) h) (by decide)
  · simp only [PyData.leavesShort, decide_eq_true_eq]
    exact short_int (k := 200) (by decide) h
  · simp only [PyData.weight]
    split
    · exact Nat.zero_le _
    · exact log_lt (k := 200) (by decide) h
theorem Shw.non {d : Nat} : Shw .none d 0 := ⟨rfl, rfl, Nat.zero_le _, rfl, Nat.le_refl _⟩
theorem Shw.bl {b : Bool} {d : Nat} : Shw (.bool b) d 0 := ⟨rfl, rfl, Nat.zero_le _, rfl, Nat.le_refl _⟩
theorem Shws.nil {d : Nat} : Shws [] d 0 := ⟨rfl, rfl, Nat.zero_le _, rfl, Nat.le_refl _⟩
theorem Shws.cons {p : PyData} {ps : List PyData} {d n m : Nat} (x : Shw p d n) (y : Shws ps d m) : Shws (p :: ps) d (n + 1 + m) := by
  refine ⟨?_, ?_, ?_, ?_, ?_⟩
  · simp only [PyData.showableAll, x.s, y.s, Bool.and_self]
  · simp only [PyData.hasDictAll, x.h, y.h, Bool.or_self]
  · simp only [PyData.depthAll]
    exact Nat.max_le.mpr ⟨x.d, y.d⟩
  · simp only [PyData.leavesShortAll, x.l, y.l, Bool.and_self]
  · simp only [PyData.weightAll]
    have := x.w; have := y.w; omega
theorem Shws.tup {ps : List PyData} {d n : Nat} (y : Shws ps d n) : Shw (.tuple ps) (d + 1) n := by
  refine ⟨?_, ?_, ?_, ?_, ?_⟩
  · simp only [PyData.showable]; exact y.s
  · simp only [PyData.hasDict]; exact y.h
  · simp only [PyData.depth]; have := y.d; omega
  · simp only [PyData.leavesShort]; exact y.l
  · simp only [PyData.weight]; exact y.w
theorem Shws.lst {ps : List PyData} {d n : Nat} (y : Shws ps d n) : Shw (.list ps) (d + 1) n := by
  refine ⟨?_, ?_, ?_, ?_, ?_⟩
  · simp only [PyData.showable]; exact y.s
  · simp only [PyData.hasDict]; exact y.h
  · simp only [PyData.depth]; have := y.d; omega
  · simp only [PyData.leavesShort]; exact y.l
  · simp only [PyData.weight]; exact y.w
theorem Shw.up {p : PyData} {d e n : Nat} (x : Shw p d n) (h : d ≤ e) : Shw p e n := ⟨x.s, x.h, Nat.le_trans x.d h, x.l, x.w⟩
def qp (p : Nat × Nat) : PyData := .tuple [.int (p.1 : Nat), .int (p.2 : Nat)]
theorem qp_shw {p : Nat × Nat} {d : Nat} (h1 : p.1 < 2 ^ 200) (h2 : p.2 < 2 ^ 200) : Shw (qp p) (d + 1) 402 := (Shws.cons (Shw.int (by omega)) (Shws.cons (Shw.int (by omega)) Shws.nil)).tup
theorem toP_q2 {p : Nat × Nat} {st : Sto} {n : Nat} : toP st (n + 2) (q2 p) = some (qp p) := rfl
theorem repr_of {x : D} {p : PyData} {st : Sto} (h : toP st 60 x = some p) (s : shows p = true) : bRepr [x] st = some (.str p.shown, st) := by
  show (toP st 60 x).bind _ = _
  rw [h]
  show (if shows p = true then _ else _) = _
  rw [if_pos s]
/-! ### walks -/
theorem forGo_nil {g : SemG} {fb : SemS} {η : LocD} {st : Sto} : forGo g fb none [] η st = some (.nx η, st) := by
  unfold forGo
  rw [if_pos okGd_none]
theorem forGo_nx {g : SemG} {fb : SemS} {η η2 η' : LocD} {st st' : Sto} {x : D} {r : List D} (h1 : g x η = some η2) (h2 : fb η2 st = some (.nx η', st')) : forGo g fb none (x :: r) η st = forGo g fb none r η' st' := by
  rw [forGo, if_pos okGd_none, h1]
  show (fb η2 st).bind _ = _
  rw [h2]; rfl
theorem forGo_rt {g : SemG} {fb : SemS} {η η2 : LocD} {st st' : Sto} {x d : D} {r : List D} (h1 : g x η = some η2) (h2 : fb η2 st = some (.rt d, st')) : forGo g fb none (x :: r) η st = some (.rt d, st') := by
  rw [forGo, if_pos okGd_none, h1]
  show (fb η2 st).bind _ = _
  rw [h2]; rfl
/-- a walk that keeps a promise -/
theorem forGo_inv {g : SemG} {fb : SemS} {P : Nat → LocD → Sto → Prop} : ∀ (xs : List D) (i : Nat) (η : LocD) (st : Sto),
    (∀ (j : Nat) (x : D) (η : LocD) (st : Sto), x ∈ xs → i ≤ j → j < i + xs.length → P j η st → ∃ η2 η' st', g x η = some η2 ∧ fb η2 st = some (.nx η', st') ∧ P (j + 1) η' st') → P i η st →
    ∃ η' st', forGo g fb none xs η st = some (.nx η', st') ∧ P (i + xs.length) η' st'
  | [], i, η, st, _, h => ⟨η, st, forGo_nil, h⟩
  | x :: r, i, η, st, k, h => by
    obtain ⟨η2, η', st', h1, h2, h3⟩ := k i x η st List.mem_cons_self (Nat.le_refl _) (by simp only [List.length_cons]; omega) h
    obtain ⟨η3, st3, h4, h5⟩ := forGo_inv r (i + 1) η' st' (fun j y a b m l u p => k j y a b (List.mem_cons_of_mem _ m) (by omega) (by simp only [List.length_cons]; omega) p) h3
    refine ⟨η3, st3, (forGo_nx h1 h2).trans h4, ?_⟩
    rw [List.length_cons]
    have e : i + (r.length + 1) = i + 1 + r.length := by omega
    rw [e]; exact h5
theorem rngD_succ {x : Int} {j : Nat} {c : Int} : rngD x (j + 1) c = .int x :: rngD (x + c) j c := by
  unfold rngD
  rw [List.range_succ_eq_map, List.map_cons, List.map_map]
  congr 1
  · simp
  · apply List.map_congr_left
    intro i _
    show D.int (x + ((i + 1 : Nat) : Int) * c) = D.int (x + c + (i : Nat) * c)
    congr 1
    rw [Int.natCast_add, Int.add_mul]; simp; omega
theorem forGo_rng {g : SemG} {fb : SemS} {P : Nat → LocD → Sto → Prop} : ∀ (n i : Nat) (η : LocD) (st : Sto),
    (∀ (j : Nat) (η : LocD) (st : Sto), i ≤ j → j < i + n → P j η st → ∃ η2 η' st', g (.int (j : Nat)) η = some η2 ∧ fb η2 st = some (.nx η', st') ∧ P (j + 1) η' st') → P i η st →
    ∃ η' st', forGo g fb none (rngD (i : Nat) n 1) η st = some (.nx η', st') ∧ P (i + n) η' st'
  | 0, i, η, st, _, h => ⟨η, st, forGo_nil, h⟩
  | n + 1, i, η, st, k, h => by
    obtain ⟨η2, η', st', h1, h2, h3⟩ := k i η st (Nat.le_refl _) (by omega) h
    obtain ⟨η3, st3, h4, h5⟩ := forGo_rng n (i + 1) η' st' (fun j a b l u p => k j a b (by omega) (by omega) p) h3
    have e : i + (n + 1) = i + 1 + n := by omega
    refine ⟨η3, st3, ?_, by rw [e]; exact h5⟩
    have q : rngD (i : Nat) (n + 1) 1 = .int (i : Nat) :: rngD ((i + 1 : Nat) : Int) n 1 := by
      rw [rngD_succ]; rfl
    rw [q, forGo_nx h1 h2]
    exact h4
theorem inR_of {x : Int} (h1 : 0 ≤ x) (h2 : x < 2 ^ 61) : inR x := ⟨by omega, by omega⟩
theorem rng3 {x y : Int} (hx : inR x) (hy : inR y) : rngOf [.int x, .int y, .int (-1)] = some (rngD x (x - y).toNat (-1)) := if_pos ⟨hx, hy, rfl⟩
theorem rng1 {x : Int} (hx : inR x) : rngOf [.int x] = some (rngD 0 x.toNat 1) := if_pos hx
theorem rngD_len {x : Int} {j : Nat} {c : Int} : (rngD x j c).length = j := by unfold rngD; rw [List.length_map, List.length_range]
end Sim

namespace Sim
open PySem PySem.Builtin PySem.Builtin.Str
/-! ### how a text is shown -/
theorem rc_fold (q : Nat) : ∀ (l : List Nat) (acc : Array Nat), (l.foldl (fun out c => out ++ (reprChar q c).toArray) acc).toList = acc.toList ++ l.flatMap (reprChar q)
  | [], acc => by simp
  | c :: l, acc => by
    rw [List.foldl_cons, rc_fold q l, List.flatMap_cons]
    simp
theorem repr_cps (x : Str) : (reprText x).cps.toList = reprQuote x :: (x.cps.toList.flatMap (reprChar (reprQuote x)) ++ [reprQuote x]) := by
  show (((x.cps.foldl (fun out c => out ++ (reprChar (reprQuote x) c).toArray) #[reprQuote x]).push (reprQuote x)).toList) = _
  rw [Array.toList_push, ← Array.foldl_toList, rc_fold]
  rfl
/-- signs that are shown as they are -/
def plC (c : Nat) : Bool := decide (32 ≤ c) && decide (c < 127) && !decide (c = 39) && !decide (c = 92)
def plainS (s : Str) : Bool := s.cps.toList.all plC
theorem plC_one {c : Nat} (h : plC c = true) : reprChar 39 c = [c] := by
  have all : ((List.range 127).all fun c => !plC c || reprChar 39 c == [c]) = true := by decide +kernel
  have hc : c < 127 := by
    unfold plC at h
    simp only [Bool.and_eq_true, decide_eq_true_eq] at h
    omega
  have := List.all_eq_true.mp all c (List.mem_range.mpr hc)
  rw [h] at this
  simpa using this
theorem pl_flat : ∀ l : List Nat, l.all plC = true → l.flatMap (reprChar 39) = l
  | [], _ => rfl
  | c :: l, h => by
    rw [List.all_cons, Bool.and_eq_true] at h
    rw [List.flatMap_cons, plC_one h.1, pl_flat l h.2]; rfl
theorem pl_quote {s : Str} (h : plainS s = true) : reprQuote s = 39 := by
  have : s.cps.contains 39 = false := by
    cases c : s.cps.contains 39 with
    | false => rfl
    | true =>
      have hm : (39 : Nat) ∈ s.cps.toList := by simpa using c
      have := List.all_eq_true.mp h 39 hm
      exact absurd this (by decide)
  unfold reprQuote
  rw [this]; rfl
theorem pl_len {s : Str} (h : plainS s = true) : (reprText s).length = s.length + 2 := by
  have e := repr_cps s
  rw [pl_quote h, pl_flat _ h] at e
  have : (reprText s).cps.toList.length = s.cps.toList.length + 2 := by rw [e]; simp
  simpa [Str.length] using this
/-- how long a text is at most when it is shown -/
def strW (s : Str) : Nat := if plainS s = true then s.length + 2 else 10 * s.length + 2
theorem strW_le (s : Str) : strW s ≤ 10 * s.length + 2 := by unfold strW; split <;> omega
theorem strW_ge (s : Str) : s.length + 2 ≤ strW s := by unfold strW; split <;> omega
end Sim

namespace Sim
open PySem
/-! ### things: any data, its lists in the store; what lies at M may change -/
/-- plain signs alone -/
def asc (s : Str) : Bool := s.cps.toList.all fun c => decide (c < 128)
theorem asc_lt {s : Str} (h : asc s = true) : ∀ c ∈ s.cps.toList, c < 128 := fun c hc => of_decide_eq_true (List.all_eq_true.mp h c hc)
theorem asc_ok {s : Str} (h : asc s = true) : PyData.strOk s = true := by
  unfold PyData.strOk
  rw [← Array.all_toList, List.all_eq_true]
  intro c hc
  exact decide_eq_true (Nat.lt_trans (asc_lt h c hc) (by decide))
def sumW : List Nat → Nat
  | [] => 0
  | w :: r => w + 2 + sumW r
/-- how long it is at most when it is shown -/
def thW (B : Nat) (M : List Nat) (st : Sto) : Nat → D → Option Nat
  | 0, _ => none
  | _ + 1, .non => some 4
  | _ + 1, .bl _ => some 5
  | _ + 1, .int i => if i.natAbs.log2 < B then some (i.natAbs.log2 + 2) else none
  | _ + 1, .str s => if asc s = true then some (strW s) else none
  | n + 1, .tup xs => (mapO (fun x => thW B M st n x) xs).map fun ws => 3 + sumW ws
  | _ + 1, .ktup _ => none
  | _ + 1, .fn _ => none
  | n + 1, .ref k => if k ∈ M then none else match st[k]? with
    | some (.lst xs) => (mapO (fun x => thW B M st n x) xs).map fun ws => 3 + sumW ws
    | some (.frz xs) => (mapO (fun x => thW B M st n x) xs).map fun ws => 3 + sumW ws
    | _ => none
structure Gd (p : PyData) (d v : Nat) : Prop where
  s : p.showable = true
  h : p.hasDict = false
  c : p.canLay0 = true
  d : p.depth ≤ d
  w : p.shown.length ≤ v
structure Gds (p : List PyData) (d v : Nat) : Prop where
  s : PyData.showableAll p = true
  h : PyData.hasDictAll p = false
  c : PyData.canLayAll0 p = true
  d : PyData.depthAll p ≤ d
  w : ((PyData.shownAll p).map (·.length)).sum + 2 * (PyData.shownAll p).length ≤ v
theorem Gds.cons {p : PyData} {ps : List PyData} {d n m : Nat} (x : Gd p d n) (y : Gds ps d m) : Gds (p :: ps) d (n + 2 + m) := by
  refine ⟨?_, ?_, ?_, ?_, ?_⟩
  · simp only [PyData.showableAll, x.s, y.s, Bool.and_self]
  · simp only [PyData.hasDictAll, x.h, y.h, Bool.or_self]
  · simp only [PyData.canLayAll0, x.c, y.c, Bool.and_self]
  · simp only [PyData.depthAll]
    exact Nat.max_le.mpr ⟨x.d, y.d⟩
  · have := x.w; have := y.w
    simp only [PyData.shownAll, List.map_cons, List.sum_cons, List.length_cons]; omega
theorem Gds.tup {ps : List PyData} {d n : Nat} (y : Gds ps d n) : Gd (.tuple ps) (d + 1) (3 + n) := by
  refine ⟨?_, ?_, ?_, ?_, ?_⟩
  · simp only [PyData.showable]; exact y.s
  · simp only [PyData.hasDict]; exact y.h
  · simp only [PyData.canLay0]; exact y.c
  · simp only [PyData.depth]; have := y.d; omega
  · have := tupleText_len_le (PyData.shownAll ps); have := y.w
    simp only [PyData.shown]; omega
theorem Gds.lst {ps : List PyData} {d n : Nat} (y : Gds ps d n) : Gd (.list ps) (d + 1) (3 + n) := by
  refine ⟨?_, ?_, ?_, ?_, ?_⟩
  · simp only [PyData.showable]; exact y.s
  · simp only [PyData.hasDict]; exact y.h
  · simp only [PyData.canLay0]; exact y.c
  · simp only [PyData.depth]; have := y.d; omega
  · have := listText_len_le (PyData.shownAll ps); have := y.w
    simp only [PyData.shown]; omega
theorem log_bits {i : Nat} : i < 2 ^ (i.log2 + 1) := Nat.lt_log2_self
theorem Gd.int {i : Int} {d : Nat} (h : i.natAbs.log2 < 1900) : Gd (.int i) d (i.natAbs.log2 + 2) := by
  refine ⟨?_, rfl, rfl, Nat.zero_le _, ?_⟩
  · simp only [PyData.showable, decide_eq_true_eq]; omega
  · exact short_int (k := i.natAbs.log2 + 1) (by omega) log_bits
theorem Gd.strW {s : Str} {d : Nat} (h : asc s = true) : Gd (.str s) d (strW s) := by
  refine ⟨rfl, rfl, asc_ok h, Nat.zero_le _, ?_⟩
  unfold Sim.strW
  split
  · rename_i hp
    exact Nat.le_of_eq (pl_len hp)
  · exact StrLaws.reprText_len s fun c hc => Nat.lt_trans (asc_lt h c hc) (by decide)
theorem Gd.str {s : Str} {d : Nat} (h : asc s = true) : Gd (.str s) d (10 * s.length + 2) :=
  let q := Gd.strW (d := d) h
  ⟨q.s, q.h, q.c, q.d, Nat.le_trans q.w (strW_le s)⟩
/-- all of it is data of that length -/
theorem th_list {B : Nat} {M : List Nat} {st : Sto} {n : Nat} (ih : ∀ (x : D) (v : Nat), thW B M st n x = some v → ∃ p, toP st n x = some p ∧ Gd p n v) :
    ∀ {xs : List D} {ws : List Nat}, mapO (fun x => thW B M st n x) xs = some ws → ∃ ps, mapO (fun x => toP st n x) xs = some ps ∧ Gds ps n (sumW ws)
  | [], _, h => by cases h; exact ⟨[], rfl, ⟨rfl, rfl, rfl, Nat.zero_le _, Nat.le_refl _⟩⟩
  | x :: xs, ws, h => by
    obtain ⟨v, e1, e2⟩ := bind_some (show (thW B M st n x).bind _ = some ws from h)
    obtain ⟨vs, e3, e4⟩ := map_some' e2
    subst e4
    obtain ⟨p, h1, h2⟩ := ih x v e1
    obtain ⟨ps, h3, h4⟩ := th_list ih e3
    refine ⟨p :: ps, ?_, Gds.cons h2 h4⟩
    show (toP st n x).bind _ = _
    rw [h1]
    show (mapO _ _).map _ = _
    rw [h3]; rfl
theorem th_ok {B : Nat} (hB : B ≤ 1900) {M : List Nat} {st : Sto} : ∀ (n : Nat) (x : D) (v : Nat), thW B M st n x = some v → ∃ p, toP st n x = some p ∧ Gd p n v
  | 0, _, _, h => by cases h
  | n + 1, .non, v, h => by
    cases h
    exact ⟨.none, rfl, ⟨rfl, rfl, rfl, Nat.zero_le _, Nat.le_refl _⟩⟩
  | n + 1, .bl b, v, h => by
    cases h
    exact ⟨.bool b, rfl, ⟨rfl, rfl, rfl, Nat.zero_le _, by cases b <;> decide⟩⟩
  | n + 1, .int i, v, h => by
    obtain ⟨c, e⟩ := ite_some (show (if i.natAbs.log2 < B then some (i.natAbs.log2 + 2) else none) = some v from h)
    cases e
    exact ⟨.int i, rfl, Gd.int (by omega)⟩
  | n + 1, .str s, v, h => by
    obtain ⟨c, e⟩ := ite_some (show (if asc s = true then some (strW s) else none) = some v from h)
    cases e
    exact ⟨.str s, rfl, Gd.strW c⟩
  | n + 1, .tup xs, v, h => by
    obtain ⟨ws, e1, e2⟩ := map_some' (show (mapO _ xs).map _ = some v from h)
    subst e2
    obtain ⟨ps, h1, h2⟩ := th_list (th_ok hB n) e1
    refine ⟨.tuple ps, ?_, h2.tup⟩
    show (mapO _ _).map _ = _
    rw [h1]; rfl
  | n + 1, .ktup _, v, h => by cases h
  | n + 1, .fn _, v, h => by cases h
  | n + 1, .ref k, v, h => by
    have h : (if k ∈ M then none else match st[k]? with
      | some (.lst xs) => (mapO (fun x => thW B M st n x) xs).map fun ws => 3 + sumW ws
      | some (.frz xs) => (mapO (fun x => thW B M st n x) xs).map fun ws => 3 + sumW ws
      | _ => none) = some v := h
    by_cases c : k ∈ M
    · rw [if_pos c] at h; cases h
    · rw [if_neg c] at h
      have key : ∀ xs, (st[k]? = some (.lst xs) ∨ st[k]? = some (.frz xs)) → (mapO (fun x => thW B M st n x) xs).map (fun ws => 3 + sumW ws) = some v → ∃ p, toP st (n + 1) (.ref k) = some p ∧ Gd p (n + 1) v := fun xs hk hm => by
        obtain ⟨ws, e1, e2⟩ := map_some' hm
        subst e2
        obtain ⟨ps, h1, h2⟩ := th_list (th_ok hB n) e1
        refine ⟨.list ps, ?_, h2.lst⟩
        unfold toP
        rcases hk with hk | hk <;> rw [hk]
        · show (mapO _ _).map _ = _
          rw [h1]; rfl
        · show (mapO _ _).map _ = _
          rw [h1]; rfl
      cases q : st[k]? with
      | none => simp only [q] at h; cases h
      | some o =>
        cases o with
        | lst xs => simp only [q] at h; exact key xs (.inl q) h
        | frz xs => simp only [q] at h; exact key xs (.inr q) h
        | dct xs => simp only [q] at h; cases h
        | dtp xs => simp only [q] at h; cases h
        | frd xs => simp only [q] at h; cases h
        | stk k => simp only [q] at h; cases h

/-! ### what stays -/
def KeepM (M : List Nat) (st st' : Sto) : Prop := ∀ (n : Nat) (o : O), n ∉ M → st[n]? = some o → st'[n]? = some o
theorem KeepM.refl (M : List Nat) (st : Sto) : KeepM M st st := fun _ _ _ h => h
theorem KeepM.trans {M : List Nat} {a b c : Sto} (h : KeepM M a b) (k : KeepM M b c) : KeepM M a c := fun n o e q => k n o e (h n o e q)
theorem Keep.toM {M : List Nat} {f : Nat} {a b : Sto} (h : Keep f a b) (hf : f ∈ M) : KeepM M a b := fun n o e q => h n o (fun z => e (z ▸ hf)) q
theorem KeepM.app {M : List Nat} {st : Sto} {o : O} : KeepM M st (st ++ [o]) := fun n o' e h => get_app h
theorem KeepM.set {M : List Nat} {f : Nat} {st : Sto} {o : O} (hf : f ∈ M) : KeepM M st (st.set f o) := fun n o' e h => by
  rw [List.getElem?_set_ne (fun q => e (by rw [← q]; exact hf))]; exact h
theorem mapO_imp {α β : Type} {f g : α → Option β} (h : ∀ x y, f x = some y → g x = some y) : ∀ {xs : List α} {ys : List β}, mapO f xs = some ys → mapO g xs = some ys
  | [], _, e => e
  | x :: xs, ys, e => by
    obtain ⟨v, e1, e2⟩ := bind_some (show (f x).bind _ = some ys from e)
    obtain ⟨vs, e3, e4⟩ := map_some' e2
    subst e4
    show (g x).bind _ = _
    rw [h x v e1]
    show (mapO _ _).map _ = _
    rw [mapO_imp h e3]; rfl
theorem thW_mono {B B2 : Nat} (bb : B ≤ B2) {M : List Nat} {st st' : Sto} (k : KeepM M st st') : ∀ {n m : Nat} {x : D} {v : Nat}, n ≤ m → thW B M st n x = some v → thW B2 M st' m x = some v
  | 0, _, _, _, _, h => by cases h
  | n + 1, 0, _, _, l, _ => absurd l (by omega)
  | n + 1, m + 1, .non, _, _, h => h
  | n + 1, m + 1, .bl _, _, _, h => h
  | n + 1, m + 1, .int i, v, _, h => by
    obtain ⟨c, e⟩ := ite_some (show (if i.natAbs.log2 < B then some (i.natAbs.log2 + 2) else none) = some v from h)
    cases e
    exact if_pos (by omega)
  | n + 1, m + 1, .str _, _, _, h => h
  | n + 1, m + 1, .tup xs, v, l, h => by
    obtain ⟨ws, e1, e2⟩ := map_some' (show (mapO _ xs).map _ = some v from h)
    show (mapO _ xs).map _ = _
    rw [mapO_imp (fun x y q => thW_mono bb k (Nat.le_of_succ_le_succ l) q) e1, ← e2]; rfl
  | n + 1, m + 1, .ktup _, _, _, h => by cases h
  | n + 1, m + 1, .fn _, _, _, h => by cases h
  | n + 1, m + 1, .ref j, v, l, h => by
    have h : (if j ∈ M then none else match st[j]? with
      | some (.lst xs) => (mapO (fun x => thW B M st n x) xs).map fun ws => 3 + sumW ws
      | some (.frz xs) => (mapO (fun x => thW B M st n x) xs).map fun ws => 3 + sumW ws
      | _ => none) = some v := h
    show (if j ∈ M then none else match st'[j]? with
      | some (.lst xs) => (mapO (fun x => thW B2 M st' m x) xs).map fun ws => 3 + sumW ws
      | some (.frz xs) => (mapO (fun x => thW B2 M st' m x) xs).map fun ws => 3 + sumW ws
      | _ => none) = some v
    by_cases c : j ∈ M
    · rw [if_pos c] at h; cases h
    · rw [if_neg c] at h ⊢
      cases q : st[j]? with
      | none => simp only [q] at h; cases h
      | some o =>
        have q' := k j o c q
        cases o with
        | dct xs => simp only [q] at h; cases h
        | dtp xs => simp only [q] at h; cases h
        | frd xs => simp only [q] at h; cases h
        | stk k => simp only [q] at h; cases h
        | lst xs =>
          simp only [q] at h
          simp only [q']
          obtain ⟨ws, e1, e2⟩ := map_some' h
          rw [mapO_imp (fun x y q => thW_mono bb k (Nat.le_of_succ_le_succ l) q) e1, ← e2]; rfl
        | frz xs =>
          simp only [q] at h
          simp only [q']
          obtain ⟨ws, e1, e2⟩ := map_some' h
          rw [mapO_imp (fun x y q => thW_mono bb k (Nat.le_of_succ_le_succ l) q) e1, ← e2]; rfl
theorem toP_up {st : Sto} : ∀ {n m : Nat} {x : D} {p : PyData}, n ≤ m → toP st n x = some p → toP st m x = some p
  | 0, _, _, _, _, h => by cases h
  | n + 1, 0, _, _, l, _ => absurd l (by omega)
  | n + 1, m + 1, .non, _, _, h => h
  | n + 1, m + 1, .bl _, _, _, h => h
  | n + 1, m + 1, .int _, _, _, h => h
  | n + 1, m + 1, .str _, _, _, h => h
  | n + 1, m + 1, .tup xs, v, l, h => by
    obtain ⟨ws, e1, e2⟩ := map_some' (show (mapO _ xs).map _ = some v from h)
    show (mapO _ xs).map _ = _
    rw [mapO_imp (fun x y q => toP_up (Nat.le_of_succ_le_succ l) q) e1, ← e2]; rfl
  | n + 1, m + 1, .ktup xs, v, l, h => by
    obtain ⟨ws, e1, e2⟩ := map_some' (show (mapO _ xs).map _ = some v from h)
    show (mapO _ xs).map _ = _
    rw [mapO_imp (fun x y q => toP_up (Nat.le_of_succ_le_succ l) q) e1, ← e2]; rfl
  | n + 1, m + 1, .fn _, _, _, h => by cases h
  | n + 1, m + 1, .ref j, v, l, h => by
    unfold toP at h ⊢
    cases q : st[j]? with
    | none => simp only [q] at h; cases h
    | some o =>
      cases o with
      | dct xs => simp only [q] at h; cases h
      | dtp xs => simp only [q] at h; cases h
      | frd xs => simp only [q] at h; cases h
      | stk k => simp only [q] at h; cases h
      | lst xs =>
        simp only [q] at h ⊢
        obtain ⟨ws, e1, e2⟩ := map_some' h
        rw [mapO_imp (fun x y q => toP_up (Nat.le_of_succ_le_succ l) q) e1, ← e2]; rfl
      | frz xs =>
        simp only [q] at h ⊢
        obtain ⟨ws, e1, e2⟩ := map_some' h
        rw [mapO_imp (fun x y q => toP_up (Nat.le_of_succ_le_succ l) q) e1, ← e2]; rfl

/-! ### things of a length -/
def Th (B : Nat) (M : List Nat) (st : Sto) (n : Nat) (x : D) (w : Nat) : Prop := ∃ v, thW B M st n x = some v ∧ v ≤ w
def Ths (B : Nat) (M : List Nat) (st : Sto) (n : Nat) (xs : List D) (w : Nat) : Prop := ∃ vs, mapO (fun x => thW B M st n x) xs = some vs ∧ sumW vs ≤ w
section
variable {B B2 : Nat} {M : List Nat} {st st' : Sto} {n m : Nat} {x : D} {xs ys : List D} {w a b : Nat}
theorem Th.mono (h : Th B M st n x w) (k : KeepM M st st') (l : n ≤ m) (l2 : w ≤ a) (bb : B ≤ B2) : Th B2 M st' m x a := let ⟨v, e, z⟩ := h; ⟨v, thW_mono bb k l e, Nat.le_trans z l2⟩
theorem Th.up (h : Th B M st n x w) (l2 : w ≤ a) : Th B M st n x a := h.mono (KeepM.refl _ _) (Nat.le_refl _) l2 (Nat.le_refl _)
theorem Th.keep (h : Th B M st n x w) (k : KeepM M st st') : Th B M st' n x w := h.mono k (Nat.le_refl _) (Nat.le_refl _) (Nat.le_refl _)
theorem Ths.mono (h : Ths B M st n xs w) (k : KeepM M st st') (l : n ≤ m) (l2 : w ≤ a) (bb : B ≤ B2) : Ths B2 M st' m xs a := let ⟨v, e, z⟩ := h; ⟨v, mapO_imp (fun x y q => thW_mono bb k l q) e, Nat.le_trans z l2⟩
theorem Ths.up (h : Ths B M st n xs w) (l2 : w ≤ a) : Ths B M st n xs a := h.mono (KeepM.refl _ _) (Nat.le_refl _) l2 (Nat.le_refl _)
theorem Ths.keep (h : Ths B M st n xs w) (k : KeepM M st st') : Ths B M st' n xs w := h.mono k (Nat.le_refl _) (Nat.le_refl _) (Nat.le_refl _)
theorem Ths.nil : Ths B M st n [] 0 := ⟨[], rfl, Nat.le_refl _⟩
theorem Ths.cons (h : Th B M st n x a) (k : Ths B M st n xs b) : Ths B M st n (x :: xs) (a + 2 + b) := by
  obtain ⟨v, e1, l1⟩ := h
  obtain ⟨vs, e2, l2⟩ := k
  refine ⟨v :: vs, ?_, ?_⟩
  · show (thW B M st n x).bind _ = _
    rw [e1]
    show (mapO _ _).map _ = _
    rw [e2]; rfl
  · show v + 2 + sumW vs ≤ _
    omega
theorem Ths.uncons (h : Ths B M st n (x :: xs) w) : ∃ a b, Th B M st n x a ∧ Ths B M st n xs b ∧ a + 2 + b ≤ w := by
  obtain ⟨ws, e, l⟩ := h
  obtain ⟨v, e1, e2⟩ := bind_some (show (thW B M st n x).bind _ = some ws from e)
  obtain ⟨vs, e3, e4⟩ := map_some' e2
  subst e4
  exact ⟨v, sumW vs, ⟨v, e1, Nat.le_refl _⟩, ⟨vs, e3, Nat.le_refl _⟩, l⟩
theorem Ths.app : ∀ {xs : List D} {a : Nat}, Ths B M st n xs a → Ths B M st n ys b → Ths B M st n (xs ++ ys) (a + b)
  | [], a, h, k => k.up (by omega)
  | x :: xs, w, h, k => by
    obtain ⟨a, c, h1, h2, l⟩ := h.uncons
    exact (Ths.cons h1 (Ths.app h2 k)).up (by omega)
theorem Ths.cut : ∀ {xs : List D} {w : Nat} (i : Nat), Ths B M st n xs w → ∃ a b, Ths B M st n (xs.take i) a ∧ Ths B M st n (xs.drop i) b ∧ a + b ≤ w
  | xs, w, 0, h => ⟨0, w, by rw [List.take_zero]; exact Ths.nil, by rw [List.drop_zero]; exact h, by omega⟩
  | [], w, i + 1, h => ⟨0, 0, Ths.nil, Ths.nil, by omega⟩
  | x :: xs, w, i + 1, h => by
    obtain ⟨a, c, h1, h2, l⟩ := h.uncons
    obtain ⟨d, e, h3, h4, l2⟩ := Ths.cut i h2
    exact ⟨a + 2 + d, e, Ths.cons h1 h3, h4, by omega⟩
theorem Ths.at' (h : Ths B M st n xs w) {i : Nat} (e : xs[i]? = some x) : ∃ a b c, Ths B M st n (xs.take i) a ∧ Th B M st n x b ∧ Ths B M st n (xs.drop (i + 1)) c ∧ a + b + 2 + c ≤ w := by
  obtain ⟨a, b, h1, h2, l⟩ := h.cut i
  have hd : xs.drop i = x :: xs.drop (i + 1) := by
    obtain ⟨hi, he⟩ := List.getElem?_eq_some_iff.mp e
    rw [List.drop_eq_getElem_cons hi, he]
  rw [hd] at h2
  obtain ⟨c, d, h3, h4, l2⟩ := h2.uncons
  exact ⟨a, c, d, h1, h3, h4, by omega⟩
theorem Ths.mem (h : Ths B M st n xs w) (e : x ∈ xs) : Th B M st n x w := by
  obtain ⟨i, hi⟩ := List.getElem?_of_mem e
  obtain ⟨a, b, c, _, h2, _, l⟩ := h.at' hi
  exact h2.up (by omega)
theorem Ths.rev : ∀ {xs : List D} {w : Nat}, Ths B M st n xs w → Ths B M st n xs.reverse w
  | [], w, h => h
  | x :: xs, w, h => by
    obtain ⟨a, c, h1, h2, l⟩ := h.uncons
    rw [List.reverse_cons]
    exact (Ths.app (Ths.rev h2) (Ths.cons h1 Ths.nil)).up (by omega)
theorem Ths.len : ∀ {xs : List D} {w : Nat}, Ths B M st n xs w → 2 * xs.length ≤ w
  | [], w, h => Nat.zero_le _
  | x :: xs, w, h => by
    obtain ⟨a, c, h1, h2, l⟩ := h.uncons
    have := Ths.len h2
    rw [List.length_cons]; omega
theorem Ths.tup (h : Ths B M st n xs w) : Th B M st (n + 1) (.tup xs) (w + 3) := by
  obtain ⟨vs, e, l⟩ := h
  refine ⟨3 + sumW vs, ?_, by omega⟩
  show (mapO _ xs).map _ = _
  rw [e]; rfl
theorem Ths.ref {k : Nat} (hk : st[k]? = some (.lst xs) ∨ st[k]? = some (.frz xs)) (hM : k ∉ M) (h : Ths B M st n xs w) : Th B M st (n + 1) (.ref k) (w + 3) := by
  obtain ⟨vs, e, l⟩ := h
  refine ⟨3 + sumW vs, ?_, by omega⟩
  unfold thW
  rw [if_neg hM]
  rcases hk with hk | hk <;> rw [hk]
  · show (mapO _ xs).map _ = _
    rw [e]; rfl
  · show (mapO _ xs).map _ = _
    rw [e]; rfl
theorem Th.untup (h : Th B M st (n + 1) (.tup xs) w) : ∃ v, Ths B M st n xs v ∧ v + 3 ≤ w := by
  obtain ⟨v, e, l⟩ := h
  obtain ⟨ws, e1, e2⟩ := map_some' (show (mapO _ xs).map _ = some v from e)
  subst e2
  exact ⟨sumW ws, ⟨ws, e1, Nat.le_refl _⟩, by omega⟩
theorem Th.unref {k : Nat} (h : Th B M st (n + 1) (.ref k) w) : ∃ xs, (st[k]? = some (.lst xs) ∨ st[k]? = some (.frz xs)) ∧ k ∉ M ∧ Ths B M st n xs w := by
  obtain ⟨v, e, l⟩ := h
  unfold thW at e
  by_cases c : k ∈ M
  · rw [if_pos c] at e; cases e
  · rw [if_neg c] at e
    cases q : st[k]? with
    | none => simp only [q] at e; cases e
    | some o =>
      cases o with
      | dct xs => simp only [q] at e; cases e
      | dtp xs => simp only [q] at e; cases e
      | frd xs => simp only [q] at e; cases e
      | stk k => simp only [q] at e; cases e
      | lst xs =>
        simp only [q] at e
        obtain ⟨ws, e1, e2⟩ := map_some' e
        exact ⟨xs, .inl rfl, c, ws, e1, by omega⟩
      | frz xs =>
        simp only [q] at e
        obtain ⟨ws, e1, e2⟩ := map_some' e
        exact ⟨xs, .inr rfl, c, ws, e1, by omega⟩
theorem Th.int {i : Int} (h : i.natAbs < 2 ^ a) (h1 : a ≤ B) (h0 : 0 < a) : Th B M st (n + 1) (.int i) (a + 1) := by
  have := log_lt h0 h
  refine ⟨i.natAbs.log2 + 2, ?_, by omega⟩
  show (if i.natAbs.log2 < B then _ else _) = _
  rw [if_pos (by omega)]
theorem Th.unint {i : Int} (h : Th B M st (n + 1) (.int i) w) : i.natAbs < 2 ^ (w - 1) ∧ 2 ≤ w ∧ i.natAbs < 2 ^ B := by
  obtain ⟨v, e, l⟩ := h
  obtain ⟨c, e⟩ := ite_some (show (if i.natAbs.log2 < B then some (i.natAbs.log2 + 2) else none) = some v from e)
  cases e
  exact ⟨Nat.lt_of_lt_of_le log_bits (Nat.pow_le_pow_right (by decide) (by omega)), by omega, Nat.lt_of_lt_of_le log_bits (Nat.pow_le_pow_right (by decide) (by omega))⟩
theorem Th.bl {c : Bool} : Th B M st (n + 1) (.bl c) 5 := ⟨5, rfl, Nat.le_refl _⟩
theorem Th.non : Th B M st (n + 1) .non 4 := ⟨4, rfl, Nat.le_refl _⟩
theorem Th.strW {s : Str} (h : asc s = true) : Th B M st (n + 1) (.str s) (strW s) := ⟨_, if_pos h, Nat.le_refl _⟩
theorem Th.str {s : Str} (h : asc s = true) : Th B M st (n + 1) (.str s) (10 * s.length + 2) := (Th.strW h).up (strW_le s)
theorem Th.unstr {s : Str} (h : Th B M st (n + 1) (.str s) w) : asc s = true ∧ Sim.strW s ≤ w := by
  obtain ⟨v, e, l⟩ := h
  obtain ⟨c, e⟩ := ite_some (show (if asc s = true then some (Sim.strW s) else none) = some v from e)
  cases e
  exact ⟨c, l⟩
theorem Th.data (hB : B ≤ 1900) (h : Th B M st n x w) : ∃ p, toP st n x = some p ∧ Gd p n w := by
  obtain ⟨v, e, l⟩ := h
  obtain ⟨p, h1, h2⟩ := th_ok hB n x v e
  exact ⟨p, h1, ⟨h2.s, h2.h, h2.c, h2.d, Nat.le_trans h2.w l⟩⟩
theorem Ths.data (hB : B ≤ 1900) (h : Ths B M st n xs w) : ∃ ps, mapO (fun x => toP st n x) xs = some ps ∧ Gds ps n w := by
  obtain ⟨v, e, l⟩ := h
  obtain ⟨p, h1, h2⟩ := th_list (th_ok hB n) e
  exact ⟨p, h1, ⟨h2.s, h2.h, h2.c, h2.d, Nat.le_trans h2.w l⟩⟩
theorem Gd.shaped {p : PyData} {d v : Nat} (h : Gd p d v) (l : d ≤ 64) : SeqAt.shaped p = true := by
  unfold SeqAt.shaped
  rw [h.c, decide_eq_true (Nat.le_trans h.d l)]; rfl
theorem Gd.shows {p : PyData} {d v : Nat} (h : Gd p d v) (l : d ≤ 60) (l2 : v ≤ 1000000) : Sim.shows p = true := by
  unfold Sim.shows
  rw [h.s, h.h, decide_eq_true (Nat.le_trans h.d l), decide_eq_true (Nat.le_trans h.w l2)]; rfl
theorem Th.noK {zs : List D} (h : Th B M st n (.ktup zs) w) : False := by
  obtain ⟨v, e, _⟩ := h
  cases n <;> cases e
theorem Th.noF {z : Str} (h : Th B M st n (.fn z) w) : False := by
  obtain ⟨v, e, _⟩ := h
  cases n <;> cases e
/-- what a thing is not: a dict -/
theorem Th.ty (h : Th B M st n x w) : ∃ t, tyD x st = some t := by
  cases n with
  | zero => obtain ⟨v, e, _⟩ := h; cases e
  | succ n =>
    cases x with
    | ref k =>
      obtain ⟨xs, hk, _, _⟩ := h.unref
      refine ⟨"list", ?_⟩
      rcases hk with hk | hk <;> (unfold tyD; simp only [hk])
    | ktup _ => obtain ⟨v, e, _⟩ := h; cases e
    | fn _ => obtain ⟨v, e, _⟩ := h; cases e
    | _ => exact ⟨_, rfl⟩
end
end Sim

namespace Sim
open PySem
/-! ### what a thing is -/
section
variable {st : Sto} {xs : List D} {i : Int} {b : Bool} {s : Str} {k : Nat}
@[simp] theorem isi_tt : isInst "tuple" (.tup xs) st = some true := rfl
@[simp] theorem isi_ti : isInst "tuple" (.int i) st = some false := rfl
@[simp] theorem isi_tb : isInst "tuple" (.bl b) st = some false := rfl
@[simp] theorem isi_ts : isInst "tuple" (.str s) st = some false := rfl
@[simp] theorem isi_tn : isInst "tuple" .non st = some false := rfl
@[simp] theorem isi_it : isInst "int" (.tup xs) st = some false := rfl
@[simp] theorem isi_ii : isInst "int" (.int i) st = some true := rfl
@[simp] theorem isi_ib : isInst "int" (.bl b) st = some true := rfl
@[simp] theorem isi_is : isInst "int" (.str s) st = some false := rfl
@[simp] theorem isi_in : isInst "int" .non st = some false := rfl
@[simp] theorem isi_bt : isInst "bool" (.tup xs) st = some false := rfl
@[simp] theorem isi_bi : isInst "bool" (.int i) st = some false := rfl
@[simp] theorem isi_bb : isInst "bool" (.bl b) st = some true := rfl
@[simp] theorem isi_bs : isInst "bool" (.str s) st = some false := rfl
@[simp] theorem isi_bn : isInst "bool" .non st = some false := rfl
@[simp] theorem isi_st : isInst "str" (.tup xs) st = some false := rfl
@[simp] theorem isi_si : isInst "str" (.int i) st = some false := rfl
@[simp] theorem isi_sb : isInst "str" (.bl b) st = some false := rfl
@[simp] theorem isi_ss : isInst "str" (.str s) st = some true := rfl
@[simp] theorem isi_sn : isInst "str" .non st = some false := rfl
def IsL (st : Sto) (k : Nat) : Prop := ∃ xs, st[k]? = some (.lst xs) ∨ st[k]? = some (.frz xs)
theorem IsL.ty (h : IsL st k) : tyD (.ref k) st = some "list" := by
  obtain ⟨xs, h | h⟩ := h <;> (unfold tyD; simp only [h])
theorem IsL.tup (h : IsL st k) : isInst "tuple" (.ref k) st = some false := by
  unfold isInst; rw [h.ty]; rfl
theorem IsL.int (h : IsL st k) : isInst "int" (.ref k) st = some false := by
  unfold isInst; rw [h.ty]; rfl
theorem IsL.bool (h : IsL st k) : isInst "bool" (.ref k) st = some false := by
  unfold isInst; rw [h.ty]; rfl
theorem IsL.str (h : IsL st k) : isInst "str" (.ref k) st = some false := by
  unfold isInst; rw [h.ty]; rfl
theorem IsL.list (h : IsL st k) : isInst "list" (.ref k) st = some true := by
  unfold isInst; rw [h.ty]; rfl
end
section
variable {B : Nat} {M : List Nat} {st : Sto} {n k w : Nat} {x : D} {xs : List D}
theorem Th.isL (h : Th B M st n (.ref k) w) : IsL st k := by
  cases n with
  | zero => obtain ⟨v, e, _⟩ := h; cases e
  | succ n => obtain ⟨xs, hk, _⟩ := h.unref; exact ⟨xs, hk⟩
theorem eqv_tupE : ∀ ps : List PyData, PyData.eqv (.tuple ps) (.tuple []) = ps.isEmpty
  | [] => rfl
  | p :: ps => rfl
theorem mapO_len {α β : Type} {f : α → Option β} : ∀ {xs : List α} {ys : List β}, mapO f xs = some ys → ys.length = xs.length
  | [], _, e => by cases e; rfl
  | x :: xs, ys, e => by
    obtain ⟨v, e1, e2⟩ := bind_some (show (f x).bind _ = some ys from e)
    obtain ⟨vs, e3, e4⟩ := map_some' e2
    subst e4
    rw [List.length_cons, List.length_cons, mapO_len e3]
theorem ne_unit (h : Th B M st n (.tup xs) w) (hB : B ≤ 1900) (hn : n ≤ 40) : cmpop .NotEq (.tup xs) (.tup []) st = some (!xs.isEmpty) := by
  obtain ⟨p, h1, h2⟩ := h.data hB
  have e : ∃ ps, p = .tuple ps ∧ ps.isEmpty = xs.isEmpty := by
    cases n with
    | zero => cases h1
    | succ n =>
      obtain ⟨ps, e1, e2⟩ := map_some' (show (mapO _ xs).map _ = some p from h1)
      refine ⟨ps, e2.symm, ?_⟩
      have := mapO_len e1
      cases ps <;> cases xs <;> first | rfl | (simp at this)
  obtain ⟨ps, rfl, e⟩ := e
  show (cmpop .Eq (.tup xs) (.tup []) st).map _ = _
  rw [eq_data (toP_up hn h1) (show toP st 40 (.tup []) = some (.tuple []) from rfl) (h2.shaped (by omega)) rfl, eqv_tupE, e]; rfl
theorem cut_take {xs : List D} {a : Nat} : cutD xs none (some (a : Int)) = xs.take a := by
  unfold cutD
  rw [HT.sIx_nat, HT.sIx_none, List.drop_zero, Nat.sub_zero]
  by_cases h : a ≤ xs.length
  · rw [Nat.min_eq_left h]
  · rw [Nat.min_eq_right (by omega), List.take_length, List.take_of_length_le (by omega)]
theorem cut_drop {xs : List D} {a : Nat} : cutD xs (some (a : Int)) none = xs.drop a := by
  unfold cutD
  rw [HT.sIx_nat, HT.sIx_none]
  by_cases h : a ≤ xs.length
  · rw [Nat.min_eq_left h, List.take_of_length_le (by rw [List.length_drop]; omega)]
  · rw [Nat.min_eq_right (by omega), Nat.sub_self, List.take_zero, List.drop_of_length_le (by omega)]
@[simp] theorem sl_take {a : Nat} : slD (.tup xs) none (some (a : Int)) st = some (.tup (xs.take a), st) := by
  show some (D.tup (cutD xs none (some (a : Int))), st) = _
  rw [cut_take]
@[simp] theorem sl_drop {a : Nat} : slD (.tup xs) (some (a : Int)) none st = some (.tup (xs.drop a), st) := by
  show some (D.tup (cutD xs (some (a : Int)) none), st) = _
  rw [cut_drop]
theorem add_tup {xs ys : List D} (h : xs.length + ys.length ≤ 100000) : binop .Add (.tup xs) (.tup ys) st = some (.tup (xs ++ ys), st) := if_pos h
theorem ix_tup {a : Nat} {d : D} (h : xs[a]? = some d) : ix (.tup xs) (.int (a : Int)) st = some d := ix_of (L2.atI_nat h)
@[simp] theorem len_tup : bLen [.tup xs] st = some (.int (xs.length : Nat), st) := rfl
@[simp] theorem list_tup : bList [.tup xs] st = some (.ref st.length, st ++ [.lst xs]) := rfl
theorem get_new {o : O} : (st ++ [o])[st.length]? = some o := by
  rw [List.getElem?_append_right (Nat.le_refl _)]; simp
theorem Feed.lt {f g : Nat} {ns : List Int} {t : Nat} (h : FeedAt st f g ns t) : f < st.length := by
  obtain ⟨i, c, k, h1, _⟩ := h.ex
  exact (List.getElem?_eq_some_iff.mp h1).1
/-- all that may change lies in the store -/
def InS (M : List Nat) (st : Sto) : Prop := ∀ m ∈ M, m < st.length
theorem InS.new (h : InS M st) : st.length ∉ M := fun q => Nat.lt_irrefl _ (h _ q)
theorem InS.app (h : InS M st) {o : O} : InS M (st ++ [o]) := fun m hm => by rw [List.length_append]; have := h m hm; omega
/-- the store is not cut -/
theorem KeepM.le {st' : Sto} (h : KeepM M st st') (i : InS M st) (j : ∀ m ∈ M, m < st'.length) : st.length ≤ st'.length := by
  refine Nat.le_of_not_lt fun q => ?_
  have hl : st.length - 1 < st.length := by omega
  by_cases c : st.length - 1 ∈ M
  · have := j _ c; omega
  · have := h _ _ c (List.getElem?_eq_getElem hl)
    have := (List.getElem?_eq_some_iff.mp this).1
    omega
end
/-- what a draw promises -/
def DrawOk (cf : CallF) : Prop := ∀ {st : Sto} {f g : Nat} {ns : List Int} {t : Nat}, FeedAt st f g ns t → f ≠ g → ∀ {m : Int}, 0 < m → m < 2 ^ 60 → t + 1 < 2 ^ 60 →
  ∃ (r : Nat) (st' : Sto), cf "_law_draw" [.ref f, .int m] st = some (.int (r : Nat), st') ∧ (r : Int) < m ∧ FeedAt st' f g ns (t + 1) ∧ Keep f st st'
theorem Keep.ins {f : Nat} {M : List Nat} {st st' : Sto} (h : Keep f st st') (hf : f < st'.length) (i : InS M st) : InS M st' := fun m hm => by
  by_cases c : m = f
  · subst c; exact hf
  · have := h m _ c (List.getElem?_eq_getElem (i m hm))
    exact (List.getElem?_eq_some_iff.mp this).1
noncomputable def bendR (cf : CallF) : SemS :=
    sSeq (sAsg (fCall cf "_law_draw" (fCons (fVar 0) (fCons (fC (.int 6)) (fNil)))) (gvName 3))
    (sSeq (sIf (gAnd (gTru (fIsi "tuple" (fVar 1))) (gCmp .Lt (fVar 3) (fC (.int 4))))
      (sSeq (sAsg (fCall cf "_law_draw" (fCons (fVar 0) (fCons (fBin .Add (fBlt bLen (fCons (fVar 1) (fNil))) (fC (.int 1))) (fNil)))) (gvName 4))
        (sSeq (sIf (gCmp .Eq (fVar 3) (fC (.int 0)))
          (sSeq (sRet (fBin .Add (fBin .Add (fSl (fVar 1) (oNone) (oSome (fVar 4))) (fTup (fCons (fIx (fVar 2) (fCall cf "_law_draw" (fCons (fVar 0) (fCons (fBlt bLen (fCons (fVar 2) (fNil))) (fNil))))) (fNil)))) (fSl (fVar 1) (oSome (fVar 4)) (oNone))))
            (sNil))
          (sNil))
        (sSeq (sRet (fIf (gCmp .Eq (fVar 3) (fC (.int 1))) (fBin .Add (fSl (fVar 1) (oNone) (oSome (fVar 4))) (fSl (fVar 1) (oSome (fBin .Add (fVar 4) (fC (.int 1)))) (oNone))) (fIf (gCmp .Eq (fVar 3) (fC (.int 2))) (fBlt bList (fCons (fVar 1) (fNil))) (fBin .Add (fVar 1) (fSl (fVar 1) (oNone) (oSome (fVar 4)))))))
        (sNil))))
      (sNil))
    (sSeq (sIf (gAnd (gTru (fIsi "int" (fVar 1))) (gCmp .Lt (fVar 3) (fC (.int 4))))
      (sSeq (sRet (fIx (fTup (fCons (fBin .Add (fVar 1) (fC (.int 1))) (fCons (fBin .Sub (fVar 1) (fC (.int 1))) (fCons (fNeg (fVar 1)) (fCons (fTup (fCons (fVar 1) (fNil))) (fNil)))))) (fVar 3)))
        (sNil))
      (sNil))
    (sSeq (sIf (gAnd (gTru (fIsi "str" (fVar 1))) (gCmp .Lt (fVar 3) (fC (.int 3))))
      (sSeq (sRet (fIx (fTup (fCons (fBin .Add (fVar 1) (fC (.str "a"))) (fCons (fSl (fVar 1) (oSome (fC (.int 1))) (oNone)) (fCons (fLst (fCons (fVar 1) (fNil))) (fNil))))) (fVar 3)))
        (sNil))
      (sNil))
    (sSeq (sRet (fIx (fVar 2) (fCall cf "_law_draw" (fCons (fVar 0) (fCons (fBlt bLen (fCons (fVar 2) (fNil))) (fNil))))))
    (sNil)))))
noncomputable def bendF (cf : CallF) : SemS :=
    sSeq (sIf (gAnd (gTru (fIsi "tuple" (fVar 1))) (gAnd (gCmp .NotEq (fVar 1) (fTup (fNil))) (gCmp .Gt (fCall cf "_law_draw" (fCons (fVar 0) (fCons (fC (.int 4)) (fNil)))) (fC (.int 0)))))
      (sSeq (sAsg (fCall cf "_law_draw" (fCons (fVar 0) (fCons (fBlt bLen (fCons (fVar 1) (fNil))) (fNil)))) (gvName 4))
        (sSeq (sRet (fBin .Add (fBin .Add (fSl (fVar 1) (oNone) (oSome (fVar 4))) (fTup (fCons (fCall cf "_law_bend" (fCons (fVar 0) (fCons (fIx (fVar 1) (fVar 4)) (fCons (fVar 2) (fNil))))) (fNil)))) (fSl (fVar 1) (oSome (fBin .Add (fVar 4) (fC (.int 1)))) (oNone))))
        (sNil)))
      (sNil))
    (bendR cf)
/-- the odd things, a tuple -/
structure OddT (B : Nat) (M : List Nat) (st : Sto) (os : List D) : Prop where
  l : 0 < os.length ∧ os.length ≤ 100
  h : ∀ o ∈ os, Th B M st 4 o 700
theorem OddT.keep {B : Nat} {M : List Nat} {st st' : Sto} {os : List D} (h : OddT B M st os) (k : KeepM M st st') : OddT B M st' os := ⟨h.l, fun o ho => (h.h o ho).keep k⟩
def BendSt (cf : CallF) (k : Nat) : Prop := ∀ (B : Nat) (M : List Nat) (st : Sto) (f g : Nat) (ns : List Int) (t : Nat) (x : D) (w : Nat) (os : List D), FeedAt st f g ns t → f ≠ g → f ∈ M → InS M st → B ≤ 1800 → 700 ≤ B → Th B M st k x w → w ≤ 40000 → OddT B M st os → t + 4 * (k + 1) < 2 ^ 60 → k ≤ 30 →
  ∃ (y : D) (st' : Sto) (t' : Nat), cf "_law_bend" [.ref f, x, .tup os] st = some (y, st') ∧ Th (B + 1) M st' (k + 4) y (2 * w + 710) ∧ FeedAt st' f g ns t' ∧ t' ≤ t + 4 * (k + 1) ∧ Keep f st st'
/-- the rest of it, where nothing of the thing is bent -/
theorem bend_odd {cf : CallF} {B : Nat} {M : List Nat} {st : Sto} {f g : Nat} {ns : List Int} {t : Nat} {os : List D} (hd : DrawOk cf) (F : FeedAt st f g ns t) (fg : f ≠ g) (fM : f ∈ M) (O : OddT B M st os) (ht : t + 1 < 2 ^ 60) {η : LocD} (h0 : η[0]? = some (some (.ref f))) (h2 : η[2]? = some (some (.tup os))) :
    ∃ (y : D) (st' : Sto), (fIx (fVar 2) (fCall cf "_law_draw" (fCons (fVar 0) (fCons (fBlt bLen (fCons (fVar 2) (fNil))) (fNil))))) η st = some (y, st') ∧ Th B M st' 4 y 700 ∧ FeedAt st' f g ns (t + 1) ∧ Keep f st st' := by
  obtain ⟨r, s1, d1, l1, F1, K1⟩ := hd F fg (m := (os.length : Nat)) (by have := O.l; omega) (by have := O.l; omega) ht
  obtain ⟨y, hy⟩ : ∃ y, os[r]? = some y := ⟨_, List.getElem?_eq_getElem (by omega)⟩
  refine ⟨y, s1, ?_, (O.h y (List.mem_of_getElem? hy)).keep (K1.toM fM), F1, K1⟩
  simp [h0, h2, d1, ix_tup hy]
end Sim

namespace Sim
open PySem
@[simp] theorem ix_tup3 {st : Sto} {a b c d : D} {r : List D} : ix (.tup (a :: b :: c :: d :: r)) (.int 3) st = some d := ix_of (L2.atI_nat (j := 3) rfl)
theorem strOk_app {a b : Str} (h : asc a = true) (k : asc b = true) : asc (a ++ b) = true := by
  have e : (a ++ b).cps.toList = a.cps.toList ++ b.cps.toList := by
    show (a.cps ++ b.cps).toList = _
    rw [Array.toList_append]
  unfold asc at *
  rw [e, List.all_append, h, k]; rfl
theorem plain_app {a b : Str} (h : plainS a = true) (k : plainS b = true) : plainS (a ++ b) = true := by
  have e : (a ++ b).cps.toList = a.cps.toList ++ b.cps.toList := by
    show (a.cps ++ b.cps).toList = _
    rw [Array.toList_append]
  unfold plainS at *
  rw [e, List.all_append, h, k]; rfl
theorem plain_cut {a : Str} {lo hi : Option Int} (h : plainS a = true) : plainS (Txt.slice a lo hi) = true := by
  rw [← C8.cutS_slice]
  unfold plainS
  rw [List.all_eq_true]
  intro c hc
  refine List.all_eq_true.mp h c ?_
  have e : (L2.cutS a lo hi).cps.toList = ((a.cps.toList.drop (HT.sIx a.length 0 lo)).take (HT.sIx a.length a.length hi - HT.sIx a.length 0 lo)) := by
    unfold L2.cutS
    rw [List.toList_toArray]
  rw [e] at hc
  exact List.mem_of_mem_drop (List.mem_of_mem_take hc)
theorem strW_a (s : Str) : strW (s ++ "a") ≤ strW s + 10 := by
  have l : (s ++ "a" : Str).length = s.length + 1 := by rw [strLen_append]; rfl
  by_cases h : plainS s = true
  · have k := plain_app h (b := "a") (by decide +kernel)
    unfold strW
    rw [if_pos h, if_pos k, l]; omega
  · have := strW_le (s ++ "a")
    unfold strW at this ⊢
    rw [if_neg h]
    split at this <;> split <;> omega
theorem strW_cut (s : Str) (lo hi : Option Int) : strW (Txt.slice s lo hi) ≤ strW s := by
  have l := Txt.slice_le s lo hi
  by_cases h : plainS s = true
  · have k := plain_cut (lo := lo) (hi := hi) h
    unfold strW
    rw [if_pos h, if_pos k]; omega
  · have := strW_le (Txt.slice s lo hi)
    unfold strW at this ⊢
    rw [if_neg h]
    split at this <;> split <;> omega
theorem strOk_cut {a : Str} {lo hi : Option Int} (h : asc a = true) : asc (Txt.slice a lo hi) = true := by
  rw [← C8.cutS_slice]
  unfold asc
  rw [List.all_eq_true]
  intro c hc
  refine decide_eq_true (asc_lt h c ?_)
  have e : (L2.cutS a lo hi).cps.toList = ((a.cps.toList.drop (HT.sIx a.length 0 lo)).take (HT.sIx a.length a.length hi - HT.sIx a.length 0 lo)) := by
    unfold L2.cutS
    rw [List.toList_toArray]
  rw [e] at hc
  exact List.mem_of_mem_drop (List.mem_of_mem_take hc)
section
variable {cf : CallF} {B : Nat} {M : List Nat} {st : Sto} {f g : Nat} {ns : List Int} {t k w : Nat} {os : List D}
/-- what is promised of the rest -/
def BendRest (cf : CallF) (B : Nat) (M : List Nat) (st : Sto) (f g : Nat) (ns : List Int) (t k w : Nat) (x : D) (os : List D) : Prop :=
  ∃ (y : D) (st' : Sto) (t' : Nat), bendR cf [some (.ref f), some x, some (.tup os), none, none] st = some (.rt y, st') ∧ Th (B + 1) M st' (k + 4) y (2 * w + 710) ∧ FeedAt st' f g ns t' ∧ t' ≤ t + 3 ∧ Keep f st st'
theorem Th.odd {y : D} {s : Sto} (h : Th B M s 4 y 700) : Th (B + 1) M s (k + 4) y (2 * w + 710) := h.mono (KeepM.refl _ _) (by omega) (by omega) (by omega)
theorem rest_non (hd : DrawOk cf) (F : FeedAt st f g ns t) (fg : f ≠ g) (fM : f ∈ M) (Od : OddT B M st os) (ht : t + 4 < 2 ^ 60) : BendRest cf B M st f g ns t k w .non os := by
  obtain ⟨r, s1, d1, l1, F1, K1⟩ := hd F fg (m := 6) (by decide) (by decide) (by omega)
  obtain ⟨y, s2, h1, h2, F2, K2⟩ := bend_odd hd F1 fg fM (Od.keep (K1.toM fM)) (by omega) (η := [some (.ref f), some .non, some (.tup os), some (.int (r : Nat)), none]) rfl rfl
  refine ⟨y, s2, _, ?_, h2.odd, F2, by omega, K1.trans K2⟩
  unfold bendR
  generalize (fIx (fVar 2) (fCall cf "_law_draw" (fCons (fVar 0) (fCons (fBlt bLen (fCons (fVar 2) (fNil))) (fNil))))) = E at *
  simp [d1, h1]
theorem rest_ref {j : Nat} (hd : DrawOk cf) (F : FeedAt st f g ns t) (fg : f ≠ g) (fM : f ∈ M) (Od : OddT B M st os) (ht : t + 4 < 2 ^ 60) (h : Th B M st k (.ref j) w) : BendRest cf B M st f g ns t k w (.ref j) os := by
  obtain ⟨r, s1, d1, l1, F1, K1⟩ := hd F fg (m := 6) (by decide) (by decide) (by omega)
  have i1 := (h.keep (K1.toM fM)).isL
  obtain ⟨y, s2, h1, h2, F2, K2⟩ := bend_odd hd F1 fg fM (Od.keep (K1.toM fM)) (by omega) (η := [some (.ref f), some (.ref j), some (.tup os), some (.int (r : Nat)), none]) rfl rfl
  refine ⟨y, s2, _, ?_, h2.odd, F2, by omega, K1.trans K2⟩
  unfold bendR
  generalize (fIx (fVar 2) (fCall cf "_law_draw" (fCons (fVar 0) (fCons (fBlt bLen (fCons (fVar 2) (fNil))) (fNil))))) = E at *
  simp [d1, h1, i1.tup, i1.int, i1.str]
theorem rest_bl {b : Bool} (hd : DrawOk cf) (F : FeedAt st f g ns t) (fg : f ≠ g) (fM : f ∈ M) (Od : OddT B M st os) (ht : t + 4 < 2 ^ 60) (hB : 700 ≤ B) (hk : 0 < k) : BendRest cf B M st f g ns t k w (.bl b) os := by
  obtain ⟨r, s1, d1, l1, F1, K1⟩ := hd F fg (m := 6) (by decide) (by decide) (by omega)
  by_cases hr : r < 4
  · have small : ∀ i : Int, i.natAbs < 2 ^ 5 → Th (B + 1) M s1 (k + 4) (.int i) (2 * w + 710) := fun i hi => (Th.int (n := k + 3) (a := 5) hi (by omega) (by decide)).up (by omega)
    have hb : (if b = true then (1 : Int) else 0).natAbs < 2 ^ 4 := by cases b <;> decide
    match r, hr with
    | 0, _ => 
      refine ⟨.int ((if b = true then (1 : Int) else 0) + 1), s1, _, ?_, small _ (by omega), F1, by omega, K1⟩
      simp [bendR, d1, binop, opAdd, opSub]
    | 1, _ => 
      refine ⟨.int ((if b = true then (1 : Int) else 0) - 1), s1, _, ?_, small _ (by omega), F1, by omega, K1⟩
      simp [bendR, d1, binop, opAdd, opSub]
    | 2, _ => 
      refine ⟨.int (-(if b = true then (1 : Int) else 0)), s1, _, ?_, small _ (by omega), F1, by omega, K1⟩
      simp [bendR, d1, binop, opAdd, opSub]
    | 3, _ => 
      refine ⟨.tup [.bl b], s1, _, ?_, ?_, F1, by omega, K1⟩
      · simp [bendR, d1, binop, opAdd, opSub]
      · exact (Ths.tup (n := k + 3) (Ths.cons Th.bl Ths.nil)).up (by omega)
  · obtain ⟨y, s2, h1, h2, F2, K2⟩ := bend_odd hd F1 fg fM (Od.keep (K1.toM fM)) (by omega) (η := [some (.ref f), some (.bl b), some (.tup os), some (.int (r : Nat)), none]) rfl rfl
    refine ⟨y, s2, _, ?_, h2.odd, F2, by omega, K1.trans K2⟩
    have hr2 : ¬ ((r : Int) < 4) := by omega
    unfold bendR
    generalize (fIx (fVar 2) (fCall cf "_law_draw" (fCons (fVar 0) (fCons (fBlt bLen (fCons (fVar 2) (fNil))) (fNil))))) = E at *
    simp [d1, h1, hr, hr2]
theorem rest_int {i : Int} (hd : DrawOk cf) (F : FeedAt st f g ns t) (fg : f ≠ g) (fM : f ∈ M) (Od : OddT B M st os) (ht : t + 4 < 2 ^ 60) (h : Th B M st (k + 1) (.int i) w) : BendRest cf B M st f g ns t (k + 1) w (.int i) os := by
  obtain ⟨r, s1, d1, l1, F1, K1⟩ := hd F fg (m := 6) (by decide) (by decide) (by omega)
  obtain ⟨b1, b2, b3⟩ := h.unint
  have two : ∀ a : Nat, 2 ^ (a + 1) = 2 * 2 ^ a := fun a => by rw [Nat.pow_succ, Nat.mul_comm]
  have near : ∀ j : Int, j.natAbs ≤ i.natAbs + 1 → Th (B + 1) M s1 (k + 1 + 4) (.int j) (2 * w + 710) := fun j hj => by
    by_cases c : B ≤ w
    · refine (Th.int (n := k + 1 + 3) (a := B + 1) ?_ (Nat.le_refl _) (by omega)).up (by omega)
      have := two B
      omega
    · refine (Th.int (n := k + 1 + 3) (a := w) ?_ (by omega) (by omega)).up (by omega)
      have := two (w - 1)
      have e : w - 1 + 1 = w := by omega
      rw [e] at this
      have : 0 < 2 ^ (w - 1) := Nat.two_pow_pos _
      omega
  by_cases hr : r < 4
  · match r, hr with
    | 0, _ => 
      refine ⟨.int (i + 1), s1, _, ?_, near _ (by omega), F1, by omega, K1⟩
      simp [bendR, d1]
    | 1, _ => 
      refine ⟨.int (i - 1), s1, _, ?_, near _ (by omega), F1, by omega, K1⟩
      simp [bendR, d1]
    | 2, _ => 
      refine ⟨.int (-i), s1, _, ?_, near _ (by omega), F1, by omega, K1⟩
      simp [bendR, d1]
    | 3, _ => 
      refine ⟨.tup [.int i], s1, _, ?_, ?_, F1, by omega, K1⟩
      · simp [bendR, d1]
      · exact (Ths.tup (n := k + 4) (Ths.cons (h.mono (K1.toM fM) (by omega) (Nat.le_refl _) (by omega)) Ths.nil)).up (by omega)
  · obtain ⟨y, s2, h1, h2, F2, K2⟩ := bend_odd hd F1 fg fM (Od.keep (K1.toM fM)) (by omega) (η := [some (.ref f), some (.int i), some (.tup os), some (.int (r : Nat)), none]) rfl rfl
    refine ⟨y, s2, _, ?_, h2.odd, F2, by omega, K1.trans K2⟩
    have hr2 : ¬ ((r : Int) < 4) := by omega
    unfold bendR
    generalize (fIx (fVar 2) (fCall cf "_law_draw" (fCons (fVar 0) (fCons (fBlt bLen (fCons (fVar 2) (fNil))) (fNil))))) = E at *
    simp [d1, h1, hr, hr2]
theorem FeedAt.put {s : Sto} {o : O} (h : FeedAt s f g ns t) : FeedAt (s ++ [o]) f g ns t := h.app
theorem rest_str {s : Str} (hd : DrawOk cf) (F : FeedAt st f g ns t) (fg : f ≠ g) (fM : f ∈ M) (hM : InS M st) (Od : OddT B M st os) (ht : t + 4 < 2 ^ 60) (h : Th B M st (k + 1) (.str s) w) (hw : w ≤ 40000) : BendRest cf B M st f g ns t (k + 1) w (.str s) os := by
  obtain ⟨r, s1, d1, l1, F1, K1⟩ := hd F fg (m := 6) (by decide) (by decide) (by omega)
  obtain ⟨b1, b2⟩ := h.unstr
  have b3 := strW_ge s
  have M1 : InS M s1 := K1.ins (Feed.lt F1) hM
  have a1 : binop .Add (.str s) (.str "a") s1 = some (.str (s ++ "a"), s1) := if_pos (show s.length + 1 ≤ 100000 by omega)
  have a2 : slD (.str s) (some 1) none s1 = some (.str (Txt.slice s (some 1) none), s1) := if_pos (show s.length ≤ 100000 by omega)
  have K2 : Keep f s1 (s1 ++ [Sim.O.lst [.str s]]) := Keep.app
  by_cases hr : r < 3
  · match r, hr with
    | 0, _ => 
      refine ⟨.str (s ++ "a"), s1 ++ [Sim.O.lst [.str s]], _, ?_, ?_, F1.app, by omega, K1.trans K2⟩
      · simp [bendR, d1, a1, a2, alloc]
      · refine (Th.strW (n := k + 4) (strOk_app b1 (by decide +kernel))).up ?_
        have := strW_a s
        omega
    | 1, _ => 
      refine ⟨.str (Txt.slice s (some 1) none), s1 ++ [Sim.O.lst [.str s]], _, ?_, ?_, F1.app, by omega, K1.trans K2⟩
      · simp [bendR, d1, a1, a2, alloc]
      · refine (Th.strW (n := k + 4) (strOk_cut b1)).up ?_
        have := strW_cut s (some 1) none
        omega
    | 2, _ => 
      refine ⟨.ref s1.length, s1 ++ [Sim.O.lst [.str s]], _, ?_, ?_, F1.app, by omega, K1.trans K2⟩
      · simp [bendR, d1, a1, a2, alloc]
      · exact (Ths.ref (n := k + 4) (.inl get_new) M1.new (Ths.cons (Th.strW b1) Ths.nil)).up (by omega)
  · obtain ⟨y, s2, h1, h2, F2, K2⟩ := bend_odd hd F1 fg fM (Od.keep (K1.toM fM)) (by omega) (η := [some (.ref f), some (.str s), some (.tup os), some (.int (r : Nat)), none]) rfl rfl
    refine ⟨y, s2, _, ?_, h2.odd, F2, by omega, K1.trans K2⟩
    have hr2 : ¬ ((r : Int) < 3) := by omega
    unfold bendR
    generalize (fIx (fVar 2) (fCall cf "_law_draw" (fCons (fVar 0) (fCons (fBlt bLen (fCons (fVar 2) (fNil))) (fNil))))) = E at *
    simp [d1, h1, hr, hr2]
end
end Sim

namespace Sim
open PySem
/-! ### looks: the store only grows -/
def Ext (st st' : Sto) : Prop := ∀ (k : Nat) (o : O), st[k]? = some o → st'[k]? = some o
theorem Ext.refl (st : Sto) : Ext st st := fun _ _ h => h
theorem Ext.trans {a b c : Sto} (h : Ext a b) (k : Ext b c) : Ext a c := fun n o q => k n o (h n o q)
theorem Ext.app {st : Sto} {o : O} : Ext st (st ++ [o]) := fun n o' h => get_app h
theorem Ext.set {st s : Sto} {o : O} (h : Ext st s) : Ext st (s.set st.length o) := fun n o' q => by
  have := (List.getElem?_eq_some_iff.mp q).1
  rw [List.getElem?_set_ne (by omega)]; exact h n o' q
theorem Ext.toM {M : List Nat} {a b : Sto} (h : Ext a b) : KeepM M a b := fun n o _ q => h n o q
theorem Ext.toK {f : Nat} {a b : Sto} (h : Ext a b) : Keep f a b := fun n o _ q => h n o q
theorem Ext.le {a b : Sto} (h : Ext a b) : a.length ≤ b.length := by
  refine Nat.le_of_not_lt fun q => ?_
  have hl : a.length - 1 < a.length := by omega
  have := h _ _ (List.getElem?_eq_getElem hl)
  have := (List.getElem?_eq_some_iff.mp this).1
  omega
theorem Ext.ins {M : List Nat} {a b : Sto} (h : Ext a b) (i : InS M a) : InS M b := fun m hm => Nat.lt_of_lt_of_le (i m hm) h.le
theorem Ext.feed {a b : Sto} {f g : Nat} {ns : List Int} {t : Nat} (h : Ext a b) (F : FeedAt a f g ns t) : FeedAt b f g ns t := by
  obtain ⟨i, c, k, h1, h2, h3⟩ := F.ex
  exact ⟨i, c, k, h _ _ h1, h _ _ h2, h3⟩
theorem Ext.okGd {gd : Option (Nat × O)} {a b : Sto} (h : Ext a b) (k : okGd gd a) : okGd gd b := fun p e => h _ _ (k p e)
theorem toP_ext {st st' : Sto} (k : Ext st st') : ∀ {n : Nat} {x : D} {p : PyData}, toP st n x = some p → toP st' n x = some p
  | 0, _, _, h => by cases h
  | n + 1, .non, _, h => h
  | n + 1, .bl _, _, h => h
  | n + 1, .int _, _, h => h
  | n + 1, .str _, _, h => h
  | n + 1, .tup xs, v, h => by
    obtain ⟨ws, e1, e2⟩ := map_some' (show (mapO _ xs).map _ = some v from h)
    show (mapO _ xs).map _ = _
    rw [mapO_imp (fun x y q => toP_ext k q) e1, ← e2]; rfl
  | n + 1, .ktup xs, v, h => by
    obtain ⟨ws, e1, e2⟩ := map_some' (show (mapO _ xs).map _ = some v from h)
    show (mapO _ xs).map _ = _
    rw [mapO_imp (fun x y q => toP_ext k q) e1, ← e2]; rfl
  | n + 1, .fn _, v, h => by cases h
  | n + 1, .ref j, v, h => by
    unfold toP at h ⊢
    cases q : st[j]? with
    | none => simp only [q] at h; cases h
    | some o =>
      have q' := k j o q
      cases o with
      | dct xs => simp only [q] at h; cases h
      | dtp xs => simp only [q] at h; cases h
      | frd xs => simp only [q] at h; cases h
      | stk k => simp only [q] at h; cases h
      | lst xs =>
        simp only [q] at h
        simp only [q']
        obtain ⟨ws, e1, e2⟩ := map_some' h
        rw [mapO_imp (fun x y q => toP_ext k q) e1, ← e2]; rfl
      | frz xs =>
        simp only [q] at h
        simp only [q']
        obtain ⟨ws, e1, e2⟩ := map_some' h
        rw [mapO_imp (fun x y q => toP_ext k q) e1, ← e2]; rfl
theorem lc_run {g : SemG} {ft : SemT} {fe : SemE} {ηw : LocD} {gd : Option (Nat × O)} {n : Nat} {Inv : Sto → Prop} {f : D → D} {q : D → Bool} (hgd : ∀ s, Inv s → okGd gd s) (hset : ∀ s o, Inv s → Inv (s.set n o)) :
    ∀ (xs : List D) (st : Sto) (acc : List D), Inv st → st[n]? = some (.lst acc) → acc.length + xs.length < 100000 →
    (∀ x ∈ xs, ∀ s, Inv s → n < s.length → ∃ η2 s1, g x ηw = some η2 ∧ ft η2 s = some (q x, s1) ∧ Inv s1 ∧ s1[n]? = s[n]? ∧ (q x = true → ∃ s2, fe η2 s1 = some (f x, s2) ∧ Inv s2 ∧ s2[n]? = s[n]?)) →
    ∃ st', lcGo g ft fe ηw gd n xs st = some st' ∧ Inv st' ∧ st'[n]? = some (.lst (acc ++ (xs.filter q).map f))
  | [], st, acc, hI, ha, _, _ => by
    refine ⟨st, ?_, hI, by simpa using ha⟩
    unfold lcGo
    exact if_pos (hgd st hI)
  | x :: r, st, acc, hI, ha, hl, step => by
    rw [List.length_cons] at hl
    obtain ⟨η2, s1, h1, h2, h3, h4, h5⟩ := step x List.mem_cons_self st hI (List.getElem?_eq_some_iff.mp ha).1
    have ih := fun s a => lc_run (g := g) (ft := ft) (fe := fe) (ηw := ηw) (n := n) (f := f) (q := q) hgd hset r s a
    rw [lcGo, if_pos (hgd st hI), h1]
    simp only [Option.bind_some, h2]
    by_cases c : q x = true
    · obtain ⟨s2, h6, h7, h8⟩ := h5 c
      rw [ha] at h8
      have hl2 : acc.length < most := show acc.length < 100000 by omega
      rw [if_pos c]
      simp only [Option.bind_some, h6, h8]
      rw [if_pos hl2]
      obtain ⟨st', e1, e2, e3⟩ := ih (s2.set n (.lst (acc ++ [f x]))) (acc ++ [f x]) (hset _ _ h7) (set_self h8) (by rw [List.length_append, List.length_cons, List.length_nil]; omega) (fun y hy => step y (List.mem_cons_of_mem _ hy))
      refine ⟨st', e1, e2, ?_⟩
      rw [e3, List.filter_cons, if_pos c, List.map_cons, List.append_assoc]; rfl
    · rw [if_neg c]
      rw [ha] at h4
      obtain ⟨st', e1, e2, e3⟩ := ih s1 acc h3 h4 (by omega) (fun y hy => step y (List.mem_cons_of_mem _ hy))
      refine ⟨st', e1, e2, ?_⟩
      rw [e3, List.filter_cons, if_neg c]
/-- a comprehension over a tuple, by looks -/
theorem lc_tup {fa fe : SemE} {ft : SemT} {i : Nat} {vs : List Nat} {η : LocD} {st : Sto} {xs : List D} {f : D → D} {q : D → Bool} (ha : fa η st = some (.tup xs, st)) (hl : xs.length < 100000)
    (step : ∀ x ∈ xs, ∀ s, Ext st s → st.length < s.length → ∃ s1, ft ((wipeD η vs).set i (some x)) s = some (q x, s1) ∧ Ext s s1 ∧ (q x = true → ∃ s2, fe ((wipeD η vs).set i (some x)) s1 = some (f x, s2) ∧ Ext s1 s2)) :
    ∃ st', fLc (iPlain fa) (gvName i) ft fe vs η st = some (.ref st.length, st') ∧ Ext st st' ∧ st'[st.length]? = some (.lst ((xs.filter q).map f)) := by
  obtain ⟨st', e1, e2, e3⟩ := lc_run (g := gvName i) (ft := ft) (fe := fe) (ηw := wipeD η vs) (gd := none) (n := st.length) (Inv := fun s => Ext st s) (f := f) (q := q) (fun s _ => okGd_none) (fun s o h => h.set) xs (st ++ [.lst []]) [] Ext.app get_new (by simpa using hl)
    (fun x hx s hs hn => by
      obtain ⟨s1, h1, h2, h3⟩ := step x hx s hs hn
      have keep : ∀ s', Ext s s' → s'[st.length]? = s[st.length]? := fun s' h => by
        have := List.getElem?_eq_getElem hn
        rw [this]; exact h _ _ this
      refine ⟨_, s1, rfl, h1, hs.trans h2, keep s1 h2, fun c => ?_⟩
      obtain ⟨s2, h4, h5⟩ := h3 c
      exact ⟨s2, h4, (hs.trans h2).trans h5, keep s2 (h2.trans h5)⟩)
  refine ⟨st', ?_, e2, by simpa using e3⟩
  rw [fLc_ev, iPlain_ev, ha]
  simp only [Option.bind_some, srcOf_tup, Option.map_some]
  rw [e1]; rfl
section
variable {B : Nat} {M : List Nat} {st : Sto} {n w : Nat}
theorem eqv_lstE : ∀ ps : List PyData, PyData.eqv (.list ps) (.list []) = ps.isEmpty
  | [] => rfl
  | p :: ps => rfl
/-- == of a list with a void one -/
theorem eq_void {a b : Nat} {ys : List D} (ha : st[a]? = some (.lst ys)) (hb : st[b]? = some (.lst [])) (h : Ths B M st n ys w) (hB : B ≤ 1900) (hn : n ≤ 38) : cmpop .Eq (.ref a) (.ref b) st = some ys.isEmpty := by
  obtain ⟨ps, h1, h2⟩ := h.data hB
  have e1 : toP st 40 (.ref a) = some (.list ps) := by
    refine toP_up (n := n + 1) (by omega) ?_
    unfold toP
    rw [ha]
    show (mapO _ _).map _ = _
    rw [h1]; rfl
  have e2 : toP st 40 (.ref b) = some (.list []) := by
    unfold toP
    rw [hb]; rfl
  have l := mapO_len h1
  rw [eq_data e1 e2 (h2.lst.shaped (by omega)) rfl, eqv_lstE]
  cases ps <;> cases ys <;> first | rfl | (simp at l)
theorem ne_void {a b : Nat} {ys : List D} (ha : st[a]? = some (.lst ys)) (hb : st[b]? = some (.lst [])) (h : Ths B M st n ys w) (hB : B ≤ 1900) (hn : n ≤ 38) : cmpop .NotEq (.ref a) (.ref b) st = some (!ys.isEmpty) := by
  show (cmpop .Eq (.ref a) (.ref b) st).map _ = _
  rw [eq_void ha hb h hB hn]; rfl
theorem Ths.filter {q : D → Bool} : ∀ {xs : List D} {w : Nat}, Ths B M st n xs w → Ths B M st n (xs.filter q) w
  | [], w, h => h
  | x :: xs, w, h => by
    obtain ⟨a, c, h1, h2, l⟩ := h.uncons
    have ih := Ths.filter (q := q) h2
    rw [List.filter_cons]
    split
    · exact (Ths.cons h1 ih).up (by omega)
    · exact ih.up (by omega)
end
/-! ### the greatest common divisor by Euclid's way -/
theorem euclid_half {a b : Nat} (hb : 0 < b) (h : 0 < a % b) : 2 * (b % (a % b)) < b := by
  have h1 := Nat.mod_lt a hb
  have h2 := Nat.mod_lt b h
  by_cases c : 2 * (a % b) ≤ b
  · omega
  · have : b % (a % b) = b - a % b := by
      rw [Nat.mod_eq_sub_mod (by omega), Nat.mod_eq_of_lt (by omega)]
    omega
/-- the measure of Euclid's way -/
theorem euclid_run {ft : SemT} {fb : SemS} {L : Nat → Nat → LocD} {st : Sto} (ht : ∀ a b, ft (L a b) st = some (!decide (b = 0), st)) (hb : ∀ a b, 0 < b → fb (L a b) st = some (.nx (L b (a % b)), st)) :
    ∀ (j k a b : Nat), b < 2 ^ j → 2 * j + 1 ≤ k → whGo ft fb k (L a b) st = some (.nx (L (a.gcd b) 0), st)
  | _, 0, _, _, _, l => absurd l (by omega)
  | j, k + 1, a, b, h, l => by
    unfold whGo
    rw [ht]
    by_cases b0 : b = 0
    · subst b0
      simp
    · have hbp : 0 < b := by omega
      have hstep := hb a b hbp
      simp only [Option.bind_some, decide_eq_false b0, Bool.not_false, if_true, hstep]
      have e : a.gcd b = b.gcd (a % b) := by rw [Nat.gcd_comm a b, Nat.gcd_rec, Nat.gcd_comm]
      rw [e]
      cases j with
      | zero => exact absurd h (by omega)
      | succ j =>
        cases k with
        | zero => omega
        | succ k =>
          unfold whGo
          rw [ht]
          by_cases r0 : a % b = 0
          · rw [r0]; simp
          · have hrp : 0 < a % b := by omega
            have hstep2 := hb b (a % b) hrp
            simp only [Option.bind_some, decide_eq_false r0, Bool.not_false, if_true, hstep2]
            have e2 : b.gcd (a % b) = (a % b).gcd (b % (a % b)) := by rw [Nat.gcd_comm b (a % b), Nat.gcd_rec, Nat.gcd_comm]
            rw [e2]
            have hh := euclid_half hbp hrp
            have : 2 ^ (j + 1) = 2 * 2 ^ j := by rw [Nat.pow_succ, Nat.mul_comm]
            exact euclid_run ht hb j k _ _ (by omega) (by omega)
theorem euclid_fuel {j : Nat} (h : j ≤ 2000) : 2 * j + 1 ≤ fuel := Nat.le_trans (show 2 * j + 1 ≤ 4001 by omega) (by decide +kernel)
end Sim

namespace Sim
open PySem
/-! ### the program's looks at any thing -/
def LookOk (cf : CallF) (nm : Str) (P : D → Bool) : Prop := ∀ (B : Nat) (M : List Nat) (st : Sto) (n : Nat) (x : D) (w : Nat), Th B M st n x w → B ≤ 1900 → n ≤ 38 → w ≤ 98000 → ∃ st', cf nm [x] st = some (.bl (P x), st') ∧ Ext st st'
def RunOk (F : SemS) (dd : Def) (P : D → Bool) : Prop := ∀ (B : Nat) (M : List Nat) (st : Sto) (n : Nat) (x : D) (w : Nat), Th B M st n x w → B ≤ 1900 → n ≤ 38 → w ≤ 98000 → ∃ st', runB F dd [x] st = some (.bl (P x), st') ∧ Ext st st'
theorem LookOk.of {P : Pg} {dd : Def} {F : SemS} {q : D → Bool} {n : Nat} {nm : Str} (hr : ∀ ds st, callN P (n + 1) nm ds st = runB F dd ds st) (h : RunOk F dd q) : LookOk (callN P (n + 1)) nm q := fun B M st n x w a b c d => by
  obtain ⟨st', e1, e2⟩ := h B M st n x w a b c d
  exact ⟨st', by rw [hr]; exact e1, e2⟩
def numB : D → Bool
  | .int i => decide (0 ≤ i)
  | _ => false
noncomputable def numberF (cf : CallF) : SemS :=
    sSeq (sRet (fAndV (fIsi "int" (fVar 0)) (fAndV (fNotV (fIsi "bool" (fVar 0))) (fCmp .GtE (fVar 0) (fC (.int 0))))))
    (sNil)
theorem number_run {cf : CallF} {dd : Def} (hp : dd.ps.length = 1) (hN : dd.N.length = 1) : RunOk (numberF cf) dd numB := by
  intro B M st n x w h hB hn hw
  refine ⟨st, ?_, Ext.refl _⟩
  rw [runB_ev (by rw [hp]; rfl), hN]
  cases x with
  | ref k => simp [numberF, h.isL.int, numB]
  | ktup _ => exact h.noK.elim
  | fn _ => exact h.noF.elim
  | _ => simp [numberF, numB]
theorem num_int {a : D} (h : numB a = true) : ∃ i, a = .int i ∧ 0 ≤ i := by
  cases a with
  | int i => exact ⟨i, rfl, of_decide_eq_true h⟩
  | _ => cases h
def rowB (m : Nat) : D → Bool
  | .tup xs => decide (xs.length = m)
  | _ => false
def RowOk (cf : CallF) : Prop := ∀ (B : Nat) (M : List Nat) (st : Sto) (n : Nat) (x : D) (w m : Nat), Th B M st n x w → cf "is_row" [x, .int (m : Nat)] st = some (.bl (rowB m x), st)
noncomputable def rowF (cf : CallF) : SemS :=
    sSeq (sRet (fAndV (fIsi "tuple" (fVar 0)) (fCmp .Eq (fBlt bLen (fCons (fVar 0) (fNil))) (fVar 1))))
    (sNil)
theorem row_run {cf : CallF} {dd : Def} (hp : dd.ps.length = 2) (hN : dd.N.length = 2) {B : Nat} {M : List Nat} {st : Sto} {n : Nat} {x : D} {w m : Nat} (h : Th B M st n x w) : runB (rowF cf) dd [x, .int (m : Nat)] st = some (.bl (rowB m x), st) := by
  rw [runB_ev (by rw [hp]; rfl), hN]
  cases x with
  | ref k => simp [rowF, h.isL.tup, rowB]
  | tup xs =>
    have e : decide ((xs.length : Int) = (m : Int)) = decide (xs.length = m) := decide_eq_decide.mpr (by omega)
    simp [rowF, rowB, e]
  | ktup _ => exact h.noK.elim
  | fn _ => exact h.noF.elim
  | _ => simp [rowF, rowB]
theorem row_two {x : D} (h : rowB 2 x = true) : ∃ a b, x = .tup [a, b] := by
  cases x with
  | tup xs =>
    match xs, of_decide_eq_true (show decide (xs.length = 2) = true from h) with
    | [a, b], _ => exact ⟨a, b, rfl⟩
  | _ => cases h
section
variable {B : Nat} {M : List Nat} {st : Sto} {n w : Nat}
theorem Th.two {a b : D} (h : Th B M st (n + 1) (.tup [a, b]) w) : Th B M st n a w ∧ Th B M st n b w := by
  obtain ⟨v, h1, l⟩ := h.untup
  exact ⟨(h1.mem List.mem_cons_self).up (by omega), (h1.mem (List.mem_cons_of_mem _ List.mem_cons_self)).up (by omega)⟩
theorem Th.pos {x : D} (h : Th B M st n x w) : ∃ m, n = m + 1 := by
  cases n with
  | zero => obtain ⟨v, e, _⟩ := h; cases e
  | succ m => exact ⟨m, rfl⟩
end
/-! ### fractions -/
def frB : D → Bool
  | .tup [.int a, .int b] => decide (0 ≤ a) && decide (0 < b) && decide (Nat.gcd a.natAbs b.natAbs = 1)
  | _ => false
noncomputable def is_fractionF (cf : CallF) : SemS :=
    sSeq (sIf (gNot (gTru (fCall cf "is_row" (fCons (fVar 0) (fCons (fC (.int 2)) (fNil))))))
      (sSeq (sRet (fC (.bl false)))
        (sNil))
      (sNil))
    (sSeq (sAsg (fVar 0) (gvTup (gvCons (gvName 1) (gvCons (gvName 2) (gvNil)))))
    (sSeq (sRet (fAndV (fCall cf "is_number" (fCons (fVar 1) (fNil))) (fAndV (fCall cf "is_number" (fCons (fVar 2) (fNil))) (fAndV (fCmp .Gt (fVar 2) (fC (.int 0))) (fCmp .Eq (fBlt bGcd (fCons (fVar 1) (fCons (fVar 2) (fNil)))) (fC (.int 1)))))))
    (sNil)))
theorem frB_two {a b : D} : frB (.tup [a, b]) = (numB a && numB b && match a, b with
    | .int i, .int j => decide (0 < j) && decide (Nat.gcd i.natAbs j.natAbs = 1)
    | _, _ => false) := by
  cases a <;> cases b <;> first | rfl | (simp [frB, numB]; done) | skip
  rename_i i j
  simp only [frB, numB]
  by_cases h1 : 0 ≤ i <;> by_cases h2 : 0 < j
  · have h3 : 0 ≤ j := by omega
    simp [h1, h2, h3]
  · simp [h1, h2]
  · simp [h1, h2]
  · simp [h1, h2]
theorem is_fraction_run {cf : CallF} {dd : Def} (hp : dd.ps.length = 1) (hN : dd.N.length = 3) (hn : LookOk cf "is_number" numB) (hrow : RowOk cf) : RunOk (is_fractionF cf) dd frB := by
  intro B M st n x w h hB hn2 hw
  rw [runB_ev (by rw [hp]; rfl), hN]
  have e1 := hrow B M st n x w 2 h
  have e1 : cf "is_row" [x, .int 2] st = some (.bl (rowB 2 x), st) := e1
  by_cases c : rowB 2 x = true
  · obtain ⟨a, b, rfl⟩ := row_two c
    obtain ⟨m, rfl⟩ := h.pos
    obtain ⟨ha, hb⟩ := h.two
    obtain ⟨s1, n1, x1⟩ := hn B M st m a w ha hB (by omega) hw
    obtain ⟨s2, n2, x2⟩ := hn B M s1 m b w (hb.keep x1.toM) hB (by omega) hw
    rw [c] at e1
    by_cases ca : numB a = true
    · rw [ca] at n1
      by_cases cb : numB b = true
      · rw [cb] at n2
        obtain ⟨i, rfl, hi⟩ := num_int ca
        obtain ⟨j, rfl, hj0⟩ := num_int cb
        refine ⟨s2, ?_, x1.trans x2⟩
        by_cases hj : 0 < j
        · obtain ⟨G, hG⟩ : ∃ G, Nat.gcd i.natAbs j.natAbs = G := ⟨_, rfl⟩
          have eg : bGcd [.int i, .int j] s2 = some (.int ((G : Nat) : Int), s2) := by rw [← hG]; rfl
          have ed : decide (((G : Nat) : Int) = 1) = decide (G = 1) := decide_eq_decide.mpr (by omega)
          have ef : frB (.tup [.int i, .int j]) = decide (G = 1) := by simp [frB, hG, hi, hj]
          rw [ef]
          simp [is_fractionF, e1, n1, n2, hj, eg, ed]
        · simp [is_fractionF, e1, n1, n2, frB, hi, hj]
      · have cb : numB b = false := by simpa using cb
        rw [cb] at n2
        refine ⟨s2, ?_, x1.trans x2⟩
        rw [frB_two, ca, cb]
        simp [is_fractionF, e1, n1, n2]
    · have ca : numB a = false := by simpa using ca
      rw [ca] at n1
      refine ⟨s1, ?_, x1⟩
      rw [frB_two, ca]
      simp [is_fractionF, e1, n1]
  · have c : rowB 2 x = false := by simpa using c
    rw [c] at e1
    refine ⟨st, ?_, Ext.refl _⟩
    have e2 : frB x = false := by
      cases x with
      | tup xs =>
        match xs, c with
        | [], _ => rfl
        | [a], _ => simp [frB]
        | [a, b], c => exact absurd c (by simp [rowB])
        | a :: b :: d :: r, _ => simp [frB]
      | _ => rfl
    rw [e2]
    simp [is_fractionF, e1]
end Sim

namespace Sim
open PySem
/-! ### what laws of one feed draw -/
theorem drawOk_of {P : Pg} {dd : Def} {n : Nat} (hr : ∀ n ds st, callN P (n + 1) "_law_draw" ds st = runB drawB dd ds st) (hp : dd.ps.length = 2) (hN : dd.N.length = 6) : DrawOk (callN P (n + 1)) := by
  intro st f g ns t h hfg m hm hM ht
  obtain ⟨r, st', h1, h2, h3, h4, h5⟩ := draw_run (dd := dd) h hfg hm hM ht hp hN
  have e : r = ((r.toNat : Nat) : Int) := by omega
  refine ⟨r.toNat, st', ?_, by omega, h4, h5⟩
  rw [hr, ← e]
  exact h1
noncomputable def feedF (cf : CallF) : SemS :=
    sSeq (sRet (fLst (fCons (fSl (fVar 0) (oNone) (oSome (fC (.int 63)))) (fCons (fC (.int 0)) (fCons (fC (.int 0)) (fCons (fC (.int 0)) (fNil)))))))
    (sNil)
theorem cut_ints (ns : List Int) (lo hi : Option Int) : ∃ ms : List Int, cutD (ns.map .int) lo hi = ms.map .int := by
  unfold cutD
  rw [List.length_map, ← List.map_drop, ← List.map_take]
  exact ⟨_, rfl⟩
theorem feed_run {cf : CallF} {dd : Def} {ns : List Int} {o : O} (hp : dd.ps.length = 1) (ho : o = .lst (ns.map .int) ∨ o = .frz (ns.map .int)) (hN : dd.N.length = 1) : ∃ ms : List Int, runB (feedF cf) dd [.ref 0] [o] = some (.ref 2, [o, .lst (ms.map .int), fd 0 0 0 0] ) ∨ True := ⟨[], .inr trivial⟩
theorem feed_ok {cf : CallF} {dd : Def} {ns : List Int} {o : O} (hp : dd.ps.length = 1) (hN : dd.N.length = 1) (ho : o = .lst (ns.map .int) ∨ o = .frz (ns.map .int)) :
    ∃ ms : List Int, runB (feedF cf) dd [.ref 0] [o] = some (.ref 2, [o, .lst (ms.map .int), fd 1 0 0 0]) := by
  obtain ⟨ms, e⟩ := cut_ints ns none (some 63)
  have s : slD (.ref 0) none (some 63) [o] = some (.ref 1, [o, .lst (ms.map .int)]) := by
    rcases ho with rfl | rfl
    · show Sim.alloc (.lst (cutD _ _ _)) _ = _
      rw [e]; rfl
    · show Sim.alloc (.lst (cutD _ _ _)) _ = _
      rw [e]; rfl
  refine ⟨ms, ?_⟩
  rw [runB_ev (by rw [hp]; rfl), hN]
  simp [feedF, s, Sim.alloc, fd]
theorem feed_at {o : O} {ms : List Int} : FeedAt [o, .lst (ms.map .int), fd 1 0 0 0] 2 1 ms 0 := ⟨0, 0, 0, rfl, rfl, by decide, by decide, by decide⟩
/-! ### lowest terms by going down -/
noncomputable def leastG : SemS :=
      (sSeq (sIf (gAnd (gCmp .Eq (fBin .Mod (fVar 0) (fVar 2)) (fC (.int 0))) (gCmp .Eq (fBin .Mod (fVar 1) (fVar 2)) (fC (.int 0))))
          (sSeq (sRet (fTup (fCons (fBin .FloorDiv (fVar 0) (fVar 2)) (fCons (fBin .FloorDiv (fVar 1) (fVar 2)) (fNil)))))
            (sNil))
          (sNil))
        (sNil))
noncomputable def leastT : SemE := (fIf (gCmp .Gt (fVar 0) (fC (.int 0))) (fBlt bMin (fCons (fVar 0) (fCons (fVar 1) (fNil)))) (fVar 1))
noncomputable def leastF : SemS :=
    sSeq (sFor (iRng (fCons leastT (fCons (fC (.int 1)) (fCons (fNeg (fC (.int 1))) (fNil))))) (gvName 2) leastG)
    (sSeq (sRet (fTup (fCons (fVar 0) (fCons (fVar 1) (fNil)))))
    (sNil))
theorem least_loop {a b : Nat} {st : Sto} (hb : 0 < b) : ∀ (j : Nat) (o : Option D), j + 1 < 2 ^ 60 → a.gcd b ≤ j + 1 →
    forGo (gvName 2) leastG none (rngD ((j + 1 : Nat) : Int) j (-1)) [some (.int (a : Nat)), some (.int (b : Nat)), o] st = some (.rt (q2 (cut a b)), st) ∨
    (cut a b = (a, b) ∧ ∃ o', forGo (gvName 2) leastG none (rngD ((j + 1 : Nat) : Int) j (-1)) [some (.int (a : Nat)), some (.int (b : Nat)), o] st = some (.nx [some (.int (a : Nat)), some (.int (b : Nat)), o'], st))
  | 0, o, _, h => by
    have g0 := gcd_pos (a := a) hb
    exact .inr ⟨cut_self (by omega), o, forGo_nil⟩
  | j + 1, o, hj, h => by
    have m1 := mod_nat (st := st) (a := a) (b := j + 1 + 1) (by omega)
    have m2 := mod_nat (st := st) (a := b) (b := j + 1 + 1) (by omega)
    have v1 := div_nat (st := st) (a := a) (b := j + 1 + 1) (by omega) (by omega)
    have v2 := div_nat (st := st) (a := b) (b := j + 1 + 1) (by omega) (by omega)
    rw [rngD_succ]
    have ex : ((j + 1 + 1 : Nat) : Int) + -1 = ((j + 1 : Nat) : Int) := by omega
    rw [ex]
    by_cases hd : (j + 1 + 1) ∣ a ∧ (j + 1 + 1) ∣ b
    · have g : a.gcd b = j + 1 + 1 := Nat.le_antisymm h (Nat.le_of_dvd (gcd_pos hb) (Nat.dvd_gcd hd.1 hd.2))
      refine .inl (forGo_rt rfl ?_)
      unfold cut q2
      rw [g]
      have z1 : a % (j + 1 + 1) = 0 := Nat.mod_eq_zero_of_dvd hd.1
      have z2 : b % (j + 1 + 1) = 0 := Nat.mod_eq_zero_of_dvd hd.2
      rw [z1] at m1
      rw [z2] at m2
      generalize j + 1 + 1 = J at *
      generalize a / J = A at *
      generalize b / J = Bq at *
      simp [leastG, m1, m2, v1, v2]
    · have g : a.gcd b ≠ j + 1 + 1 := fun e => hd ⟨e ▸ Nat.gcd_dvd_left a b, e ▸ Nat.gcd_dvd_right a b⟩
      have ih := least_loop (a := a) hb j (some (.int ((j + 1 + 1 : Nat) : Int))) (by omega) (by omega) (st := st)
      have step : leastG [some (.int (a : Nat)), some (.int (b : Nat)), some (.int ((j + 1 + 1 : Nat) : Int))] st = some (.nx [some (.int (a : Nat)), some (.int (b : Nat)), some (.int ((j + 1 + 1 : Nat) : Int))], st) := by
        generalize j + 1 + 1 = J at *
        by_cases h1 : J ∣ a
        · have h2 : ¬ J ∣ b := fun h2 => hd ⟨h1, h2⟩
          have z1 : a % J = 0 := Nat.mod_eq_zero_of_dvd h1
          have z2 : b % J ≠ 0 := fun e => h2 (Nat.dvd_of_mod_eq_zero e)
          rw [z1] at m1
          generalize b % J = r at *
          have z3 : ¬ ((r : Int) = 0) := by omega
          simp [leastG, m1, m2, z2, z3]
        · have z2 : a % J ≠ 0 := fun e => h1 (Nat.dvd_of_mod_eq_zero e)
          generalize a % J = r at *
          have z3 : ¬ ((r : Int) = 0) := by omega
          simp [leastG, m1, m2, z2, z3]
      have q : forGo (gvName 2) leastG none (.int ((j + 1 + 1 : Nat) : Int) :: rngD ((j + 1 : Nat) : Int) j (-1)) [some (.int (a : Nat)), some (.int (b : Nat)), o] st = _ := forGo_nx (η2 := [some (.int (a : Nat)), some (.int (b : Nat)), some (.int ((j + 1 + 1 : Nat) : Int))]) rfl step
      rw [q]
      exact ih
theorem least_top {a b : Nat} {st : Sto} (hb : 0 < b) (h1 : a < 2 ^ 58) (h2 : b < 2 ^ 58) : ∃ j : Nat, j + 1 < 2 ^ 60 ∧ a.gcd b ≤ j + 1 ∧ leastT [some (.int (a : Nat)), some (.int (b : Nat)), none] st = some (.int ((j + 1 : Nat) : Int), st) := by
  have g1 : a.gcd b ≤ b := Nat.le_of_dvd hb (Nat.gcd_dvd_right a b)
  by_cases ha : 0 < a
  · have g2 : a.gcd b ≤ a := Nat.le_of_dvd ha (Nat.gcd_dvd_left a b)
    have ha' : (0 : Int) < (a : Nat) := by omega
    have e : ∀ x y : Int, bMin [.int x, .int y] st = some (.int (if y < x then y else x), st) := fun _ _ => rfl
    by_cases hab : b < a
    · refine ⟨b - 1, by omega, by omega, ?_⟩
      have c : ((b - 1 + 1 : Nat) : Int) = (b : Nat) := by omega
      have d : (b : Int) < (a : Nat) := by omega
      rw [c]
      simp [leastT, ha, ha', e, d, hab]
    · refine ⟨a - 1, by omega, by omega, ?_⟩
      have c : ((a - 1 + 1 : Nat) : Int) = (a : Nat) := by omega
      have d : ¬ ((b : Int) < (a : Nat)) := by omega
      rw [c]
      simp [leastT, ha, ha', e, d, hab]
  · refine ⟨b - 1, by omega, by omega, ?_⟩
    have c : ((b - 1 + 1 : Nat) : Int) = (b : Nat) := by omega
    have ha' : ¬ ((0 : Int) < (a : Nat)) := by omega
    rw [c]
    simp [leastT, ha, ha']
theorem least_src {T : SemE} {η : LocD} {st : Sto} {J : Int} {xs : List D} (ht : T η st = some (.int J, st)) (rg : rngOf [.int J, .int 1, .int (-1)] = some xs) : iRng (fCons T (fCons (fC (.int 1)) (fCons (fNeg (fC (.int 1))) (fNil)))) η st = some (⟨xs, none⟩, st) := by
  have e : (fCons T (fCons (fC (.int 1)) (fCons (fNeg (fC (.int 1))) (fNil)))) η st = some ([.int J, .int 1, .int (-1)], st) := by
    rw [fCons_ev, ht]; rfl
  rw [iRng_ev, e]
  show (rngOf _).map _ = _
  rw [rg]; rfl
theorem least_run {dd : Def} {a b : Nat} {st : Sto} (hp : dd.ps.length = 2) (hN : dd.N.length = 3) (hb : 0 < b) (h1 : a < 2 ^ 58) (h2 : b < 2 ^ 58) : runB leastF dd [.int (a : Nat), .int (b : Nat)] st = some (q2 (cut a b), st) := by
  rw [runB_ev (by rw [hp]; rfl), hN]
  obtain ⟨j, hj, hg, ht⟩ := least_top (st := st) hb h1 h2
  unfold leastF
  generalize leastT = T at ht ⊢
  have rg : rngOf [.int ((j + 1 : Nat) : Int), .int 1, .int (-1)] = some (rngD ((j + 1 : Nat) : Int) j (-1)) := by
    have e : (((j + 1 : Nat) : Int) - 1).toNat = j := by omega
    rw [rng3 (inR_of (by omega) (by omega)) (inR_of (by omega) (by omega)), e]
  have L := least_loop (st := st) hb j none hj hg
  change (Option.bind ((sSeq (sFor (iRng (fCons T (fCons (fC (.int 1)) (fCons (fNeg (fC (.int 1))) (fNil))))) (gvName 2) leastG)
    (sSeq (sRet (fTup (fCons (fVar 0) (fCons (fVar 1) (fNil)))))
    (sNil))) [some (.int (a : Nat)), some (.int (b : Nat)), none] st) _) = _
  generalize ((j + 1 : Nat) : Int) = J at *
  have hi := least_src ht rg
  rcases L with L | ⟨hc, o', L⟩
  · rw [sSeq_ev, sFor_ev, hi]
    show (Option.bind (Option.bind (forGo (gvName 2) leastG none _ _ _) _) _) = _
    rw [L]; rfl
  · rw [hc, sSeq_ev, sFor_ev, hi]
    show (Option.bind (Option.bind (forGo (gvName 2) leastG none _ _ _) _) _) = _
    rw [L]
    unfold q2
    simp
def LeastOk (cf : CallF) : Prop := ∀ (a b : Nat) (st : Sto), 0 < b → a < 2 ^ 58 → b < 2 ^ 58 → cf "_law_least" [.int (a : Nat), .int (b : Nat)] st = some (q2 (cut a b), st)
/-! ### a drawn fraction -/
noncomputable def fractionF (cf : CallF) : SemS :=
    sSeq (sAsg (fCall cf "_law_draw" (fCons (fVar 0) (fCons (fC (.int 4)) (fNil)))) (gvName 1))
    (sSeq (sPar2 2 3 (fCons (fCall cf "_law_draw" (fCons (fVar 0) (fCons (fIx (fTup (fCons (fC (.int 3)) (fCons (fC (.int 13)) (fCons (fC (.int 101)) (fNil))))) (fBin .Mod (fVar 1) (fC (.int 3)))) (fNil)))) (fCons (fBin .Add (fC (.int 1)) (fCall cf "_law_draw" (fCons (fVar 0) (fCons (fIx (fTup (fCons (fC (.int 2)) (fCons (fC (.int 12)) (fCons (fC (.int 100)) (fNil))))) (fBin .Mod (fVar 1) (fC (.int 3)))) (fNil))))) (fNil))))
    (sSeq (sRet (fCall cf "_law_least" (fCons (fVar 2) (fCons (fVar 3) (fNil)))))
    (sNil)))
theorem pick3 {a b c m : Int} {w : Nat} (h : w < 3) (ha : 0 < a ∧ a ≤ m) (hb : 0 < b ∧ b ≤ m) (hc : 0 < c ∧ c ≤ m) : ∃ x : Int, (∀ st : Sto, ix (.tup [.int a, .int b, .int c]) (.int (w : Nat)) st = some (.int x)) ∧ 0 < x ∧ x ≤ m := by
  match w, h with
  | 0, _ => exact ⟨a, fun _ => ix_tup0, ha⟩
  | 1, _ => exact ⟨b, fun _ => ix_tup1, hb⟩
  | 2, _ => exact ⟨c, fun _ => ix_tup2, hc⟩
/-- at most 100, over at most 100, in lowest terms -/
structure Sm (p : Nat × Nat) : Prop where
  a : p.1 ≤ 100
  b : p.2 ≤ 100
  z : 0 < p.2
  c : p.1.gcd p.2 = 1
def FractionOk (cf : CallF) : Prop := ∀ (st : Sto) (f g : Nat) (ns : List Int) (t : Nat), FeedAt st f g ns t → f ≠ g → t + 3 < 2 ^ 60 →
  ∃ (p : Nat × Nat) (st' : Sto), cf "_law_fraction" [.ref f] st = some (q2 p, st') ∧ Sm p ∧ FeedAt st' f g ns (t + 3) ∧ Keep f st st'
theorem fraction_run {cf : CallF} {dd : Def} (hp : dd.ps.length = 1) (hN : dd.N.length = 4) (hd : DrawOk cf) (hl : LeastOk cf) {st : Sto} {f g : Nat} {ns : List Int} {t : Nat} (h : FeedAt st f g ns t) (hfg : f ≠ g) (ht : t + 3 < 2 ^ 60) :
    ∃ (p : Nat × Nat) (st' : Sto), runB (fractionF cf) dd [.ref f] st = some (q2 p, st') ∧ Sm p ∧ FeedAt st' f g ns (t + 3) ∧ Keep f st st' := by
  obtain ⟨w, s1, d1, l1, F1, K1⟩ := hd h hfg (m := 4) (by decide) (by decide) (by omega)
  have hw : w % 3 < 3 := Nat.mod_lt _ (by decide)
  have mw : ∀ st : Sto, binop .Mod (.int (w : Nat)) (.int 3) st = some (.int ((w % 3 : Nat) : Int), st) := fun st => mod_nat (b := 3) (by decide)
  obtain ⟨x, ex, x0, x1⟩ := pick3 (a := 3) (b := 13) (c := 101) (m := 101) hw (by decide) (by decide) (by decide)
  obtain ⟨y, ey, y0, y1⟩ := pick3 (a := 2) (b := 12) (c := 100) (m := 100) hw (by decide) (by decide) (by decide)
  generalize w % 3 = v at *
  obtain ⟨a, s2, d2, l2, F2, K2⟩ := hd F1 hfg (m := x) x0 (by omega) (by omega)
  obtain ⟨b, s3, d3, l3, F3, K3⟩ := hd F2 hfg (m := y) y0 (by omega) (by omega)
  have e := hl a (1 + b) s3 (by omega) (by omega) (by omega)
  rw [Int.natCast_add, show ((1 : Nat) : Int) = 1 from rfl] at e
  refine ⟨cut a (1 + b), s3, ?_, ⟨Nat.le_trans cut_le1 (by omega), Nat.le_trans cut_le2 (by omega), cut_pos (by omega), cut_co (by omega)⟩, F3, (K1.trans K2).trans K3⟩
  rw [runB_ev (by rw [hp]; rfl), hN]
  have s1' : (sAsg (fCall cf "_law_draw" (fCons (fVar 0) (fCons (fC (.int 4)) (fNil)))) (gvName 1)) [some (.ref f), none, none, none] st = some (.nx [some (.ref f), some (.int (w : Nat)), none, none], s1) := by
    simp [d1]
  have i1 : (fIx (fTup (fCons (fC (.int 3)) (fCons (fC (.int 13)) (fCons (fC (.int 101)) (fNil))))) (fBin .Mod (fVar 1) (fC (.int 3)))) [some (.ref f), some (.int (w : Nat)), none, none] s1 = some (.int x, s1) := by
    simp [mw, ex]
  have i2 : (fIx (fTup (fCons (fC (.int 2)) (fCons (fC (.int 12)) (fCons (fC (.int 100)) (fNil))))) (fBin .Mod (fVar 1) (fC (.int 3)))) [some (.ref f), some (.int (w : Nat)), none, none] s2 = some (.int y, s2) := by
    simp [mw, ey]
  unfold fractionF
  generalize (fIx (fTup (fCons (fC (.int 3)) (fCons (fC (.int 13)) (fCons (fC (.int 101)) (fNil))))) (fBin .Mod (fVar 1) (fC (.int 3)))) = I1 at *
  generalize (fIx (fTup (fCons (fC (.int 2)) (fCons (fC (.int 12)) (fCons (fC (.int 100)) (fNil))))) (fBin .Mod (fVar 1) (fC (.int 3)))) = I2 at *
  show (Option.bind (sSeq _ _ [some (.ref f), none, none, none] st) _) = _
  rw [sSeq_ev, s1']
  simp [i1, i2, d2, d3, e]
end Sim

namespace Sim
open PySem
/-! ### odd things -/
noncomputable def oddF (cf : CallF) : SemS :=
    sSeq (sAsg (fTup (fCons (fC .non) (fCons (fC (.bl true)) (fCons (fC (.bl false)) (fCons (fC (.str "")) (fCons (fC (.str "a")) (fCons (fC (.str "A")) (fCons (fC (.int 0)) (fCons (fC (.int 1)) (fCons (fC (.int 2)) (fCons (fC (.int 4)) (fCons (fNeg (fC (.int 1))) (fCons (fTup (fNil)) (fCons (fLst (fNil)) (fCons (fTup (fCons (fLst (fCons (fC (.int 1)) (fNil))) (fCons (fC (.str "a")) (fNil)))) (fCons (fTup (fCons (fC (.str "a")) (fCons (fC (.int 1)) (fNil)))) (fCons (fTup (fCons (fC (.str "a")) (fNil))) (fNil)))))))))))))))))) (gvName 0))
    (sSeq (sRet (fBin .Add (fVar 0) (fTup (fCons (fBin .Mult (fBin .Mult (fBin .Mult (fBin .Pow (fC (.int 10)) (fC (.int 64))) (fBin .Pow (fC (.int 10)) (fC (.int 64)))) (fBin .Pow (fC (.int 10)) (fC (.int 64)))) (fBin .Pow (fC (.int 10)) (fC (.int 7)))) (fCons (fC (.str "abcdefgh")) (fCons (fC (.str "abcdefghi")) (fCons (fC (.str "a b")) (fCons (fTup (fCons (fC (.int 0)) (fNil))) (fCons (fTup (fCons (fC (.int 1)) (fCons (fC (.int 1)) (fNil)))) (fNil))))))))))
    (sNil))
def bigI : Int := 10000000000000000000000000000000000000000000000000000000000000000000000000000000000000000000000000000000000000000000000000000000000000000000000000000000000000000000000000000000000000000000000000000000
theorem bigI_bits : bigI.natAbs < 2 ^ 690 := by decide +kernel
theorem big_ev {η : LocD} {st : Sto} : (fBin .Mult (fBin .Mult (fBin .Mult (fBin .Pow (fC (.int 10)) (fC (.int 64))) (fBin .Pow (fC (.int 10)) (fC (.int 64)))) (fBin .Pow (fC (.int 10)) (fC (.int 64)))) (fBin .Pow (fC (.int 10)) (fC (.int 7)))) η st = some (.int bigI, st) := by
  kernel_rfl
def oddL (n : Nat) : List D := [.non, .bl true, .bl false, .str "", .str "a", .str "A", .int 0, .int 1, .int 2, .int 4, .int (-1), .tup [], .ref n, .tup [.ref (n + 1), .str "a"], .tup [.str "a", .int 1], .tup [.str "a"], .int bigI, .str "abcdefgh", .str "abcdefghi", .str "a b", .tup [.int 0], .tup [.int 1, .int 1]]
theorem odd_run {cf : CallF} {dd : Def} {st : Sto} (hp : dd.ps.length = 0) (hN : dd.N.length = 1) : runB (oddF cf) dd [] st = some (.tup (oddL st.length), st ++ [.lst [], .lst [.int 1]]) := by
  rw [runB_ev (by rw [hp]; rfl), hN]
  have e := fun η st => big_ev (η := η) (st := st)
  unfold oddF
  generalize (fBin .Mult (fBin .Mult (fBin .Mult (fBin .Pow (fC (.int 10)) (fC (.int 64))) (fBin .Pow (fC (.int 10)) (fC (.int 64)))) (fBin .Pow (fC (.int 10)) (fC (.int 64)))) (fBin .Pow (fC (.int 10)) (fC (.int 7)))) = E at *
  simp [e, alloc, binop, opAdd, oddL]
theorem KeepM.app2 {M : List Nat} {st os : Sto} : KeepM M st (st ++ os) := fun n o e h => by
  rw [List.getElem?_append_left (List.getElem?_eq_some_iff.mp h).1]; exact h
theorem Keep.app2 {f : Nat} {st os : Sto} : Keep f st (st ++ os) := fun n o e h => by
  rw [List.getElem?_append_left (List.getElem?_eq_some_iff.mp h).1]; exact h
theorem FeedAt.app2 {st os : Sto} {f g : Nat} {ns : List Int} {t : Nat} (h : FeedAt st f g ns t) : FeedAt (st ++ os) f g ns t := by
  obtain ⟨i, c, k, h1, h2, h3⟩ := h.ex
  exact ⟨i, c, k, by rw [List.getElem?_append_left (List.getElem?_eq_some_iff.mp h1).1]; exact h1, by rw [List.getElem?_append_left (List.getElem?_eq_some_iff.mp h2).1]; exact h2, h3⟩
theorem thStr {B : Nat} {M : List Nat} {st : Sto} {s : Str} (h : asc s = true) (l : s.length ≤ 60) : Th B M st 4 (.str s) 700 := (Th.str (n := 3) h).up (by omega)
theorem odd_ok {B : Nat} {M : List Nat} {st : Sto} (hM : InS M st) (hB : 700 ≤ B) : OddT B M (st ++ [.lst [], .lst [.int 1]]) (oddL st.length) := by
  have n0 : st.length ∉ M := hM.new
  have n1 : st.length + 1 ∉ M := fun q => by have := hM _ q; omega
  have g0 : (st ++ [O.lst [], O.lst [.int 1]])[st.length]? = some (.lst []) := by
    rw [List.getElem?_append_right (Nat.le_refl _)]; simp
  have g1 : (st ++ [O.lst [], O.lst [.int 1]])[st.length + 1]? = some (.lst [.int 1]) := by
    rw [List.getElem?_append_right (by omega)]
    have : st.length + 1 - st.length = 1 := by omega
    rw [this]; rfl
  have I : ∀ (n : Nat) (i : Int), i.natAbs < 2 ^ 5 → Th B M (st ++ [O.lst [], O.lst [.int 1]]) (n + 1) (.int i) 6 := fun n i h => Th.int h (by omega) (by decide)
  have S : ∀ (n : Nat), Th B M (st ++ [O.lst [], O.lst [.int 1]]) (n + 1) (.str "a") 12 := fun n => Th.str (by decide +kernel)
  refine ⟨⟨by simp [oddL], by simp [oddL]⟩, fun o ho => ?_⟩
  simp only [oddL, List.mem_cons, List.not_mem_nil, or_false] at ho
  rcases ho with rfl | rfl | rfl | rfl | rfl | rfl | rfl | rfl | rfl | rfl | rfl | rfl | rfl | rfl | rfl | rfl | rfl | rfl | rfl | rfl | rfl | rfl
  · exact Th.non.up (by decide)
  · exact Th.bl.up (by decide)
  · exact Th.bl.up (by decide)
  · exact thStr (by decide +kernel) (by decide)
  · exact thStr (by decide +kernel) (by decide)
  · exact thStr (by decide +kernel) (by decide)
  · exact (I 3 _ (by decide)).up (by decide)
  · exact (I 3 _ (by decide)).up (by decide)
  · exact (I 3 _ (by decide)).up (by decide)
  · exact (I 3 _ (by decide)).up (by decide)
  · exact (I 3 _ (by decide)).up (by decide)
  · exact (Ths.tup (n := 3) Ths.nil).up (by decide)
  · exact (Ths.ref (n := 3) (.inl g0) n0 Ths.nil).up (by decide)
  · exact (Ths.tup (n := 3) (Ths.cons (Ths.ref (n := 2) (.inl g1) n1 (Ths.cons (I 1 _ (by decide)) Ths.nil)) (Ths.cons (S 2) Ths.nil))).up (by decide)
  · exact (Ths.tup (n := 3) (Ths.cons (S 2) (Ths.cons (I 2 _ (by decide)) Ths.nil))).up (by decide)
  · exact (Ths.tup (n := 3) (Ths.cons (S 2) Ths.nil)).up (by decide)
  · exact (Th.int (n := 3) bigI_bits (by omega) (by decide)).up (by decide)
  · exact thStr (by decide +kernel) (by decide)
  · exact thStr (by decide +kernel) (by decide)
  · exact thStr (by decide +kernel) (by decide)
  · exact (Ths.tup (n := 3) (Ths.cons (I 2 _ (by decide)) Ths.nil)).up (by decide)
  · exact (Ths.tup (n := 3) (Ths.cons (I 2 _ (by decide)) (Ths.cons (I 2 _ (by decide)) Ths.nil))).up (by decide)
/-! ### one of a list, drawn -/
theorem pickL {cf : CallF} (hd : DrawOk cf) {A : SemA} {η : LocD} {st s : Sto} {f g : Nat} {ns : List Int} {t : Nat} {xs : List D} {m : Int} {Q : D → Prop} (hA : A η st = some (xs, s)) (F : FeedAt s f g ns t) (fg : f ≠ g) (K : Keep f st s) (h0 : η[0]? = some (some (.ref f)))
    (hm : m = (xs.length : Nat)) (hl : 0 < xs.length ∧ xs.length ≤ 1000) (hQ : ∀ x ∈ xs, Q x) (ht : t + 1 < 2 ^ 60) :
    ∃ (y : D) (s' : Sto), (fIx (fLst A) (fCall cf "_law_draw" (fCons (fVar 0) (fCons (fC (.int m)) (fNil))))) η st = some (y, s') ∧ Q y ∧ FeedAt s' f g ns (t + 1) ∧ Keep f st s' := by
  obtain ⟨r, s1, d1, l1, F1, K1⟩ := hd (F.app (o := .lst xs)) fg (m := m) (by omega) (by omega) ht
  have hf : s.length ≠ f := fun q => by have := Feed.lt F; omega
  have g1 := K1 _ _ hf (get_new (st := s) (o := .lst xs))
  obtain ⟨y, hy⟩ : ∃ y, xs[r]? = some y := ⟨_, List.getElem?_eq_getElem (by omega)⟩
  have e1 : xs.length ≤ 100000 := by omega
  refine ⟨y, s1, ?_, hQ y (List.mem_of_getElem? hy), F1, (K.trans Keep.app).trans K1⟩
  simp [hA, alloc, e1, h0, d1, ix_ref g1 hy]
noncomputable def allowanceF (cf : CallF) : SemS :=
    sSeq (sAsg (fIx (fLst (fCons (fTup (fCons (fC (.int 0)) (fCons (fC (.int 1)) (fNil)))) (fCons (fTup (fCons (fC (.int 1)) (fCons (fC (.int 2)) (fNil)))) (fCons (fTup (fCons (fC (.int 1)) (fCons (fC (.int 3)) (fNil)))) (fCons (fCall cf "_law_least" (fCons (fCall cf "_law_draw" (fCons (fVar 0) (fCons (fC (.int 12)) (fNil)))) (fCons (fC (.int 12)) (fNil)))) (fCons (fCall cf "_law_fraction" (fCons (fVar 0) (fNil))) (fNil))))))) (fCall cf "_law_draw" (fCons (fVar 0) (fCons (fC (.int 5)) (fNil))))) (gvName 1))
    (sSeq (sAsg (fIx (fLst (fCons (fTup (fCons (fC (.int 1)) (fCons (fC (.int 1)) (fNil)))) (fCons (fTup (fCons (fC (.int 2)) (fCons (fC (.int 1)) (fNil)))) (fCons (fCall cf "_law_least" (fCons (fCall cf "_law_draw" (fCons (fVar 0) (fCons (fC (.int 30)) (fNil)))) (fCons (fC (.int 7)) (fNil)))) (fCons (fCall cf "_law_fraction" (fCons (fVar 0) (fNil))) (fNil)))))) (fCall cf "_law_draw" (fCons (fVar 0) (fCons (fC (.int 4)) (fNil))))) (gvName 2))
    (sSeq (sRet (fTup (fCons (fVar 1) (fCons (fVar 2) (fNil)))))
    (sNil)))
def IsSm (x : D) : Prop := ∃ p, x = q2 p ∧ Sm p
theorem sm_cut {a b : Nat} (h1 : a ≤ 100) (h2 : b ≤ 100) (hb : 0 < b) : Sm (cut a b) := ⟨Nat.le_trans cut_le1 h1, Nat.le_trans cut_le2 h2, cut_pos hb, cut_co hb⟩
def AllowanceOk (cf : CallF) : Prop := ∀ (st : Sto) (f g : Nat) (ns : List Int) (t : Nat), FeedAt st f g ns t → f ≠ g → t + 10 < 2 ^ 60 →
  ∃ (r m : Nat × Nat) (st' : Sto), cf "_law_allowance" [.ref f] st = some (.tup [q2 r, q2 m], st') ∧ Sm r ∧ Sm m ∧ FeedAt st' f g ns (t + 10) ∧ Keep f st st'
theorem allowance_run {cf : CallF} {dd : Def} (hp : dd.ps.length = 1) (hN : dd.N.length = 3) (hd : DrawOk cf) (hl : LeastOk cf) (hf : FractionOk cf) {st : Sto} {f g : Nat} {ns : List Int} {t : Nat} (h : FeedAt st f g ns t) (hfg : f ≠ g) (ht : t + 10 < 2 ^ 60) :
    ∃ (r m : Nat × Nat) (st' : Sto), runB (allowanceF cf) dd [.ref f] st = some (.tup [q2 r, q2 m], st') ∧ Sm r ∧ Sm m ∧ FeedAt st' f g ns (t + 10) ∧ Keep f st st' := by
  obtain ⟨a, s1, d1, l1, F1, K1⟩ := hd h hfg (m := 12) (by decide) (by decide) (by omega)
  have e1 := hl a 12 s1 (by decide) (by omega) (by decide)
  obtain ⟨p, s2, d2, m2, F2, K2⟩ := hf s1 f g ns _ F1 hfg (by omega)
  have A1 : (fCons (fTup (fCons (fC (.int 0)) (fCons (fC (.int 1)) (fNil)))) (fCons (fTup (fCons (fC (.int 1)) (fCons (fC (.int 2)) (fNil)))) (fCons (fTup (fCons (fC (.int 1)) (fCons (fC (.int 3)) (fNil)))) (fCons (fCall cf "_law_least" (fCons (fCall cf "_law_draw" (fCons (fVar 0) (fCons (fC (.int 12)) (fNil)))) (fCons (fC (.int 12)) (fNil)))) (fCons (fCall cf "_law_fraction" (fCons (fVar 0) (fNil))) (fNil)))))) [some (.ref f), none, none] st = some ([q2 (0, 1), q2 (1, 2), q2 (1, 3), q2 (cut a 12), q2 p], s2) := by
    simp at e1
    simp [d1, e1, d2]
    simp [q2]
  have c1 : ∀ x ∈ [q2 (0, 1), q2 (1, 2), q2 (1, 3), q2 (cut a 12), q2 p], IsSm x := by
    intro x hx
    simp only [List.mem_cons, List.not_mem_nil, or_false] at hx
    rcases hx with rfl | rfl | rfl | rfl | rfl
    · exact ⟨_, rfl, by decide, by decide, by decide, by decide⟩
    · exact ⟨_, rfl, by decide, by decide, by decide, by decide⟩
    · exact ⟨_, rfl, by decide, by decide, by decide, by decide⟩
    · exact ⟨_, rfl, sm_cut (by omega) (by omega) (by decide)⟩
    · exact ⟨_, rfl, m2⟩
  obtain ⟨y, s3, y1, ⟨r, rfl, hr⟩, F3, K3⟩ := pickL hd (m := 5) A1 F2 hfg (K1.trans K2) rfl rfl ⟨by simp, by simp⟩ c1 (by omega)
  obtain ⟨a', s4, d4, l4, F4, K4⟩ := hd F3 hfg (m := 30) (by decide) (by decide) (by omega)
  have e4 := hl a' 7 s4 (by decide) (by omega) (by decide)
  obtain ⟨p', s5, d5, m5, F5, K5⟩ := hf s4 f g ns _ F4 hfg (by omega)
  have A2 : (fCons (fTup (fCons (fC (.int 1)) (fCons (fC (.int 1)) (fNil)))) (fCons (fTup (fCons (fC (.int 2)) (fCons (fC (.int 1)) (fNil)))) (fCons (fCall cf "_law_least" (fCons (fCall cf "_law_draw" (fCons (fVar 0) (fCons (fC (.int 30)) (fNil)))) (fCons (fC (.int 7)) (fNil)))) (fCons (fCall cf "_law_fraction" (fCons (fVar 0) (fNil))) (fNil))))) [some (.ref f), some (q2 r), none] s3 = some ([q2 (1, 1), q2 (2, 1), q2 (cut a' 7), q2 p'], s5) := by
    simp at e4
    simp [d4, e4, d5]
    simp [q2]
  have c2 : ∀ x ∈ [q2 (1, 1), q2 (2, 1), q2 (cut a' 7), q2 p'], IsSm x := by
    intro x hx
    simp only [List.mem_cons, List.not_mem_nil, or_false] at hx
    rcases hx with rfl | rfl | rfl | rfl
    · exact ⟨_, rfl, by decide, by decide, by decide, by decide⟩
    · exact ⟨_, rfl, by decide, by decide, by decide, by decide⟩
    · exact ⟨_, rfl, sm_cut (by omega) (by omega) (by decide)⟩
    · exact ⟨_, rfl, m5⟩
  obtain ⟨y', s6, y2, ⟨m, rfl, hm⟩, F6, K6⟩ := pickL hd (m := 4) A2 F5 hfg (K4.trans K5) rfl rfl ⟨by simp, by simp⟩ c2 (by omega)
  refine ⟨r, m, s6, ?_, hr, hm, F6.mono (by omega), K3.trans K6⟩
  rw [runB_ev (by rw [hp]; rfl), hN]
  unfold allowanceF
  generalize (fIx (fLst (fCons (fTup (fCons (fC (.int 0)) (fCons (fC (.int 1)) (fNil)))) _)) _) = E1 at *
  generalize (fIx (fLst (fCons (fTup (fCons (fC (.int 1)) (fCons (fC (.int 1)) (fNil)))) _)) _) = E2 at *
  simp [y1, y2]
end Sim

namespace Sim
open PySem
/-! ### drawn takings -/
noncomputable def takingsB (cf : CallF) : SemS :=
      (sSeq (sExpr (fApp (fVar 3) (fIf (gCmp .Gt (fCall cf "_law_draw" (fCons (fVar 0) (fCons (fC (.int 4)) (fNil)))) (fVar 2)) (fC (.str "first")) (fC (.str "more")))))
        (sNil))
noncomputable def takingsF (cf : CallF) : SemS :=
    sSeq (sAsg (fCall cf "_law_draw" (fCons (fVar 0) (fCons (fC (.int 3)) (fNil)))) (gvName 2))
    (sSeq (sAsg (fLst (fNil)) (gvName 3))
    (sSeq (sFor (iRng (fCons (fCall cf "_law_draw" (fCons (fVar 0) (fCons (fBin .Add (fVar 1) (fC (.int 1))) (fNil)))) (fNil))) (gvName 4) (takingsB cf))
    (sSeq (sRet (fBlt bTuple (fCons (fVar 3) (fNil))))
    (sNil))))
def wordD (b : Bool) : D := .str (if b = true then "first" else "more")
theorem app_ev {o e : SemE} {η : LocD} {st s1 s2 : Sto} {n : Nat} {xs ys : List D} {d : D} (ho : o η st = some (.ref n, s1)) (hy : s1[n]? = some (.lst ys)) (he : e η s1 = some (d, s2)) (hx : s2[n]? = some (.lst xs)) (hl : xs.length < 100000) : fApp o e η st = some (.non, s2.set n (.lst (xs ++ [d]))) := by
  have hl2 : xs.length < most := hl
  unfold fApp
  rw [ho]
  simp only [Option.bind_some, hy, he, hx]
  exact if_pos hl2
theorem rng_nat {n : Nat} (hn : n < 2 ^ 60) : rngOf [.int ((n : Nat) : Int)] = some (rngD 0 n 1) := by
  rw [rng1 (inR_of (by omega) (by omega)), Int.toNat_natCast]
theorem rng_src {A : SemE} {η : LocD} {st s : Sto} {N : Int} {xs : List D} (hA : A η st = some (.int N, s)) (rg : rngOf [.int N] = some xs) : iRng (fCons A fNil) η st = some (⟨xs, none⟩, s) := by
  have e : (fCons A fNil) η st = some ([.int N], s) := by
    rw [fCons_ev, hA]; rfl
  rw [iRng_ev, e]
  show (rngOf _).map _ = _
  rw [rg]; rfl
def TakingsOk (cf : CallF) : Prop := ∀ (st : Sto) (f g : Nat) (ns : List Int) (t m : Nat), FeedAt st f g ns t → f ≠ g → m < 2 ^ 10 → t + m + 3 < 2 ^ 60 →
  ∃ (ws : List Bool) (st' : Sto), cf "_law_takings" [.ref f, .int (m : Nat)] st = some (.tup (ws.map wordD), st') ∧ ws.length ≤ m ∧ FeedAt st' f g ns (t + m + 3) ∧ Keep f st st'
theorem takings_run {cf : CallF} {dd : Def} (hp : dd.ps.length = 2) (hN : dd.N.length = 5) (hd : DrawOk cf) {st : Sto} {f g : Nat} {ns : List Int} {t m : Nat} (h : FeedAt st f g ns t) (hfg : f ≠ g) (hm : m < 2 ^ 10) (ht : t + m + 3 < 2 ^ 60) :
    ∃ (ws : List Bool) (st' : Sto), runB (takingsF cf) dd [.ref f, .int (m : Nat)] st = some (.tup (ws.map wordD), st') ∧ ws.length ≤ m ∧ FeedAt st' f g ns (t + m + 3) ∧ Keep f st st' := by
  obtain ⟨w, s1, d1, l1, F1, K1⟩ := hd h hfg (m := 3) (by decide) (by decide) (by omega)
  have hf1 : s1.length ≠ f := fun q => by have := Feed.lt F1; omega
  obtain ⟨n, s2, d2, l2, F2, K2⟩ := hd (F1.app (o := .lst [])) hfg (m := (m : Nat) + 1) (by omega) (by omega) (by omega)
  have g2 := K2 _ _ hf1 (get_new (st := s1) (o := .lst []))
  have K12 : Keep f st s2 := (K1.trans Keep.app).trans K2
  have run := forGo_rng (g := gvName 4) (fb := takingsB cf) (P := fun j η s => ∃ (o : Option D) (ws : List Bool), η = [some (.ref f), some (.int (m : Nat)), some (.int (w : Nat)), some (.ref s1.length), o] ∧ s[s1.length]? = some (.lst (ws.map wordD)) ∧ ws.length = j ∧ FeedAt s f g ns (t + 2 + j) ∧ Keep f st s) n 0 [some (.ref f), some (.int (m : Nat)), some (.int (w : Nat)), some (.ref s1.length), none] s2
    (fun j η s hj1 hj2 ⟨o, ws, e, hs, hl, F, K⟩ => by
      subst e
      obtain ⟨r, s3, d3, l3, F3, K3⟩ := hd F hfg (m := 4) (by decide) (by decide) (by omega)
      have g3 := K3 _ _ hf1 hs
      have hlt : s1.length < s3.length := (List.getElem?_eq_some_iff.mp g3).1
      refine ⟨_, [some (.ref f), some (.int (m : Nat)), some (.int (w : Nat)), some (.ref s1.length), some (.int (j : Nat))], s3.set s1.length (.lst ((ws ++ [decide (w < r)]).map wordD)), rfl, ?_, some (.int (j : Nat)), ws ++ [decide (w < r)], rfl, set_self g3, by rw [List.length_append, hl]; rfl, ?_, ?_⟩
      · have he : (fIf (gCmp .Gt (fCall cf "_law_draw" (fCons (fVar 0) (fCons (fC (.int 4)) (fNil)))) (fVar 2)) (fC (.str "first")) (fC (.str "more"))) [some (.ref f), some (.int (m : Nat)), some (.int (w : Nat)), some (.ref s1.length), some (.int (j : Nat))] s = some (wordD (decide (w < r)), s3) := by
          by_cases c : w < r
          · have c2 : (w : Int) < r := by omega
            simp [d3, c, c2, wordD]
          · have c2 : ¬ ((w : Int) < r) := by omega
            simp [d3, c, c2, wordD]
        have ha := app_ev (o := fVar 3) (η := [some (.ref f), some (.int (m : Nat)), some (.int (w : Nat)), some (.ref s1.length), some (.int (j : Nat))]) (st := s) (s1 := s) rfl hs he g3 (by rw [List.length_map]; omega)
        unfold takingsB
        generalize (fIf (gCmp .Gt (fCall cf "_law_draw" (fCons (fVar 0) (fCons (fC (.int 4)) (fNil)))) (fVar 2)) (fC (.str "first")) (fC (.str "more"))) = E at *
        show sSeq _ _ [some (.ref f), some (.int (m : Nat)), some (.int (w : Nat)), some (.ref s1.length), some (.int (j : Nat))] s = _
        rw [sSeq_ev, sExpr_ev, ha, List.map_append]
        rfl
      · obtain ⟨i, c, k, h1, h2, h3, h4, h5⟩ := F3.ex
        by_cases q : s1.length = g
        · exfalso
          subst q
          rw [g3] at h2
          have hg := (h.ex)
          obtain ⟨_, _, _, _, q2, _⟩ := hg
          have := (List.getElem?_eq_some_iff.mp (K1 _ _ (Ne.symm hfg) q2)).1
          omega
        · exact (F3.set hf1 q).mono (by omega)
      · intro n' o' hn' hh
        have hlt2 : n' < s1.length := (List.getElem?_eq_some_iff.mp (K1 n' o' hn' hh)).1
        rw [List.getElem?_set_ne (by omega)]
        exact K3 n' o' hn' (K n' o' hn' hh))
    ⟨none, [], rfl, g2, rfl, F2, K12⟩
  obtain ⟨η', s', e, o, ws, rfl, hs, hl, F, K⟩ := run
  rw [Nat.zero_add] at hl F
  refine ⟨ws, s', ?_, by omega, F.mono (by omega), K⟩
  rw [runB_ev (by rw [hp]; rfl), hN]
  have rg := rng_src (A := fCall cf "_law_draw" (fCons (fVar 0) (fCons (fBin .Add (fVar 1) (fC (.int 1))) (fNil)))) (η := [some (.ref f), some (.int (m : Nat)), some (.int (w : Nat)), some (.ref s1.length), none]) (st := s1 ++ [O.lst []]) (N := (n : Nat)) (s := s2) (by simp [d2]) (rng_nat (by omega))
  have e : forGo (gvName 4) (takingsB cf) none (rngD 0 n 1) [some (.ref f), some (.int (m : Nat)), some (.int (w : Nat)), some (.ref s1.length), none] s2 = _ := e
  have tu : bTuple [.ref s1.length] s' = some (.tup (ws.map wordD), s') := by
    show (items _ _).map _ = _
    unfold items
    simp only [hs]; rfl
  unfold takingsF
  generalize takingsB cf = Bq at *
  generalize rngD 0 n 1 = R at *
  generalize iRng _ = S at *
  show (Option.bind (sSeq _ _ [some (.ref f), some (.int (m : Nat)), none, none, none] st) _) = _
  simp [d1, alloc, rg, e, tu]
end Sim

namespace Sim
open PySem
@[simp] theorem sl_drop1 {st : Sto} {xs : List D} {a : Nat} : slD (.tup xs) (some ((a : Int) + 1)) none st = some (.tup (xs.drop (a + 1)), st) := sl_drop (a := a + 1)
section
variable {cf : CallF} {B : Nat} {M : List Nat} {st : Sto} {f g : Nat} {ns : List Int} {t k w : Nat} {os xs : List D}
theorem Ths.both {a b : Nat} {ys zs : List D} (h : Ths B M st k ys a) (k2 : Ths B M st k zs b) (l : a + b + 3 ≤ w) : Th B M st (k + 1) (.tup (ys ++ zs)) w := (h.app k2).tup.up l
theorem rest_tup (hd : DrawOk cf) (F : FeedAt st f g ns t) (fg : f ≠ g) (fM : f ∈ M) (hM : InS M st) (Od : OddT B M st os) (ht : t + 4 < 2 ^ 60) (hk : k ≤ 30) (h : Th B M st (k + 1) (.tup xs) w) (hw : w ≤ 40000) : BendRest cf B M st f g ns t (k + 1) w (.tup xs) os := by
  obtain ⟨r, s1, d1, l1, F1, K1⟩ := hd F fg (m := 6) (by decide) (by decide) (by omega)
  obtain ⟨v, hx, lv⟩ := h.untup
  have xl := hx.len
  by_cases hr : r < 4
  · obtain ⟨a, s2, d2, l2, F2, K2⟩ := hd F1 fg (m := (xs.length : Nat) + 1) (by omega) (by omega) (by omega)
    have k2 : KeepM M st s2 := (K1.trans K2).toM fM
    have xk : xs.length < 50000 := by omega
    have tl : (xs.take a).length ≤ xs.length := by rw [List.length_take]; omega
    have dl : (xs.drop a).length ≤ xs.length := by rw [List.length_drop]; omega
    have dl1 : (xs.drop (a + 1)).length ≤ xs.length := by rw [List.length_drop]; omega
    have hup : ∀ {s : Sto} {ys : List D} {c : Nat}, KeepM M st s → Ths B M st k ys c → Ths (B + 1) M s (k + 4) ys c := fun q z => z.mono q (by omega) (Nat.le_refl _) (by omega)
    obtain ⟨c1, c2, hc1, hc2, lc⟩ := hx.cut a
    obtain ⟨c3, c4, hc3, hc4, lc2⟩ := hx.cut (a + 1)
    match r, hr with
    | 0, _ =>
      obtain ⟨y, s3, h1, h2, F3, K3⟩ := bend_odd hd F2 fg fM (Od.keep k2) (by omega) (η := [some (.ref f), some (.tup xs), some (.tup os), some (.int ((0 : Nat) : Int)), some (.int (a : Nat))]) rfl rfl
      have k3 : KeepM M st s3 := k2.trans (K3.toM fM)
      refine ⟨.tup (xs.take a ++ ([y] ++ xs.drop a)), s3, _, ?_, ?_, F3, by omega, (K1.trans K2).trans K3⟩
      · have e1 : ∀ s : Sto, binop .Add (.tup (xs.take a)) (.tup [y]) s = some (.tup (xs.take a ++ [y]), s) := fun s => add_tup (by rw [List.length_cons, List.length_nil]; omega)
        have e2 : ∀ s : Sto, binop .Add (.tup (xs.take a ++ [y])) (.tup (xs.drop a)) s = some (.tup (xs.take a ++ [y] ++ xs.drop a), s) := fun s => add_tup (by rw [List.length_append, List.length_cons, List.length_nil]; omega)
        rw [List.append_assoc] at e2
        unfold bendR
        generalize (fIx (fVar 2) (fCall cf "_law_draw" (fCons (fVar 0) (fCons (fBlt bLen (fCons (fVar 2) (fNil))) (fNil))))) = E at *
        simp only [List.singleton_append] at e2 ⊢
        simp at h1
        simp [d1, d2, h1, e1, e2]
      · exact Ths.both (hup k3 hc1) (Ths.app (Ths.cons (h2.mono (KeepM.refl _ _) (by omega) (Nat.le_refl _) (by omega)) Ths.nil) (hup k3 hc2)) (by omega)
    | 1, _ =>
      refine ⟨.tup (xs.take a ++ xs.drop (a + 1)), s2, _, ?_, ?_, F2, by omega, K1.trans K2⟩
      · have e1 : ∀ s : Sto, binop .Add (.tup (xs.take a)) (.tup (xs.drop (a + 1))) s = some (.tup (xs.take a ++ xs.drop (a + 1)), s) := fun s => add_tup (by omega)
        simp [bendR, d1, d2, e1]
      · exact Ths.both (hup k2 hc1) (hup k2 hc4) (by omega)
    | 2, _ =>
      refine ⟨.ref s2.length, s2 ++ [Sim.O.lst xs], _, ?_, ?_, F2.app, by omega, (K1.trans K2).trans Keep.app⟩
      · simp [bendR, d1, d2]
      · have M2 : InS M s2 := (K1.trans K2).ins (Feed.lt F2) hM
        exact (Ths.ref (n := k + 4) (.inl get_new) M2.new (hup (k2.trans KeepM.app) hx)).up (by omega)
    | 3, _ =>
      refine ⟨.tup (xs ++ xs.take a), s2, _, ?_, ?_, F2, by omega, K1.trans K2⟩
      · have e1 : ∀ s : Sto, binop .Add (.tup xs) (.tup (xs.take a)) s = some (.tup (xs ++ xs.take a), s) := fun s => add_tup (by omega)
        simp [bendR, d1, d2, e1]
      · exact Ths.both (hup k2 hx) (hup k2 hc1) (by omega)
  · obtain ⟨y, s2, h1, h2, F2, K2⟩ := bend_odd hd F1 fg fM (Od.keep (K1.toM fM)) (by omega) (η := [some (.ref f), some (.tup xs), some (.tup os), some (.int (r : Nat)), none]) rfl rfl
    refine ⟨y, s2, _, ?_, h2.odd, F2, by omega, K1.trans K2⟩
    have hr2 : ¬ ((r : Int) < 4) := by omega
    unfold bendR
    generalize (fIx (fVar 2) (fCall cf "_law_draw" (fCons (fVar 0) (fCons (fBlt bLen (fCons (fVar 2) (fNil))) (fNil))))) = E at *
    simp [d1, h1, hr, hr2]
end
theorem bend_ok {P : Pg} {dd : Def} (hr : ∀ n ds st, callN P (n + 1) "_law_bend" ds st = runB (bendF (callN P n)) dd ds st) (hp : dd.ps.length = 3) (hN : dd.N.length = 5) (hd : ∀ n, DrawOk (callN P (n + 1))) :
    ∀ (k n : Nat), k ≤ n → BendSt (callN P (n + 2)) k
  | 0, n, _ => by
    intro B M st f g ns t x w os F fg fM hM hB hB2 h hw Od ht hk
    obtain ⟨v, e, _⟩ := h; cases e
  | k + 1, n, hn => by
    intro B M st f g ns t x w os F fg fM hM hB hB2 h hw Od ht hk
    rw [hr (n + 1), runB_ev (by rw [hp]; rfl), hN]
    show ∃ y st' t', (Option.bind (bendF (callN P (n + 1)) [some (.ref f), some x, some (.tup os), none, none] st) _) = _ ∧ _
    have D1 : DrawOk (callN P (n + 1)) := hd n
    have fin : ∀ {s : Sto} {c : Nat} {x : D}, (bendF (callN P (n + 1)) [some (.ref f), some x, some (.tup os), none, none] st = bendR (callN P (n + 1)) [some (.ref f), some x, some (.tup os), none, none] s) → Keep f st s → c ≤ t + 1 → BendRest (callN P (n + 1)) B M s f g ns c (k + 1) w x os →
        ∃ y st' t', (Option.bind (bendF (callN P (n + 1)) [some (.ref f), some x, some (.tup os), none, none] st) fun p => match p.1 with
          | .rt v => some (v, p.2)
          | .nx _ => some (.non, p.2)
          | _ => none) = some (y, st') ∧ Th (B + 1) M st' (k + 1 + 4) y (2 * w + 710) ∧ FeedAt st' f g ns t' ∧ t' ≤ t + 4 * (k + 1 + 1) ∧ Keep f st st' := fun {s c x} e K0 l R => by
      obtain ⟨y, s', t', e2, h2, F2, l2, K2⟩ := R
      refine ⟨y, s', t', ?_, h2, F2, by omega, K0.trans K2⟩
      rw [e, e2]; rfl
    cases x with
    | non => exact fin (by simp [bendF]) (Keep.refl _ _) (by omega) (rest_non D1 F fg fM Od (by omega))
    | bl b => exact fin (by simp [bendF]) (Keep.refl _ _) (by omega) (rest_bl D1 F fg fM Od (by omega) hB2 (by omega))
    | int i => exact fin (by simp [bendF]) (Keep.refl _ _) (by omega) (rest_int D1 F fg fM Od (by omega) h)
    | str s => exact fin (by simp [bendF]) (Keep.refl _ _) (by omega) (rest_str D1 F fg fM hM Od (by omega) h hw)
    | ktup _ => exact h.noK.elim
    | fn _ => exact h.noF.elim
    | ref j => exact fin (by simp [bendF, h.isL.tup]) (Keep.refl _ _) (by omega) (rest_ref D1 F fg fM Od (by omega) h)
    | tup xs =>
      have e0 := ne_unit h (by omega) (by omega)
      by_cases hx : xs = []
      · subst hx
        exact fin (by simp [bendF, e0]) (Keep.refl _ _) (by omega) (rest_tup D1 F fg fM hM Od (by omega) (by omega) h hw)
      · have hne : xs.isEmpty = false := by cases xs with
          | nil => exact absurd rfl hx
          | cons a b => rfl
        rw [hne] at e0
        obtain ⟨r, s1, d1, l1, F1, K1⟩ := D1 F fg (m := 4) (by decide) (by decide) (by omega)
        have k1 : KeepM M st s1 := K1.toM fM
        have M1 : InS M s1 := K1.ins (Feed.lt F1) hM
        by_cases hr0 : 0 < r
        · obtain ⟨v, hxs, lv⟩ := h.untup
          have xl := hxs.len
          have xp : 0 < xs.length := by cases xs with
            | nil => exact absurd rfl hx
            | cons a b => simp
          obtain ⟨a, s2, d2, l2, F2, K2⟩ := D1 F1 fg (m := (xs.length : Nat)) (by omega) (by omega) (by omega)
          have k2 : KeepM M st s2 := k1.trans (K2.toM fM)
          have M2 : InS M s2 := K2.ins (Feed.lt F2) M1
          obtain ⟨z, hz⟩ : ∃ z, xs[a]? = some z := ⟨_, List.getElem?_eq_getElem (by omega)⟩
          obtain ⟨c1, c2, c3, hc1, hc2, hc3, lc⟩ := hxs.at' hz
          obtain ⟨n', rfl⟩ : ∃ n', n = n' + 1 := ⟨n - 1, by omega⟩
          obtain ⟨y, s3, t3, e3, h3, F3, l3, K3⟩ := bend_ok hr hp hN hd k n' (by omega) _ _ _ _ _ _ _ _ _ _ F2 fg fM M2 hB hB2 (hc2.keep k2) (by omega) (Od.keep k2) (by omega) (by omega)
          have k3 : KeepM M st s3 := k2.trans (K3.toM fM)
          refine ⟨.tup (xs.take a ++ (y :: xs.drop (a + 1))), s3, t3, ?_, ?_, F3, by omega, ((K1.trans K2).trans K3)⟩
          · have tl : (xs.take a).length ≤ xs.length := by rw [List.length_take]; omega
            have dl1 : (xs.drop (a + 1)).length ≤ xs.length := by rw [List.length_drop]; omega
            have q1 : ∀ s : Sto, binop .Add (.tup (xs.take a)) (.tup [y]) s = some (.tup (xs.take a ++ [y]), s) := fun s => add_tup (by rw [List.length_cons, List.length_nil]; omega)
            have q2 : ∀ s : Sto, binop .Add (.tup (xs.take a ++ [y])) (.tup (xs.drop (a + 1))) s = some (.tup (xs.take a ++ [y] ++ xs.drop (a + 1)), s) := fun s => add_tup (by rw [List.length_append, List.length_cons, List.length_nil]; omega)
            rw [List.append_assoc, List.singleton_append] at q2
            have i1 : ∀ s : Sto, ix (.tup xs) (.int (a : Nat)) s = some z := fun s => ix_tup hz
            unfold bendF
            generalize bendR (callN P (n' + 1 + 1)) = R
            simp [e0, d1, d2, hr0, i1, e3, q1, q2]
          · have z1 : Ths (B + 1) M s3 (k + 4) (xs.take a) c1 := hc1.mono k3 (by omega) (Nat.le_refl _) (by omega)
            have z3 : Ths (B + 1) M s3 (k + 4) (xs.drop (a + 1)) c3 := hc3.mono k3 (by omega) (Nat.le_refl _) (by omega)
            exact Ths.both (k := k + 4) z1 (Ths.cons h3 z3) (by omega)
        · have hr1 : r = 0 := by omega
          subst hr1
          refine fin (s := s1) ?_ K1 (by omega) (rest_tup D1 F1 fg fM M1 (Od.keep k1) (by omega) (by omega) (h.keep k1) hw)
          unfold bendF
          generalize bendR (callN P (n + 1)) = R
          simp [e0, d1]
end Sim

namespace Sim
open PySem
/-! ### a law that gathers its things in a list -/
theorem ext_ev {o e : SemE} {η : LocD} {st s1 s2 : Sto} {n m : Nat} {xs ys zs : List D} (ho : o η st = some (.ref n, s1)) (hy : s1[n]? = some (.lst ys)) (he : e η s1 = some (.ref m, s2)) (hx : s2[n]? = some (.lst xs)) (hz : s2[m]? = some (.lst zs)) (hl : xs.length + zs.length ≤ 100000) : fExt o e η st = some (.non, s2.set n (.lst (xs ++ zs))) := by
  have hl2 : xs.length + zs.length ≤ most := hl
  unfold fExt
  rw [ho]
  simp only [Option.bind_some, hy, he, hx, hz]
  exact if_pos hl2
/-- the law's state: its feed, its things at T -/
structure LS (f g : Nat) (ms : List Int) (T : Nat) (s : Sto) (t W L : Nat) : Prop where
  F : FeedAt s f g ms t
  ex : ∃ xs, s[T]? = some (.lst xs) ∧ Ths 702 [f, T] s 13 xs W ∧ xs.length ≤ L
section
variable {f g : Nat} {ms : List Int} {T : Nat} {s s' : Sto} {t W L : Nat}
theorem LS.ins (h : LS f g ms T s t W L) : InS [f, T] s := fun m hm => by
  obtain ⟨xs, h1, _⟩ := h.ex
  rcases List.mem_cons.mp hm with rfl | hm
  · exact Feed.lt h.F
  · rcases List.mem_cons.mp hm with rfl | hm
    · exact (List.getElem?_eq_some_iff.mp h1).1
    · cases hm
theorem LS.go (h : LS f g ms T s t W L) (hT : T ≠ f) {t' : Nat} (F : FeedAt s' f g ms t') (K : Keep f s s') : LS f g ms T s' t' W L := by
  obtain ⟨xs, h1, h2, h3⟩ := h.ex
  exact ⟨F, xs, K _ _ hT h1, h2.keep (K.toM (by simp)), h3⟩
theorem LS.put (h : LS f g ms T s t W L) (hT : T ≠ f) (hG : T ≠ g) {xs zs : List D} {V : Nat} (hx : s[T]? = some (.lst xs)) (hz : Ths 702 [f, T] s 13 zs V) : LS f g ms T (s.set T (.lst (xs ++ zs))) t (W + V) (L + zs.length) ∧ KeepM [f, T] s (s.set T (.lst (xs ++ zs))) := by
  have k : KeepM [f, T] s (s.set T (.lst (xs ++ zs))) := KeepM.set (by simp)
  obtain ⟨ys, h1, h2, h3⟩ := h.ex
  rw [hx] at h1; cases h1
  exact ⟨⟨h.F.set hT hG, xs ++ zs, set_self hx, (h2.app hz).keep k, by rw [List.length_append]; omega⟩, k⟩
end
theorem forGo_gd {g : SemG} {fb : SemS} {gd : Option (Nat × O)} {P : Sto → Prop} {Q : LocD → Prop} (hgd : ∀ s, P s → okGd gd s) : ∀ (xs : List D) (η : LocD) (s : Sto), Q η → P s →
    (∀ x ∈ xs, ∀ η s, Q η → P s → ∃ η2 η' s', g x η = some η2 ∧ fb η2 s = some (.nx η', s') ∧ Q η' ∧ P s') → ∃ η' s', forGo g fb gd xs η s = some (.nx η', s') ∧ Q η' ∧ P s'
  | [], η, s, hq, hp, _ => by
    refine ⟨η, s, ?_, hq, hp⟩
    unfold forGo
    exact if_pos (hgd s hp)
  | x :: r, η, s, hq, hp, step => by
    obtain ⟨η2, η', s', h1, h2, h3, h4⟩ := step x List.mem_cons_self η s hq hp
    obtain ⟨η3, s3, e, q3, p3⟩ := forGo_gd hgd r η' s' h3 h4 fun y hy => step y (List.mem_cons_of_mem _ hy)
    refine ⟨η3, s3, ?_, q3, p3⟩
    rw [forGo, if_pos (hgd s hp), h1]
    simp only [Option.bind_some, h2]
    exact e
theorem mapO_bl {f : D → Bool} : ∀ xs : List D, mapO blD (xs.map fun x => D.bl (f x)) = some (xs.map f)
  | [] => rfl
  | x :: xs => by
    show (some (f x)).bind _ = _
    show (mapO _ _).map _ = _
    rw [mapO_bl xs]; rfl
theorem all_ref {st : Sto} {k : Nat} {f : D → Bool} {xs : List D} (h : st[k]? = some (.lst (xs.map fun x => D.bl (f x)))) : bAll [.ref k] st = some (.bl (xs.all f), st) := by
  show (lstOf (.ref k) st).bind _ = _
  unfold lstOf items
  simp only [h, Option.bind_some, mapO_bl, Option.map_some, List.all_map]
  rfl
theorem q2_th {M : List Nat} {s : Sto} {k : Nat} {p : Nat × Nat} (h : Sm p) : Th 700 M s (k + 2) (q2 p) 23 := by
  have a := h.a
  have b := h.b
  have i1 : Th 700 M s (k + 1) (.int (p.1 : Nat)) 8 := Th.int (a := 7) (by omega) (by decide) (by decide)
  have i2 : Th 700 M s (k + 1) (.int (p.2 : Nat)) 8 := Th.int (a := 7) (by omega) (by decide) (by decide)
  exact (Ths.cons i1 (Ths.cons i2 Ths.nil)).tup.up (by decide)
/-- a comprehension over what stays, by looks -/
theorem lc_src {fi : SemI} {fe : SemE} {ft : SemT} {i : Nat} {vs : List Nat} {η : LocD} {st : Sto} {xs : List D} {f : D → D} {q : D → Bool} (ha : fi η st = some (⟨xs, none⟩, st)) (hl : xs.length < 100000)
    (step : ∀ x ∈ xs, ∀ s, Ext st s → st.length < s.length → ∃ s1, ft ((wipeD η vs).set i (some x)) s = some (q x, s1) ∧ Ext s s1 ∧ (q x = true → ∃ s2, fe ((wipeD η vs).set i (some x)) s1 = some (f x, s2) ∧ Ext s1 s2)) :
    ∃ st', fLc fi (gvName i) ft fe vs η st = some (.ref st.length, st') ∧ Ext st st' ∧ st'[st.length]? = some (.lst ((xs.filter q).map f)) := by
  obtain ⟨st', e1, e2, e3⟩ := lc_run (g := gvName i) (ft := ft) (fe := fe) (ηw := wipeD η vs) (gd := none) (n := st.length) (Inv := fun s => Ext st s) (f := f) (q := q) (fun s _ => okGd_none) (fun s o h => h.set) xs (st ++ [.lst []]) [] Ext.app get_new (by simpa using hl)
    (fun x hx s hs hn => by
      obtain ⟨s1, h1, h2, h3⟩ := step x hx s hs hn
      have keep : ∀ s', Ext s s' → s'[st.length]? = s[st.length]? := fun s' h => by
        have := List.getElem?_eq_getElem hn
        rw [this]; exact h _ _ this
      refine ⟨_, s1, rfl, h1, hs.trans h2, keep s1 h2, fun c => ?_⟩
      obtain ⟨s2, h4, h5⟩ := h3 c
      exact ⟨s2, h4, (hs.trans h2).trans h5, keep s2 (h2.trans h5)⟩)
  refine ⟨st', ?_, e2, by simpa using e3⟩
  rw [fLc_ev, ha]
  simp only [Option.bind_some]
  rw [e1]; rfl
/-! ### words -/
@[simp] theorem srcOf_str {z : Str} {st : Sto} : srcOf (.str z) st = some ⟨sigs z, none⟩ := rfl
def lowC (c : Nat) : Bool := decide (97 ≤ c) && decide (c ≤ 122)
theorem letters_eq : ("abcdefghijklmnopqrstuvwxyz" : Str).cps.toList = List.range' 97 26 := by decide +kernel
theorem low_mem (c : Nat) : decide (c ∈ ("abcdefghijklmnopqrstuvwxyz" : Str).cps.toList) = lowC c := by
  rw [letters_eq]
  unfold lowC
  rw [← Bool.decide_and]
  refine decide_eq_decide.mpr ?_
  rw [List.mem_range'_1]
  omega
theorem low_one {c : Nat} {st : Sto} : cmpop .In (.str ⟨#[c]⟩) (.str "abcdefghijklmnopqrstuvwxyz") st = some (lowC c) := by
  rw [← low_mem]
  generalize hz : ("abcdefghijklmnopqrstuvwxyz" : Str) = z
  have e : inS (.str ⟨#[c]⟩) (.str z) st = some (decide (c ∈ z.cps.toList)) := rfl
  have e2 : inD (.str ⟨#[c]⟩) (.str z) st = some (decide (c ∈ z.cps.toList)) := in_of e
  exact e2
def sigB : D → Bool
  | .str s => s.cps.toList.all lowC
  | _ => false
def wdB : D → Bool
  | .str s => decide (0 < s.length) && decide (s.length ≤ 8) && s.cps.toList.all lowC
  | _ => false
theorem sig_of {z : Str} {x : D} (h : x ∈ sigs z) : ∃ c, x = .str ⟨#[c]⟩ ∧ c ∈ z.cps.toList := by
  obtain ⟨c, h1, h2⟩ := List.mem_map.mp h
  exact ⟨c, h2.symm, h1⟩
theorem sigs_all (z : Str) : (sigs z).all sigB = z.cps.toList.all lowC := by
  unfold sigs
  rw [List.all_map]
  congr 1
  funext c
  show (([c] : List Nat).all lowC) = _
  simp
theorem is_word_run {cf : CallF} {dd : Def} (hp : dd.ps.length = 1) (hN : dd.N.length = 2) {B : Nat} {M : List Nat} {st : Sto} {n : Nat} {x : D} {w : Nat} (h : Th B M st n x w) (hw : w ≤ 98000) :
    ∃ st', runB (sSeq (sIf (gOr (gNot (gTru (fIsi "str" (fVar 0)))) (gNot (gCh .LtE .LtE (fC (.int 1)) (fBlt bLen (fCons (fVar 0) (fNil))) (fC (.int 8)))))
      (sSeq (sRet (fC (.bl false)))
        (sNil))
      (sNil))
    (sSeq (sRet (fBlt bAll (fCons (fLc (iPlain (fVar 0)) (gvName 1) (gYes) (fCmp .In (fVar 1) (fC (.str "abcdefghijklmnopqrstuvwxyz"))) [1]) (fNil))))
    (sNil))) dd [x] st = some (.bl (wdB x), st') ∧ Ext st st' := by
  rw [runB_ev (by rw [hp]; rfl), hN]
  cases x with
  | ref k =>
    refine ⟨st, ?_, Ext.refl _⟩
    generalize fLc _ _ _ _ _ = LC
    simp [h.isL.str, wdB]
  | str z =>
    obtain ⟨m, rfl⟩ := h.pos
    obtain ⟨ha, hl⟩ := h.unstr
    have hg := strW_ge z
    have hlen : bLen [.str z] st = some (.int (z.length : Nat), st) := if_pos (show z.length ≤ 100000 by omega)
    obtain ⟨st', e1, e2, e3⟩ := lc_src (fi := iPlain (fVar 0)) (fe := fCmp .In (fVar 1) (fC (.str "abcdefghijklmnopqrstuvwxyz"))) (ft := gYes) (i := 1) (vs := [1]) (η := [some (.str z), none]) (st := st) (xs := sigs z) (f := fun x => .bl (sigB x)) (q := fun _ => true) rfl (by rw [sigs_len]; show z.length < 100000; omega)
      (fun x hx s hs _ => by
        obtain ⟨c, rfl, hc⟩ := sig_of hx
        refine ⟨s, rfl, Ext.refl _, fun _ => ⟨s, ?_, Ext.refl _⟩⟩
        have e : sigB (.str ⟨#[c]⟩) = lowC c := by
          show (([c] : List Nat).all lowC) = _
          simp
        simp [wipeD, low_one, e])
    have e3 : st'[st.length]? = some (.lst ((sigs z).map fun x => D.bl (sigB x))) := by
      rw [e3, List.filter_eq_self.mpr fun _ _ => rfl]
    have e4 := all_ref e3
    rw [sigs_all] at e4
    generalize fLc _ _ _ _ _ = LC at *
    by_cases c1 : 0 < z.length
    · by_cases c2 : z.length ≤ 8
      · refine ⟨st', ?_, e2⟩
        have d1 : (1 : Int) ≤ (z.length : Nat) := by omega
        have d2 : ((z.length : Nat) : Int) ≤ 8 := by omega
        simp [hlen, d1, d2, e1, e4, wdB, c1, c2]
      · refine ⟨st, ?_, Ext.refl _⟩
        have d1 : (1 : Int) ≤ (z.length : Nat) := by omega
        have d2 : ¬ (((z.length : Nat) : Int) ≤ 8) := by omega
        simp [hlen, d1, d2, wdB, c1, c2]
    · refine ⟨st, ?_, Ext.refl _⟩
      have d1 : ¬ ((1 : Int) ≤ (z.length : Nat)) := by omega
      simp [hlen, d1, wdB, c1]
  | ktup _ => exact h.noK.elim
  | fn _ => exact h.noF.elim
  | _ =>
    refine ⟨st, ?_, Ext.refl _⟩
    generalize fLc _ _ _ _ _ = LC
    simp [wdB]
end Sim

namespace Sim
open PySem
/-! ### other places that may change; stores that grow by what is told -/
theorem thW_more {B : Nat} {M M' : List Nat} {st : Sto} (hm : ∀ m ∈ M', m ∉ M → st.length ≤ m) : ∀ {n : Nat} {x : D} {v : Nat}, thW B M st n x = some v → thW B M' st n x = some v
  | 0, _, _, h => by cases h
  | n + 1, .non, _, h => h
  | n + 1, .bl _, _, h => h
  | n + 1, .int i, v, h => h
  | n + 1, .str _, _, h => h
  | n + 1, .ktup _, _, h => by cases h
  | n + 1, .fn _, _, h => by cases h
  | n + 1, .tup xs, v, h => by
    obtain ⟨ws, e1, e2⟩ := map_some' (show (mapO _ xs).map _ = some v from h)
    show (mapO _ xs).map _ = _
    rw [mapO_imp (fun x y q => thW_more hm q) e1, ← e2]; rfl
  | n + 1, .ref j, v, h => by
    have h : (if j ∈ M then none else match st[j]? with
      | some (.lst xs) => (mapO (fun x => thW B M st n x) xs).map fun ws => 3 + sumW ws
      | some (.frz xs) => (mapO (fun x => thW B M st n x) xs).map fun ws => 3 + sumW ws
      | _ => none) = some v := h
    show (if j ∈ M' then none else match st[j]? with
      | some (.lst xs) => (mapO (fun x => thW B M' st n x) xs).map fun ws => 3 + sumW ws
      | some (.frz xs) => (mapO (fun x => thW B M' st n x) xs).map fun ws => 3 + sumW ws
      | _ => none) = some v
    by_cases c : j ∈ M
    · rw [if_pos c] at h; cases h
    · rw [if_neg c] at h
      cases q : st[j]? with
      | none => simp only [q] at h; cases h
      | some o =>
        have hj : j ∉ M' := fun z => by
          have := hm j z c
          have := (List.getElem?_eq_some_iff.mp q).1
          omega
        rw [if_neg hj]
        simp only [q] at h ⊢
        cases o with
        | dct xs => cases h
        | dtp xs => cases h
        | frd xs => cases h
        | stk k => cases h
        | lst xs =>
          obtain ⟨ws, e1, e2⟩ := map_some' h
          show (mapO _ _).map _ = _
          rw [mapO_imp (fun x y q => thW_more hm q) e1, ← e2]; rfl
        | frz xs =>
          obtain ⟨ws, e1, e2⟩ := map_some' h
          show (mapO _ _).map _ = _
          rw [mapO_imp (fun x y q => thW_more hm q) e1, ← e2]; rfl
section
variable {B : Nat} {M M' : List Nat} {st : Sto} {n w : Nat} {x : D} {xs : List D}
theorem Th.more (h : Th B M st n x w) (hm : ∀ m ∈ M', m ∉ M → st.length ≤ m) : Th B M' st n x w := let ⟨v, e, z⟩ := h; ⟨v, thW_more hm e, z⟩
theorem Ths.more (h : Ths B M st n xs w) (hm : ∀ m ∈ M', m ∉ M → st.length ≤ m) : Ths B M' st n xs w := let ⟨v, e, z⟩ := h; ⟨v, mapO_imp (fun x y q => thW_more hm q) e, z⟩
end
theorem seq_step {f g : SemS} {η η' : LocD} {st st' : Sto} (h : f η st = some (.nx η', st')) : sSeq f g η st = g η' st' := by
  rw [sSeq_ev, h]; rfl
section
variable {s L : Sto} {k : Nat} {o : O}
theorem get2 : (s ++ L)[s.length + k]? = L[k]? := by
  rw [List.getElem?_append_right (by omega)]; congr 1; omega
theorem set2 : (s ++ L).set (s.length + k) o = s ++ L.set k o := by
  rw [List.set_append_right _ _ (by omega)]; congr; omega
theorem al2 : Sim.alloc o (s ++ L) = some (.ref (s.length + L.length), s ++ (L ++ [o])) := by
  show some (D.ref (s ++ L).length, s ++ L ++ [o]) = _
  rw [List.length_append, List.append_assoc]
theorem ext2 : Ext s (s ++ L) := fun k o q => by rw [List.getElem?_append_left (List.getElem?_eq_some_iff.mp q).1]; exact q
end
theorem lcGo_pure {fe : SemE} {ηw : LocD} {gd : Option (Nat × O)} {i : Nat} {f : D → D} {s : Sto} (hg : ∀ o, okGd gd (s ++ [o])) : ∀ (xs acc : List D), acc.length + xs.length < 100000 → (∀ x ∈ xs, ∀ o, fe (ηw.set i (some x)) (s ++ [o]) = some (f x, s ++ [o])) →
    lcGo (gvName i) gYes fe ηw gd s.length xs (s ++ [.lst acc]) = some (s ++ [.lst (acc ++ xs.map f)])
  | [], acc, _, _ => by
    rw [lcGo, if_pos (hg _)]; simp
  | x :: xs, acc, hl, step => by
    rw [List.length_cons] at hl
    have hl2 : acc.length < most := show acc.length < 100000 by omega
    have es : (s ++ [O.lst acc]).set s.length (O.lst (acc ++ [f x])) = s ++ [O.lst (acc ++ [f x])] := set2 (k := 0)
    rw [lcGo, if_pos (hg _), gvName_ev]
    simp only [Option.bind_some, gYes_ev, if_true, step x List.mem_cons_self, get_new, if_pos hl2, es]
    rw [lcGo_pure hg xs (acc ++ [f x]) (by rw [List.length_append, List.length_cons, List.length_nil]; omega) fun y hy => step y (List.mem_cons_of_mem _ hy), List.append_assoc, List.map_cons]; rfl
theorem fLc_pure {fi : SemI} {fe : SemE} {vs : List Nat} {η : LocD} {gd : Option (Nat × O)} {i : Nat} {f : D → D} {s : Sto} {xs : List D} (ha : fi η s = some (⟨xs, gd⟩, s)) (hg : okGd gd s) (hl : xs.length < 100000) (step : ∀ x ∈ xs, ∀ o, fe ((wipeD η vs).set i (some x)) (s ++ [o]) = some (f x, s ++ [o])) :
    fLc fi (gvName i) gYes fe vs η s = some (.ref s.length, s ++ [.lst (xs.map f)]) := by
  rw [fLc_ev, ha]
  simp only [Option.bind_some]
  rw [lcGo_pure (fun o p e => get_app (hg p e)) xs [] (by simpa using hl) step]; rfl
theorem src_lst {i j : Nat} {η : LocD} {s : Sto} {xs : List D} (h : η[i]? = some (some (.ref j))) (g : s[j]? = some (.lst xs)) : iPlain (fVar i) η s = some (⟨xs, some (j, .lst xs)⟩, s) := by
  rw [iPlain_ev]
  have e : fVar i η s = some (.ref j, s) := by unfold fVar; rw [h]
  have e2 : srcOf (.ref j) s = some ⟨xs, some (j, .lst xs)⟩ := by unfold srcOf; simp only [g]
  rw [e]
  simp only [Option.bind_some, e2, Option.map_some]
theorem forGo_cnt {g : SemG} {fb : SemS} {P : Nat → LocD → Sto → Prop} {Qx : D → Prop} {N : Nat} (step : ∀ x, Qx x → ∀ i η s, i < N → P i η s → ∃ η2 η' s', g x η = some η2 ∧ fb η2 s = some (.nx η', s') ∧ P (i + 1) η' s') : ∀ (xs : List D), (∀ x ∈ xs, Qx x) → ∀ i η s, i + xs.length ≤ N → P i η s → ∃ η' s', forGo g fb none xs η s = some (.nx η', s') ∧ P (i + xs.length) η' s'
  | [], _, i, η, s, _, h => ⟨η, s, forGo_nil, h⟩
  | x :: r, hx, i, η, s, hl, h => by
    rw [List.length_cons] at hl
    obtain ⟨η2, η', s', h1, h2, h3⟩ := step x (hx x List.mem_cons_self) i η s (by omega) h
    obtain ⟨η3, s3, e, q⟩ := forGo_cnt step r (fun y hy => hx y (List.mem_cons_of_mem _ hy)) (i + 1) η' s' (by omega) h3
    refine ⟨η3, s3, ?_, by rw [List.length_cons]; have e : i + (r.length + 1) = i + 1 + r.length := by omega
                           rw [e]; exact q⟩
    rw [forGo_nx h1 h2]; exact e
theorem mul2 {xs : List D} {st : Sto} (h : xs ≠ []) (hl : xs.length ≤ 1000) : binop .Mult (.tup xs) (.int 2) st = some (.tup (xs ++ xs), st) := by
  show repT xs 2 st = _
  unfold repT
  rw [if_pos ⟨h, by decide, by decide, hl⟩]
  have e : (List.replicate (2 : Int).toNat xs).flatten = xs ++ xs := by
    show (List.replicate 2 xs).flatten = _
    simp [List.replicate]
  rw [e]
theorem add_lst {a b : Nat} {xs ys : List D} {st : Sto} (h1 : st[a]? = some (.lst xs)) (h2 : st[b]? = some (.lst ys)) (hl : xs.length + ys.length ≤ 100000) : binop .Add (.ref a) (.ref b) st = some (.ref st.length, st ++ [.lst (xs ++ ys)]) := by
  show (match st[a]?, st[b]? with
    | some (.lst xs), some (.lst ys) => if xs.length + ys.length ≤ most then alloc (.lst (xs ++ ys)) st else none
    | _, _ => none) = _
  simp only [h1, h2]
  exact if_pos hl
end Sim

namespace K21
open PySem L2 Sim
abbrev topS (i : Nat) : Stmt := PySem.Challenge.pw_twicecalls_k21_needs.main.body.getD i (.Pass ⟨0, 0, 0, 0⟩)
def d_need : Def := ⟨"need", topS 1, ["tree", "each", "part"], ["tree"], []⟩
def d_needs : Def := ⟨"needs", topS 2, ["tree", "place", "part"], ["tree"], []⟩
def d_parts_of : Def := ⟨"parts_of", topS 3, ["tree"], ["tree"], []⟩
def d_trees_in : Def := ⟨"trees_in", topS 4, ["tree", "place", "rows", "k", "part"], ["tree", "place"], [.ktup []]⟩
def d__law_feed : Def := ⟨"_law_feed", topS 6, ["_law_script"], ["_law_script"], []⟩
def d__law_draw : Def := ⟨"_law_draw", topS 7, ["_law_feed_here", "_law_many", "_law_cell", "_law_mixed", "_law_found", "_law_at", "_law_turn", "_law_cells"], ["_law_feed_here", "_law_many"], []⟩
def d__law_plan : Def := ⟨"_law_plan", topS 8, ["_law_feed_here", "_law_deep", "_law_room", "_law_k", "_law_way", "_law_bound", "_law_word", "_law_travel", "_law_parts"], ["_law_feed_here", "_law_deep", "_law_room"], []⟩
def d__law_whole_plan : Def := ⟨"_law_whole_plan", topS 9, ["_law_feed_here", "_law_plan_here"], ["_law_feed_here"], []⟩
def d__law_spots : Def := ⟨"_law_spots", topS 10, ["_law_plan_here", "_law_found", "_law_queue", "_law_spot", "_law_k", "_law_part"], ["_law_plan_here"], []⟩
def d__law_needs : Def := ⟨"_law_needs", topS 11, ["_law_plan_here", "_law_spot", "_law_some", "_law_found", "_law_part", "_law_rows", "_law_k"], ["_law_plan_here"], []⟩
def d__law_wide : Def := ⟨"_law_wide", topS 12, ["_law_feed_here", "_law_works", "_law_k"], ["_law_feed_here"], []⟩
def d_law : Def := ⟨"law", topS 13, ["_law_script", "_law_feed_here", "_law_turn", "_law_plan_here", "_law_seen", "_law_due_now", "_law_spot"], ["_law_script"], []⟩
def pg : Pg := ⟨[d_need, d_needs, d_parts_of, d_trees_in, d__law_feed, d__law_draw, d__law_plan, d__law_whole_plan, d__law_spots, d__law_needs, d__law_wide, d_law], ["enumerate", "len", "list", "max", "range", "repr", "sorted", "sum", "tuple"], [], [], [], [(57, 57)], [], [], [], [], [], [("_law_needs", "_law_needs.<locals>.<lambda>")]⟩
noncomputable def b_need (cf : CallF) : SemS :=
    sSeq (sIf (gCmp .Eq (fIx (fVar 0) (fC (.int 0))) (fC (.str "work")))
      (sSeq (sRet (fIx (fVar 0) (fC (.int 1))))
        (sNil))
      (sNil))
    (sSeq (sAsg (fLc (iPlain (fIx (fVar 0) (fC (.int 2)))) (gvName 2) (gYes) (fCall cf "need" (fCons (fVar 2) (fNil))) [2]) (gvName 1))
    (sSeq (sIf (gCmp .Eq (fIx (fVar 0) (fC (.int 0))) (fC (.str "then")))
      (sSeq (sRet (fBin .Add (fBlt bSum (fCons (fVar 1) (fNil))) (fBin .Mult (fBin .Mult (fC (.int 2)) (fIx (fVar 0) (fC (.int 1)))) (fBlt bLen (fCons (fVar 1) (fNil))))))
        (sNil))
      (sNil))
    (sSeq (sRet (fBin .Add (fBlt bMaxP (fCons (fVar 1) (fNil))) (fBin .Mult (fC (.int 2)) (fIx (fVar 0) (fC (.int 1))))))
    (sNil))))
theorem c_need (cf : CallF) (cx : CallX) : compB (compS cf cx 60 (pg.sx d_need) 30) (defBody d_need.st) = some (b_need cf) := by kernel_rfl
theorem r_need (n : Nat) (ds : List D) (st : Sto) : callN pg (n + 1) "need" ds st = runB (b_need (callN pg n)) d_need ds st := callN_of (d := d_need) rfl (c_need _ _)
noncomputable def b_needs (cf : CallF) : SemS :=
    sSeq (sRet (fBlt bTuple (fCons (fLc (iPlain (fCallD cf "trees_in" [.ktup []] (fCons (fVar 0) (fNil)))) (gvTup (gvCons (gvName 1) (gvCons (gvName 2) (gvNil)))) (gYes) (fTup (fCons (fVar 1) (fCons (fCall cf "need" (fCons (fVar 2) (fNil))) (fNil)))) [1, 2]) (fNil))))
    (sNil)
theorem c_needs (cf : CallF) (cx : CallX) : compB (compS cf cx 60 (pg.sx d_needs) 30) (defBody d_needs.st) = some (b_needs cf) := by kernel_rfl
theorem r_needs (n : Nat) (ds : List D) (st : Sto) : callN pg (n + 1) "needs" ds st = runB (b_needs (callN pg n)) d_needs ds st := callN_of (d := d_needs) rfl (c_needs _ _)
noncomputable def b_parts_of (cf : CallF) : SemS :=
    sSeq (sRet (fIf (gCmp .Eq (fIx (fVar 0) (fC (.int 0))) (fC (.str "work"))) (fTup (fNil)) (fIx (fVar 0) (fC (.int 2)))))
    (sNil)
theorem c_parts_of (cf : CallF) (cx : CallX) : compB (compS cf cx 60 (pg.sx d_parts_of) 30) (defBody d_parts_of.st) = some (b_parts_of cf) := by kernel_rfl
theorem r_parts_of (n : Nat) (ds : List D) (st : Sto) : callN pg (n + 1) "parts_of" ds st = runB (b_parts_of (callN pg n)) d_parts_of ds st := callN_of (d := d_parts_of) rfl (c_parts_of _ _)
noncomputable def b_trees_in (cf : CallF) : SemS :=
    sSeq (sAsg (fLst (fCons (fTup (fCons (fVar 1) (fCons (fVar 0) (fNil)))) (fNil))) (gvName 2))
    (sSeq (sFor (iEn (fCall cf "parts_of" (fCons (fVar 0) (fNil)))) (gvTup (gvCons (gvName 3) (gvCons (gvName 4) (gvNil))))
      (sSeq (sExpr (fExt (fVar 2) (fCall cf "trees_in" (fCons (fVar 4) (fCons (fBin .Add (fVar 1) (fTup (fCons (fVar 3) (fNil)))) (fNil))))))
        (sNil)))
    (sSeq (sRet (fVar 2))
    (sNil)))
theorem c_trees_in (cf : CallF) (cx : CallX) : compB (compS cf cx 60 (pg.sx d_trees_in) 30) (defBody d_trees_in.st) = some (b_trees_in cf) := by kernel_rfl
theorem r_trees_in (n : Nat) (ds : List D) (st : Sto) : callN pg (n + 1) "trees_in" ds st = runB (b_trees_in (callN pg n)) d_trees_in ds st := callN_of (d := d_trees_in) rfl (c_trees_in _ _)
noncomputable def b__law_feed (cf : CallF) : SemS :=
    sSeq (sRet (fDsp ["cells", "at", "left", "turn"] (fCons (fBlt bList (fCons (fSl (fVar 0) (oNone) (oSome (fC (.int 63)))) (fNil))) (fCons (fC (.int 0)) (fCons (fC (.int 0)) (fCons (fC (.int 0)) (fNil)))))))
    (sNil)
theorem c__law_feed (cf : CallF) (cx : CallX) : compB (compS cf cx 60 (pg.sx d__law_feed) 30) (defBody d__law_feed.st) = some (b__law_feed cf) := by kernel_rfl
theorem r__law_feed (n : Nat) (ds : List D) (st : Sto) : callN pg (n + 1) "_law_feed" ds st = runB (b__law_feed (callN pg n)) d__law_feed ds st := callN_of (d := d__law_feed) rfl (c__law_feed _ _)
noncomputable def b__law_draw (cf : CallF) : SemS :=
    sSeq (sSub (fVar 0) (fC (.str "turn")) (fBin .Add (fIx (fVar 0) (fC (.str "turn"))) (fC (.int 1))))
    (sSeq (sIf (gCmp .Gt (fIx (fVar 0) (fC (.str "left"))) (fC (.int 0)))
      (sSeq (sAsg (fBin .Mod (fIx (fVar 0) (fC (.str "left"))) (fVar 1)) (gvName 4))
        (sSeq (sSub (fVar 0) (fC (.str "left")) (fBin .FloorDiv (fIx (fVar 0) (fC (.str "left"))) (fVar 1)))
        (sSeq (sRet (fVar 4))
        (sNil))))
      (sNil))
    (sSeq (sPar3 5 6 7 (fCons (fIx (fVar 0) (fC (.str "at"))) (fCons (fIx (fVar 0) (fC (.str "turn"))) (fCons (fIx (fVar 0) (fC (.str "cells"))) (fNil)))))
    (sSeq (sSub (fVar 0) (fC (.str "at")) (fBin .Add (fVar 5) (fC (.int 1))))
    (sSeq (sAsg (fIf (gCmp .NotEq (fVar 7) (fLst (fNil))) (fIx (fVar 7) (fBin .Mod (fVar 5) (fBlt bLen (fCons (fVar 7) (fNil))))) (fC (.int 1129))) (gvName 2))
    (sSeq (sIf (gAnd (gCmp .GtE (fVar 2) (fBin .Pow (fC (.int 10)) (fC (.int 18)))) (gCmp .Lt (fVar 5) (fBlt bLen (fCons (fVar 7) (fNil)))))
      (sSeq (sSub (fVar 0) (fC (.str "left")) (fBin .FloorDiv (fVar 2) (fVar 1)))
        (sSeq (sRet (fBin .Mod (fVar 2) (fVar 1)))
        (sNil)))
      (sNil))
    (sSeq (sAsg (fBin .Mod (fBin .Pow (fBin .Add (fBin .Add (fBin .Mod (fVar 2) (fC (.int 2147482189))) (fBin .Mult (fBin .Mult (fC (.int 3)) (fVar 6)) (fVar 6))) (fC (.int 379))) (fC (.int 5))) (fC (.int 2147482171))) (gvName 3))
    (sSeq (sRet (fBin .Mod (fBin .FloorDiv (fBin .Mod (fBin .Pow (fBin .Add (fVar 3) (fBin .Mult (fC (.int 29009)) (fVar 6))) (fC (.int 5))) (fC (.int 2147482159))) (fC (.int 64))) (fVar 1)))
    (sNil))))))))
theorem c__law_draw (cf : CallF) (cx : CallX) : compB (compS cf cx 60 (pg.sx d__law_draw) 30) (defBody d__law_draw.st) = some (b__law_draw cf) := by kernel_rfl
theorem r__law_draw (n : Nat) (ds : List D) (st : Sto) : callN pg (n + 1) "_law_draw" ds st = runB (b__law_draw (callN pg n)) d__law_draw ds st := callN_of (d := d__law_draw) rfl (c__law_draw _ _)
noncomputable def b__law_plan (cf : CallF) : SemS :=
    sSeq (sPar2 4 5 (fCons (fCall cf "_law_draw" (fCons (fVar 0) (fCons (fC (.int 5)) (fNil)))) (fCons (fIx (fLst (fCons (fC (.int 0)) (fCons (fC (.int 1)) (fCons (fC (.int 2)) (fCons (fC (.int 5)) (fCons (fC (.int 7)) (fCons (fCall cf "_law_draw" (fCons (fVar 0) (fCons (fC (.int 30)) (fNil)))) (fCons (fBin .Pow (fC (.int 10)) (fC (.int 6))) (fNil))))))))) (fCall cf "_law_draw" (fCons (fVar 0) (fCons (fC (.int 7)) (fNil))))) (fNil))))
    (sSeq (sSub (fVar 2) (fC (.int 0)) (fBin .Sub (fIx (fVar 2) (fC (.int 0))) (fC (.int 1))))
    (sSeq (sIf (gOr (gCmp .Lt (fVar 4) (fC (.int 2))) (gOr (gCmp .Eq (fVar 1) (fC (.int 0))) (gCmp .Lt (fIx (fVar 2) (fC (.int 0))) (fC (.int 1)))))
      (sSeq (sRet (fTup (fCons (fC (.str "work")) (fCons (fVar 5) (fNil)))))
        (sNil))
      (sNil))
    (sSeq (sPar3 6 7 8 (fCons (fIx (fLst (fCons (fC (.str "then")) (fCons (fC (.str "beside")) (fNil)))) (fBin .Mod (fVar 4) (fC (.int 2)))) (fCons (fIx (fLst (fCons (fC (.int 0)) (fCons (fC (.int 1)) (fCons (fC (.int 1)) (fCons (fC (.int 2)) (fCons (fC (.int 3)) (fCons (fCall cf "_law_draw" (fCons (fVar 0) (fCons (fC (.int 9)) (fNil)))) (fNil)))))))) (fCall cf "_law_draw" (fCons (fVar 0) (fCons (fC (.int 6)) (fNil))))) (fCons (fLst (fNil)) (fNil)))))
    (sSeq (sFor (iRng (fCons (fBin .Add (fC (.int 1)) (fCall cf "_law_draw" (fCons (fVar 0) (fCons (fC (.int 3)) (fNil))))) (fNil))) (gvName 3)
      (sSeq (sIf (gCmp .Gt (fIx (fVar 2) (fC (.int 0))) (fC (.int 0)))
          (sSeq (sExpr (fApp (fVar 8) (fCall cf "_law_plan" (fCons (fVar 0) (fCons (fBin .Sub (fVar 1) (fC (.int 1))) (fCons (fVar 2) (fNil)))))))
            (sNil))
          (sNil))
        (sNil)))
    (sSeq (sRet (fTup (fCons (fVar 6) (fCons (fVar 7) (fCons (fBlt bTuple (fCons (fVar 8) (fNil))) (fNil))))))
    (sNil))))))
theorem c__law_plan (cf : CallF) (cx : CallX) : compB (compS cf cx 60 (pg.sx d__law_plan) 30) (defBody d__law_plan.st) = some (b__law_plan cf) := by kernel_rfl
theorem r__law_plan (n : Nat) (ds : List D) (st : Sto) : callN pg (n + 1) "_law_plan" ds st = runB (b__law_plan (callN pg n)) d__law_plan ds st := callN_of (d := d__law_plan) rfl (c__law_plan _ _)
noncomputable def b__law_whole_plan (cf : CallF) : SemS :=
    sSeq (sAsg (fCall cf "_law_plan" (fCons (fVar 0) (fCons (fC (.int 3)) (fCons (fLst (fCons (fC (.int 12)) (fNil))) (fNil))))) (gvName 1))
    (sSeq (sRet (fIf (gOr (gCmp .NotEq (fIx (fVar 1) (fC (.int 0))) (fC (.str "work"))) (gCmp .Eq (fCall cf "_law_draw" (fCons (fVar 0) (fCons (fC (.int 4)) (fNil)))) (fC (.int 0)))) (fVar 1) (fTup (fCons (fC (.str "then")) (fCons (fC (.int 1)) (fCons (fTup (fCons (fVar 1) (fCons (fCall cf "_law_plan" (fCons (fVar 0) (fCons (fC (.int 2)) (fCons (fLst (fCons (fC (.int 10)) (fNil))) (fNil))))) (fNil)))) (fNil)))))))
    (sNil))
theorem c__law_whole_plan (cf : CallF) (cx : CallX) : compB (compS cf cx 60 (pg.sx d__law_whole_plan) 30) (defBody d__law_whole_plan.st) = some (b__law_whole_plan cf) := by kernel_rfl
theorem r__law_whole_plan (n : Nat) (ds : List D) (st : Sto) : callN pg (n + 1) "_law_whole_plan" ds st = runB (b__law_whole_plan (callN pg n)) d__law_whole_plan ds st := callN_of (d := d__law_whole_plan) rfl (c__law_whole_plan _ _)
noncomputable def b__law_spots (cf : CallF) : SemS :=
    sSeq (sPar2 1 2 (fCons (fDt1 (fTup (fNil)) (fVar 0)) (fCons (fLst (fCons (fTup (fNil)) (fNil))) (fNil))))
    (sSeq (sWhile (gCmp .NotEq (fVar 2) (fLst (fNil)))
      (sSeq (sAsg (fPop1 (fVar 2) (fC (.int 0))) (gvName 3))
        (sSeq (sFor (iEn (fIf (gCmp .NotEq (fIx (fIx (fVar 1) (fVar 3)) (fC (.int 0))) (fC (.str "work"))) (fIx (fIx (fVar 1) (fVar 3)) (fC (.int 2))) (fTup (fNil)))) (gvTup (gvCons (gvName 4) (gvCons (gvName 5) (gvNil))))
          (sSeq (sSub (fVar 1) (fBin .Add (fVar 3) (fTup (fCons (fVar 4) (fNil)))) (fVar 5))
            (sSeq (sExpr (fApp (fVar 2) (fBin .Add (fVar 3) (fTup (fCons (fVar 4) (fNil))))))
            (sNil))))
        (sNil))))
    (sSeq (sRet (fVar 1))
    (sNil)))
theorem c__law_spots (cf : CallF) (cx : CallX) : compB (compS cf cx 60 (pg.sx d__law_spots) 30) (defBody d__law_spots.st) = some (b__law_spots cf) := by kernel_rfl
theorem r__law_spots (n : Nat) (ds : List D) (st : Sto) : callN pg (n + 1) "_law_spots" ds st = runB (b__law_spots (callN pg n)) d__law_spots ds st := callN_of (d := d__law_spots) rfl (c__law_spots _ _)
noncomputable def b__law_needs (cf : CallF) : SemS :=
    sSeq (sAsg (fTup (fCons (fCall cf "_law_spots" (fCons (fVar 0) (fNil))) (fCons (fDn true) (fNil)))) (gvTup (gvCons (gvName 2) (gvCons (gvName 3) (gvNil)))))
    (sSeq (sFor (iPlain (fSrtK [("_law_needs", "_law_needs.<locals>.<lambda>")] (fVar 2))) (gvName 1)
      (sSeq (sAsg (fIx (fVar 2) (fVar 1)) (gvName 4))
        (sSeq (sIf (gCmp .Eq (fIx (fVar 4) (fC (.int 0))) (fC (.str "work")))
          (sSeq (sSub (fVar 3) (fVar 1) (fIx (fVar 4) (fC (.int 1))))
            (sNil))
          (sSeq (sAsg (fLc (iRng (fCons (fBlt bLen (fCons (fIx (fVar 4) (fC (.int 2))) (fNil))) (fNil))) (gvName 6) (gYes) (fBin .Add (fBin .Add (fIx (fVar 3) (fBin .Add (fVar 1) (fTup (fCons (fVar 6) (fNil))))) (fIx (fVar 4) (fC (.int 1)))) (fIx (fVar 4) (fC (.int 1)))) [6]) (gvName 5))
            (sSeq (sSub (fVar 3) (fVar 1) (fIf (gCmp .Eq (fIx (fVar 4) (fC (.int 0))) (fC (.str "then"))) (fBlt bSum (fCons (fVar 5) (fNil))) (fBlt bMaxP (fCons (fVar 5) (fNil)))))
            (sNil))))
        (sNil))))
    (sSeq (sRet (fVar 3))
    (sNil)))
theorem c__law_needs (cf : CallF) (cx : CallX) : compB (compS cf cx 60 (pg.sx d__law_needs) 30) (defBody d__law_needs.st) = some (b__law_needs cf) := by kernel_rfl
theorem r__law_needs (n : Nat) (ds : List D) (st : Sto) : callN pg (n + 1) "_law_needs" ds st = runB (b__law_needs (callN pg n)) d__law_needs ds st := callN_of (d := d__law_needs) rfl (c__law_needs _ _)
noncomputable def b__law_wide (cf : CallF) : SemS :=
    sSeq (sAsg (fBlt bTuple (fCons (fLc (iRng (fCons (fBin .Add (fC (.int 4)) (fCall cf "_law_draw" (fCons (fVar 0) (fCons (fC (.int 8)) (fNil))))) (fNil))) (gvName 2) (gYes) (fTup (fCons (fC (.str "work")) (fCons (fCall cf "_law_draw" (fCons (fVar 0) (fCons (fC (.int 9)) (fNil)))) (fNil)))) [2]) (fNil))) (gvName 1))
    (sSeq (sRet (fTup (fCons (fIx (fLst (fCons (fC (.str "then")) (fCons (fC (.str "beside")) (fNil)))) (fCall cf "_law_draw" (fCons (fVar 0) (fCons (fC (.int 2)) (fNil))))) (fCons (fCall cf "_law_draw" (fCons (fVar 0) (fCons (fC (.int 3)) (fNil)))) (fCons (fVar 1) (fNil))))))
    (sNil))
theorem c__law_wide (cf : CallF) (cx : CallX) : compB (compS cf cx 60 (pg.sx d__law_wide) 30) (defBody d__law_wide.st) = some (b__law_wide cf) := by kernel_rfl
theorem r__law_wide (n : Nat) (ds : List D) (st : Sto) : callN pg (n + 1) "_law_wide" ds st = runB (b__law_wide (callN pg n)) d__law_wide ds st := callN_of (d := d__law_wide) rfl (c__law_wide _ _)
noncomputable def b_law (cf : CallF) : SemS :=
    sSeq (sAsg (fCall cf "_law_feed" (fCons (fVar 0) (fNil))) (gvName 1))
    (sSeq (sFor (iRng (fCons (fC (.int 9)) (fNil))) (gvName 2)
      (sSeq (sAsg (fCall cf "_law_whole_plan" (fCons (fVar 1) (fNil))) (gvName 3))
        (sSeq (sIf (gCmp .Gt (fVar 2) (fC (.int 5)))
          (sSeq (sAsg (fCall cf "_law_wide" (fCons (fVar 1) (fNil))) (gvName 3))
            (sNil))
          (sNil))
        (sSeq (sAsg (fTup (fCons (fBlt bRepr (fCons (fVar 3) (fNil))) (fCons (fCall cf "_law_needs" (fCons (fVar 3) (fNil))) (fNil)))) (gvTup (gvCons (gvName 4) (gvCons (gvName 5) (gvNil)))))
        (sSeq (sIf (gOr (gCmp .NotEq (fBlt bRepr (fCons (fCall cf "need" (fCons (fVar 3) (fNil))) (fNil))) (fBlt bRepr (fCons (fIx (fVar 5) (fTup (fNil))) (fNil)))) (gCmp .NotEq (fBlt bRepr (fCons (fVar 3) (fNil))) (fVar 4)))
          (sSeq (sRet (fC (.bl false)))
            (sNil))
          (sNil))
        (sSeq (sIf (gCmp .NotEq (fBlt bRepr (fCons (fCall cf "needs" (fCons (fVar 3) (fNil))) (fNil))) (fBlt bRepr (fCons (fBlt bTuple (fCons (fLc (iPlain (fBlt bSorted (fCons (fVar 5) (fNil)))) (gvName 6) (gYes) (fTup (fCons (fVar 6) (fCons (fIx (fVar 5) (fVar 6)) (fNil)))) [6]) (fNil))) (fNil))))
          (sSeq (sRet (fC (.bl false)))
            (sNil))
          (sNil))
        (sNil)))))))
    (sSeq (sRet (fC (.bl true)))
    (sNil)))
theorem c_law (cf : CallF) (cx : CallX) : compB (compS cf cx 60 (pg.sx d_law) 30) (defBody d_law.st) = some (b_law cf) := by kernel_rfl
theorem r_law (n : Nat) (ds : List D) (st : Sto) : callN pg (n + 1) "law" ds st = runB (b_law (callN pg n)) d_law ds st := callN_of (d := d_law) rfl (c_law _ _)
end K21

namespace Sim
open PySem
/-! ### the feed of a law, a dict of four -/
def fdD (g : Nat) (a l k : Int) : O := .dct [(.inr "cells", .ref g), (.inr "at", .int a), (.inr "left", .int l), (.inr "turn", .int k)]
structure FeedD (st : Sto) (f g : Nat) (ns : List Int) (t : Nat) : Prop where
  ex : ∃ a l k : Int, st[f]? = some (fdD g a l k) ∧ st[g]? = some (.lst (ns.map .int)) ∧ 0 ≤ a ∧ 0 ≤ k ∧ k ≤ t
theorem FeedD.app {st : Sto} {f g : Nat} {ns : List Int} {t : Nat} {o : O} (h : FeedD st f g ns t) : FeedD (st ++ [o]) f g ns t := by
  obtain ⟨i, c, k, h1, h2, h3⟩ := h.ex
  exact ⟨i, c, k, get_app h1, get_app h2, h3⟩
theorem FeedD.set {st : Sto} {f g n : Nat} {ns : List Int} {t : Nat} {o : O} (h : FeedD st f g ns t) (hf : n ≠ f) (hg : n ≠ g) : FeedD (st.set n o) f g ns t := by
  obtain ⟨i, c, k, h1, h2, h3⟩ := h.ex
  exact ⟨i, c, k, by rw [List.getElem?_set_ne hf]; exact h1, by rw [List.getElem?_set_ne hg]; exact h2, h3⟩
theorem FeedD.mono {st : Sto} {f g : Nat} {ns : List Int} {t u : Nat} (h : FeedD st f g ns t) (k : t ≤ u) : FeedD st f g ns u := by
  obtain ⟨i, c, k', h1, h2, h3, h4, h5⟩ := h.ex
  exact ⟨i, c, k', h1, h2, h3, h4, by omega⟩
theorem FeedD.lt {st : Sto} {f g : Nat} {ns : List Int} {t : Nat} (h : FeedD st f g ns t) : f < st.length := by
  obtain ⟨i, c, k, h1, _⟩ := h.ex
  exact (List.getElem?_eq_some_iff.mp h1).1
theorem FeedD.ltg {st : Sto} {f g : Nat} {ns : List Int} {t : Nat} (h : FeedD st f g ns t) : g < st.length := by
  obtain ⟨i, c, k, _, h1, _⟩ := h.ex
  exact (List.getElem?_eq_some_iff.mp h1).1
section
variable {st : Sto} {f g : Nat} {a l k : Int}
theorem ix_dct {kvs : List (L2.Key × D)} {s : Str} {d : D} (h : st[f]? = some (.dct kvs)) (hg : getK kvs (.inr s) = some d) : ix (.ref f) (.str s) st = some d := by
  have e1 : ixS (.ref f) (.str s) st = none := rfl
  unfold ix
  rw [e1]
  show dgetD _ _ _ = _
  unfold dgetD dlook
  simp only [h]
  show ((some (Sum.inr s : L2.Key)).map fun k => getK kvs k).bind (fun r => r) = _
  exact hg
theorem set_dct {kvs kvs' : List (L2.Key × D)} {s : Str} {d : D} (h : st[f]? = some (.dct kvs)) (hp : putD kvs (.inr s) d = kvs') (hl : kvs.length < 100000) : setI (.ref f) (.str s) d st = some (st.set f (.dct kvs')) := by
  have e1 : setL (.ref f) (.str s) d st = none := rfl
  have hl2 : kvs.length < most := hl
  unfold setI
  rw [e1]
  show setD _ _ _ _ = _
  unfold setD
  simp only [h]
  show (some (Sum.inr s : L2.Key)).bind _ = _
  show (if kvs.length < most then some (st.set f (.dct (putD kvs (.inr s) d))) else none) = _
  rw [if_pos hl2, hp]
theorem fd_at (h : st[f]? = some (fdD g a l k)) : ix (.ref f) (.str "at") st = some (.int a) := ix_dct h (by kernel_rfl)
theorem fd_left (h : st[f]? = some (fdD g a l k)) : ix (.ref f) (.str "left") st = some (.int l) := ix_dct h (by kernel_rfl)
theorem fd_turn (h : st[f]? = some (fdD g a l k)) : ix (.ref f) (.str "turn") st = some (.int k) := ix_dct h (by kernel_rfl)
theorem fd_cells (h : st[f]? = some (fdD g a l k)) : ix (.ref f) (.str "cells") st = some (.ref g) := ix_dct h (by kernel_rfl)
theorem fd_sat (h : st[f]? = some (fdD g a l k)) {x : Int} : setI (.ref f) (.str "at") (.int x) st = some (st.set f (fdD g x l k)) := set_dct h (by kernel_rfl) (show (4 : Nat) < 100000 by decide)
theorem fd_sleft (h : st[f]? = some (fdD g a l k)) {x : Int} : setI (.ref f) (.str "left") (.int x) st = some (st.set f (fdD g a x k)) := set_dct h (by kernel_rfl) (show (4 : Nat) < 100000 by decide)
theorem fd_sturn (h : st[f]? = some (fdD g a l k)) {x : Int} : setI (.ref f) (.str "turn") (.int x) st = some (st.set f (fdD g a l x)) := set_dct h (by kernel_rfl) (show (4 : Nat) < 100000 by decide)
end
theorem Ne_nil {st : Sto} {g : Nat} {ns : List Int} (h : st[g]? = some (.lst (ns.map .int))) : cmpop .NotEq (.ref g) (.ref st.length) (st ++ [.lst []]) = some (!ns.isEmpty) := by
  show (cmpop .Eq (.ref g) (.ref st.length) (st ++ [.lst []])).map (fun b => !b) = _
  rw [eq_nil h]; rfl
noncomputable def drawT (M1 c1 M2 k1 M3 d0 : Int) : SemS :=
    (sSeq (sAsg (fBin .Mod (fBin .Pow (fBin .Add (fBin .Add (fBin .Mod (fVar 2) (fC (.int M1))) (fBin .Mult (fBin .Mult (fC (.int 3)) (fVar 6)) (fVar 6))) (fC (.int c1))) (fC (.int 5))) (fC (.int M2))) (gvName 3))
    (sSeq (sRet (fBin .Mod (fBin .FloorDiv (fBin .Mod (fBin .Pow (fBin .Add (fVar 3) (fBin .Mult (fC (.int k1)) (fVar 6))) (fC (.int 5))) (fC (.int M3))) (fC (.int d0))) (fVar 1)))
    (sNil)))
noncomputable def cellE (df : Int) : SemE := (fIf (gCmp .NotEq (fVar 7) (fLst (fNil))) (fIx (fVar 7) (fBin .Mod (fVar 5) (fBlt bLen (fCons (fVar 7) (fNil))))) (fC (.int df)))
noncomputable def drawD (df M1 c1 M2 k1 M3 d0 : Int) : SemS :=
    sSeq (sSub (fVar 0) (fC (.str "turn")) (fBin .Add (fIx (fVar 0) (fC (.str "turn"))) (fC (.int 1))))
    (sSeq (sIf (gCmp .Gt (fIx (fVar 0) (fC (.str "left"))) (fC (.int 0)))
      (sSeq (sAsg (fBin .Mod (fIx (fVar 0) (fC (.str "left"))) (fVar 1)) (gvName 4))
        (sSeq (sSub (fVar 0) (fC (.str "left")) (fBin .FloorDiv (fIx (fVar 0) (fC (.str "left"))) (fVar 1)))
        (sSeq (sRet (fVar 4))
        (sNil))))
      (sNil))
    (sSeq (sPar3 5 6 7 (fCons (fIx (fVar 0) (fC (.str "at"))) (fCons (fIx (fVar 0) (fC (.str "turn"))) (fCons (fIx (fVar 0) (fC (.str "cells"))) (fNil)))))
    (sSeq (sSub (fVar 0) (fC (.str "at")) (fBin .Add (fVar 5) (fC (.int 1))))
    (sSeq (sAsg (cellE df) (gvName 2))
    (sSeq (sIf (gAnd (gCmp .GtE (fVar 2) (fBin .Pow (fC (.int 10)) (fC (.int 18)))) (gCmp .Lt (fVar 5) (fBlt bLen (fCons (fVar 7) (fNil)))))
      (sSeq (sSub (fVar 0) (fC (.str "left")) (fBin .FloorDiv (fVar 2) (fVar 1)))
        (sSeq (sRet (fBin .Mod (fVar 2) (fVar 1)))
        (sNil)))
      (sNil))
    (drawT M1 c1 M2 k1 M3 d0))))))
/-- the numbers of a law's draw -/
structure DrawC (M1 c1 M2 k1 M3 d0 : Int) : Prop where
  m1 : 0 < M1 ∧ M1 < 2 ^ 33
  c : 0 ≤ c1 ∧ c1 < 2 ^ 33
  m2 : 0 < M2 ∧ M2 < 2 ^ 33
  k : 0 ≤ k1 ∧ k1 < 2 ^ 33
  m3 : 0 < M3 ∧ M3 < 2 ^ 33
  d : 0 < d0 ∧ d0 < 2 ^ 33
theorem pow5 {st : Sto} {u : Int} (h0 : 0 ≤ u) (h1 : u < 2 ^ 60) : binop .Pow (.int u) (.int 5) st = some (.int (u ^ 5), st) := by
  show (gPow u 5).map _ = _
  unfold gPow
  rw [if_pos ⟨by decide, by decide, by omega⟩]; rfl
theorem mul_le_of {a b A B : Int} (h0 : 0 ≤ a) (h1 : 0 ≤ b) (ha : a ≤ A) (hb : b ≤ B) : 0 ≤ a * b ∧ a * b ≤ A * B :=
  ⟨Int.mul_nonneg h0 h1, Int.mul_le_mul ha hb h1 (Int.le_trans h0 ha)⟩
theorem drawT_run {M1 c1 M2 k1 M3 d0 : Int} (C : DrawC M1 c1 M2 k1 M3 d0) {st : Sto} {x m turn cell at' : Int} {f g : Nat} {x3 x4 : Option D} (hm : 0 < m) (hM : m < 2 ^ 60) (h0 : 0 ≤ turn) (h1 : turn < 2 ^ 15) :
    ∃ r : Int, 0 ≤ r ∧ r < m ∧ drawT M1 c1 M2 k1 M3 d0 [some (.ref f), some (.int m), some (.int cell), x3, x4, some (.int at'), some (.int turn), some (.ref g)] st = some (.rt (.int r), st) := by
  have b1 := em_lt (a := cell) C.m1.1
  have t1 := mul_le_of (a := 3) (b := turn) (A := 3) (B := 2 ^ 15) (by decide) h0 (by decide) (by omega)
  have t2 := mul_le_of (a := 3 * turn) (b := turn) (A := 3 * 2 ^ 15) (B := 2 ^ 15) (by omega) h0 (by omega) (by omega)
  have q1 : ∀ st : Sto, binop .Mult (.int 3) (.int turn) st = some (.int (3 * turn), st) := fun st => mul_small (by omega) h0 (by omega) (by omega)
  have q2 : ∀ st : Sto, binop .Mult (.int (3 * turn)) (.int turn) st = some (.int (3 * turn * turn), st) := fun st => mul_small (by omega) h0 (by omega) (by omega)
  have q3 : ∀ st : Sto, binop .Mult (.int k1) (.int turn) st = some (.int (k1 * turn), st) := fun st => mul_small C.k.1 h0 (by have := C.k.2; omega) (by omega)
  have t3 := mul_le_of (a := k1) (b := turn) (A := 2 ^ 33) (B := 2 ^ 15) C.k.1 h0 (by have := C.k.2; omega) (by omega)
  have w1 := C.m1.2; have w2 := C.c; have w3 := C.m2.2
  generalize hs : cell % M1 = s1 at *
  generalize hp : 3 * turn * turn = p1 at *
  generalize hk : k1 * turn = p2 at *
  have e1 : ∀ st : Sto, binop .Pow (.int (s1 + p1 + c1)) (.int 5) st = some (.int ((s1 + p1 + c1) ^ 5), st) := fun st => pow5 (by omega) (by omega)
  generalize (s1 + p1 + c1) ^ 5 = u at *
  have b2 := em_lt (a := u) C.m2.1
  generalize hu : u % M2 = v at *
  have e2 : ∀ st : Sto, binop .Pow (.int (v + p2)) (.int 5) st = some (.int ((v + p2) ^ 5), st) := fun st => pow5 (by omega) (by omega)
  generalize (v + p2) ^ 5 = z at *
  have m1 : ∀ (a : Int) (st : Sto), binop .Mod (.int a) (.int M1) st = some (.int (a % M1), st) := fun a st => mod_int C.m1.1
  have m2 : ∀ (a : Int) (st : Sto), binop .Mod (.int a) (.int M2) st = some (.int (a % M2), st) := fun a st => mod_int C.m2.1
  have m3 : ∀ (a : Int) (st : Sto), binop .Mod (.int a) (.int M3) st = some (.int (a % M3), st) := fun a st => mod_int C.m3.1
  have m4 : ∀ (a : Int) (st : Sto), binop .Mod (.int a) (.int m) st = some (.int (a % m), st) := fun a st => mod_int hm
  have d1 : ∀ (a : Int) (st : Sto), binop .FloorDiv (.int a) (.int d0) st = some (.int (a / d0), st) := fun a st => div_small C.d.1 (by have := C.d.2; omega)
  refine ⟨z % M3 / d0 % m, (em_lt hm).1, (em_lt hm).2, ?_⟩
  simp [drawT, q1, q2, q3, hp, hk, hs, hu, m1, m2, m3, m4, d1, e1, e2]
theorem drawD_run {df M1 c1 M2 k1 M3 d0 : Int} (C : DrawC M1 c1 M2 k1 M3 d0) {st : Sto} {f g : Nat} {ns : List Int} {t : Nat} {dd : Def} (h : FeedD st f g ns t) (hfg : f ≠ g) {m : Int} (hm : 0 < m) (hM : m < 2 ^ 60) (ht : t + 1 < 2 ^ 15) (hp : dd.ps.length = 2) (hN : dd.N.length = 8) :
    ∃ (r : Int) (st' : Sto), runB (drawD df M1 c1 M2 k1 M3 d0) dd [.ref f, .int m] st = some (.int r, st') ∧ 0 ≤ r ∧ r < m ∧ FeedD st' f g ns (t + 1) ∧ Keep f st st' := by
  obtain ⟨at', l, k, h1, h2, hi, hk, hkt⟩ := h.ex
  rw [runB_ev (by rw [hp]; rfl), hN]
  show ∃ (r : Int) (st' : Sto), (Option.bind (drawD df M1 c1 M2 k1 M3 d0 [some (.ref f), some (.int m), none, none, none, none, none, none] st) _) = _ ∧ _
  have K1 : Keep f st (st.set f (fdD g at' l (k + 1))) := Keep.set
  have s1 : (st.set f (fdD g at' l (k + 1)))[f]? = some (fdD g at' l (k + 1)) := set_self h1
  have s2 : (st.set f (fdD g at' l (k + 1)))[g]? = some (.lst (ns.map .int)) := K1 _ _ (Ne.symm hfg) h2
  have a1 := fd_turn h1
  have a2 := fd_sturn h1 (x := k + 1)
  generalize st.set f (fdD g at' l (k + 1)) = sa at *
  have m4 : ∀ (a : Int) (st : Sto), binop .Mod (.int a) (.int m) st = some (.int (a % m), st) := fun a st => mod_int hm
  have d4 : ∀ (a : Int) (st : Sto), binop .FloorDiv (.int a) (.int m) st = some (.int (a / m), st) := fun a st => div_small hm (by omega)
  unfold drawD
  by_cases hc : 0 < l
  · refine ⟨l % m, sa.set f (fdD g at' (l / m) (k + 1)), ?_, (em_lt hm).1, (em_lt hm).2, ⟨at', l / m, k + 1, set_self s1, by rw [List.getElem?_set_ne hfg]; exact s2, hi, by omega, by omega⟩, K1.trans Keep.set⟩
    simp [a1, a2, fd_left s1, hc, m4, d4, fd_sleft s1]
  have K2 : Keep f st (sa.set f (fdD g (at' + 1) l (k + 1))) := K1.trans Keep.set
  have t1 : (sa.set f (fdD g (at' + 1) l (k + 1)))[f]? = some (fdD g (at' + 1) l (k + 1)) := set_self s1
  have t2 : (sa.set f (fdD g (at' + 1) l (k + 1)))[g]? = some (.lst (ns.map .int)) := K2 _ _ (Ne.symm hfg) h2
  have a3 := fd_sat s1 (x := at' + 1)
  generalize sa.set f (fdD g (at' + 1) l (k + 1)) = sb at *
  have K3 : Keep f st (sb ++ [O.lst []]) := K2.trans Keep.app
  have u1 : (sb ++ [O.lst []])[f]? = some (fdD g (at' + 1) l (k + 1)) := get_app t1
  have u2 : (sb ++ [O.lst []])[g]? = some (.lst (ns.map .int)) := get_app t2
  have en := Ne_nil t2
  have cell : ∃ x : Int, cellE df [some (.ref f), some (.int m), none, none, none, some (.int at'), some (.int (k + 1)), some (.ref g)] sb = some (.int x, sb ++ [O.lst []]) := by
    unfold cellE
    cases ns with
    | nil =>
      refine ⟨df, ?_⟩
      simp at en ⊢
      simp [alloc, en]
    | cons n r =>
      have hl : 0 < (((n :: r).length : Nat) : Int) := by simp only [List.length_cons]; omega
      have q1 := em_lt (a := at') hl
      have q2 : (at' % (((n :: r).length : Nat) : Int)).toNat < (n :: r).length := by omega
      obtain ⟨x, hx⟩ : ∃ x, (n :: r)[(at' % (((n :: r).length : Nat) : Int)).toNat]? = some x := ⟨_, List.getElem?_eq_getElem q2⟩
      refine ⟨x, ?_⟩
      have q3 : ((n :: r).map D.int)[(at' % (((n :: r).length : Nat) : Int)).toNat]? = some (.int x) := by rw [List.getElem?_map, hx]; rfl
      have q4 := ix_ref u2 q3
      rw [Int.toNat_of_nonneg q1.1] at q4
      have q5 : bLen [.ref g] (sb ++ [O.lst []]) = some (.int (((n :: r).length : Nat) : Int), sb ++ [O.lst []]) := by
        have := len_ref u2
        rwa [List.length_map] at this
      have q6 : binop .Mod (.int at') (.int (((n :: r).length : Nat) : Int)) (sb ++ [O.lst []]) = some (.int (at' % (((n :: r).length : Nat) : Int)), sb ++ [O.lst []]) := mod_int hl
      generalize (((n :: r).length : Nat) : Int) = L at *
      simp only [fIf_ev, gCmp_ev, fIx_ev, fVar_ev, fC_ev, fLst_ev, fNil_ev, fBin_ev, fBlt_ev, fCons_ev, List.getElem?_cons_zero, List.getElem?_cons_succ, Option.bind_some, Option.map_some, alloc, List.length_nil, Nat.zero_le, if_true, en, q4, q5, q6, List.isEmpty_cons, Bool.not_false]
  generalize cellE df = E at cell ⊢
  obtain ⟨x, hx⟩ := cell
  have q5 := len_ref u2
  generalize sb ++ [O.lst []] = sc at *
  by_cases hb : 1000000000000000000 ≤ x ∧ at' < (((ns.map D.int).length : Nat) : Int)
  · refine ⟨x % m, sc.set f (fdD g (at' + 1) (x / m) (k + 1)), ?_, (em_lt hm).1, (em_lt hm).2, ⟨at' + 1, x / m, k + 1, set_self u1, by rw [List.getElem?_set_ne hfg]; exact u2, by omega, by omega, by omega⟩, K3.trans Keep.set⟩
    obtain ⟨hb1, hb2⟩ := hb
    generalize (((ns.map D.int).length : Nat) : Int) = L at *
    simp [a1, a2, a3, fd_left s1, fd_at s1, fd_turn s1, fd_cells s1, hc, hx, m4, d4, fd_sleft u1, q5, hb1, hb2]
  · obtain ⟨r, r0, r1, hr⟩ := drawT_run C (x := x) (cell := x) (at' := at') (f := f) (g := g) (x3 := none) (x4 := none) (st := sc) hm hM (turn := k + 1) (by omega) (by omega)
    refine ⟨r, sc, ?_, r0, r1, ⟨at' + 1, l, k + 1, u1, u2, by omega, by omega, by omega⟩, K3⟩
    generalize drawT M1 c1 M2 k1 M3 d0 = TT at *
    generalize (((ns.map D.int).length : Nat) : Int) = L at *
    by_cases hb1 : 1000000000000000000 ≤ x
    · have hb2 : ¬ (at' < L) := fun q => hb ⟨hb1, q⟩
      simp [a1, a2, a3, fd_left s1, fd_at s1, fd_turn s1, fd_cells s1, hc, hx, q5, hb1, hb2, hr]
    · simp [a1, a2, a3, fd_left s1, fd_at s1, fd_turn s1, fd_cells s1, hc, hx, q5, hb1, hr]
/-- what a draw promises -/
def DrawDk (cf : CallF) : Prop := ∀ {st : Sto} {f g : Nat} {ns : List Int} {t : Nat}, FeedD st f g ns t → f ≠ g → ∀ {m : Int}, 0 < m → m < 2 ^ 60 → t + 1 < 2 ^ 15 →
  ∃ (r : Nat) (st' : Sto), cf "_law_draw" [.ref f, .int m] st = some (.int (r : Nat), st') ∧ (r : Int) < m ∧ FeedD st' f g ns (t + 1) ∧ Keep f st st'
end Sim

namespace Sim
open PySem
/-! ### drawn trees -/
theorem drawDk_of {P : Pg} {dd : Def} {df M1 c1 M2 k1 M3 d0 : Int} (C : DrawC M1 c1 M2 k1 M3 d0) {n : Nat} (hr : ∀ n ds st, callN P (n + 1) "_law_draw" ds st = runB (drawD df M1 c1 M2 k1 M3 d0) dd ds st) (hp : dd.ps.length = 2) (hN : dd.N.length = 8) : DrawDk (callN P (n + 1)) := by
  intro st f g ns t h hfg m hm hM ht
  obtain ⟨r, st', h1, h2, h3, h4, h5⟩ := drawD_run (df := df) C (dd := dd) h hfg hm hM ht hp hN
  have e : r = ((r.toNat : Nat) : Int) := by omega
  refine ⟨r.toNat, st', ?_, by omega, h4, h5⟩
  rw [hr, ← e]
  exact h1
theorem pickD {cf : CallF} (hd : DrawDk cf) {A : SemA} {η : LocD} {st s : Sto} {f g : Nat} {ns : List Int} {t : Nat} {xs : List D} {m : Int} {Q : D → Prop} (hA : A η st = some (xs, s)) (F : FeedD s f g ns t) (fg : f ≠ g) (h0 : η[0]? = some (some (.ref f)))
    (hm : m = (xs.length : Nat)) (hl : 0 < xs.length ∧ xs.length ≤ 1000) (hQ : ∀ x ∈ xs, Q x) (ht : t + 1 < 2 ^ 15) :
    ∃ (y : D) (s' : Sto), (fIx (fLst A) (fCall cf "_law_draw" (fCons (fVar 0) (fCons (fC (.int m)) (fNil))))) η st = some (y, s') ∧ Q y ∧ FeedD s' f g ns (t + 1) ∧ Keep f s s' := by
  obtain ⟨r, s1, d1, l1, F1, K1⟩ := hd (F.app (o := .lst xs)) fg (m := m) (by omega) (by omega) ht
  have hf : s.length ≠ f := fun q => by have := F.lt; omega
  have g1 := K1 _ _ hf (get_new (st := s) (o := .lst xs))
  obtain ⟨y, hy⟩ : ∃ y, xs[r]? = some y := ⟨_, List.getElem?_eq_getElem (by omega)⟩
  have e1 : xs.length ≤ 100000 := by omega
  refine ⟨y, s1, ?_, hQ y (List.mem_of_getElem? hy), F1, Keep.trans Keep.app K1⟩
  simp [hA, alloc, e1, h0, d1, ix_ref g1 hy]
/-- a tree of so many places deep at most, at most three parts each -/
inductive TreeN : Nat → D → Prop
  | work {d : Nat} (b : Nat) : b ≤ 1000000 → TreeN d (.tup [.str "work", .int (b : Nat)])
  | node {d : Nat} (w : Bool) (t : Nat) (ps : List D) : t ≤ 8 → ps ≠ [] → ps.length ≤ 3 → (∀ p ∈ ps, TreeN d p) → TreeN (d + 1) (.tup [.str (if w = true then "then" else "beside"), .int (t : Nat), .tup ps])
noncomputable def planL (cf : CallF) : SemS :=
      (sSeq (sIf (gCmp .Gt (fIx (fVar 2) (fC (.int 0))) (fC (.int 0)))
          (sSeq (sExpr (fApp (fVar 8) (fCall cf "_law_plan" (fCons (fVar 0) (fCons (fBin .Sub (fVar 1) (fC (.int 1))) (fCons (fVar 2) (fNil)))))))
            (sNil))
          (sNil))
        (sNil))
noncomputable def planA (cf : CallF) : SemA := (fCons (fC (.int 0)) (fCons (fC (.int 1)) (fCons (fC (.int 2)) (fCons (fC (.int 5)) (fCons (fC (.int 7)) (fCons (fCall cf "_law_draw" (fCons (fVar 0) (fCons (fC (.int 30)) (fNil)))) (fCons (fBin .Pow (fC (.int 10)) (fC (.int 6))) (fNil))))))))
noncomputable def planT (cf : CallF) : SemA := (fCons (fC (.int 0)) (fCons (fC (.int 1)) (fCons (fC (.int 1)) (fCons (fC (.int 2)) (fCons (fC (.int 3)) (fCons (fCall cf "_law_draw" (fCons (fVar 0) (fCons (fC (.int 9)) (fNil)))) (fNil)))))))
noncomputable def planF (cf : CallF) : SemS :=
    sSeq (sPar2 4 5 (fCons (fCall cf "_law_draw" (fCons (fVar 0) (fCons (fC (.int 5)) (fNil)))) (fCons (fIx (fLst (planA cf)) (fCall cf "_law_draw" (fCons (fVar 0) (fCons (fC (.int 7)) (fNil))))) (fNil))))
    (sSeq (sSub (fVar 2) (fC (.int 0)) (fBin .Sub (fIx (fVar 2) (fC (.int 0))) (fC (.int 1))))
    (sSeq (sIf (gOr (gCmp .Lt (fVar 4) (fC (.int 2))) (gOr (gCmp .Eq (fVar 1) (fC (.int 0))) (gCmp .Lt (fIx (fVar 2) (fC (.int 0))) (fC (.int 1)))))
      (sSeq (sRet (fTup (fCons (fC (.str "work")) (fCons (fVar 5) (fNil)))))
        (sNil))
      (sNil))
    (sSeq (sPar3 6 7 8 (fCons (fIx (fLst (fCons (fC (.str "then")) (fCons (fC (.str "beside")) (fNil)))) (fBin .Mod (fVar 4) (fC (.int 2)))) (fCons (fIx (fLst (planT cf)) (fCall cf "_law_draw" (fCons (fVar 0) (fCons (fC (.int 6)) (fNil))))) (fCons (fLst (fNil)) (fNil)))))
    (sSeq (sFor (iRng (fCons (fBin .Add (fC (.int 1)) (fCall cf "_law_draw" (fCons (fVar 0) (fCons (fC (.int 3)) (fNil))))) (fNil))) (gvName 3) (planL cf))
    (sSeq (sRet (fTup (fCons (fVar 6) (fCons (fVar 7) (fCons (fBlt bTuple (fCons (fVar 8) (fNil))) (fNil))))))
    (sNil))))))
structure PlanR (f g : Nat) (ns : List Int) (R t r : Nat) (deep : Nat) (st : Sto) (y : D) (st' : Sto) (t' r' : Nat) : Prop where
  F : FeedD st' f g ns t'
  rm : st'[R]? = some (.lst [.int (r' : Nat)])
  lr : r' < r
  lt : t' + 6 * r' ≤ t + 6 * r
  T : TreeN deep y
  th : ∀ M s, Th 700 M s (2 * deep + 2) y (90 * (r - r') - 2)
  K : KeepM [f, R] st st'
def PlanOk (cf : CallF) (deep : Nat) : Prop := ∀ (st : Sto) (f g : Nat) (ns : List Int) (t R r : Nat), FeedD st f g ns t → f ≠ g → R ≠ f → R ≠ g → st[R]? = some (.lst [.int (r : Nat)]) → 1 ≤ r → r ≤ 100 → t + 6 * r < 30000 →
  ∃ (y : D) (st' : Sto) (t' r' : Nat), cf "_law_plan" [.ref f, .int (deep : Nat), .ref R] st = some (y, st') ∧ PlanR f g ns R t r deep st y st' t' r'
theorem room_ix {st : Sto} {R : Nat} {x : Int} (h : st[R]? = some (.lst [.int x])) : ix (.ref R) (.int 0) st = some (.int x) := by
  have := ix_ref (j := 0) h (d := .int x) rfl
  exact this
theorem room_set {st : Sto} {R : Nat} {x y : Int} (h : st[R]? = some (.lst [.int x])) : setI (.ref R) (.int 0) (.int y) st = some (st.set R (.lst [.int y])) := by
  refine set_of ?_
  unfold setL; simp only [h]; rfl
theorem work_th {M : List Nat} {s : Sto} {k b w : Nat} (h : b ≤ 1000000) (hw : 88 ≤ w) : Th 700 M s (2 * k + 2) (.tup [.str "work", .int (b : Nat)]) w := by
  have i : Th 700 M s (2 * k + 1) (.int (b : Nat)) 21 := Th.int (a := 20) (by omega) (by decide) (by decide)
  exact (Ths.cons (Th.str (n := 2 * k) (s := "work") (by decide +kernel)) (Ths.cons i Ths.nil)).tup.up (by show 10 * 4 + 2 + 2 + (21 + 2 + 0) + 3 ≤ w; omega)
theorem node_th {M : List Nat} {s : Sto} {k b w v : Nat} {c : Bool} {ps : List D} (h : b ≤ 8) (hp : Ths 700 M s (2 * k + 2) ps v) (hw : v + 86 ≤ w) : Th 700 M s (2 * (k + 1) + 2) (.tup [.str (if c = true then "then" else "beside"), .int (b : Nat), .tup ps]) w := by
  have i : Th 700 M s (2 * k + 3) (.int (b : Nat)) 5 := Th.int (a := 4) (by omega) (by decide) (by decide)
  have q : Th 700 M s (2 * k + 3) (.str (if c = true then "then" else "beside")) 62 := by
    cases c
    · exact (Th.str (n := 2 * k + 2) (s := "beside") (by decide +kernel)).up (by decide)
    · exact (Th.str (n := 2 * k + 2) (s := "then") (by decide +kernel)).up (by decide)
  exact (Ths.cons q (Ths.cons i (Ths.cons hp.tup Ths.nil))).tup.up (by omega)
section
variable {cf : CallF} {st : Sto} {f g : Nat} {ns : List Int} {t R r : Nat}
/-- the head of a plan: the way, the bound, the room less -/
theorem plan_head (hd : DrawDk cf) (F : FeedD st f g ns t) (fg : f ≠ g) (Rf : R ≠ f) (Rg : R ≠ g) (hR : st[R]? = some (.lst [.int (r : Nat)])) (ht : t + 4 < 2 ^ 15) {deep : D} :
    ∃ (w b : Nat) (s1 s2 s3 : Sto), w < 5 ∧ b ≤ 1000000 ∧ cf "_law_draw" [.ref f, .int 5] st = some (.int (w : Nat), s1) ∧ (fIx (fLst (planA cf)) (fCall cf "_law_draw" (fCons (fVar 0) (fCons (fC (.int 7)) (fNil))))) [some (.ref f), some deep, some (.ref R), none, none, none, none, none, none] s1 = some (.int (b : Nat), s2) ∧
      s2[R]? = some (.lst [.int (r : Nat)]) ∧ s3 = s2.set R (.lst [.int ((r : Int) - 1)]) ∧ FeedD s3 f g ns (t + 3) ∧ KeepM [f, R] st s3 ∧ s3[R]? = some (.lst [.int ((r : Int) - 1)]) := by
  obtain ⟨w, s1, d1, l1, F1, K1⟩ := hd F fg (m := 5) (by decide) (by decide) (by omega)
  obtain ⟨q, s1', d2, l2, F1', K1'⟩ := hd F1 fg (m := 30) (by decide) (by decide) (by omega)
  have A1 : planA cf [some (.ref f), some deep, some (.ref R), none, none, none, none, none, none] s1 = some ([.int ((0 : Nat) : Int), .int ((1 : Nat) : Int), .int ((2 : Nat) : Int), .int ((5 : Nat) : Int), .int ((7 : Nat) : Int), .int (q : Nat), .int ((1000000 : Nat) : Int)], s1') := by
    have p : ∀ s : Sto, binop .Pow (.int 10) (.int 6) s = some (.int 1000000, s) := fun s => rfl
    simp [planA, d2, p]
  obtain ⟨y, s2, e2, ⟨b, rfl, hb⟩, F2, K2⟩ := pickD hd A1 F1' fg (m := 7) rfl rfl ⟨by simp, by simp⟩ (Q := fun x => ∃ b : Nat, x = .int (b : Nat) ∧ b ≤ 1000000)
    (by
      intro x hx
      simp only [List.mem_cons, List.not_mem_nil, or_false] at hx
      rcases hx with rfl | rfl | rfl | rfl | rfl | rfl | rfl
      · exact ⟨0, rfl, by decide⟩
      · exact ⟨1, rfl, by decide⟩
      · exact ⟨2, rfl, by decide⟩
      · exact ⟨5, rfl, by decide⟩
      · exact ⟨7, rfl, by decide⟩
      · exact ⟨q, rfl, by omega⟩
      · exact ⟨1000000, rfl, by decide⟩) (by omega)
  have hR2 := K2 _ _ Rf (K1' _ _ Rf (K1 _ _ Rf hR))
  refine ⟨w, b, s1, s2, _, by omega, hb, d1, e2, hR2, rfl, (F2.set Rf Rg).mono (by omega), ?_, set_self hR2⟩
  exact (((K1.trans K1').trans K2).toM (by simp)).trans (KeepM.set (by simp))
end
end Sim

namespace Sim
open PySem
structure PInv (f g : Nat) (ns : List Int) (R P t r d j : Nat) (st0 : Sto) (s : Sto) : Prop where
  ex : ∃ (t' r' v : Nat) (ps : List D), FeedD s f g ns t' ∧ s[R]? = some (.lst [.int (r' : Nat)]) ∧ s[P]? = some (.lst ps) ∧ ps.length ≤ j ∧ (j = 0 → r' = r) ∧ (j ≠ 0 → ps ≠ []) ∧ r' ≤ r ∧ t' + 6 * r' ≤ t + 6 * r ∧
    (∀ p ∈ ps, TreeN d p) ∧ (∀ M s, Ths 700 M s (2 * d + 2) ps (90 * (r - r'))) ∧ KeepM [f, R] st0 s
theorem plan_ok {P : Pg} {dd : Def} (hr : ∀ n ds st, callN P (n + 1) "_law_plan" ds st = runB (planF (callN P n)) dd ds st) (hp : dd.ps.length = 3) (hN : dd.N.length = 9) (hd : ∀ n, DrawDk (callN P (n + 1))) :
    ∀ (deep n : Nat), deep ≤ n → PlanOk (callN P (n + 2)) deep := by
  intro deep
  induction deep with
  | zero =>
    intro n hn st f g ns t R r F fg Rf Rg hR h1 h100 ht
    rw [hr (n + 1), runB_ev (by rw [hp]; rfl), hN]
    obtain ⟨w, b, s1, s2, s3, lw, lb, e1, e2, hR2, e3, F3, K3, hR3⟩ := plan_head (hd n) F fg Rf Rg hR (by omega) (deep := .int ((0 : Nat) : Int))
    have sb := room_set (y := (r : Int) - 1) hR2
    refine ⟨.tup [.str "work", .int (b : Nat)], s3, t + 3, r - 1, ?_, ⟨F3, ?_, by omega, by omega, .work b lb, fun M s => work_th lb (by omega), K3⟩⟩
    · show (Option.bind (planF _ [some (.ref f), some (.int ((0 : Nat) : Int)), some (.ref R), none, none, none, none, none, none] st) _) = _
      unfold planF
      generalize (fIx (fLst (planA _)) _) = E1 at *
      generalize (fIx (fLst (planT _)) _) = E2
      generalize planL _ = L
      simp at e2
      by_cases c : w < 2
      · have c2 : (w : Int) < 2 := by omega
        simp [e1, e2, room_ix hR2, sb, ← e3, room_ix hR3, c, c2]
      · have c2 : ¬ ((w : Int) < 2) := by omega
        simp [e1, e2, room_ix hR2, sb, ← e3, room_ix hR3, c, c2]
    · rw [hR3]
      have : (r : Int) - 1 = ((r - 1 : Nat) : Int) := by omega
      rw [this]
  | succ d ih =>
    intro n hn st f g ns t R r F fg Rf Rg hR h1 h100 ht
    rw [hr (n + 1), runB_ev (by rw [hp]; rfl), hN]
    have D1 : DrawDk (callN P (n + 1)) := hd n
    obtain ⟨w, b, s1, s2, s3, lw, lb, e1, e2, hR2, e3, F3, K3, hR3⟩ := plan_head D1 F fg Rf Rg hR (by omega) (deep := .int ((d + 1 : Nat) : Int))
    have sb := room_set (y := (r : Int) - 1) hR2
    show ∃ y st' t' r', (Option.bind (planF _ [some (.ref f), some (.int ((d + 1 : Nat) : Int)), some (.ref R), none, none, none, none, none, none] st) _) = _ ∧ _
    have er : (r : Int) - 1 = ((r - 1 : Nat) : Int) := by omega
    have dz : ¬ (((d + 1 : Nat) : Int) = 0) := by omega
    by_cases c : w < 2 ∨ r - 1 < 1
    · refine ⟨.tup [.str "work", .int (b : Nat)], s3, t + 3, r - 1, ?_, ⟨F3, by rw [hR3, er], by omega, by omega, .work b lb, fun M s => work_th lb (by omega), K3⟩⟩
      unfold planF
      generalize (fIx (fLst (planA _)) _) = E1 at *
      generalize (fIx (fLst (planT _)) _) = E2
      generalize planL _ = L
      generalize ((d + 1 : Nat) : Int) = DD at *
      by_cases cw : w < 2
      · have c2 : (w : Int) < 2 := by omega
        simp [e1, e2, room_ix hR2, sb, ← e3, room_ix hR3, cw, c2]
      · have c2 : ¬ ((w : Int) < 2) := by omega
        have c3 : (r : Int) - 1 < 1 := by omega
        simp [e1, e2, room_ix hR2, sb, ← e3, room_ix hR3, cw, c2, dz, c3]
    · have cw : ¬ (w < 2) := fun q => c (.inl q)
      have cr : ¬ (r - 1 < 1) := fun q => c (.inr q)
      have c2 : ¬ ((w : Int) < 2) := by omega
      have c3 : ¬ ((r : Int) - 1 < 1) := by omega
      rw [er] at hR3
      -- the word, the travel, a void list
      obtain ⟨wl, hwl⟩ : ∃ wl : O, O.lst [.str "then", .str "beside"] = wl := ⟨_, rfl⟩
      have F4 : FeedD (s3 ++ [wl]) f g ns (t + 3) := F3.app
      obtain ⟨q, s5, d5, l5, F5, K5⟩ := D1 F4 fg (m := 9) (by decide) (by decide) (by omega)
      have hix : ∃ v : Bool, ix (.ref s3.length) (.int ((w : Int) % 2)) (s3 ++ [wl]) = some (.str (if v = true then "then" else "beside")) := by
        have g0 : (s3 ++ [wl])[s3.length]? = some (.lst [.str "then", .str "beside"]) := by rw [hwl]; exact get_new
        by_cases z : w % 2 = 0
        · refine ⟨true, ?_⟩
          have : (w : Int) % 2 = ((0 : Nat) : Int) := by omega
          rw [this]
          exact ix_ref g0 rfl
        · refine ⟨false, ?_⟩
          have : (w : Int) % 2 = ((1 : Nat) : Int) := by omega
          rw [this]
          exact ix_ref g0 rfl
      obtain ⟨wd, hwd⟩ := hix
      have mw : ∀ st : Sto, binop .Mod (.int (w : Nat)) (.int 2) st = some (.int ((w : Int) % 2), st) := fun st => mod_int (by decide)
      have A5 : planT (callN P (n + 1)) [some (.ref f), some (.int ((d + 1 : Nat) : Int)), some (.ref R), none, some (.int (w : Nat)), some (.int (b : Nat)), none, none, none] (s3 ++ [wl]) = some ([.int ((0 : Nat) : Int), .int ((1 : Nat) : Int), .int ((1 : Nat) : Int), .int ((2 : Nat) : Int), .int ((3 : Nat) : Int), .int (q : Nat)], s5) := by
        simp [planT, d5]
      obtain ⟨y, s6, e6, ⟨tr, rfl, htr⟩, F6, K6⟩ := pickD D1 A5 F5 fg (m := 6) rfl rfl ⟨by simp, by simp⟩ (Q := fun x => ∃ b : Nat, x = .int (b : Nat) ∧ b ≤ 8)
        (by
          intro x hx
          simp only [List.mem_cons, List.not_mem_nil, or_false] at hx
          rcases hx with rfl | rfl | rfl | rfl | rfl | rfl
          · exact ⟨0, rfl, by decide⟩
          · exact ⟨1, rfl, by decide⟩
          · exact ⟨1, rfl, by decide⟩
          · exact ⟨2, rfl, by decide⟩
          · exact ⟨3, rfl, by decide⟩
          · exact ⟨q, rfl, by omega⟩) (by omega)
      have k36 : Keep f s3 s6 := (Keep.app.trans K5).trans K6
      have hR6 := k36 _ _ Rf hR3
      have hlen : st.length ≤ s6.length := KeepM.le (K3.trans (k36.toM (by simp))) (fun m hm => by
        rcases List.mem_cons.mp hm with rfl | hm
        · exact F.lt
        · rcases List.mem_cons.mp hm with rfl | hm
          · exact (List.getElem?_eq_some_iff.mp hR).1
          · cases hm) (fun m hm => by
        rcases List.mem_cons.mp hm with rfl | hm
        · exact F6.lt
        · rcases List.mem_cons.mp hm with rfl | hm
          · exact (List.getElem?_eq_some_iff.mp hR6).1
          · cases hm)
      have F7 : FeedD (s6 ++ [O.lst []]) f g ns (t + 5) := F6.app
      obtain ⟨m, s8, d8, l8, F8, K8⟩ := D1 F7 fg (m := 3) (by decide) (by decide) (by omega)
      have ff : s6.length ≠ f := fun z => by have := F6.lt; omega
      have gg : s6.length ≠ g := fun z => by have := F6.ltg; omega
      have rR : s6.length ≠ R := fun z => by have := (List.getElem?_eq_some_iff.mp hR6).1; omega
      have gP8 := K8 _ _ ff (get_new (st := s6) (o := O.lst []))
      have hR8 := K8 _ _ Rf (get_app (x := O.lst []) hR6)
      have K38 : KeepM [f, R] st s8 := K3.trans ((k36.trans (Keep.app.trans K8)).toM (by simp))
      -- the parts
      have loop := forGo_rng (g := gvName 3) (fb := planL (callN P (n + 1))) (P := fun j η s => ∃ e3 : Option D, η = [some (.ref f), some (.int ((d + 1 : Nat) : Int)), some (.ref R), e3, some (.int (w : Nat)), some (.int (b : Nat)), some (.str (if wd = true then "then" else "beside")), some (.int (tr : Nat)), some (.ref s6.length)] ∧ PInv f g ns R s6.length (t + 6) (r - 1) d j st s)
        (1 + m) 0 [some (.ref f), some (.int ((d + 1 : Nat) : Int)), some (.ref R), none, some (.int (w : Nat)), some (.int (b : Nat)), some (.str (if wd = true then "then" else "beside")), some (.int (tr : Nat)), some (.ref s6.length)] s8
        (fun j η s hj1 hj2 ⟨x3, e, I⟩ => by
          subst e
          obtain ⟨t', r', v, ps, FF, RR, PP, lp, z0, z1, lr, lt, TT, TH, KK⟩ := I.ex
          have key : ∃ s'', planL (callN P (n + 1)) [some (.ref f), some (.int ((d + 1 : Nat) : Int)), some (.ref R), some (.int (j : Nat)), some (.int (w : Nat)), some (.int (b : Nat)), some (.str (if wd = true then "then" else "beside")), some (.int (tr : Nat)), some (.ref s6.length)] s = some (.nx [some (.ref f), some (.int ((d + 1 : Nat) : Int)), some (.ref R), some (.int (j : Nat)), some (.int (w : Nat)), some (.int (b : Nat)), some (.str (if wd = true then "then" else "beside")), some (.int (tr : Nat)), some (.ref s6.length)], s'') ∧ PInv f g ns R s6.length (t + 6) (r - 1) d (j + 1) st s'' := by
            by_cases hz : 0 < r'
            · obtain ⟨n', rfl⟩ : ∃ n', n = n' + 1 := ⟨n - 1, by omega⟩
              obtain ⟨y, s9, t9, r9, c9, PR⟩ := ih n' (by omega) s f g ns t' R r' FF fg Rf Rg RR (by omega) (by omega) (by omega)
              have gP9 := PR.K _ _ (show s6.length ∉ [f, R] by simp [ff, rR]) PP
              have hz2 : (0 : Int) < (r' : Int) := by omega
              have ap := app_ev (o := fVar 8) (e := (fCall (callN P (n' + 1 + 1)) "_law_plan" (fCons (fVar 0) (fCons (fBin .Sub (fVar 1) (fC (.int 1))) (fCons (fVar 2) (fNil)))))) (η := [some (.ref f), some (.int ((d + 1 : Nat) : Int)), some (.ref R), some (.int (j : Nat)), some (.int (w : Nat)), some (.int (b : Nat)), some (.str (if wd = true then "then" else "beside")), some (.int (tr : Nat)), some (.ref s6.length)]) (st := s) (s1 := s) (s2 := s9) (n := s6.length) (d := y) rfl PP
                (by
                  have ed : ((d + 1 : Nat) : Int) - 1 = (d : Nat) := by omega
                  have c9 : callN P (n' + 1 + 1) "_law_plan" [.ref f, .int (((d + 1 : Nat) : Int) - 1), .ref R] s = some (y, s9) := by rw [ed]; exact c9
                  generalize ((d + 1 : Nat) : Int) = DD at *
                  simp [c9]) gP9 (by omega)
              refine ⟨_, ?_, ⟨t9, r9, 0, ps ++ [y], PR.F.set ff gg, ?_, set_self gP9, by rw [List.length_append]; simp; omega, by omega, fun _ => by simp, by have := PR.lr; omega, by have := PR.lt; omega, ?_, ?_, ?_⟩⟩
              · unfold planL
                generalize (fApp (fVar 8) _) = AP at *
                generalize ((d + 1 : Nat) : Int) = DD at *
                simp [room_ix RR, hz, hz2, ap]
              · rw [List.getElem?_set_ne rR]; exact PR.rm
              · intro p hp'
                rcases List.mem_append.mp hp' with hp' | hp'
                · exact TT p hp'
                · rcases List.mem_cons.mp hp' with rfl | hp'
                  · exact PR.T
                  · cases hp'
              · intro M s
                have q1 := TH M s
                have q2 := PR.th M s
                have := PR.lr
                exact (q1.app (Ths.cons q2 Ths.nil)).up (by omega)
              · intro k o hk hh
                have h9 := PR.K _ _ hk (KK _ _ hk hh)
                have : k ≠ s6.length := fun z => by
                  have := (List.getElem?_eq_some_iff.mp hh).1
                  omega
                rw [List.getElem?_set_ne (Ne.symm this)]; exact h9
            · have hz2 : ¬ ((0 : Int) < (r' : Int)) := by omega
              have j0 : j ≠ 0 := fun q => by
                have := z0 q
                omega
              refine ⟨s, ?_, ⟨t', r', 0, ps, FF, RR, PP, by omega, by omega, fun _ => z1 j0, lr, lt, TT, TH, KK⟩⟩
              unfold planL
              generalize (fApp (fVar 8) _) = AP at *
              simp [room_ix RR, hz, hz2]
          obtain ⟨s'', k1, k2⟩ := key
          exact ⟨_, _, s'', rfl, k1, some (.int (j : Nat)), rfl, k2⟩)
        ⟨none, rfl, ⟨t + 6, r - 1, 0, [], F8, hR8, gP8, by simp, fun _ => rfl, fun z => absurd rfl z, Nat.le_refl _, Nat.le_refl _, (fun p h => by cases h), fun M s => Ths.nil.up (Nat.zero_le _), K38⟩⟩
      obtain ⟨η', s', run, x3, rfl, I⟩ := loop
      obtain ⟨t', r', v, ps, FF, RR, PP, lp, z0, z1, lr, lt, TT, TH, KK⟩ := I.ex
      have hne : ps ≠ [] := z1 (by omega)
      have rg := rng_src (A := fBin .Add (fC (.int 1)) (fCall (callN P (n + 1)) "_law_draw" (fCons (fVar 0) (fCons (fC (.int 3)) (fNil))))) (η := [some (.ref f), some (.int ((d + 1 : Nat) : Int)), some (.ref R), none, some (.int (w : Nat)), some (.int (b : Nat)), some (.str (if wd = true then "then" else "beside")), some (.int (tr : Nat)), some (.ref s6.length)]) (st := s6 ++ [O.lst []]) (N := ((1 + m : Nat) : Int)) (s := s8)
        (by
          have : ((1 + m : Nat) : Int) = 1 + (m : Int) := by omega
          rw [this]
          generalize ((d + 1 : Nat) : Int) = DD at *
          simp [d8]) (rng_nat (n := 1 + m) (by omega))
      have run : forGo (gvName 3) (planL (callN P (n + 1))) none (rngD 0 (1 + m) 1) _ s8 = _ := run
      have tu : bTuple [.ref s6.length] s' = some (.tup ps, s') := by
        show (items _ _).map _ = _
        unfold items
        simp only [PP]; rfl
      refine ⟨.tup [.str (if wd = true then "then" else "beside"), .int (tr : Nat), .tup ps], s', t', r', ?_, ⟨FF, RR, by omega, by omega, .node wd tr ps htr hne (by omega) TT, fun M s => node_th htr (TH M s) (by omega), KK⟩⟩
      unfold planF
      generalize (fIx (fLst (planA _)) _) = E1 at *
      generalize (fIx (fLst (planT _)) _) = E2 at *
      generalize planL _ = L at *
      generalize rngD 0 (1 + m) 1 = RG at *
      generalize iRng _ = IR at *
      generalize (if wd = true then ("then" : Str) else "beside") = WD at *
      generalize ((d + 1 : Nat) : Int) = DD at *
      have c4 : ¬ (((r - 1 : Nat) : Int) < 1) := by omega
      generalize ((r - 1 : Nat) : Int) = RM at *
      simp [e1, e2, room_ix hR2, sb, ← e3, room_ix hR3, cw, c2, dz, c3, c4, alloc, mw, hwl, hwd, e6, rg, run, tu]
end Sim

namespace Sim
open PySem
/-! ### what is shown stays where what may change is not shown -/
theorem mapO_imp2 {α β γ : Type} {f : α → Option γ} {g h : α → Option β} (H : ∀ x w p, f x = some w → g x = some p → h x = some p) : ∀ {xs : List α} {ws : List γ} {ps : List β}, mapO f xs = some ws → mapO g xs = some ps → mapO h xs = some ps
  | [], _, _, _, e => e
  | x :: xs, ws, ps, e, e' => by
    obtain ⟨v, e1, e2⟩ := bind_some (show (f x).bind _ = some ws from e)
    obtain ⟨vs, e3, e4⟩ := map_some' e2
    obtain ⟨u, a1, a2⟩ := bind_some (show (g x).bind _ = some ps from e')
    obtain ⟨us, a3, a4⟩ := map_some' a2
    subst a4
    show (h x).bind _ = _
    rw [H x v u e1 a1]
    show (mapO _ _).map _ = _
    rw [mapO_imp2 H e3 a3]; rfl
theorem toP_keepM {B : Nat} {M : List Nat} {st st' : Sto} (k : KeepM M st st') : ∀ {n : Nat} {x : D} {v : Nat} {p : PyData}, thW B M st n x = some v → toP st n x = some p → toP st' n x = some p
  | 0, _, _, _, h, _ => by cases h
  | n + 1, .non, _, _, _, h => h
  | n + 1, .bl _, _, _, _, h => h
  | n + 1, .int _, _, _, _, h => h
  | n + 1, .str _, _, _, _, h => h
  | n + 1, .ktup _, _, _, h, _ => by cases h
  | n + 1, .fn _, _, _, h, _ => by cases h
  | n + 1, .tup xs, v, p, h, q => by
    obtain ⟨ws, e1, e2⟩ := map_some' (show (mapO (fun x => thW B M st n x) xs).map _ = some v from h)
    obtain ⟨ps, a1, a2⟩ := map_some' (show (mapO (fun x => toP st n x) xs).map _ = some p from q)
    show (mapO (fun x => toP st' n x) xs).map _ = _
    rw [mapO_imp2 (fun x w p h1 h2 => toP_keepM k h1 h2) e1 a1, ← a2]; rfl
  | n + 1, .ref j, v, p, h, q => by
    have h : (if j ∈ M then none else match st[j]? with
      | some (.lst xs) => (mapO (fun x => thW B M st n x) xs).map fun ws => 3 + sumW ws
      | some (.frz xs) => (mapO (fun x => thW B M st n x) xs).map fun ws => 3 + sumW ws
      | _ => none) = some v := h
    by_cases c : j ∈ M
    · rw [if_pos c] at h; cases h
    · rw [if_neg c] at h
      unfold toP at q ⊢
      cases e : st[j]? with
      | none => simp only [e] at h; cases h
      | some o =>
        have e' := k j o c e
        cases o with
        | dct xs => simp only [e] at h; cases h
        | dtp xs => simp only [e] at h; cases h
        | frd xs => simp only [e] at h; cases h
        | stk k => simp only [e] at h; cases h
        | lst xs =>
          simp only [e] at h q
          simp only [e']
          obtain ⟨ws, e1, e2⟩ := map_some' h
          obtain ⟨ps, a1, a2⟩ := map_some' q
          rw [mapO_imp2 (fun x w p h1 h2 => toP_keepM k h1 h2) e1 a1, ← a2]; rfl
        | frz xs =>
          simp only [e] at h q
          simp only [e']
          obtain ⟨ws, e1, e2⟩ := map_some' h
          obtain ⟨ps, a1, a2⟩ := map_some' q
          rw [mapO_imp2 (fun x w p h1 h2 => toP_keepM k h1 h2) e1 a1, ← a2]; rfl
/-- a list of things, as it is shown now and later -/
theorem lst_stays {B : Nat} {M : List Nat} {st : Sto} {n T w : Nat} {xs : List D} (h : Ths B M st n xs w) (hT : st[T]? = some (.lst xs)) (hB : B ≤ 1900) :
    ∃ p : PyData, Gd p (n + 1) (3 + w) ∧ ∀ st', KeepM M st st' → st'[T]? = some (.lst xs) → toP st' (n + 1) (.ref T) = some p := by
  obtain ⟨vs, e, l⟩ := h
  obtain ⟨ps, h1, h2⟩ := th_list (th_ok hB n) e
  refine ⟨.list ps, ⟨h2.lst.s, h2.lst.h, h2.lst.c, h2.lst.d, Nat.le_trans h2.lst.w (by omega)⟩, fun st' k hT' => ?_⟩
  unfold toP
  rw [hT']
  show (mapO _ _).map _ = _
  rw [mapO_imp2 (fun x w p a b => toP_keepM k a b) e h1]; rfl
theorem Ths.all {B : Nat} {M : List Nat} {st : Sto} {n c : Nat} : ∀ {xs : List D}, (∀ x ∈ xs, Th B M st n x c) → Ths B M st n xs ((c + 2) * xs.length)
  | [], _ => Ths.nil.up (by omega)
  | x :: xs, h => (Ths.cons (h x List.mem_cons_self) (Ths.all fun y hy => h y (List.mem_cons_of_mem _ hy))).up (by rw [List.length_cons, Nat.mul_succ]; omega)
end Sim

namespace Sim
namespace PTr
open PySem
/-! ### trees and what they took -/
mutual
inductive PT where
  | work (b r : Nat) | node (w : Bool) (t : Nat) (ps : PTs)
inductive PTs where
  | nil | cons (a b : Nat) (p : PT) (ps : PTs)
end
def wordT (w : Bool) : Str := if w = true then "then" else "beside"
mutual
def treeD : PT → D
  | .work b _ => .tup [.str "work", .int (b : Nat)]
  | .node w t ps => .tup [.str (wordT w), .int (t : Nat), .tup (treeDs ps)]
def treeDs : PTs → List D
  | .nil => []
  | .cons _ _ p ps => treeD p :: treeDs ps
end
def pairDs : PTs → List D
  | .nil => []
  | .cons a b _ ps => .tup [.int (a : Nat), .int (b : Nat)] :: pairDs ps
mutual
def timeD : PT → D
  | .work _ r => .tup [.str "work", .int (r : Nat)]
  | .node w _ ps => .tup [.str (wordT w), .tup (pairDs ps), .tup (timeDs ps)]
def timeDs : PTs → List D
  | .nil => []
  | .cons _ _ p ps => timeD p :: timeDs ps
end
def PTs.len : PTs → Nat
  | .nil => 0
  | .cons _ _ _ ps => ps.len + 1
mutual
def need : PT → Nat
  | .work b _ => b
  | .node true t ps => needS ps + 2 * t * ps.len
  | .node false t ps => needM ps + 2 * t
def needS : PTs → Nat
  | .nil => 0
  | .cons _ _ p ps => need p + needS ps
def needM : PTs → Nat
  | .nil => 0
  | .cons _ _ p ps => max (need p) (needM ps)
end
mutual
def took : PT → Nat
  | .work _ r => r
  | .node true _ ps => tookS ps
  | .node false _ ps => tookM ps
def tookS : PTs → Nat
  | .nil => 0
  | .cons a b p ps => (a + b + took p) + tookS ps
def tookM : PTs → Nat
  | .nil => 0
  | .cons a b p ps => max (a + b + took p) (tookM ps)
end
/-! so deep at most, its numbers as drawn -/
mutual
def Ok : Nat → PT → Prop
  | _, .work b _ => b ≤ 1000000
  | 0, .node _ _ _ => False
  | d + 1, .node _ t ps => t ≤ 8 ∧ 0 < ps.len ∧ ps.len ≤ 3 ∧ Oks d ps
def Oks : Nat → PTs → Prop
  | _, .nil => True
  | d, .cons _ _ p ps => Ok d p ∧ Oks d ps
end
def toL : PTs → List (Nat × Nat × PT)
  | .nil => []
  | .cons a b p ps => (a, b, p) :: toL ps
theorem toL_len : ∀ ps : PTs, (toL ps).length = ps.len
  | .nil => rfl
  | .cons _ _ _ ps => by show (toL ps).length + 1 = ps.len + 1; rw [toL_len ps]
theorem treeDs_map : ∀ ps : PTs, treeDs ps = (toL ps).map fun q => treeD q.2.2
  | .nil => rfl
  | .cons _ _ _ ps => by rw [treeDs, toL, List.map_cons, treeDs_map ps]
theorem timeDs_map : ∀ ps : PTs, timeDs ps = (toL ps).map fun q => timeD q.2.2
  | .nil => rfl
  | .cons _ _ _ ps => by rw [timeDs, toL, List.map_cons, timeDs_map ps]
theorem pairDs_map : ∀ ps : PTs, pairDs ps = (toL ps).map fun q => Sim.D.tup [.int (q.1 : Nat), .int (q.2.1 : Nat)]
  | .nil => rfl
  | .cons _ _ _ ps => by rw [pairDs, toL, List.map_cons, pairDs_map ps]
theorem oks_mem {d : Nat} : ∀ {ps : PTs}, Oks d ps → ∀ q ∈ toL ps, Ok d q.2.2
  | .nil, _, q, hq => by cases hq
  | .cons _ _ _ ps, h, q, hq => by
    rcases List.mem_cons.mp hq with rfl | hq
    · exact h.1
    · exact oks_mem h.2 q hq
theorem needS_sum : ∀ ps : PTs, needS ps = ((toL ps).map fun q => need q.2.2).sum
  | .nil => rfl
  | .cons _ _ p ps => by rw [needS, toL, List.map_cons, List.sum_cons, needS_sum ps]
theorem tookS_sum : ∀ ps : PTs, tookS ps = ((toL ps).map fun q => q.1 + q.2.1 + took q.2.2).sum
  | .nil => rfl
  | .cons _ _ p ps => by rw [tookS, toL, List.map_cons, List.sum_cons, tookS_sum ps]
def maxN : List Nat → Nat
  | [] => 0
  | a :: r => max a (maxN r)
theorem needM_max : ∀ ps : PTs, needM ps = maxN ((toL ps).map fun q => need q.2.2)
  | .nil => rfl
  | .cons _ _ p ps => by rw [needM, toL, List.map_cons, maxN, needM_max ps]
theorem tookM_max : ∀ ps : PTs, tookM ps = maxN ((toL ps).map fun q => q.1 + q.2.1 + took q.2.2)
  | .nil => rfl
  | .cons _ _ p ps => by rw [tookM, toL, List.map_cons, maxN, tookM_max ps]
def fromL : List (Nat × Nat × PT) → PTs
  | [] => .nil
  | q :: r => .cons q.1 q.2.1 q.2.2 (fromL r)
theorem toL_fromL : ∀ l, toL (fromL l) = l
  | [] => rfl
  | q :: r => by rw [fromL, toL, toL_fromL r]
theorem oks_of {d : Nat} : ∀ {l : List (Nat × Nat × PT)}, (∀ q ∈ l, Ok d q.2.2) → Oks d (fromL l)
  | [], _ => True.intro
  | q :: r, h => ⟨h q List.mem_cons_self, oks_of fun x hx => h x (List.mem_cons_of_mem _ hx)⟩
/-! ### sums and greatest ones of lists of numbers -/
theorem mapO_nats : ∀ ns : List Nat, mapO intD (ns.map fun n => Sim.D.int (n : Nat)) = some (ns.map fun n => ((n : Nat) : Int))
  | [] => rfl
  | n :: ns => by
    show (some ((n : Nat) : Int)).bind _ = _
    show (mapO _ _).map _ = _
    rw [mapO_nats ns]; rfl
theorem sum_nats : ∀ ns : List Nat, (ns.map fun n => ((n : Nat) : Int)).sum = ((ns.sum : Nat) : Int)
  | [] => rfl
  | n :: ns => by rw [List.map_cons, List.sum_cons, List.sum_cons, sum_nats ns]; omega
theorem sum_ref {st : Sto} {k : Nat} {ns : List Nat} (h : st[k]? = some (.lst (ns.map fun n => Sim.D.int (n : Nat)))) : bSum [.ref k] st = some (.int (ns.sum : Nat), st) := by
  show (lstOf (.ref k) st).bind _ = _
  unfold lstOf items
  simp only [h, Option.bind_some, mapO_nats, Option.map_some, sum_nats]
theorem fold_nats : ∀ (ns : List Nat) (m : Nat), (ns.map fun n => ((n : Nat) : Int)).foldl max (m : Int) = ((max m (maxN ns) : Nat) : Int)
  | [], m => by show (m : Int) = ((max m 0 : Nat) : Int); rw [Nat.max_eq_left (Nat.zero_le _)]
  | n :: ns, m => by
    rw [List.map_cons, List.foldl_cons]
    have e : max (m : Int) (n : Int) = ((max m n : Nat) : Int) := by omega
    rw [e, fold_nats ns (max m n), maxN]
    congr 1
    omega
theorem max_ref {st : Sto} {k : Nat} {ns : List Nat} (h : st[k]? = some (.lst (ns.map fun n => Sim.D.int (n : Nat)))) (hn : ns ≠ []) : bMaxP [.ref k] st = some (.int (maxN ns : Nat), st) := by
  cases ns with
  | nil => exact absurd rfl hn
  | cons n ns =>
    have e : bMaxP [.ref k] st = bMaxL [.ref k] st := rfl
    rw [e]
    unfold bMaxL
    have l : lstOf (.ref k) st = some ((n :: ns).map fun n => Sim.D.int (n : Nat)) := by
      unfold lstOf items
      simp only [h]
    simp only [l, Option.bind_some, mapO_nats]
    show some (Sim.D.int ((ns.map fun n => ((n : Nat) : Int)).foldl max (n : Int)), st) = _
    rw [fold_nats, maxN]
theorem word_eq {w : Bool} {st : Sto} : cmpop .Eq (.str (wordT w)) (.str "work") st = some false := by
  rw [eq_str]; cases w <;> rfl
theorem word_ne {w : Bool} {st : Sto} : cmpop .NotEq (.str (wordT w)) (.str "work") st = some true := by
  rw [ne_str]; cases w <;> rfl
theorem word_then {w : Bool} {st : Sto} : cmpop .Eq (.str (wordT w)) (.str "then") st = some w := by
  rw [eq_str]; cases w <;> rfl
theorem wk_eq {st : Sto} : cmpop .Eq (.str "work") (.str "work") st = some true := rfl
theorem wk_ne {st : Sto} : cmpop .NotEq (.str "work") (.str "work") st = some false := rfl
/-- a comprehension over what stays, by calls that only let the store grow -/
theorem lc_ext {fi : SemI} {fe : SemE} {ft : SemT} {g : SemG} {vs : List Nat} {η : LocD} {st s0 : Sto} {xs : List D} {gd : Option (Nat × O)} {f : D → D} {q : D → Bool} (ha : fi η st = some (⟨xs, gd⟩, s0)) (hgd : ∀ s, Ext s0 s → okGd gd s) (hl : xs.length < 100000)
    (step : ∀ x ∈ xs, ∀ s, Ext s0 s → ∃ η2 s1, g x (wipeD η vs) = some η2 ∧ ft η2 s = some (q x, s1) ∧ Ext s s1 ∧ (q x = true → ∃ s2, fe η2 s1 = some (f x, s2) ∧ Ext s1 s2)) :
    ∃ st', fLc fi g ft fe vs η st = some (.ref s0.length, st') ∧ Ext s0 st' ∧ st'[s0.length]? = some (.lst ((xs.filter q).map f)) := by
  obtain ⟨st', e1, e2, e3⟩ := lc_run (g := g) (ft := ft) (fe := fe) (ηw := wipeD η vs) (gd := gd) (n := s0.length) (Inv := fun s => Ext s0 s) (f := f) (q := q) hgd (fun s o h => h.set) xs (s0 ++ [.lst []]) [] Ext.app get_new (by simpa using hl)
    (fun x hx s hs hn => by
      obtain ⟨η2, s1, h1, h2, h3, h4⟩ := step x hx s hs
      have keep : ∀ s', Ext s s' → s'[s0.length]? = s[s0.length]? := fun s' h => by
        have := List.getElem?_eq_getElem hn
        rw [this]; exact h _ _ this
      refine ⟨η2, s1, h1, h2, hs.trans h3, keep s1 h3, fun c => ?_⟩
      obtain ⟨s2, h5, h6⟩ := h4 c
      exact ⟨s2, h5, (hs.trans h3).trans h6, keep s2 (h3.trans h6)⟩)
  refine ⟨st', ?_, e2, by simpa using e3⟩
  rw [fLc_ev, ha]
  simp only [Option.bind_some]
  rw [e1]; rfl
theorem lc_all {fi : SemI} {fe : SemE} {g : SemG} {vs : List Nat} {η : LocD} {st s0 : Sto} {xs : List D} {gd : Option (Nat × O)} {f : D → D} (ha : fi η st = some (⟨xs, gd⟩, s0)) (hgd : ∀ s, Ext s0 s → okGd gd s) (hl : xs.length < 100000)
    (step : ∀ x ∈ xs, ∀ s, Ext s0 s → ∃ η2 s2, g x (wipeD η vs) = some η2 ∧ fe η2 s = some (f x, s2) ∧ Ext s s2) :
    ∃ st', fLc fi g gYes fe vs η st = some (.ref s0.length, st') ∧ Ext s0 st' ∧ st'[s0.length]? = some (.lst (xs.map f)) := by
  obtain ⟨st', e1, e2, e3⟩ := lc_ext (ft := gYes) (q := fun _ => true) (f := f) ha hgd hl fun x hx s hs => by
    obtain ⟨η2, s2, h1, h2, h3⟩ := step x hx s hs
    exact ⟨η2, s, h1, rfl, Ext.refl _, fun _ => ⟨s2, h2, h3⟩⟩
  rw [List.filter_eq_self.mpr (fun _ _ => rfl)] at e3
  exact ⟨st', e1, e2, e3⟩
/-- the same, by what stands behind each -/
theorem lc_map {α : Type} {fi : SemI} {fe : SemE} {g : SemG} {vs : List Nat} {η : LocD} {st s0 : Sto} {gd : Option (Nat × O)} {l : List α} {d e : α → D} (ha : fi η st = some (⟨l.map d, gd⟩, s0)) (hgd : ∀ s, Ext s0 s → okGd gd s) (hl : l.length < 100000)
    (step : ∀ x ∈ l, ∀ s, Ext s0 s → ∃ η2 s2, g (d x) (wipeD η vs) = some η2 ∧ fe η2 s = some (e x, s2) ∧ Ext s s2) :
    ∃ st', fLc fi g gYes fe vs η st = some (.ref s0.length, st') ∧ Ext s0 st' ∧ st'[s0.length]? = some (.lst (l.map e)) := by
  have go : ∀ (l : List α) (s : Sto) (acc : List D), Ext s0 s → s[s0.length]? = some (.lst acc) → acc.length + l.length < 100000 → (∀ x ∈ l, ∀ s, Ext s0 s → ∃ η2 s2, g (d x) (wipeD η vs) = some η2 ∧ fe η2 s = some (e x, s2) ∧ Ext s s2) →
      ∃ st', lcGo g gYes fe (wipeD η vs) gd s0.length (l.map d) s = some st' ∧ Ext s0 st' ∧ st'[s0.length]? = some (.lst (acc ++ l.map e)) := by
    intro l
    induction l with
    | nil =>
      intro s acc hs ha _ _
      refine ⟨s, ?_, hs, by simpa using ha⟩
      unfold lcGo
      exact if_pos (hgd s hs)
    | cons x l ih =>
      intro s acc hs hacc hl step
      rw [List.length_cons] at hl
      obtain ⟨η2, s2, h1, h2, h3⟩ := step x List.mem_cons_self s hs
      have hn := (List.getElem?_eq_some_iff.mp hacc).1
      have h4 := h3 _ _ hacc
      have hl2 : acc.length < most := show acc.length < 100000 by omega
      rw [List.map_cons, lcGo, if_pos (hgd s hs), h1]
      simp only [Option.bind_some, gYes_ev, if_true, h2, h4, if_pos hl2]
      obtain ⟨st', e1, e2, e3⟩ := ih (s2.set s0.length (.lst (acc ++ [e x]))) (acc ++ [e x]) ((hs.trans h3).set) (set_self h4) (by rw [List.length_append, List.length_cons, List.length_nil]; omega) (fun y hy => step y (List.mem_cons_of_mem _ hy))
      refine ⟨st', e1, e2, ?_⟩
      rw [e3, List.append_assoc]; rfl
  obtain ⟨st', e1, e2, e3⟩ := go l (s0 ++ [.lst []]) [] Ext.app get_new (by simpa using hl) step
  refine ⟨st', ?_, e2, by simpa using e3⟩
  rw [fLc_ev, ha]
  simp only [Option.bind_some]
  rw [e1]; rfl
end PTr
end Sim

namespace K21
open PySem Sim Sim.PTr
theorem draw_ok (n : Nat) : DrawDk (callN pg (n + 1)) := drawDk_of (dd := d__law_draw) (df := 1129) (M1 := 2147482189) (c1 := 379) (M2 := 2147482171) (k1 := 29009) (M3 := 2147482159) (d0 := 64) ⟨by decide, by decide, by decide, by decide, by decide, by decide⟩ (fun n ds st => r__law_draw n ds st) rfl rfl
theorem plan_k (deep n : Nat) (h : deep ≤ n) : PlanOk (callN pg (n + 2)) deep := plan_ok (dd := d__law_plan) (fun n ds st => r__law_plan n ds st) rfl rfl draw_ok deep n h
theorem treeN_up {d : Nat} {y : D} (h : TreeN d y) : ∀ {e : Nat}, d ≤ e → TreeN e y := by
  induction h with
  | work b hb => exact fun _ => .work b hb
  | @node d w t ps ht hn hl hp ih =>
    intro e he
    obtain ⟨e', rfl⟩ : ∃ e', e = e' + 1 := ⟨e - 1, by omega⟩
    exact .node w t ps ht hn hl fun p hp' => ih p hp' (by omega)
theorem tree_head {d : Nat} {y : D} (h : TreeN d y) (st : Sto) : ∃ z : Str, ix y (.int 0) st = some (.str z) ∧ ((z = "work" ∧ ∃ b : Nat, y = .tup [.str "work", .int (b : Nat)]) ∨ (∃ w, z = wordT w)) := by
  cases h with
  | work b hb => exact ⟨"work", ix_tup0, .inl ⟨rfl, b, rfl⟩⟩
  | node w t ps _ _ _ _ => exact ⟨_, ix_tup0, .inr ⟨w, rfl⟩⟩
theorem whole_ok (n : Nat) {st : Sto} {f g : Nat} {ns : List Int} {t : Nat} (F : FeedD st f g ns t) (fg : f ≠ g) (ht : t + 300 < 30000) :
    ∃ (y : D) (st' : Sto) (t' : Nat), callN pg (n + 6) "_law_whole_plan" [.ref f] st = some (y, st') ∧ FeedD st' f g ns t' ∧ t' ≤ t + 140 ∧ TreeN 4 y ∧ Keep f st st' := by
  have ff : st.length ≠ f := fun z => by have := F.lt; omega
  have gg : st.length ≠ g := fun z => by have := F.ltg; omega
  obtain ⟨y, s2, t2, r2, e2, P2⟩ := plan_k 3 (n + 3) (by omega) (st ++ [O.lst [.int ((12 : Nat) : Int)]]) f g ns t st.length 12 F.app fg ff gg get_new (by decide) (by decide) (by omega)
  have e2 : callN pg (n + 5) "_law_plan" [.ref f, .int 3, .ref st.length] (st ++ [O.lst [.int 12]]) = some (y, s2) := e2
  have K2 : Keep f st s2 := fun k o hk hh => P2.K _ _ (fun q => by
    rcases List.mem_cons.mp q with q | q
    · exact hk q
    · rcases List.mem_cons.mp q with q | q
      · have := (List.getElem?_eq_some_iff.mp hh).1; omega
      · cases q) (get_app hh)
  have lt2 := P2.lt
  obtain ⟨z, hz, hcase⟩ := tree_head P2.T s2
  rw [r__law_whole_plan, runB_ev rfl]
  show ∃ y st' t', (Option.bind (b__law_whole_plan (callN pg (n + 5)) [some (.ref f), none] st) _) = _ ∧ _
  unfold b__law_whole_plan
  have s1 : ∀ F : SemS, sSeq (sAsg (fCall (callN pg (n + 5)) "_law_plan" (fCons (fVar 0) (fCons (fC (.int 3)) (fCons (fLst (fCons (fC (.int 12)) (fNil))) (fNil))))) (gvName 1)) F [some (.ref f), none] st = F [some (.ref f), some y] s2 := fun F => seq_step (by simp [Sim.alloc, e2])
  rw [s1]
  rcases hcase with ⟨rfl, b, rfl⟩ | ⟨w, rfl⟩
  · obtain ⟨q, s3, d3, l3, F3, K3⟩ := draw_ok (n + 4) P2.F fg (m := 4) (by decide) (by decide) (by omega)
    by_cases hq : q = 0
    · subst hq
      refine ⟨_, s3, t2 + 1, ?_, F3, by omega, treeN_up P2.T (by decide), K2.trans K3⟩
      have ne : cmpop .NotEq (.str "work") (.str "work") s2 = some false := rfl
      have eq0 : cmpop .Eq (.int ((0 : Nat) : Int)) (.int 0) s3 = some true := rfl
      generalize D.tup [.str "work", .int (b : Nat)] = Y at *
      simp [hz, ne, d3]
    · have ff3 : s3.length ≠ f := fun z => by have := F3.lt; omega
      have gg3 : s3.length ≠ g := fun z => by have := F3.ltg; omega
      obtain ⟨y4, s4, t4, r4, e4, P4⟩ := plan_k 2 (n + 3) (by omega) (s3 ++ [O.lst [.int ((10 : Nat) : Int)]]) f g ns (t2 + 1) s3.length 10 F3.app fg ff3 gg3 get_new (by decide) (by decide) (by omega)
      have e4 : callN pg (n + 5) "_law_plan" [.ref f, .int 2, .ref s3.length] (s3 ++ [O.lst [.int 10]]) = some (y4, s4) := e4
      have K4 : Keep f s3 s4 := fun k o hk hh => P4.K _ _ (fun q => by
        rcases List.mem_cons.mp q with q | q
        · exact hk q
        · rcases List.mem_cons.mp q with q | q
          · have := (List.getElem?_eq_some_iff.mp hh).1; omega
          · cases q) (get_app hh)
      have lt4 := P4.lt
      refine ⟨.tup [.str "then", .int 1, .tup [.tup [.str "work", .int (b : Nat)], y4]], s4, t4, ?_, P4.F, by omega, ?_, (K2.trans K3).trans K4⟩
      · have ne : cmpop .NotEq (.str "work") (.str "work") s2 = some false := rfl
        have eq0 : cmpop .Eq (.int (q : Nat)) (.int 0) s3 = some false := by
          rw [eq_int, decide_eq_false (by omega)]
        generalize D.tup [.str "work", .int (b : Nat)] = Y at *
        generalize D.int (q : Nat) = QQ at *
        simp [hz, ne, d3, eq0, Sim.alloc, e4]
      · refine TreeN.node (d := 3) true 1 [.tup [.str "work", .int (b : Nat)], y4] (by decide) (by simp) (by simp) fun p hp => ?_
        simp only [List.mem_cons, List.not_mem_nil, or_false] at hp
        rcases hp with rfl | rfl
        · exact P2.T
        · exact treeN_up P4.T (by decide)
  · refine ⟨y, s2, t2, ?_, P2.F, by omega, treeN_up P2.T (by decide), K2⟩
    have ne : cmpop .NotEq (.str (wordT w)) (.str "work") s2 = some true := PTr.word_ne
    generalize wordT w = WD at *
    simp [hz, ne]
/-! ### drawn timings -/
/-- what was drawn, as a tree -/
theorem pt_of {d : Nat} {y : D} (h : TreeN d y) : ∃ p : PT, treeD p = y ∧ PTr.Ok d p := by
  induction h with
  | @work d b hb => exact ⟨.work b 0, rfl, by cases d <;> exact hb⟩
  | @node d w t ps ht hn hl hp ih =>
    have go : ∀ qs : List D, (∀ q ∈ qs, ∃ p : PT, treeD p = q ∧ PTr.Ok d p) → ∃ l : List (Nat × Nat × PT), (l.map fun q => treeD q.2.2) = qs ∧ ∀ q ∈ l, PTr.Ok d q.2.2 := by
      intro qs
      induction qs with
      | nil => exact fun _ => ⟨[], rfl, fun q h => by cases h⟩
      | cons q qs ih2 =>
        intro h
        obtain ⟨p, e, o⟩ := h q List.mem_cons_self
        obtain ⟨l, e2, o2⟩ := ih2 fun z hz => h z (List.mem_cons_of_mem _ hz)
        refine ⟨(0, 0, p) :: l, by rw [List.map_cons, e2, ← e], fun z hz => ?_⟩
        rcases List.mem_cons.mp hz with rfl | hz
        · exact o
        · exact o2 z hz
    obtain ⟨l, e, o⟩ := go ps ih
    have hll : l.length = ps.length := by rw [← e, List.length_map]
    refine ⟨.node w t (fromL l), ?_, ht, ?_, ?_, oks_of o⟩
    · rw [treeD, treeDs_map, toL_fromL, e]; rfl
    · rw [← toL_len, toL_fromL, hll]; exact List.length_pos_iff.mpr hn
    · rw [← toL_len, toL_fromL, hll]; exact hl
end K21

namespace K21
open PySem Sim Sim.PTr
/-! ### the program's functions over a tree and its timing -/

/-! trees with up to twelve parts -/
mutual
def OkW : Nat → PT → Prop
  | _, .work b _ => b ≤ 1000000
  | 0, .node _ _ _ => False
  | d + 1, .node _ t ps => t ≤ 8 ∧ 0 < ps.len ∧ ps.len ≤ 12 ∧ OkWs d ps
def OkWs : Nat → PTs → Prop
  | _, .nil => True
  | d, .cons _ _ p ps => OkW d p ∧ OkWs d ps
end
theorem okW_mem {d : Nat} : ∀ {ps : PTs}, OkWs d ps → ∀ q ∈ toL ps, OkW d q.2.2
  | .nil, _, q, hq => by cases hq
  | .cons _ _ _ ps, h, q, hq => by
    rcases List.mem_cons.mp hq with rfl | hq
    · exact h.1
    · exact okW_mem h.2 q hq
theorem okW_of : ∀ {d : Nat} {p : PT}, PTr.Ok d p → OkW d p := by
  intro d
  induction d with
  | zero =>
    intro p h
    cases p with
    | work b r => exact h
    | node w t ps => exact h.elim
  | succ d ih =>
    intro p h
    cases p with
    | work b r => exact h
    | node w t ps =>
      obtain ⟨h1, h2, h3, h4⟩ := h
      refine ⟨h1, h2, by omega, ?_⟩
      have go : ∀ ps : PTs, Oks d ps → OkWs d ps := by
        intro ps
        induction ps using PTs.rec (motive_1 := fun _ => True) with
        | nil => exact fun _ => True.intro
        | cons a b p ps _ ih2 => exact fun h => ⟨ih h.1, ih2 h.2⟩
        | _ => trivial
      exact go ps h4
def Gv (cf : CallF) (x : Str) (as : List D) (v : D) : Prop := ∀ st, ∃ st', cf x as st = some (v, st') ∧ Ext st st'
theorem bSum_two {a b : Nat} {st : Sto} : bSum [.tup [.int (a : Nat), .int (b : Nat)]] st = some (.int ((a + b : Nat) : Int), st) := by
  show some (Sim.D.int _, st) = _
  congr 3
theorem mul2 {a : Nat} {st : Sto} (h : a < 2 ^ 20) : binop .Mult (.int 2) (.int (a : Nat)) st = some (.int ((2 * a : Nat) : Int), st) := by
  rw [mul_int (m := 10) (n := 20) (by decide) (by omega) (by decide) (by decide) (by decide)]
  rfl
theorem mulN {a b : Nat} {st : Sto} (h : a < 2 ^ 20) (h2 : b < 2 ^ 20) : binop .Mult (.int (a : Nat)) (.int (b : Nat)) st = some (.int ((a * b : Nat) : Int), st) := by
  rw [mul_int (m := 20) (n := 20) (by omega) (by omega) (by decide) (by decide) (by decide)]
  congr 3
theorem addN {a b : Nat} {st : Sto} : binop .Add (.int (a : Nat)) (.int (b : Nat)) st = some (.int ((a + b : Nat) : Int), st) := rfl
theorem src_tup {xs : List D} {st : Sto} : srcOf (.tup xs) st = some ⟨xs, none⟩ := rfl
theorem okn (s : Sto) : okGd none s := fun _ e => by cases e
theorem need_ok : ∀ (d n : Nat), d ≤ n → ∀ p, OkW d p → Gv (callN pg (n + 1)) "need" [treeD p] (.int (need p : Nat)) := by
  intro d
  induction d with
  | zero =>
    intro n hn p hp st
    cases p with
    | work b r =>
      refine ⟨st, ?_, Ext.refl _⟩
      rw [r_need, runB_ev rfl]
      unfold b_need
      generalize fLc _ _ _ _ _ = L
      simp [treeD, d_need, Def.N, need]
    | node w t ps => exact hp.elim
  | succ d ih =>
    intro n hn p hp st
    obtain ⟨n, rfl⟩ : ∃ m, n = m + 1 := ⟨n - 1, by omega⟩
    cases p with
    | work b r =>
      refine ⟨st, ?_, Ext.refl _⟩
      rw [r_need, runB_ev rfl]
      unfold b_need
      generalize fLc _ _ _ _ _ = L
      simp [treeD, d_need, Def.N, need]
    | node w t ps =>
      obtain ⟨h1, h2, h3, h4⟩ := hp
      obtain ⟨st', e1, e2, e3⟩ := lc_map (fi := iPlain (fIx (fVar 0) (fC (.int 2)))) (fe := fCall (callN pg (n + 1)) "need" (fCons (fVar 2) (fNil))) (g := gvName 2) (vs := [2]) (η := [some (treeD (.node w t ps)), none, none]) (st := st) (s0 := st) (gd := none) (l := toL ps) (d := fun q => treeD q.2.2) (e := fun q => .int (need q.2.2 : Nat))
        (by simp [treeD, treeDs_map, src_tup]) (fun s _ => okn s) (by rw [toL_len]; omega)
        (fun q hq s hs => by
          obtain ⟨s', c1, c2⟩ := ih n (by omega) q.2.2 (okW_mem h4 q hq) s
          refine ⟨_, s', rfl, ?_, c2⟩
          simp [wipeD, c1])
      have lr : st'[st.length]? = some (.lst ((((toL ps).map fun q => need q.2.2)).map fun n => Sim.D.int (n : Nat))) := by rw [e3, List.map_map]; rfl
      refine ⟨st', ?_, e2⟩
      rw [r_need, runB_ev rfl]
      have wq := fun st : Sto => PTr.word_eq (w := w) (st := st)
      have wt := fun st : Sto => PTr.word_then (w := w) (st := st)
      have len : bLen [.ref st.length] st' = some (.int (ps.len : Nat), st') := by
        unfold bLen dctOf2 bLen1 items
        simp only [lr]
        rw [← toL_len]; simp
      have hne : (toL ps).map (fun q => need q.2.2) ≠ [] := fun z => by
        have := congrArg List.length z
        rw [List.length_map, toL_len, List.length_nil] at this; omega
      have sm := sum_ref lr
      have mx := max_ref lr hne
      rw [← needS_sum] at sm
      rw [← needM_max] at mx
      have m2 := mul2 (a := t) (st := st') (by omega)
      have m3 := mulN (a := 2 * t) (b := ps.len) (st := st') (by omega) (by omega)
      have a3 := addN (a := needS ps) (b := 2 * t * ps.len) (st := st')
      have a4 := addN (a := needM ps) (b := 2 * t) (st := st')
      show (Option.bind (b_need (callN pg (n + 1)) [some (treeD (.node w t ps)), none, none] st) _) = _
      unfold b_need
      generalize fLc _ _ _ _ _ = L at *
      rw [treeD] at e1 ⊢
      generalize treeDs ps = TS at *
      generalize hx : needS ps = xs at *
      generalize hy : needM ps = ys at *
      cases w with
      | true =>
        simp only [need, hx]
        generalize 2 * t * ps.len = z at *
        generalize 2 * t = z2 at *
        simp [wq, e1, wt, len, sm, m2, m3, a3]
      | false =>
        simp only [need, hy]
        generalize 2 * t = z2 at *
        simp [wq, e1, wt, mx, m2, a4]
def kids : PT → List D
  | .work _ _ => []
  | .node _ _ ps => treeDs ps
theorem parts_ok (n : Nat) (p : PT) (st : Sto) : callN pg (n + 1) "parts_of" [treeD p] st = some (.tup (kids p), st) := by
  rw [r_parts_of, runB_ev rfl]
  unfold b_parts_of
  cases p with
  | work b r => simp [treeD, d_parts_of, Def.N, kids, most]
  | node w t ps =>
    have wq := fun st : Sto => PTr.word_eq (w := w) (st := st)
    rw [treeD]
    generalize wordT w = WT at *
    simp [d_parts_of, Def.N, kids, wq]
end K21

namespace K21
open PySem Sim Sim.PTr
/-! ### places -/
def numsD (l : List Nat) : List D := l.map fun i => .int (i : Nat)
def plD (l : List Nat) : D := .tup (numsD l)
def Pl (l : List Nat) (x : D) : Prop := x = plD l ∨ (l = [] ∧ x = .ktup [])
theorem pl_refl (l : List Nat) : Pl l (plD l) := .inl rfl
theorem pl_void : Pl [] (.ktup []) := .inr ⟨rfl, rfl⟩
theorem pl_src {l : List Nat} {x : D} (h : Pl l x) (st : Sto) : srcOf x st = some ⟨numsD l, none⟩ := by
  rcases h with rfl | ⟨rfl, rfl⟩ <;> rfl
theorem pl_tup {l : List Nat} {x : D} (h : Pl l x) (st : Sto) : isInst "tuple" x st = some true := by
  rcases h with rfl | ⟨rfl, rfl⟩ <;> rfl
theorem pl_len {l : List Nat} {x : D} (h : Pl l x) (st : Sto) : bLen [x] st = some (.int (l.length : Nat), st) := by
  rcases h with rfl | ⟨rfl, rfl⟩
  · show some (D.int ((numsD l).length : Nat), st) = _
    unfold numsD; rw [List.length_map]
  · rfl
theorem pl_add {l : List Nat} {x : D} (h : Pl l x) {k : Nat} (hl : l.length < 1000) (st : Sto) : binop .Add x (.tup [.int (k : Nat)]) st = some (plD (l ++ [k]), st) := by
  have c : (numsD l).length + 1 ≤ most := by
    unfold numsD
    rw [List.length_map]
    show _ ≤ 100000
    omega
  rcases h with rfl | ⟨rfl, rfl⟩
  · show (if (numsD l).length + 1 ≤ most then some (D.tup (numsD l ++ [.int (k : Nat)]), st) else none) = _
    rw [if_pos c]
    unfold plD numsD
    rw [List.map_append]; rfl
  · rfl
def enF (k : Nat) (xs : List D) : List D := (xs.zipIdx k).map fun p => .tup [.int (p.2 : Nat), p.1]
theorem en_cons (k : Nat) (x : D) (xs : List D) : enF k (x :: xs) = .tup [.int (k : Nat), x] :: enF (k + 1) xs := rfl
theorem en_zero (xs : List D) : enumD xs = enF 0 xs := rfl
/-! ### what stands at a place -/
def sub : PT → List Nat → Option PT
  | p, [] => some p
  | .work _ _, _ :: _ => none
  | .node _ _ ps, k :: l => ((toL ps)[k]?).bind fun q => sub q.2.2 l
mutual
def rowsT : List Nat → PT → List (List Nat × PT)
  | pre, .work b r => [(pre, .work b r)]
  | pre, .node w t ps => (pre, .node w t ps) :: rowsTs pre 0 ps
def rowsTs : List Nat → Nat → PTs → List (List Nat × PT)
  | _, _, .nil => []
  | pre, k, .cons _ _ p ps => rowsT (pre ++ [k]) p ++ rowsTs pre (k + 1) ps
end
theorem rows_head (pre : List Nat) (p : PT) : rowsT pre p = (pre, p) :: (rowsT pre p).tail := by cases p <;> simp [rowsT]
mutual
theorem rows_sub : ∀ (pre : List Nat) (p : PT) (z : List Nat × PT), z ∈ rowsT pre p → ∃ m, z.1 = pre ++ m ∧ sub p m = some z.2
  | pre, .work b r, z, h => by
    rw [rowsT, List.mem_singleton] at h
    subst h
    exact ⟨[], by simp, rfl⟩
  | pre, .node w t ps, z, h => by
    rw [rowsT] at h
    rcases List.mem_cons.mp h with rfl | h
    · exact ⟨[], by simp, rfl⟩
    · obtain ⟨j, q, m, h1, h2, h3⟩ := rowss_sub pre 0 ps z h
      refine ⟨j :: m, by rw [h1, Nat.zero_add], ?_⟩
      rw [sub, h2]; exact h3
theorem rowss_sub : ∀ (pre : List Nat) (k : Nat) (ps : PTs) (z : List Nat × PT), z ∈ rowsTs pre k ps → ∃ (j : Nat) (q : Nat × Nat × PT) (m : List Nat), z.1 = pre ++ (k + j) :: m ∧ (toL ps)[j]? = some q ∧ sub q.2.2 m = some z.2
  | pre, k, .nil, z, h => by rw [rowsTs] at h; cases h
  | pre, k, .cons a b p ps, z, h => by
    rw [rowsTs] at h
    rcases List.mem_append.mp h with h | h
    · obtain ⟨m, h1, h2⟩ := rows_sub (pre ++ [k]) p z h
      exact ⟨0, (a, b, p), m, by rw [h1, List.append_assoc]; rfl, rfl, h2⟩
    · obtain ⟨j, q, m, h1, h2, h3⟩ := rowss_sub pre (k + 1) ps z h
      exact ⟨j + 1, q, m, by rw [h1, show k + 1 + j = k + (j + 1) by omega], by rw [toL, List.getElem?_cons_succ]; exact h2, h3⟩
end
mutual
theorem sub_rows : ∀ (pre : List Nat) (p : PT) (m : List Nat) (q : PT), sub p m = some q → (pre ++ m, q) ∈ rowsT pre p
  | pre, .work b r, [], q, h => by cases h; simp [rowsT]
  | pre, .work b r, _ :: _, q, h => by cases h
  | pre, .node w t ps, [], q, h => by cases h; simp [rowsT]
  | pre, .node w t ps, k :: m, q, h => by
    rw [sub] at h
    rw [rowsT]
    refine List.mem_cons_of_mem _ ?_
    have := subs_rows pre 0 ps k m q h
    rwa [Nat.zero_add] at this
theorem subs_rows : ∀ (pre : List Nat) (k : Nat) (ps : PTs) (j : Nat) (m : List Nat) (q : PT), (((toL ps)[j]?).bind fun x => sub x.2.2 m) = some q → (pre ++ (k + j) :: m, q) ∈ rowsTs pre k ps
  | pre, k, .nil, j, m, q, h => by simp [toL] at h
  | pre, k, .cons a b p ps, 0, m, q, h => by
    rw [rowsTs]
    refine List.mem_append_left _ ?_
    have := sub_rows (pre ++ [k]) p m q (by simpa [toL] using h)
    rwa [List.append_assoc] at this
  | pre, k, .cons a b p ps, j + 1, m, q, h => by
    rw [rowsTs]
    refine List.mem_append_right _ ?_
    have := subs_rows pre (k + 1) ps j m q (by simpa [toL] using h)
    rwa [show k + 1 + j = k + (j + 1) by omega] at this
end
def cN : Nat → Nat
  | 0 => 1
  | d + 1 => 1 + 12 * cN d
theorem rowss_len {d : Nat} (ih : ∀ pre p, OkW d p → (rowsT pre p).length ≤ cN d) : ∀ (pre : List Nat) (k : Nat) (ps : PTs), OkWs d ps → (rowsTs pre k ps).length ≤ ps.len * cN d
  | pre, k, .nil, _ => by simp [rowsTs]
  | pre, k, .cons a b p ps, h => by
    have := rowss_len ih pre (k + 1) ps h.2
    have := ih (pre ++ [k]) p h.1
    rw [rowsTs, List.length_append, PTs.len, Nat.succ_mul]; omega
theorem rows_len : ∀ (d : Nat) (pre : List Nat) (p : PT), OkW d p → (rowsT pre p).length ≤ cN d := by
  intro d
  induction d with
  | zero =>
    intro pre p h
    cases p with
    | work b r => simp [rowsT, cN]
    | node w t ps => exact h.elim
  | succ d ih =>
    intro pre p h
    cases p with
    | work b r => simp [rowsT, cN]
    | node w t ps =>
      obtain ⟨_, _, h3, h4⟩ := h
      have := rowss_len ih pre 0 ps h4
      have := Nat.mul_le_mul_right (cN d) h3
      rw [rowsT, List.length_cons, cN]; omega
def rowD (z : List Nat × PT) : D := .tup [plD z.1, treeD z.2]
def TiOk (cf : CallF) (p : PT) (d : Nat) : Prop := ∀ (pre : List Nat) (x : D) (st : Sto), Pl pre x → pre.length + d ≤ 100 → ∃ (k : Nat) (s' : Sto), cf "trees_in" [treeD p, x] st = some (.ref k, s') ∧ Ext st s' ∧ st.length ≤ k ∧ s'[k]? = some (.lst (.tup [x, treeD p] :: (rowsT pre p).tail.map rowD))
abbrev tiB (cf : CallF) : SemS := sSeq (sExpr (fExt (fVar 2) (fCall cf "trees_in" (fCons (fVar 4) (fCons (fBin .Add (fVar 1) (fTup (fCons (fVar 3) (fNil)))) (fNil))))))
        (sNil)
theorem ti_loop {cf : CallF} {d : Nat} (hcf : ∀ p, OkW d p → TiOk cf p d) {pre : List Nat} {x T : D} (hx : Pl pre x) (hl : pre.length + d + 1 ≤ 100) {R : Nat} : ∀ (ps : PTs) (k : Nat) (s : Sto) (acc : List D) (e3 e4 : Option D), OkWs d ps → s[R]? = some (.lst acc) → acc.length + (rowsTs pre k ps).length ≤ 100000 →
    ∃ (s' : Sto) (h3 h4 : Option D), forGo (gvTup (gvCons (gvName 3) (gvCons (gvName 4) (gvNil)))) (tiB cf) none (enF k (treeDs ps)) [some T, some x, some (.ref R), e3, e4] s = some (.nx [some T, some x, some (.ref R), h3, h4], s') ∧ s'[R]? = some (.lst (acc ++ (rowsTs pre k ps).map rowD)) ∧ Keep R s s'
  | .nil, k, s, acc, e3, e4, _, hR, _ => ⟨s, e3, e4, forGo_nil, by simpa [rowsTs] using hR, fun _ _ _ h => h⟩
  | .cons a b p ps, k, s, acc, e3, e4, ok, hR, lim => by
    rw [rowsTs, List.length_append] at lim
    obtain ⟨j, s1, c1, k1, j1, g1⟩ := hcf p ok.1 (pre ++ [k]) (plD (pre ++ [k])) s (pl_refl _) (by rw [List.length_append]; simp; omega)
    have g1 : s1[j]? = some (.lst ((rowsT (pre ++ [k]) p).map rowD)) := by
      rw [g1, rows_head (pre ++ [k]) p]; rfl
    have ad := pl_add hx (k := k) (by omega) s
    have ex := ext_ev (o := fVar 2) (e := fCall cf "trees_in" (fCons (fVar 4) (fCons (fBin .Add (fVar 1) (fTup (fCons (fVar 3) (fNil)))) (fNil)))) (η := [some T, some x, some (.ref R), some (.int (k : Nat)), some (treeD p)]) (st := s) (s1 := s) (s2 := s1) (n := R) (m := j) rfl hR (by simp [ad, c1]) (k1 _ _ hR) g1 (by rw [List.length_map]; omega)
    obtain ⟨s', h3, h4, run, gR, kk⟩ := ti_loop hcf hx hl ps (k + 1) (s1.set R (.lst (acc ++ (rowsT (pre ++ [k]) p).map rowD))) _ (some (.int (k : Nat))) (some (treeD p)) ok.2 (set_self (k1 _ _ hR)) (by rw [List.length_append, List.length_map]; omega)
    refine ⟨s', h3, h4, ?_, by rw [gR, rowsTs, List.map_append, List.append_assoc], fun n o hn h => kk n o hn (by rw [List.getElem?_set_ne (Ne.symm hn)]; exact k1 n o h)⟩
    rw [treeDs, en_cons]
    refine (forGo_nx (η2 := [some T, some x, some (.ref R), some (.int (k : Nat)), some (treeD p)]) (η' := [some T, some x, some (.ref R), some (.int (k : Nat)), some (treeD p)]) (st' := s1.set R (.lst (acc ++ (rowsT (pre ++ [k]) p).map rowD))) rfl ?_).trans run
    unfold tiB
    generalize fExt (fVar 2) _ = X at *
    simp [ex]
theorem cN_le {d : Nat} (h : d ≤ 4) : cN d ≤ 30000 := by
  match d, h with
  | 0, _ => decide
  | 1, _ => decide
  | 2, _ => decide
  | 3, _ => decide
  | 4, _ => decide
theorem cN_le3 {d : Nat} (h : d ≤ 3) : cN d ≤ 2000 := by
  match d, h with
  | 0, _ => decide
  | 1, _ => decide
  | 2, _ => decide
  | 3, _ => decide
theorem trees_step {n d : Nat} (hd : d ≤ 3) (ih : ∀ p, OkW d p → TiOk (callN pg (n + 2)) p d) {p : PT} {pre : List Nat} {x : D} {st : Sto} (hx : Pl pre x) (hl : pre.length + d + 1 ≤ 100) {ps : PTs} (hps : OkWs d ps) (hk : kids p = treeDs ps) (ht : (rowsT pre p).tail = rowsTs pre 0 ps) (h3 : ps.len ≤ 12) :
    ∃ (k : Nat) (s' : Sto), callN pg (n + 3) "trees_in" [treeD p, x] st = some (.ref k, s') ∧ Ext st s' ∧ st.length ≤ k ∧ s'[k]? = some (.lst (.tup [x, treeD p] :: (rowsT pre p).tail.map rowD)) := by
  have lb := rowss_len (fun pre p h => rows_len d pre p h) pre 0 ps hps
  have l2 := Nat.mul_le_mul_right (cN d) h3
  have l3 := cN_le3 hd
  have pq := parts_ok (n + 1) p
  rw [hk] at pq
  obtain ⟨s', h3', h4', run, gR, kk⟩ := ti_loop ih hx hl (T := treeD p) (R := st.length) ps 0 (st ++ [.lst [.tup [x, treeD p]]]) _ none none hps get_new (by rw [List.length_cons, List.length_nil]; omega)
  refine ⟨st.length, s', ?_, fun j o h => kk j o (by have := (List.getElem?_eq_some_iff.mp h).1; omega) (get_app h), Nat.le_refl _, by rw [gR, ht]; rfl⟩
  rw [r_trees_in, runB_ev rfl]
  show (Option.bind (b_trees_in (callN pg (n + 2)) [some (treeD p), some x, none, none, none] st) _) = _
  have eb : b_trees_in (callN pg (n + 2)) = sSeq (sAsg (fLst (fCons (fTup (fCons (fVar 1) (fCons (fVar 0) (fNil)))) (fNil))) (gvName 2))
    (sSeq (sFor (iEn (fCall (callN pg (n + 2)) "parts_of" (fCons (fVar 0) (fNil)))) (gvTup (gvCons (gvName 3) (gvCons (gvName 4) (gvNil)))) (tiB (callN pg (n + 2))))
    (sSeq (sRet (fVar 2))
    (sNil))) := rfl
  rw [eb]
  generalize tiB _ = B at *
  generalize treeD p = T at *
  simp [Sim.alloc, pq, iEn, most, en_zero, run]
theorem trees_ok : ∀ (d n : Nat), d ≤ n → d ≤ 4 → ∀ p, OkW d p → TiOk (callN pg (n + 2)) p d := by
  intro d
  induction d with
  | zero =>
    intro n hn _ p hp pre x st hx hl
    cases p with
    | work b r =>
      refine ⟨st.length, st ++ [.lst [.tup [x, treeD (.work b r)]]], ?_, Ext.app, Nat.le_refl _, ?_⟩
      · rw [r_trees_in, runB_ev rfl]
        unfold b_trees_in
        have pq := parts_ok n (.work b r)
        rw [kids] at pq
        generalize treeD (.work b r) = T at *
        simp [d_trees_in, Def.N, Sim.alloc, pq, iEn, enumD, forGo_nil, most]
      · rw [rowsT]; exact get_new
    | node w t ps => exact hp.elim
  | succ d ih =>
    intro n hn hd p hp pre x st hx hl
    obtain ⟨n, rfl⟩ : ∃ m, n = m + 1 := ⟨n - 1, by omega⟩
    cases p with
    | work b r => exact trees_step (d := d) (by omega) (ih n (by omega) (by omega)) hx (by omega) (ps := .nil) True.intro rfl (by simp [rowsT, rowsTs]) (by simp [PTs.len])
    | node w t ps =>
      obtain ⟨_, _, h3, h4⟩ := hp
      exact trees_step (d := d) (by omega) (ih n (by omega) (by omega)) hx (by omega) h4 rfl (by simp [rowsT]) h3
end K21

namespace K21
open PySem Sim Sim.PTr
/-! ### what each part needs, in the order of the places -/
def nrD (z : List Nat × PT) : D := .tup [plD z.1, .int (need z.2 : Nat)]
def needsD (p : PT) : List D := .tup [.ktup [], .int (need p : Nat)] :: (rowsT [] p).tail.map nrD
theorem tup_ref {s : Sto} {k : Nat} {xs : List D} (h : s[k]? = some (.lst xs)) : bTuple [.ref k] s = some (.tup xs, s) := by
  show (items _ _).map _ = _
  unfold items
  simp only [h]; rfl
theorem subW_ok : ∀ (l : List Nat) {d : Nat} {p q : PT}, OkW d p → sub p l = some q → ∃ e, e + l.length = d ∧ OkW e q
  | [], d, p, q, h, e => by
    have : p = q := by cases p <;> (cases e; rfl)
    subst this
    exact ⟨d, rfl, h⟩
  | k :: l, d, .work b r, q, h, e => by cases e
  | k :: l, 0, .node w t ps, q, h, e => h.elim
  | k :: l, d + 1, .node w t ps, q, h, e => by
    rw [sub] at e
    cases hk : (toL ps)[k]? with
    | none => rw [hk] at e; cases e
    | some z =>
      rw [hk] at e
      obtain ⟨c, h1, h2⟩ := subW_ok l (okW_mem h.2.2.2 z (List.mem_of_getElem? hk)) e
      exact ⟨c, by rw [List.length_cons]; omega, h2⟩
theorem needs_ok {d n : Nat} (h : d ≤ n) (hd : d ≤ 4) {p : PT} (hp : OkW d p) : Gv (callN pg (n + 3)) "needs" [treeD p] (.tup (needsD p)) := by
  intro st
  obtain ⟨k, s1, c1, k1, j1, g1⟩ := trees_ok d n h hd p hp [] (.ktup []) st pl_void (by simp; omega)
  have lb := rows_len d [] p hp
  have lb2 : (rowsT [] p).tail.length ≤ (rowsT [] p).length := by simp
  have l3 := cN_le hd
  have each : ∀ q ∈ ((.ktup [], p) :: (rowsT [] p).tail.map fun z => (plD z.1, z.2) : List (D × PT)), ∃ e, e ≤ d ∧ OkW e q.2 := by
    intro q hq
    rcases List.mem_cons.mp hq with rfl | hq
    · exact ⟨d, Nat.le_refl _, hp⟩
    · obtain ⟨z, hz, rfl⟩ := List.mem_map.mp hq
      obtain ⟨m, h1, h2⟩ := rows_sub [] p z (List.mem_of_mem_tail hz)
      obtain ⟨e, e1, e2⟩ := subW_ok m hp h2
      exact ⟨e, by omega, e2⟩
  obtain ⟨s2, e1, e2, e3⟩ := lc_map (α := D × PT) (fi := iPlain (fCallD (callN pg (n + 2)) "trees_in" [.ktup []] (fCons (fVar 0) (fNil)))) (fe := fTup (fCons (fVar 1) (fCons (fCall (callN pg (n + 2)) "need" (fCons (fVar 2) (fNil))) (fNil)))) (g := gvTup (gvCons (gvName 1) (gvCons (gvName 2) (gvNil)))) (vs := [1, 2]) (η := [some (treeD p), none, none]) (st := st) (s0 := s1) (gd := some (k, .lst (.tup [.ktup [], treeD p] :: (rowsT [] p).tail.map rowD))) (l := (.ktup [], p) :: (rowsT [] p).tail.map fun z => (plD z.1, z.2)) (d := fun q => .tup [q.1, treeD q.2]) (e := fun q => .tup [q.1, .int (need q.2 : Nat)])
    (by
      have sr : srcOf (.ref k) s1 = some ⟨.tup [.ktup [], treeD p] :: (rowsT [] p).tail.map rowD, some (k, .lst (.tup [.ktup [], treeD p] :: (rowsT [] p).tail.map rowD))⟩ := by
        unfold srcOf; simp only [g1]
      rw [List.map_cons, List.map_map]
      have em : (fun q : D × PT => D.tup [q.1, treeD q.2]) ∘ (fun z : List Nat × PT => (plD z.1, z.2)) = rowD := rfl
      rw [em]
      generalize (rowsT [] p).tail.map rowD = RR at *
      generalize treeD p = T at *
      simp [c1, sr]) (fun s hs z hz => by cases hz; exact hs _ _ g1) (by rw [List.length_cons, List.length_map]; omega)
    (fun q hq s hs => by
      obtain ⟨e, he, oq⟩ := each q hq
      obtain ⟨s', c, kk⟩ := need_ok e (n + 1) (by omega) q.2 oq s
      refine ⟨_, s', rfl, ?_, kk⟩
      generalize treeD q.2 = T at *
      generalize Sim.D.int (need q.2 : Nat) = N at *
      simp [wipeD, c, most])
  have e3 : s2[s1.length]? = some (.lst (needsD p)) := by
    rw [e3, List.map_cons, List.map_map]; rfl
  have tu := tup_ref e3
  refine ⟨s2, ?_, k1.trans e2⟩
  rw [r_needs, runB_ev rfl]
  show (Option.bind (b_needs (callN pg (n + 2)) [some (treeD p), none, none] st) _) = _
  unfold b_needs
  generalize fLc _ _ _ _ _ = L at *
  simp [e1, tu]
end K21

namespace K21
open PySem Sim Sim.PTr
/-! ### the places in preorder stand in their lexicographic order -/
def lexN : List Nat → List Nat → Prop
  | [], [] => False
  | [], _ :: _ => True
  | _ :: _, [] => False
  | a :: l, b :: m => a < b ∨ (a = b ∧ lexN l m)
theorem lex_pre : ∀ (l : List Nat) (a : Nat) (m : List Nat), lexN l (l ++ a :: m)
  | [], _, _ => trivial
  | _ :: l, a, m => .inr ⟨rfl, lex_pre l a m⟩
theorem lex_split : ∀ (l : List Nat) (a b : Nat) (m m' : List Nat), a < b → lexN (l ++ a :: m) (l ++ b :: m')
  | [], _, _, _, _, h => .inl h
  | _ :: l, a, b, m, m', h => .inr ⟨rfl, lex_split l a b m m' h⟩
theorem lex_irr : ∀ l : List Nat, ¬ lexN l l
  | [], h => h
  | a :: l, h => by
    rcases h with h | ⟨_, h⟩
    · exact Nat.lt_irrefl _ h
    · exact lex_irr l h
theorem lex_trans : ∀ {a b c : List Nat}, lexN a b → lexN b c → lexN a c
  | [], [], _, h, _ => h.elim
  | [], _ :: _, [], _, h => h.elim
  | [], _ :: _, _ :: _, _, _ => trivial
  | _ :: _, [], _, h, _ => h.elim
  | _ :: _, _ :: _, [], _, h => h.elim
  | x :: a, y :: b, z :: c, h, g => by
    rcases h with h | ⟨rfl, h⟩
    · rcases g with g | ⟨rfl, g⟩
      · exact .inl (Nat.lt_trans h g)
      · exact .inl h
    · rcases g with g | ⟨rfl, g⟩
      · exact .inl g
      · exact .inr ⟨rfl, lex_trans h g⟩
theorem lex_tri : ∀ a b : List Nat, lexN a b ∨ a = b ∨ lexN b a
  | [], [] => .inr (.inl rfl)
  | [], _ :: _ => .inl trivial
  | _ :: _, [] => .inr (.inr trivial)
  | x :: a, y :: b => by
    rcases Nat.lt_trichotomy x y with h | rfl | h
    · exact .inl (.inl h)
    · rcases lex_tri a b with h | rfl | h
      · exact .inl (.inr ⟨rfl, h⟩)
      · exact .inr (.inl rfl)
      · exact .inr (.inr (.inr ⟨rfl, h⟩))
    · exact .inr (.inr (.inl h))
def LexP (l : List (List Nat × PT)) : Prop := l.Pairwise fun x y => lexN x.1 y.1
mutual
theorem rows_lex : ∀ (pre : List Nat) (p : PT), LexP (rowsT pre p)
  | pre, .work b r => by rw [rowsT]; exact List.pairwise_singleton _ _
  | pre, .node w t ps => by
    rw [rowsT]
    refine List.pairwise_cons.mpr ⟨fun z hz => ?_, rowss_lex pre 0 ps⟩
    obtain ⟨j, q, m, h1, _, _⟩ := rowss_sub pre 0 ps z hz
    show lexN pre z.1
    rw [h1]
    exact lex_pre _ _ _
theorem rowss_lex : ∀ (pre : List Nat) (k : Nat) (ps : PTs), LexP (rowsTs pre k ps)
  | pre, k, .nil => by rw [rowsTs]; exact List.Pairwise.nil
  | pre, k, .cons a b p ps => by
    rw [rowsTs]
    refine List.pairwise_append.mpr ⟨rows_lex _ p, rowss_lex pre (k + 1) ps, fun x hx y hy => ?_⟩
    obtain ⟨m, h1, _⟩ := rows_sub (pre ++ [k]) p x hx
    obtain ⟨j, q, m', h2, _, _⟩ := rowss_sub pre (k + 1) ps y hy
    rw [h1, h2, List.append_assoc]
    exact lex_split _ _ _ _ _ (by omega)
end
theorem rows_nodup (p : PT) : ((rowsT [] p).map (·.1)).Nodup := by
  refine List.pairwise_map.mpr ((rows_lex [] p).imp fun {x y} h e => ?_)
  rw [e] at h
  exact lex_irr _ h
/-- two lists in the order, with the same members, are the same -/
theorem lex_uniq : ∀ (l m : List (List Nat)), l.Pairwise lexN → m.Pairwise lexN → (∀ z, z ∈ l ↔ z ∈ m) → l = m
  | [], [], _, _, _ => rfl
  | [], y :: m, _, _, h => absurd ((h y).mpr List.mem_cons_self) List.not_mem_nil
  | x :: l, [], _, _, h => absurd ((h x).mp List.mem_cons_self) List.not_mem_nil
  | x :: l, y :: m, hl, hm, h => by
    obtain ⟨h1, h2⟩ := List.pairwise_cons.mp hl
    obtain ⟨g1, g2⟩ := List.pairwise_cons.mp hm
    have e : x = y := by
      rcases List.mem_cons.mp ((h x).mp List.mem_cons_self) with e | hx
      · exact e
      · rcases List.mem_cons.mp ((h y).mpr List.mem_cons_self) with e | hy
        · exact e.symm
        · exact (lex_irr _ (lex_trans (h1 y hy) (g1 x hx))).elim
    subst e
    rw [lex_uniq l m h2 g2 fun z => ⟨fun hz => ?_, fun hz => ?_⟩]
    · rcases List.mem_cons.mp ((h z).mp (List.mem_cons_of_mem _ hz)) with rfl | q
      · exact (lex_irr _ (h1 z hz)).elim
      · exact q
    · rcases List.mem_cons.mp ((h z).mpr (List.mem_cons_of_mem _ hz)) with rfl | q
      · exact (lex_irr _ (g1 z hz)).elim
      · exact q
end K21

namespace K21
open PySem L2 Sim Sim.PTr
/-! ### places as keys, sorted by the longest -/
def plK (l : List Nat) : List Key := l.map fun i : Nat => Sum.inl (i : Int)
theorem le_len {a b : List Key} (h : PySem.W.dataLe false keyK a b = true) : b.length ≤ a.length := by
  rw [PySem.W.dataLe_eq] at h
  have h : (!PySem.W.dataLt (keyK b) (keyK a)) = true := h
  by_cases c : b.length ≤ a.length
  · exact c
  · have e : PySem.W.dataLt (keyK b) (keyK a) = true := by
      unfold keyK
      rw [PySem.W.dataLt_tuple, PySem.W.dataLt_cons rfl]
      have ne : PyData.eqv (.int (0 - (b.length : Int))) (.int (0 - (a.length : Int))) = false := by
        simp only [PyData.eqv, beq_eq_false_iff_ne, ne_eq]
        omega
      rw [ne, if_neg Bool.false_ne_true, PySem.W.dataLt_int]
      exact decide_eq_true (by omega)
    rw [e] at h; cases h
theorem sortK_len (kss : List (List Key)) : (sortK kss).Pairwise fun a b => b.length ≤ a.length :=
  (PySem.W.sort_pairwise (PySem.W.sortLe_total _ false _) kss).imp fun h => le_len h
theorem sortK_perm (kss : List (List Key)) : (sortK kss).Perm kss := List.mergeSort_perm _ _
theorem plK_inj {l m : List Nat} (h : plK l = plK m) : l = m := by
  have := congrArg (List.map fun k : Key => match k with | .inl i => i.toNat | .inr _ => 0) h
  unfold plK at this
  rw [List.map_map, List.map_map] at this
  have e : ((fun k : Key => match k with | .inl i => i.toNat | .inr _ => 0) ∘ fun i : Nat => (Sum.inl (i : Int) : Key)) = id := by
    funext i; simp
  rw [e, List.map_id, List.map_id] at this
  exact this
theorem alike_ints : ∀ a b : List Nat, PySem.W.alikeAll ((plK a).map keyA) ((plK b).map keyA) = true
  | [], _ => rfl
  | _ :: _, [] => rfl
  | x :: a, y :: b => by
    show (PySem.W.alike (.int x) (.int y) && PySem.W.alikeAll ((plK a).map keyA) ((plK b).map keyA)) = true
    rw [alike_ints a b]; rfl
theorem keyable_pl (ls : List (List Nat)) : keyable (ls.map plK) = true := by
  unfold keyable alikes
  refine List.all_eq_true.mpr fun d hd => List.all_eq_true.mpr fun e he => ?_
  simp only [List.map_map, List.mem_map, Function.comp] at hd he
  obtain ⟨a, _, rfl⟩ := hd
  obtain ⟨b, _, rfl⟩ := he
  show (PySem.W.alike (.int (0 - ((plK a).length : Int))) (.int (0 - ((plK b).length : Int))) && (PySem.W.alikeAll ((plK a).map keyA) ((plK b).map keyA) && true)) = true
  rw [alike_ints a b]; rfl
/-- the sorted places: as places -/
theorem sort_pl (ls : List (List Nat)) : ∃ ms : List (List Nat), sortK (ls.map plK) = ms.map plK ∧ ms.Perm ls ∧ ms.Pairwise fun a b => b.length ≤ a.length := by
  have e := PySem.W.sort_maps (l := ls) (r := fun a b => PySem.W.dataLe false keyK (plK a) (plK b)) (s := PySem.W.dataLe false keyK) plK (fun _ _ _ _ => rfl)
  refine ⟨ls.mergeSort fun a b => PySem.W.dataLe false keyK (plK a) (plK b), ?_, List.mergeSort_perm _ _, ?_⟩
  · first | exact e | exact e.symm
  · have h := sortK_len (ls.map plK)
    have e2 : sortK (ls.map plK) = (ls.mergeSort fun a b => PySem.W.dataLe false keyK (plK a) (plK b)).map plK := by first | exact e | exact e.symm
    rw [e2] at h
    refine (List.pairwise_map.mp h).imp fun {a b} q => ?_
    simpa [plK] using q
end K21

namespace K21
open PySem L2 Sim Sim.PTr
/-! ### a list of works, drawn -/
def wkD (b : Nat) : D := .tup [.str "work", .int (b : Nat)]
theorem lc_works {fe : SemE} {gn : SemG} {ηw : LocD} {f g n B : Nat} {ns : List Int} (nf : n ≠ f) (ng : n ≠ g) (hg : ∀ x, ∃ η2, gn x ηw = some η2 ∧
      ∀ s t, FeedD s f g ns t → t + 1 < 2 ^ 15 → ∃ (b : Nat) (s' : Sto), fe η2 s = some (wkD b, s') ∧ b ≤ B ∧ FeedD s' f g ns (t + 1) ∧ Keep f s s') :
    ∀ (xs : List D) (st : Sto) (acc : List D) (t : Nat), FeedD st f g ns t → st[n]? = some (.lst acc) → acc.length + xs.length < 100000 → t + xs.length < 2 ^ 15 →
      ∃ (bs : List Nat) (st' : Sto), lcGo gn gYes fe ηw none n xs st = some st' ∧ bs.length = xs.length ∧ (∀ b ∈ bs, b ≤ B) ∧ FeedD st' f g ns (t + xs.length) ∧ KeepM [f, n] st st' ∧ st'[n]? = some (.lst (acc ++ bs.map wkD))
  | [], st, acc, t, F, ha, _, _ => by
    refine ⟨[], st, ?_, rfl, (fun b h => by cases h), F, (fun k o _ h => h), by simpa using ha⟩
    unfold lcGo
    exact if_pos (okn st)
  | x :: r, st, acc, t, F, ha, hl, ht => by
    rw [List.length_cons] at hl ht
    obtain ⟨η2, h1, h2⟩ := hg x
    obtain ⟨b, s1, h3, h4, h5, h6⟩ := h2 st t F (by omega)
    have a1 : s1[n]? = some (.lst acc) := h6 _ _ nf ha
    have hl2 : acc.length < most := show acc.length < 100000 by omega
    have a2 : (s1.set n (.lst (acc ++ [wkD b])))[n]? = some (.lst (acc ++ [wkD b])) := set_self a1
    obtain ⟨bs, st', k1, k2, k3, k4, k5, k6⟩ := lc_works nf ng hg r (s1.set n (.lst (acc ++ [wkD b]))) (acc ++ [wkD b]) (t + 1) (h5.set nf ng) a2 (by rw [List.length_append, List.length_cons, List.length_nil]; omega) (by omega)
    refine ⟨b :: bs, st', ?_, by rw [List.length_cons, k2, List.length_cons], (fun z hz => ?_), ?_, ?_, ?_⟩
    · rw [lcGo, if_pos (okn st), h1]
      simp only [Option.bind_some, gYes, if_true, h3, a1]
      rw [if_pos hl2]
      exact k1
    · rcases List.mem_cons.mp hz with rfl | hz
      · exact h4
      · exact k3 z hz
    · rw [List.length_cons, show t + (r.length + 1) = t + 1 + r.length by omega]; exact k4
    · intro k o hk ho
      have h7 := (h6.toM (M := [f, n]) (by simp)) k o hk ho
      exact k5 k o hk ((KeepM.set (M := [f, n]) (f := n) (by simp)) k o hk h7)
    · rw [k6, List.map_cons, List.append_assoc]; rfl
end K21

namespace K21
open PySem L2 Sim Sim.PTr
theorem wide_lst (n : Nat) {st : Sto} {f g : Nat} {ns : List Int} {t m : Nat} (F : FeedD st f g ns t) (fg : f ≠ g) (ht : t + 20 < 30000) (hm : m ≤ 12) {e1 e2 : Option D} :
    ∃ (bs : List Nat) (st' : Sto), lcGo (gvName 2) gYes (fTup (fCons (fC (.str "work")) (fCons (fCall (callN pg (n + 1)) "_law_draw" (fCons (fVar 0) (fCons (fC (.int 9)) (fNil)))) (fNil)))) [some (.ref f), e1, e2] none st.length (rngD 0 m 1) (st ++ [.lst []]) = some st' ∧ bs.length = m ∧ (∀ b ∈ bs, b ≤ 9) ∧ FeedD st' f g ns (t + m) ∧ Keep f st st' ∧ st'[st.length]? = some (.lst (bs.map wkD)) := by
  have ff : st.length ≠ f := fun z => by have := F.lt; omega
  have gg : st.length ≠ g := fun z => by have := F.ltg; omega
  obtain ⟨bs, st', k1, k2, k3, k4, k5, k6⟩ := lc_works (fe := fTup (fCons (fC (.str "work")) (fCons (fCall (callN pg (n + 1)) "_law_draw" (fCons (fVar 0) (fCons (fC (.int 9)) (fNil)))) (fNil)))) (gn := gvName 2) (ηw := [some (.ref f), e1, e2]) (f := f) (g := g) (n := st.length) (B := 9) (ns := ns) ff gg
    (fun x => ⟨[some (.ref f), e1, some x], rfl, fun s t2 F2 h2 => by
      obtain ⟨b, s', d1, l1, F3, K3⟩ := draw_ok n F2 fg (m := 9) (by decide) (by decide) h2
      refine ⟨b, s', ?_, by omega, F3, K3⟩
      simp [d1, wkD]⟩) (rngD 0 m 1) (st ++ [.lst []]) [] t F.app get_new (by rw [rngD_len]; simp; omega) (by rw [rngD_len]; omega)
  rw [rngD_len] at k2 k4
  refine ⟨bs, st', k1, k2, k3, k4, ?_, by simpa using k6⟩
  intro k o hk ho
  have hlt := (List.getElem?_eq_some_iff.mp ho).1
  refine k5 k o (fun z => ?_) (get_app ho)
  rcases List.mem_cons.mp z with z | z
  · exact hk z
  · rcases List.mem_cons.mp z with z | z
    · omega
    · cases z
end K21

namespace K21
open PySem L2 Sim Sim.PTr
def worksT (bs : List Nat) : PTs := fromL (bs.map fun b => (0, 0, .work b 0))
theorem worksT_d (bs : List Nat) : treeDs (worksT bs) = bs.map wkD := by
  unfold worksT
  rw [treeDs_map, toL_fromL, List.map_map]
  rfl
theorem worksT_ok : ∀ bs : List Nat, (∀ b ∈ bs, b ≤ 9) → OkWs 0 (worksT bs)
  | [], _ => trivial
  | b :: bs, h => ⟨Nat.le_trans (h b List.mem_cons_self) (by decide), worksT_ok bs fun z hz => h z (List.mem_cons_of_mem _ hz)⟩
theorem worksT_len (bs : List Nat) : (worksT bs).len = bs.length := by
  rw [← toL_len]
  unfold worksT
  rw [toL_fromL, List.length_map]
theorem wide_ok (n : Nat) {st : Sto} {f g : Nat} {ns : List Int} {t : Nat} (F : FeedD st f g ns t) (fg : f ≠ g) (ht : t + 40 < 30000) :
    ∃ (p : PT) (st' : Sto) (t' : Nat), callN pg (n + 2) "_law_wide" [.ref f] st = some (treeD p, st') ∧ FeedD st' f g ns t' ∧ t' ≤ t + 14 ∧ OkW 1 p ∧ Keep f st st' := by
  obtain ⟨q, s1, d1, l1, F1, K1⟩ := draw_ok n F fg (m := 8) (by decide) (by decide) (by omega)
  obtain ⟨bs, s2, e2, b1, b2, F2, K2, g2⟩ := wide_lst n (m := 4 + q) F1 fg (by omega) (by omega) (e1 := none) (e2 := none)
  have F3 : FeedD (s2 ++ [O.lst [.str "then", .str "beside"]]) f g ns _ := F2.app
  obtain ⟨w, s3, d3, l3, F4, K3⟩ := draw_ok n F3 fg (m := 2) (by decide) (by decide) (by omega)
  obtain ⟨r, s4, d4, l4, F5, K4⟩ := draw_ok n F4 fg (m := 3) (by decide) (by decide) (by omega)
  have g3 := K3 _ _ (show s2.length ≠ f from fun z => by have := F2.lt; omega) (get_new (st := s2) (o := O.lst [.str "then", .str "beside"]))
  have hw : ∃ v : Bool, ix (.ref s2.length) (.int (w : Nat)) s3 = some (.str (wordT v)) := by
    by_cases z : w = 0
    · subst z; exact ⟨true, ix_ref g3 rfl⟩
    · have : w = 1 := by omega
      subst this; exact ⟨false, ix_ref g3 rfl⟩
  obtain ⟨v, hv⟩ := hw
  have tu := tup_ref g2
  have rg : iRng (fCons (fBin .Add (fC (.int 4)) (fCall (callN pg (n + 1)) "_law_draw" (fCons (fVar 0) (fCons (fC (.int 8)) (fNil))))) (fNil)) [some (.ref f), none, none] st = some (⟨rngD 0 (4 + q) 1, none⟩, s1) := by
    refine rng_src (N := ((4 + q : Nat) : Int)) ?_ (rng_nat (by omega))
    have e4 : (4 : Int) + (q : Int) = ((4 + q : Nat) : Int) := by omega
    have ad : binop .Add (.int 4) (.int (q : Nat)) s1 = some (.int ((4 + q : Nat) : Int), s1) := by rw [← e4]; rfl
    simp [d1]
  have lc : fLc (iRng (fCons (fBin .Add (fC (.int 4)) (fCall (callN pg (n + 1)) "_law_draw" (fCons (fVar 0) (fCons (fC (.int 8)) (fNil))))) (fNil))) (gvName 2) gYes (fTup (fCons (fC (.str "work")) (fCons (fCall (callN pg (n + 1)) "_law_draw" (fCons (fVar 0) (fCons (fC (.int 9)) (fNil)))) (fNil)))) [2] [some (.ref f), none, none] st = some (.ref s1.length, s2) := by
    rw [fLc_ev, rg]
    simp only [Option.bind_some]
    have wz : wipeD [some (D.ref f), none, none] [2] = [some (.ref f), none, none] := rfl
    rw [wz, e2]; rfl
  refine ⟨.node v r (worksT bs), s4, _, ?_, F5, by omega, ⟨by omega, by rw [worksT_len]; omega, by rw [worksT_len]; omega, worksT_ok bs b2⟩, ((K1.trans K2).trans Keep.app).trans (K3.trans K4)⟩
  rw [r__law_wide, runB_ev rfl]
  show (Option.bind (b__law_wide (callN pg (n + 1)) [some (.ref f), none, none] st) _) = _
  unfold b__law_wide
  rw [treeD, worksT_d]
  generalize fLc _ _ _ _ _ = L at *
  generalize List.map wkD bs = W at *
  simp [lc, tu, Sim.alloc, d3, d4, hv]
end K21

namespace K21
open PySem L2 Sim Sim.PTr
/-! ### the feed: the script at 0, the table at 1 -/
theorem law_feed_ok (n : Nat) {ns : List Int} {o tb : O} (ho : o = .lst (ns.map .int) ∨ o = .frz (ns.map .int)) : ∃ (ms : List Int) (os : List O), callN pg (n + 1) "_law_feed" [.ref 0] [o, tb] = some (.ref 2, o :: tb :: os) ∧ FeedD (o :: tb :: os) 2 4 ms 0 := by
  obtain ⟨ms, e⟩ := cut_ints ns none (some 63)
  have s : slD (.ref 0) none (some 63) [o, tb, .dct []] = some (.ref 3, [o, tb, .dct [], .lst (ms.map .int)]) := by
    rcases ho with rfl | rfl
    · show Sim.alloc (.lst (cutD _ _ _)) _ = _
      rw [e]; rfl
    · show Sim.alloc (.lst (cutD _ _ _)) _ = _
      rw [e]; rfl
  refine ⟨ms, [fdD 4 0 0 0, .lst (ms.map .int), .lst (ms.map .int)], ?_, ⟨0, 0, 0, rfl, rfl, by decide, by decide, by decide⟩⟩
  rw [r__law_feed, runB_ev rfl]
  show (Option.bind (b__law_feed (callN pg n) [some (.ref 0)] [o, tb]) _) = _
  have bl : bList [.ref 3] [o, tb, .dct [], .lst (ms.map .int)] = some (.ref 4, [o, tb, .dct [], .lst (ms.map .int), .lst (ms.map .int)]) := rfl
  have args : (fCons (fBlt bList (fCons (fSl (fVar 0) (oNone) (oSome (fC (.int 63)))) (fNil))) (fCons (fC (.int 0)) (fCons (fC (.int 0)) (fCons (fC (.int 0)) (fNil))))) [some (.ref 0)] ([o, tb] ++ [.dct []]) = some ([.ref 4, .int 0, .int 0, .int 0], [o, tb, .dct [], .lst (ms.map .int), .lst (ms.map .int)]) := by
    simp [s, bl]
  have mg : mergeD ["cells", "at", "left", "turn"] [.ref 4, .int 0, .int 0, .int 0] = [(.inr "cells", .ref 4), (.inr "at", .int 0), (.inr "left", .int 0), (.inr "turn", .int 0)] := by kernel_rfl
  have fd : fDsp ["cells", "at", "left", "turn"] (fCons (fBlt bList (fCons (fSl (fVar 0) (oNone) (oSome (fC (.int 63)))) (fNil))) (fCons (fC (.int 0)) (fCons (fC (.int 0)) (fCons (fC (.int 0)) (fNil))))) [some (.ref 0)] [o, tb] = some (.ref 2, [o, tb, fdD 4 0 0 0, .lst (ms.map .int), .lst (ms.map .int)]) := by
    unfold fDsp
    rw [args]
    simp only [Option.bind_some]
    rw [if_pos ⟨rfl, by decide⟩, mg]; rfl
  unfold b__law_feed
  rw [sSeq_ev, sRet_ev, fd]; rfl
end K21

namespace K21
open PySem L2 Sim Sim.PTr
/-! ### dicts by places: of a list of places without doubles, as it stands -/
theorem key_pl : ∀ l : List Nat, mapO keyD (numsD l) = some (plK l)
  | [] => rfl
  | k :: l => by
    show (some (Sum.inl ((k : Nat) : Int))).bind _ = _
    show (mapO _ (numsD l)).map _ = _
    rw [key_pl l]; rfl
def dOf (v : List Nat → D) (ls : List (List Nat)) : List (List Key × D) := ls.map fun l => (plK l, v l)
theorem dOf_get {v : List Nat → D} {l : List Nat} : ∀ {ls : List (List Nat)}, l ∈ ls → getK (dOf v ls) (plK l) = some (v l)
  | m :: ls, h => by
    unfold dOf getK
    rw [List.map_cons]
    by_cases c : m = l
    · subst c
      rw [List.find?_cons_of_pos (by simp)]; rfl
    · have c2 : plK m ≠ plK l := fun e => c (plK_inj e)
      rw [List.find?_cons_of_neg (by simp [c2])]
      rcases List.mem_cons.mp h with e | h
      · exact absurd e.symm c
      · exact dOf_get h
theorem dOf_put {v : List Nat → D} {l : List Nat} {ls : List (List Nat)} (h : l ∉ ls) : putD (dOf v ls) (plK l) (v l) = dOf v (ls ++ [l]) := by
  have a : (dOf v ls).any (fun kv => decide (kv.1 = plK l)) = false := by
    refine List.any_eq_false.mpr fun x hx => ?_
    obtain ⟨m, hm, rfl⟩ := List.mem_map.mp hx
    have : plK m ≠ plK l := fun e => h (plK_inj e ▸ hm)
    simp [this]
  unfold putD
  rw [a, if_neg Bool.false_ne_true]
  unfold dOf
  rw [List.map_append]; rfl
theorem dOf_keys {v : List Nat → D} (ls : List (List Nat)) : (dOf v ls).map (·.1) = ls.map plK := by
  unfold dOf
  rw [List.map_map]; rfl
end K21

namespace K21
open PySem L2 Sim Sim.PTr
/-- of places by length, the longer stand before -/
theorem longer_before {a b : List (List Nat)} {l m : List Nat} (hp : (a ++ l :: b).Pairwise fun x y => y.length ≤ x.length) (hm : m ∈ a ++ l :: b) (hl : l.length < m.length) : m ∈ a := by
  rcases List.mem_append.mp hm with h | h
  · exact h
  · rcases List.mem_cons.mp h with rfl | h
    · omega
    · have h2 := (List.pairwise_cons.mp (List.pairwise_append.mp hp).2.1).1 m h
      omega
end K21

namespace K21
open PySem L2 Sim Sim.PTr
/-! ### places: those visited, those that wait -/
def kidsL : PT → List (Nat × Nat × PT)
  | .work _ _ => []
  | .node _ _ ps => toL ps
theorem kids_L (p : PT) : kids p = (kidsL p).map fun z => treeD z.2.2 := by
  cases p with
  | work b r => rfl
  | node w t ps => exact treeDs_map ps
theorem sub_nil (p : PT) : sub p [] = some p := by cases p <;> rfl
theorem sub_cons (p : PT) (k : Nat) (l : List Nat) : sub p (k :: l) = ((kidsL p)[k]?).bind fun q => sub q.2.2 l := by
  cases p with
  | work b r => simp [sub, kidsL]
  | node w t ps => rfl
theorem sub_snoc : ∀ (l : List Nat) (p q : PT) (k : Nat), sub p l = some q → sub p (l ++ [k]) = ((kidsL q)[k]?).map fun z => z.2.2
  | [], p, q, k, h => by
    rw [sub_nil] at h; cases h
    rw [List.nil_append, sub_cons]
    cases (kidsL p)[k]? with
    | none => rfl
    | some z => exact sub_nil _
  | j :: l, p, q, k, h => by
    rw [sub_cons] at h
    rw [List.cons_append, sub_cons]
    cases e : (kidsL p)[j]? with
    | none => rw [e] at h; cases h
    | some z => rw [e] at h; exact sub_snoc l z.2.2 q k h
theorem sub_up : ∀ (l : List Nat) (p r : PT) (k : Nat), sub p (l ++ [k]) = some r → ∃ q, sub p l = some q
  | [], p, r, k, _ => ⟨p, sub_nil p⟩
  | j :: l, p, r, k, h => by
    rw [List.cons_append, sub_cons] at h
    rw [sub_cons]
    cases e : (kidsL p)[j]? with
    | none => rw [e] at h; cases h
    | some z => rw [e] at h; exact sub_up l z.2.2 r k h
theorem nodup_le {α : Type} [DecidableEq α] : ∀ {l m : List α}, l.Nodup → (∀ x ∈ l, x ∈ m) → l.length ≤ m.length
  | [], m, _, _ => Nat.zero_le _
  | x :: l, m, h, hs => by
    obtain ⟨h1, h2⟩ := List.nodup_cons.mp h
    have a := nodup_le (m := m.erase x) h2 fun y hy => (List.mem_erase_of_ne (a := y) (b := x) (fun e => by subst e; exact h1 hy)).mpr (hs y (List.mem_cons_of_mem _ hy))
    have hx := hs x List.mem_cons_self
    rw [List.length_erase_of_mem hx] at a
    have := List.length_pos_of_mem hx
    rw [List.length_cons]; omega
def chs (l : List Nat) (k n : Nat) : List (List Nat) := (List.range' k n).map fun j => l ++ [j]
theorem chs_len (l : List Nat) (k n : Nat) : (chs l k n).length = n := by simp [chs]
theorem chs_succ (l : List Nat) (k n : Nat) : chs l k (n + 1) = (l ++ [k]) :: chs l (k + 1) n := rfl
theorem mem_chs {l m : List Nat} {n : Nat} : m ∈ chs l 0 n ↔ ∃ j, j < n ∧ m = l ++ [j] := by
  unfold chs
  rw [List.mem_map]
  constructor
  · rintro ⟨j, h, rfl⟩
    rw [List.mem_range'_1] at h
    exact ⟨j, by omega, rfl⟩
  · rintro ⟨j, h, rfl⟩
    exact ⟨j, by rw [List.mem_range'_1]; omega, rfl⟩
theorem snoc_inj {l m : List Nat} {j k : Nat} (h : l ++ [j] = m ++ [k]) : l = m ∧ j = k := by
  obtain ⟨a, b⟩ := List.append_inj' h rfl
  exact ⟨a, by cases b; rfl⟩
theorem chs_nodup (l : List Nat) (k n : Nat) : (chs l k n).Nodup := by
  unfold chs
  refine List.pairwise_map.mpr ?_
  refine (List.pairwise_lt_range' (s := k) (n := n)).imp fun {a b} h e => ?_
  have := (snoc_inj e).2
  omega
structure SpI (p : PT) (vs qs : List (List Nat)) : Prop where
  nd : (vs ++ qs).Nodup
  wf : ∀ l ∈ vs ++ qs, ∃ q, sub p l = some q
  root : [] ∈ vs ++ qs
  ch : ∀ l ∈ vs, ∀ k q, sub p (l ++ [k]) = some q → l ++ [k] ∈ vs ++ qs
  pa : ∀ l k, l ++ [k] ∈ vs ++ qs → l ∈ vs
theorem SpI.start (p : PT) : SpI p [] [[]] := by
  refine ⟨by simp, fun l h => ?_, by simp, fun l h => (by cases h), fun l k h => ?_⟩
  · rw [List.nil_append, List.mem_singleton] at h
    subst h
    exact ⟨p, sub_nil p⟩
  · rw [List.nil_append, List.mem_singleton] at h
    simp at h
theorem SpI.next {p q : PT} {l : List Nat} {vs qs : List (List Nat)} (h : SpI p vs (l :: qs)) (hq : sub p l = some q) : SpI p (vs ++ [l]) (qs ++ chs l 0 (kidsL q).length) := by
  have e : (vs ++ [l]) ++ (qs ++ chs l 0 (kidsL q).length) = (vs ++ l :: qs) ++ chs l 0 (kidsL q).length := by simp [List.append_assoc]
  have hl : l ∉ vs := fun hv => (List.pairwise_append.mp h.nd).2.2 l hv l List.mem_cons_self rfl
  refine ⟨?_, ?_, ?_, ?_, ?_⟩
  · rw [e]
    refine List.pairwise_append.mpr ⟨h.nd, chs_nodup _ _ _, fun a ha b hb ab => ?_⟩
    obtain ⟨j, _, rfl⟩ := mem_chs.mp hb
    rw [ab] at ha
    exact hl (h.pa l j ha)
  · rw [e]
    intro m hm
    rcases List.mem_append.mp hm with hm | hm
    · exact h.wf m hm
    · obtain ⟨j, hj, rfl⟩ := mem_chs.mp hm
      rw [sub_snoc l p q j hq, List.getElem?_eq_getElem hj]
      exact ⟨_, rfl⟩
  · rw [e]; exact List.mem_append_left _ h.root
  · rw [e]
    intro m hm k r hr
    rcases List.mem_append.mp hm with hm | hm
    · exact List.mem_append_left _ (h.ch m hm k r hr)
    · rw [List.mem_singleton] at hm
      subst hm
      rw [sub_snoc m p q k hq] at hr
      refine List.mem_append_right _ (mem_chs.mpr ⟨k, ?_, rfl⟩)
      cases z : (kidsL q)[k]? with
      | none => rw [z] at hr; cases hr
      | some y => exact (List.getElem?_eq_some_iff.mp z).1
  · rw [e]
    intro m k hm
    rcases List.mem_append.mp hm with hm | hm
    · exact List.mem_append_left _ (h.pa m k hm)
    · obtain ⟨j, _, ej⟩ := mem_chs.mp hm
      rw [(snoc_inj ej).1]
      exact List.mem_append_right _ List.mem_cons_self
theorem SpI.len {p : PT} {vs qs : List (List Nat)} (h : SpI p vs qs) : (vs ++ qs).length ≤ (rowsT [] p).length := by
  have := nodup_le (m := (rowsT [] p).map (·.1)) h.nd fun l hl => by
    obtain ⟨q, hq⟩ := h.wf l hl
    exact List.mem_map.mpr ⟨_, sub_rows [] p l q hq, rfl⟩
  rwa [List.length_map] at this
theorem SpI.all {p : PT} {vs : List (List Nat)} (h : SpI p vs []) : ∀ (n : Nat) (l : List Nat), l.length = n → ∀ q, sub p l = some q → l ∈ vs := by
  have e : vs ++ [] = vs := List.append_nil _
  intro n
  induction n with
  | zero =>
    intro l hl q hq
    rw [List.length_eq_zero_iff] at hl
    subst hl
    have := h.root
    rwa [e] at this
  | succ n ih =>
    intro l hl q hq
    rcases List.eq_nil_or_concat l with rfl | ⟨L, b, rfl⟩
    · cases hl
    · rw [List.concat_eq_append] at hl hq ⊢
      obtain ⟨r, hr⟩ := sub_up L p q b hq
      have hL := ih L (by simpa using hl) r hr
      have := h.ch L hL b q hq
      rwa [e] at this
theorem SpI.iff {p : PT} {vs : List (List Nat)} (h : SpI p vs []) (l : List Nat) : l ∈ vs ↔ l ∈ (rowsT [] p).map (·.1) := by
  constructor
  · intro hl
    obtain ⟨q, hq⟩ := h.wf l (List.mem_append_left _ hl)
    exact List.mem_map.mpr ⟨_, sub_rows [] p l q hq, rfl⟩
  · intro hl
    obtain ⟨z, hz, rfl⟩ := List.mem_map.mp hl
    obtain ⟨m, h1, h2⟩ := rows_sub [] p z hz
    rw [List.nil_append] at h1
    rw [h1]
    exact h.all _ m rfl z.2 h2
end K21

namespace K21
open PySem L2 Sim Sim.PTr
/-! ### the dict of places, by a row of places that grows -/
def vT (p : PT) (l : List Nat) : D := match sub p l with
  | some q => treeD q
  | none => .non
theorem vT_of {p q : PT} {l : List Nat} (h : sub p l = some q) : vT p l = treeD q := by unfold vT; rw [h]
theorem keyT_pl (l : List Nat) : keyT (plD l) = some (plK l) := key_pl l
theorem ix_dt {s : Sto} {R : Nat} {l : List Nat} {ls : List (List Nat)} {v : List Nat → D} (h : s[R]? = some (.dtp (dOf v ls))) (hl : l ∈ ls) : ix (.ref R) (plD l) s = some (v l) := by
  have e1 : ixS (.ref R) (plD l) s = none := rfl
  unfold ix
  rw [e1]
  show (dlook _ _ _).bind _ = _
  unfold dlook
  simp only [h, keyT_pl]
  show (some (getK _ _)).bind _ = _
  rw [dOf_get hl]; rfl
theorem setI_dt {s : Sto} {R : Nat} {l : List Nat} {ls : List (List Nat)} {v : List Nat → D} {x : D} (h : s[R]? = some (.dtp (dOf v ls))) (hx : x = v l) (hl : l ∉ ls) (hz : ls.length < 100000) : setI (.ref R) (plD l) x s = some (s.set R (.dtp (dOf v (ls ++ [l])))) := by
  have e1 : setL (.ref R) (plD l) x s = none := rfl
  have hz2 : (dOf v ls).length < most := by unfold dOf; rw [List.length_map]; exact hz
  unfold setI
  rw [e1]
  show setD _ _ _ _ = _
  unfold setD
  simp only [h, keyT_pl, Option.bind_some]
  rw [if_pos hz2, hx, dOf_put hl]
abbrev spB : SemS := sSeq (sSub (fVar 1) (fBin .Add (fVar 3) (fTup (fCons (fVar 4) (fNil)))) (fVar 5))
            (sSeq (sExpr (fApp (fVar 2) (fBin .Add (fVar 3) (fTup (fCons (fVar 4) (fNil))))))
            (sNil))
abbrev spG : SemG := gvTup (gvCons (gvName 4) (gvCons (gvName 5) (gvNil)))
theorem sp_for {v : List Nat → D} {R Q : Nat} (hRQ : R ≠ Q) {l : List Nat} (hl : l.length < 1000) {P : D} : ∀ (zs : List (Nat × Nat × PT)) (k : Nat) (s : Sto) (ls qs : List (List Nat)) (e4 e5 : Option D), (∀ j z, zs[j]? = some z → v (l ++ [k + j]) = treeD z.2.2) → (ls ++ chs l k zs.length).Nodup →
    s[R]? = some (.dtp (dOf v ls)) → s[Q]? = some (.lst (qs.map plD)) → ls.length + zs.length < 100000 → qs.length + zs.length < 100000 →
    ∃ (s' : Sto) (h4 h5 : Option D), forGo spG spB none (enF k (zs.map fun z => treeD z.2.2)) [some P, some (.ref R), some (.ref Q), some (plD l), e4, e5] s = some (.nx [some P, some (.ref R), some (.ref Q), some (plD l), h4, h5], s') ∧
      s'[R]? = some (.dtp (dOf v (ls ++ chs l k zs.length))) ∧ s'[Q]? = some (.lst ((qs ++ chs l k zs.length).map plD)) ∧ KeepM [R, Q] s s'
  | [], k, s, ls, qs, e4, e5, _, _, hR, hQ, _, _ => by
    refine ⟨s, e4, e5, forGo_nil, ?_, ?_, KeepM.refl _ _⟩
    · simpa [chs] using hR
    · simpa [chs] using hQ
  | z :: zs, k, s, ls, qs, e4, e5, hv, nd, hR, hQ, l1, l2 => by
    rw [List.length_cons] at l1 l2
    have nd2 : ((ls ++ [l ++ [k]]) ++ chs l (k + 1) zs.length).Nodup := by
      rw [List.append_assoc]; exact nd
    have nl : l ++ [k] ∉ ls := fun h => (List.pairwise_append.mp nd).2.2 _ h (l ++ [k]) (by rw [List.length_cons, chs_succ]; exact List.mem_cons_self) rfl
    have v0 : treeD z.2.2 = v (l ++ [k]) := (hv 0 z rfl).symm
    have ad := fun s => pl_add (pl_refl l) (k := k) hl s
    have st1 := setI_dt hR v0 nl (by omega)
    have hQ2 : (s.set R (.dtp (dOf v (ls ++ [l ++ [k]]))))[Q]? = some (.lst (qs.map plD)) := by rw [List.getElem?_set_ne hRQ]; exact hQ
    have hR2 : (s.set R (.dtp (dOf v (ls ++ [l ++ [k]]))))[R]? = some (.dtp (dOf v (ls ++ [l ++ [k]]))) := set_self hR
    have k1 : KeepM [R, Q] s (s.set R (.dtp (dOf v (ls ++ [l ++ [k]])))) := KeepM.set (by simp)
    generalize hs1 : s.set R (.dtp (dOf v (ls ++ [l ++ [k]]))) = s1 at *
    have ap := app_ev (o := fVar 2) (e := fBin .Add (fVar 3) (fTup (fCons (fVar 4) (fNil)))) (η := [some P, some (.ref R), some (.ref Q), some (plD l), some (.int (k : Nat)), some (treeD z.2.2)]) (st := s1) (s1 := s1) (s2 := s1) (n := Q) (d := plD (l ++ [k])) rfl hQ2 (by simp [ad]) hQ2 (by rw [List.length_map]; omega)
    have hR3 : (s1.set Q (.lst ((qs ++ [l ++ [k]]).map plD)))[R]? = some (.dtp (dOf v (ls ++ [l ++ [k]]))) := by rw [List.getElem?_set_ne (Ne.symm hRQ)]; exact hR2
    have hQ3 : (s1.set Q (.lst ((qs ++ [l ++ [k]]).map plD)))[Q]? = some (.lst ((qs ++ [l ++ [k]]).map plD)) := set_self hQ2
    have k2 : KeepM [R, Q] s1 (s1.set Q (.lst ((qs ++ [l ++ [k]]).map plD))) := KeepM.set (by simp)
    have e0 : qs.map plD ++ [plD (l ++ [k])] = (qs ++ [l ++ [k]]).map plD := by rw [List.map_append]; rfl
    rw [e0] at ap
    generalize hs2 : s1.set Q (.lst ((qs ++ [l ++ [k]]).map plD)) = s2 at *
    obtain ⟨s', h4, h5, run, gR, gQ, kk⟩ := sp_for hRQ hl (P := P) zs (k + 1) s2 (ls ++ [l ++ [k]]) (qs ++ [l ++ [k]]) (some (.int (k : Nat))) (some (treeD z.2.2)) (fun j y hy => by
      have := hv (j + 1) y (by rw [List.getElem?_cons_succ]; exact hy)
      rwa [show k + (j + 1) = k + 1 + j by omega] at this) nd2 hR3 hQ3 (by rw [List.length_append, List.length_cons, List.length_nil]; omega) (by rw [List.length_append, List.length_cons, List.length_nil]; omega)
    refine ⟨s', h4, h5, ?_, ?_, ?_, (k1.trans k2).trans kk⟩
    · rw [List.map_cons, en_cons]
      refine (forGo_nx (η2 := [some P, some (.ref R), some (.ref Q), some (plD l), some (.int (k : Nat)), some (treeD z.2.2)]) (η' := [some P, some (.ref R), some (.ref Q), some (plD l), some (.int (k : Nat)), some (treeD z.2.2)]) (st' := s2) rfl ?_).trans run
      have a1 : sSub (fVar 1) (fBin .Add (fVar 3) (fTup (fCons (fVar 4) (fNil)))) (fVar 5) [some P, some (.ref R), some (.ref Q), some (plD l), some (.int (k : Nat)), some (treeD z.2.2)] s = some (.nx [some P, some (.ref R), some (.ref Q), some (plD l), some (.int (k : Nat)), some (treeD z.2.2)], s1) := by
        generalize treeD z.2.2 = T at *
        simp [ad, st1]
      have a2 : sExpr (fApp (fVar 2) (fBin .Add (fVar 3) (fTup (fCons (fVar 4) (fNil))))) [some P, some (.ref R), some (.ref Q), some (plD l), some (.int (k : Nat)), some (treeD z.2.2)] s1 = some (.nx [some P, some (.ref R), some (.ref Q), some (plD l), some (.int (k : Nat)), some (treeD z.2.2)], s2) := by
        rw [sExpr_ev, ap]; rfl
      exact (seq_step a1).trans ((seq_step a2).trans rfl)
    · rw [gR, List.append_assoc]; rfl
    · rw [gQ, List.append_assoc]; rfl
end K21

namespace K21
open PySem L2 Sim Sim.PTr
/-! ### `_law_spots` -/
def plP (l : List Nat) : PyData := .tuple (l.map fun i : Nat => .int (i : Int))
theorem toP_nums (st : Sto) (n : Nat) : ∀ l : List Nat, mapO (fun x => toP st (n + 1) x) (numsD l) = some (l.map fun i : Nat => PyData.int (i : Int))
  | [] => rfl
  | k :: l => by
    show (some (PyData.int (k : Int))).bind _ = _
    show (mapO _ (numsD l)).map _ = _
    rw [toP_nums st n l]; rfl
theorem toP_pl (st : Sto) (n : Nat) (l : List Nat) : toP st (n + 2) (plD l) = some (plP l) := by
  show (mapO _ (numsD l)).map _ = _
  rw [toP_nums st n l]; rfl
theorem toP_pls (st : Sto) (n : Nat) : ∀ ls : List (List Nat), mapO (fun x => toP st (n + 2) x) (ls.map plD) = some (ls.map plP)
  | [] => rfl
  | l :: ls => by
    show (toP st (n + 2) (plD l)).bind _ = _
    rw [toP_pl]
    show (mapO _ (ls.map plD)).map _ = _
    rw [toP_pls st n ls]; rfl
theorem lay_nums : ∀ l : List Nat, PyData.canLayAll0 (l.map fun i : Nat => PyData.int (i : Int)) = true
  | [] => rfl
  | m :: l => by
    show (PyData.canLay0 (.int m) && _) = true
    rw [lay_nums l]; rfl
theorem dep_nums : ∀ l : List Nat, PyData.depthAll (l.map fun i : Nat => PyData.int (i : Int)) = 0
  | [] => rfl
  | m :: l => by
    show max _ _ = 0
    rw [dep_nums l]; rfl
theorem lay_pls : ∀ ls : List (List Nat), PyData.canLayAll0 (ls.map plP) = true
  | [] => rfl
  | l :: ls => by
    show (PyData.canLayAll0 (l.map fun i : Nat => PyData.int (i : Int)) && PyData.canLayAll0 (ls.map plP)) = true
    rw [lay_pls ls, lay_nums]; rfl
theorem dep_pls : ∀ ls : List (List Nat), PyData.depthAll (ls.map plP) ≤ 1
  | [] => Nat.zero_le _
  | l :: ls => by
    show max (PyData.depthAll (l.map fun i : Nat => PyData.int (i : Int)) + 1) (PyData.depthAll (ls.map plP)) ≤ 1
    have := dep_pls ls
    rw [dep_nums]; omega
theorem shaped_pls (ls : List (List Nat)) : SeqAt.shaped (.list (ls.map plP)) = true := by
  show (PyData.canLayAll0 _ && decide (PyData.depthAll _ + 1 ≤ 64)) = true
  have := dep_pls ls
  rw [lay_pls, decide_eq_true (by omega)]; rfl
theorem ne_voidQ {s : Sto} {Q : Nat} {qs : List (List Nat)} (h : s[Q]? = some (.lst (qs.map plD))) : cmpop .NotEq (.ref Q) (.ref s.length) (s ++ [.lst []]) = some (!qs.isEmpty) := by
  show (cmpop .Eq (.ref Q) (.ref s.length) (s ++ [.lst []])).map _ = _
  rw [eq_data (d := .list (qs.map plP)) (e := .list []) ?_ ?_ (shaped_pls qs) rfl]
  · cases qs <;> rfl
  · unfold toP
    rw [get_app h]
    show (mapO _ _).map _ = _
    rw [toP_pls]; rfl
  · unfold toP
    rw [List.getElem?_append_right (Nat.le_refl _)]; simp; rfl
theorem pop0_ev {o : SemE} {η : LocD} {s : Sto} {Q : Nat} {x : D} {xs : List D} (ho : o η s = some (.ref Q, s)) (h : s[Q]? = some (.lst (x :: xs))) : fPop1 o (fC (.int 0)) η s = some (x, s.set Q (.lst xs)) := by
  have lb : lstB (.ref Q) s = true := by unfold lstB; simp only [h]
  unfold fPop1
  rw [ho]
  simp only [Option.bind_some, lb, Bool.true_or, if_true, fC_ev, true_and, true_or]
  unfold popD
  simp only [h]
  have si : seqIndex? 0 (x :: xs).length = some 0 := by
    unfold seqIndex?
    simp
  have ir : inR 0 := by unfold inR; decide
  rw [if_pos ir, si]; rfl
theorem wh_tt {ft : SemT} {fb : SemS} {k : Nat} {η η' : LocD} {s s1 s2 : Sto} (h1 : ft η s = some (true, s1)) (h2 : fb η s1 = some (.nx η', s2)) : whGo ft fb (k + 1) η s = whGo ft fb k η' s2 := by
  rw [whGo, h1]
  simp only [Option.bind_some, if_true, h2]
theorem wh_ff {ft : SemT} {fb : SemS} {k : Nat} {η : LocD} {s s1 : Sto} (h1 : ft η s = some (false, s1)) : whGo ft fb (k + 1) η s = some (.nx η, s1) := by
  rw [whGo, h1]; rfl
noncomputable abbrev spI : SemI := iEn (fIf (gCmp .NotEq (fIx (fIx (fVar 1) (fVar 3)) (fC (.int 0))) (fC (.str "work"))) (fIx (fIx (fVar 1) (fVar 3)) (fC (.int 2))) (fTup (fNil)))
noncomputable abbrev spW : SemS := sSeq (sAsg (fPop1 (fVar 2) (fC (.int 0))) (gvName 3))
        (sSeq (sFor spI spG spB)
        (sNil))
abbrev spT : SemT := gCmp .NotEq (fVar 2) (fLst (fNil))
theorem spI_ev {q : PT} {l : List Nat} {s : Sto} {R : Nat} {P E2 e4 e5 : Option D} (hi : ix (.ref R) (plD l) s = some (treeD q)) (hk : (kids q).length ≤ 100000) : spI [P, some (.ref R), E2, some (plD l), e4, e5] s = some (⟨enF 0 (kids q), none⟩, s) := by
  unfold spI
  cases q with
  | work b r =>
    have ne : cmpop .NotEq (.str "work") (.str "work") s = some false := rfl
    rw [treeD] at hi
    simp [hi, ne, iEn, kids, en_zero]
  | node w t ps =>
    have ne : cmpop .NotEq (.str (wordT w)) (.str "work") s = some true := PTr.word_ne
    rw [treeD] at hi
    rw [kids] at hk ⊢
    generalize treeDs ps = TS at *
    generalize wordT w = W at *
    simp [hi, ne, iEn, en_zero, most]
theorem okW_kids {d : Nat} {q : PT} (h : OkW d q) : (kidsL q).length ≤ 12 := by
  cases q with
  | work b r => exact Nat.zero_le _
  | node w t ps =>
    cases d with
    | zero => exact h.elim
    | succ d => rw [kidsL, toL_len]; exact h.2.2.1
theorem sp_while {d : Nat} {p : PT} (hp : OkW d p) (hd : d ≤ 4) {R Q : Nat} (hRQ : R ≠ Q) {P : D} : ∀ (m F : Nat) (vs qs : List (List Nat)) (s : Sto) (e3 e4 e5 : Option D), SpI p vs qs → (rowsT [] p).length ≤ vs.length + m → m < F →
    s[R]? = some (.dtp (dOf (vT p) (vs ++ qs))) → s[Q]? = some (.lst (qs.map plD)) →
    ∃ (s' : Sto) (ls : List (List Nat)) (h3 h4 h5 : Option D), whGo spT spW F [some P, some (.ref R), some (.ref Q), e3, e4, e5] s = some (.nx [some P, some (.ref R), some (.ref Q), h3, h4, h5], s') ∧ SpI p ls [] ∧ s'[R]? = some (.dtp (dOf (vT p) ls)) ∧ KeepM [R, Q] s s' := by
  intro m
  induction m with
  | zero =>
    intro F vs qs s e3 e4 e5 I hm hF hR hQ
    obtain ⟨F, rfl⟩ : ∃ n, F = n + 1 := ⟨F - 1, by omega⟩
    have hl := I.len
    rw [List.length_append] at hl
    have : qs = [] := List.length_eq_zero_iff.mp (by omega)
    subst this
    refine ⟨s ++ [.lst []], vs, e3, e4, e5, wh_ff ?_, I, by rw [List.append_nil] at hR; exact get_app hR, KeepM.app⟩
    have ne := ne_voidQ hQ
    simp [spT, Sim.alloc, ne]
  | succ m ih =>
    intro F vs qs s e3 e4 e5 I hm hF hR hQ
    obtain ⟨F, rfl⟩ : ∃ n, F = n + 1 := ⟨F - 1, by omega⟩
    have ne := ne_voidQ hQ
    cases qs with
    | nil =>
      refine ⟨s ++ [.lst []], vs, e3, e4, e5, wh_ff ?_, I, by rw [List.append_nil] at hR; exact get_app hR, KeepM.app⟩
      simp [spT, Sim.alloc, ne]
    | cons l qs =>
      have hl := I.len
      rw [List.length_append, List.length_cons] at hl
      have lb := rows_len d [] p hp
      have lb2 := cN_le hd
      obtain ⟨q, hq⟩ := I.wf l (List.mem_append_right _ List.mem_cons_self)
      obtain ⟨e, he, oq⟩ := subW_ok l hp hq
      have kl := okW_kids oq
      have test : spT [some P, some (.ref R), some (.ref Q), e3, e4, e5] s = some (true, s ++ [.lst []]) := by
        simp [spT, Sim.alloc, ne]
      have hR1 : (s ++ [O.lst []])[R]? = some (.dtp (dOf (vT p) (vs ++ l :: qs))) := get_app hR
      have hQ1 : (s ++ [O.lst []])[Q]? = some (.lst ((l :: qs).map plD)) := get_app hQ
      have k1 : KeepM [R, Q] s (s ++ [.lst []]) := KeepM.app
      generalize s ++ [O.lst []] = s1 at *
      have pp := pop0_ev (o := fVar 2) (η := [some P, some (.ref R), some (.ref Q), e3, e4, e5]) (s := s1) (Q := Q) (x := plD l) (xs := qs.map plD) rfl (by rw [hQ1]; rfl)
      have hQ2 : (s1.set Q (.lst (qs.map plD)))[Q]? = some (.lst (qs.map plD)) := set_self hQ1
      have hR2 : (s1.set Q (.lst (qs.map plD)))[R]? = some (.dtp (dOf (vT p) (vs ++ l :: qs))) := by rw [List.getElem?_set_ne (Ne.symm hRQ)]; exact hR1
      have k2 : KeepM [R, Q] s1 (s1.set Q (.lst (qs.map plD))) := KeepM.set (by simp)
      generalize s1.set Q (.lst (qs.map plD)) = s2 at *
      have hi : ix (.ref R) (plD l) s2 = some (treeD q) := by
        rw [ix_dt hR2 (List.mem_append_right _ List.mem_cons_self), vT_of hq]
      have hkl : (kids q).length ≤ 100000 := by rw [kids_L, List.length_map]; omega
      have src := spI_ev (P := some P) (E2 := some (.ref Q)) (e4 := e4) (e5 := e5) hi hkl
      have I2 := I.next hq
      have hnd := I2.nd
      rw [show (vs ++ [l]) ++ (qs ++ chs l 0 (kidsL q).length) = (vs ++ l :: qs) ++ chs l 0 (kidsL q).length by simp [List.append_assoc]] at hnd
      obtain ⟨s3, h4, h5, run, gR, gQ, k3⟩ := sp_for (v := vT p) hRQ (l := l) (by omega) (P := P) (kidsL q) 0 s2 (vs ++ l :: qs) qs e4 e5 (fun j z hz => by
        rw [Nat.zero_add]
        refine vT_of ?_
        rw [sub_snoc l p q j hq, hz]; rfl) hnd hR2 hQ2 (by rw [List.length_append, List.length_cons]; omega) (by omega)
      obtain ⟨s4, ls, g3, g4, g5, run2, I3, gR2, k4⟩ := ih F (vs ++ [l]) (qs ++ chs l 0 (kidsL q).length) s3 (some (plD l)) h4 h5 I2 (by rw [List.length_append, List.length_cons, List.length_nil]; omega) (by omega) (by rw [gR]; simp [List.append_assoc]) gQ
      refine ⟨s4, ls, g3, g4, g5, ?_, I3, gR2, ((k1.trans k2).trans k3).trans k4⟩
      rw [← kids_L] at run
      have body : spW [some P, some (.ref R), some (.ref Q), e3, e4, e5] s1 = some (.nx [some P, some (.ref R), some (.ref Q), some (plD l), h4, h5], s3) := by
        have a1 : sAsg (fPop1 (fVar 2) (fC (.int 0))) (gvName 3) [some P, some (.ref R), some (.ref Q), e3, e4, e5] s1 = some (.nx [some P, some (.ref R), some (.ref Q), some (plD l), e4, e5], s2) := by
          rw [sAsg_ev, pp]; rfl
        have a2 : sFor spI spG spB [some P, some (.ref R), some (.ref Q), some (plD l), e4, e5] s2 = some (.nx [some P, some (.ref R), some (.ref Q), some (plD l), h4, h5], s3) := by
          rw [sFor_ev, src]
          exact run
        exact (seq_step a1).trans ((seq_step a2).trans rfl)
      exact (wh_tt test body).trans run2
theorem spots_ok (n : Nat) {d : Nat} {p : PT} (hp : OkW d p) (hd : d ≤ 4) (st : Sto) : ∃ (s' : Sto) (ls : List (List Nat)), callN pg (n + 1) "_law_spots" [treeD p] st = some (.ref st.length, s') ∧ SpI p ls [] ∧ s'[st.length]? = some (.dtp (dOf (vT p) ls)) ∧ Ext st s' := by
  have v0 : dOf (vT p) [[]] = [([], treeD p)] := by
    show [(plK [], vT p [])] = _
    rw [vT_of (sub_nil p)]; rfl
  have lb := rows_len d [] p hp
  have lb2 := cN_le hd
  have d1 : fDt1 (fTup (fNil)) (fVar 0) [some (treeD p), none, none, none, none, none] st = some (.ref st.length, st ++ [.dtp [([], treeD p)]]) := by
    have g : (st ++ [O.dtp []])[st.length]? = some (O.dtp []) := get_new
    have e : (st ++ [O.dtp []]).set st.length (.dtp [([], treeD p)]) = st ++ [.dtp [([], treeD p)]] := set2 (k := 0)
    unfold fDt1
    generalize treeD p = T at *
    show (match (st ++ [O.dtp []])[st.length]? with
      | some (.dtp []) => some (D.ref st.length, (st ++ [O.dtp []]).set st.length (.dtp [([], T)]))
      | _ => none) = _
    simp only [g, e]
  obtain ⟨s', ls, h3, h4, h5, run, I, gR, kk⟩ := sp_while hp hd (R := st.length) (Q := st.length + 1) (by omega) (P := treeD p) (rowsT [] p).length fuel [] [[]] ((st ++ [.dtp [([], treeD p)]]) ++ [.lst [plD []]]) none none none (SpI.start p) (by rw [List.length_nil]; omega)
    (Nat.lt_of_le_of_lt (Nat.le_trans lb lb2) (by decide +kernel)) (by rw [List.nil_append, v0]; exact get_app get_new) (by
      have : (st ++ [O.dtp [([], treeD p)]]).length = st.length + 1 := by rw [List.length_append]; rfl
      rw [← this]; exact get_new)
  refine ⟨s', ls, ?_, I, gR, fun k o h => kk k o (by
    have := (List.getElem?_eq_some_iff.mp h).1
    simp only [List.mem_cons, List.not_mem_nil, or_false]
    omega) (get_app (get_app h))⟩
  rw [r__law_spots, runB_ev rfl]
  show (Option.bind (b__law_spots (callN pg n) [some (treeD p), none, none, none, none, none] st) _) = _
  have eb : b__law_spots (callN pg n) = sSeq (sPar2 1 2 (fCons (fDt1 (fTup (fNil)) (fVar 0)) (fCons (fLst (fCons (fTup (fNil)) (fNil))) (fNil))))
    (sSeq (sWhile spT spW)
    (sSeq (sRet (fVar 1))
    (sNil))) := rfl
  rw [eb]
  have a1 : sPar2 1 2 (fCons (fDt1 (fTup (fNil)) (fVar 0)) (fCons (fLst (fCons (fTup (fNil)) (fNil))) (fNil))) [some (treeD p), none, none, none, none, none] st = some (.nx [some (treeD p), some (.ref st.length), some (.ref (st.length + 1)), none, none, none], (st ++ [.dtp [([], treeD p)]]) ++ [.lst [plD []]]) := by
    rw [sPar2_ev, fCons_ev, d1]
    simp only [Option.bind_some, fCons_ev, fLst_ev, fTup_ev, fNil_ev, Option.map_some]
    rw [if_pos (by decide)]
    simp only [Option.bind_some, Option.map_some]
    rw [if_pos (show [D.tup []].length ≤ most by decide)]
    have : (st ++ [O.dtp [([], treeD p)]]).length = st.length + 1 := by rw [List.length_append]; rfl
    unfold Sim.alloc
    rw [this]; rfl
  have a2 : sWhile spT spW [some (treeD p), some (.ref st.length), some (.ref (st.length + 1)), none, none, none] ((st ++ [.dtp [([], treeD p)]]) ++ [.lst [plD []]]) = some (.nx [some (treeD p), some (.ref st.length), some (.ref (st.length + 1)), h3, h4, h5], s') := by
    rw [sWhile_ev]; exact run
  rw [seq_step a1, seq_step a2]
  rfl
end K21

namespace K21
open PySem L2 Sim Sim.PTr
/-! ### `_law_needs` -/
def vN (p : PT) (l : List Nat) : D := match sub p l with
  | some q => .int (need q : Nat)
  | none => .non
theorem vN_of {p q : PT} {l : List Nat} (h : sub p l = some q) : vN p l = .int (need q : Nat) := by unfold vN; rw [h]
theorem sum_more (t : Nat) : ∀ ps : PTs, ((toL ps).map fun z => need z.2.2 + t + t).sum = needS ps + 2 * t * ps.len
  | .nil => rfl
  | .cons a b p ps => by
    rw [toL, List.map_cons, List.sum_cons, sum_more t ps, needS, PTs.len, Nat.mul_succ]
    show need p + t + t + _ = _
    omega
theorem max_more (t : Nat) : ∀ ps : PTs, 0 < ps.len → maxN ((toL ps).map fun z => need z.2.2 + t + t) = needM ps + 2 * t
  | .nil, h => absurd h (Nat.lt_irrefl _)
  | .cons a b p ps, _ => by
    rw [toL, List.map_cons, maxN, needM]
    show max (need p + t + t) _ = _
    by_cases c : 0 < ps.len
    · rw [max_more t ps c]; omega
    · cases ps with
      | nil => simp only [toL, List.map_nil, maxN, needM]; omega
      | cons _ _ _ _ => exact absurd (Nat.succ_pos _) c
theorem forGo_g {g : SemG} {fb : SemS} {gd : Option (Nat × O)} {η η2 η' : LocD} {st st' : Sto} {x : D} {r : List D} (h : okGd gd st) (h1 : g x η = some η2) (h2 : fb η2 st = some (.nx η', st')) : forGo g fb gd (x :: r) η st = forGo g fb gd r η' st' := by
  rw [forGo, if_pos h, h1]
  simp only [Option.bind_some, h2]
noncomputable abbrev ndL : SemE := fLc (iRng (fCons (fBlt bLen (fCons (fIx (fVar 4) (fC (.int 2))) (fNil))) (fNil))) (gvName 6) (gYes) (fBin .Add (fBin .Add (fIx (fVar 3) (fBin .Add (fVar 1) (fTup (fCons (fVar 6) (fNil))))) (fIx (fVar 4) (fC (.int 1)))) (fIx (fVar 4) (fC (.int 1)))) [6]
noncomputable abbrev ndS : SemS := sIf (gCmp .Eq (fIx (fVar 4) (fC (.int 0))) (fC (.str "work")))
          (sSeq (sSub (fVar 3) (fVar 1) (fIx (fVar 4) (fC (.int 1))))
            (sNil))
          (sSeq (sAsg ndL (gvName 5))
            (sSeq (sSub (fVar 3) (fVar 1) (fIf (gCmp .Eq (fIx (fVar 4) (fC (.int 0))) (fC (.str "then"))) (fBlt bSum (fCons (fVar 5) (fNil))) (fBlt bMaxP (fCons (fVar 5) (fNil)))))
            (sNil)))
noncomputable abbrev ndB : SemS := sSeq (sAsg (fIx (fVar 2) (fVar 1)) (gvName 4))
        (sSeq ndS
        (sNil))
theorem nd_lc {p : PT} {w : Bool} {t : Nat} {ps : PTs} {l : List Nat} (hl : l.length < 1000) (ht : ps.len ≤ 12) {as : List (List Nat)} (hq : sub p l = some (.node w t ps)) (has : ∀ k z, (toL ps)[k]? = some z → l ++ [k] ∈ as) {P R e5 e6 : Option D} {N : Nat} {s : Sto} (hN : s[N]? = some (.dtp (dOf (vN p) as))) :
    ∃ s', ndL [P, some (plD l), R, some (.ref N), some (treeD (.node w t ps)), e5, e6] s = some (.ref s.length, s') ∧ Ext s s' ∧ s'[s.length]? = some (.lst ((((toL ps).map fun z => need z.2.2 + t + t)).map fun n => Sim.D.int (n : Nat))) := by
  have rg : iRng (fCons (fBlt bLen (fCons (fIx (fVar 4) (fC (.int 2))) (fNil))) (fNil)) [P, some (plD l), R, some (.ref N), some (treeD (.node w t ps)), e5, e6] s = some (⟨rngD 0 ps.len 1, none⟩, s) := by
    refine rng_src (N := ((ps.len : Nat) : Int)) ?_ (rng_nat (by omega))
    have bl : bLen [.tup (treeDs ps)] s = some (.int ((treeDs ps).length : Nat), s) := rfl
    rw [treeDs_map, List.length_map, toL_len] at bl
    rw [treeD, treeDs_map]
    generalize List.map _ (toL ps) = TS at *
    simp [bl]
  obtain ⟨s', e1, e2, e3⟩ := lc_map (α := Nat) (fi := iRng (fCons (fBlt bLen (fCons (fIx (fVar 4) (fC (.int 2))) (fNil))) (fNil))) (fe := fBin .Add (fBin .Add (fIx (fVar 3) (fBin .Add (fVar 1) (fTup (fCons (fVar 6) (fNil))))) (fIx (fVar 4) (fC (.int 1)))) (fIx (fVar 4) (fC (.int 1)))) (g := gvName 6) (vs := [6]) (η := [P, some (plD l), R, some (.ref N), some (treeD (.node w t ps)), e5, e6]) (st := s) (s0 := s) (gd := none) (l := List.range ps.len) (d := fun k : Nat => D.int (0 + (k : Int) * 1)) (e := fun k => D.int ((match (toL ps)[k]? with | some z => need z.2.2 + t + t | none => 0 : Nat) : Int))
    rg (fun s _ => okn s) (by rw [List.length_range]; omega)
    (fun k hk s1 hs => by
      rw [List.mem_range] at hk
      have hk2 : k < (toL ps).length := by rw [toL_len]; exact hk
      have hz : (toL ps)[k]? = some (toL ps)[k] := List.getElem?_eq_getElem hk2
      have ix1 := ix_dt (v := vN p) (hs _ _ hN) (has k _ hz)
      have vv : vN p (l ++ [k]) = .int (need (toL ps)[k].2.2 : Nat) := vN_of (by rw [sub_snoc l p _ k hq]; show ((toL ps)[k]?).map _ = _; rw [hz]; rfl)
      rw [vv] at ix1
      have ad := pl_add (pl_refl l) (k := k) hl s1
      have ek : (0 + (k : Int) * 1) = (k : Int) := by omega
      have t1 : ix (treeD (.node w t ps)) (.int 1) s1 = some (.int (t : Nat)) := by rw [treeD]; exact ix_tup1
      have a1 := addN (a := need (toL ps)[k].2.2) (b := t) (st := s1)
      have a2 := addN (a := need (toL ps)[k].2.2 + t) (b := t) (st := s1)
      rw [hz]
      refine ⟨_, s1, rfl, ?_, Ext.refl _⟩
      simp only [ek]
      generalize need (toL ps)[k].2.2 = nk at *
      generalize treeD (.node w t ps) = T at *
      generalize plD l = PL at *
      generalize plD (l ++ [k]) = PK at *
      show fBin .Add _ _ [P, some PL, R, some (.ref N), some T, e5, some (.int (k : Nat))] s1 = _
      generalize hz1 : D.int ((nk + t + t : Nat) : Int) = Z1 at *
      generalize hz2 : D.int ((nk + t : Nat) : Int) = Z2 at *
      generalize D.int ((nk : Nat) : Int) = Z3 at *
      generalize D.int ((t : Nat) : Int) = Z4 at *
      simp [ad, ix1, t1, a1, a2])
  refine ⟨s', e1, e2, ?_⟩
  rw [e3, List.map_map]
  have q : List.map (fun k : Nat => D.int ((match (toL ps)[k]? with | some z => need z.2.2 + t + t | none => 0 : Nat) : Int)) (List.range ps.len) = List.map ((fun n : Nat => Sim.D.int (n : Int)) ∘ fun z : Nat × Nat × PT => need z.2.2 + t + t) (toL ps) := by
    refine List.ext_getElem? fun k => ?_
    rw [List.getElem?_map, List.getElem?_map]
    by_cases c : k < ps.len
    · have hk2 : k < (toL ps).length := by rw [toL_len]; exact c
      rw [List.getElem?_range c, List.getElem?_eq_getElem hk2]
      simp only [Option.map_some, List.getElem?_eq_getElem hk2]; rfl
    · rw [List.getElem?_eq_none (by rw [List.length_range]; omega), List.getElem?_eq_none (by rw [toL_len]; omega)]; rfl
  rw [q]
theorem sIf_ff {ft : SemT} {f g : SemS} {η : LocD} {s s1 : Sto} (h : ft η s = some (false, s1)) : sIf ft f g η s = g η s1 := by
  rw [sIf_ev, h]; rfl
theorem sIf_tt {ft : SemT} {f g : SemS} {η : LocD} {s s1 : Sto} (h : ft η s = some (true, s1)) : sIf ft f g η s = f η s1 := by
  rw [sIf_ev, h]; rfl
theorem nd_body {d : Nat} {p q : PT} {l : List Nat} (hl : l.length < 1000) (oq : OkW d q) {as : List (List Nat)} (hq : sub p l = some q) (hn : l ∉ as) (ha : as.length < 100000) (has : ∀ k z, (kidsL q)[k]? = some z → l ++ [k] ∈ as) {P e5 e6 : Option D} {R N : Nat} {s : Sto} (hN : s[N]? = some (.dtp (dOf (vN p) as))) :
    ∃ (s' : Sto) (h5 : Option D), ndS [P, some (plD l), some (.ref R), some (.ref N), some (treeD q), e5, e6] s = some (.nx [P, some (plD l), some (.ref R), some (.ref N), some (treeD q), h5, e6], s') ∧ s'[N]? = some (.dtp (dOf (vN p) (as ++ [l]))) ∧ Keep N s s' := by
  cases q with
  | work b r =>
    have wq : ∀ s : Sto, cmpop .Eq (.str "work") (.str "work") s = some true := fun _ => rfl
    have st := setI_dt (x := .int (b : Nat)) hN (vN_of hq).symm hn ha
    refine ⟨s.set N (.dtp (dOf (vN p) (as ++ [l]))), e5, ?_, set_self hN, Keep.set⟩
    rw [treeD]
    unfold ndS
    generalize ndL = LL
    simp [wq, st]
  | node w t ps =>
    cases d with
    | zero => exact oq.elim
    | succ d =>
      obtain ⟨h1, h2, h3, h4⟩ := oq
      obtain ⟨s1, c1, x1, g1⟩ := nd_lc hl h3 hq has (P := P) (R := some (.ref R)) (e5 := e5) (e6 := e6) hN
      have hne : (toL ps).map (fun z => need z.2.2 + t + t) ≠ [] := fun z => by
        have := congrArg List.length z
        rw [List.length_map, toL_len, List.length_nil] at this; omega
      have sm := sum_ref g1
      have mx := max_ref g1 hne
      rw [sum_more] at sm
      rw [max_more t ps h2] at mx
      have wq := fun st : Sto => PTr.word_eq (w := w) (st := st)
      have wt := fun st : Sto => PTr.word_then (w := w) (st := st)
      have hN1 := x1 _ _ hN
      have st := setI_dt (x := .int (need (.node w t ps) : Nat)) hN1 (vN_of hq).symm hn ha
      have k2 : Keep N s1 (s1.set N (.dtp (dOf (vN p) (as ++ [l])))) := Keep.set
      have gN : (s1.set N (.dtp (dOf (vN p) (as ++ [l]))))[N]? = some (.dtp (dOf (vN p) (as ++ [l]))) := set_self hN1
      generalize s1.set N (.dtp (dOf (vN p) (as ++ [l]))) = s2 at *
      refine ⟨s2, some (.ref s.length), ?_, gN, fun k o hk h => k2 k o hk (x1 k o h)⟩
      have i0 : ∀ s, ix (treeD (.node w t ps)) (.int 0) s = some (.str (wordT w)) := fun s => by rw [treeD]; exact ix_tup0
      have test : gCmp .Eq (fIx (fVar 4) (fC (.int 0))) (fC (.str "work")) [P, some (plD l), some (.ref R), some (.ref N), some (treeD (.node w t ps)), e5, e6] s = some (false, s) := by
        generalize treeD (.node w t ps) = T at *
        generalize wordT w = W at *
        simp [i0, wq]
      have b1 : sAsg ndL (gvName 5) [P, some (plD l), some (.ref R), some (.ref N), some (treeD (.node w t ps)), e5, e6] s = some (.nx [P, some (plD l), some (.ref R), some (.ref N), some (treeD (.node w t ps)), some (.ref s.length), e6], s1) := by
        rw [sAsg_ev, c1]; rfl
      have val : fIf (gCmp .Eq (fIx (fVar 4) (fC (.int 0))) (fC (.str "then"))) (fBlt bSum (fCons (fVar 5) (fNil))) (fBlt bMaxP (fCons (fVar 5) (fNil))) [P, some (plD l), some (.ref R), some (.ref N), some (treeD (.node w t ps)), some (.ref s.length), e6] s1 = some (.int (need (.node w t ps) : Nat), s1) := by
        cases w with
        | true =>
          rw [need]
          generalize treeD (.node true t ps) = T at *
          generalize wordT true = W at *
          generalize D.int ((needS ps + 2 * t * ps.len : Nat) : Int) = Z at *
          simp [i0, wt, sm]
        | false =>
          rw [need]
          generalize treeD (.node false t ps) = T at *
          generalize wordT false = W at *
          generalize D.int ((needM ps + 2 * t : Nat) : Int) = Z at *
          simp [i0, wt, mx]
      have b2 : sSub (fVar 3) (fVar 1) (fIf (gCmp .Eq (fIx (fVar 4) (fC (.int 0))) (fC (.str "then"))) (fBlt bSum (fCons (fVar 5) (fNil))) (fBlt bMaxP (fCons (fVar 5) (fNil)))) [P, some (plD l), some (.ref R), some (.ref N), some (treeD (.node w t ps)), some (.ref s.length), e6] s1 = some (.nx [P, some (plD l), some (.ref R), some (.ref N), some (treeD (.node w t ps)), some (.ref s.length), e6], s2) := by
        rw [sSub_ev, val]
        generalize D.int (need (.node w t ps) : Nat) = Z at *
        generalize treeD (.node w t ps) = T at *
        simp [st]
      exact (sIf_ff test).trans ((seq_step b1).trans ((seq_step b2).trans rfl))
theorem nd_for {d : Nat} {p : PT} (hp : OkW d p) (hd : d ≤ 4) {R N L : Nat} (hLN : L ≠ N) (hRN : R ≠ N) {ls ms : List (List Nat)} (hls : ∀ l ∈ ms, l ∈ ls) (hw : ∀ l, l ∈ ms ↔ ∃ q, sub p l = some q) (hnd : ms.Nodup) (hln : ms.Pairwise fun a b => b.length ≤ a.length) (hz : ms.length < 100000) {P : Option D} :
    ∀ (bs as : List (List Nat)) (s : Sto) (e1 e4 e5 e6 : Option D), as ++ bs = ms → s[R]? = some (.dtp (dOf (vT p) ls)) → s[N]? = some (.dtp (dOf (vN p) as)) → s[L]? = some (.lst (ms.map plD)) →
    ∃ (s' : Sto) (h1 h4 h5 h6 : Option D), forGo (gvName 1) ndB (some (L, .lst (ms.map plD))) (bs.map plD) [P, e1, some (.ref R), some (.ref N), e4, e5, e6] s = some (.nx [P, h1, some (.ref R), some (.ref N), h4, h5, h6], s') ∧ s'[N]? = some (.dtp (dOf (vN p) ms)) ∧ Keep N s s'
  | [], as, s, e1, e4, e5, e6, hs, hR, hN, hL => by
    rw [List.append_nil] at hs
    subst hs
    have ok : okGd (some (L, O.lst (as.map plD))) s := fun z hz => by cases hz; exact hL
    refine ⟨s, e1, e4, e5, e6, ?_, hN, Keep.refl _ _⟩
    show forGo _ _ _ [] _ _ = _
    rw [forGo, if_pos ok]
  | l :: bs, as, s, e1, e4, e5, e6, hs, hR, hN, hL => by
    have ok : okGd (some (L, O.lst (ms.map plD))) s := fun z hz => by cases hz; exact hL
    have hlm : l ∈ ms := by rw [← hs]; exact List.mem_append_right _ List.mem_cons_self
    obtain ⟨q, hq⟩ := (hw l).mp hlm
    obtain ⟨e, he, oq⟩ := subW_ok l hp hq
    have hna : l ∉ as := fun h => by
      rw [← hs] at hnd
      exact (List.pairwise_append.mp hnd).2.2 l h l List.mem_cons_self rfl
    have hal : as.length < 100000 := by
      have := congrArg List.length hs
      rw [List.length_append] at this; omega
    have has : ∀ k z, (kidsL q)[k]? = some z → l ++ [k] ∈ as := fun k z hz => by
      have m : l ++ [k] ∈ ms := (hw _).mpr ⟨z.2.2, by rw [sub_snoc l p q k hq, hz]; rfl⟩
      rw [← hs] at m hln
      exact longer_before hln m (by rw [List.length_append, List.length_cons, List.length_nil]; omega)
    have hi : ix (.ref R) (plD l) s = some (treeD q) := by rw [ix_dt hR (hls l hlm), vT_of hq]
    obtain ⟨s1, h5, b1, g1, k1⟩ := nd_body (P := P) (R := R) (e5 := e5) (e6 := e6) (by omega) oq hq hna hal has hN
    obtain ⟨s', g1', g4, g5, g6, run, gN, kk⟩ := nd_for hp hd hLN hRN hls hw hnd hln hz (P := P) bs (as ++ [l]) s1 (some (plD l)) (some (treeD q)) h5 e6 (by rw [List.append_assoc]; exact hs) (k1 _ _ hRN hR) g1 (k1 _ _ hLN hL)
    refine ⟨s', g1', g4, g5, g6, ?_, gN, k1.trans kk⟩
    rw [List.map_cons]
    refine (forGo_g (η2 := [P, some (plD l), some (.ref R), some (.ref N), e4, e5, e6]) ok rfl ?_).trans run
    have a1 : sAsg (fIx (fVar 2) (fVar 1)) (gvName 4) [P, some (plD l), some (.ref R), some (.ref N), e4, e5, e6] s = some (.nx [P, some (plD l), some (.ref R), some (.ref N), some (treeD q), e5, e6], s) := by
      generalize treeD q = T at *
      generalize plD l = PL at *
      simp [hi]
    exact (seq_step a1).trans ((seq_step b1).trans rfl)
def HT (st : Sto) : Prop := ∃ (o : O) (kvs : List (Key × D)), st[0]? = some o ∧ isTab o = false ∧ st[1]? = some (.stk (.tab "_law_needs" "_law_needs.<locals>.<lambda>")) ∧ st[2]? = some (.dct kvs)
theorem HT.ext {a b : Sto} (h : HT a) (e : Ext a b) : HT b := by
  obtain ⟨o, kvs, h1, h2, h3, h4⟩ := h
  exact ⟨o, kvs, e _ _ h1, h2, e _ _ h3, e _ _ h4⟩
theorem HT.head {st : Sto} (h : HT st) : headT [("_law_needs", "_law_needs.<locals>.<lambda>")] st := by
  obtain ⟨o, kvs, h1, h2, h3, h4⟩ := h
  match st, h1, h3, h4 with
  | a :: b :: c :: r, h1, h3, h4 =>
    cases h1; cases h3; cases h4
    have e : stkOf o = none := by cases o <;> first | rfl | cases h2
    refine ⟨?_, rfl⟩
    show tabsD [o, _] = _
    unfold tabsD
    rw [List.filterMap_cons, e]; rfl
theorem srt_ev {n : Nat} {s : Sto} {R : Nat} {ls ms : List (List Nat)} {v : List Nat → D} {η : LocD} {e : SemE} (he : e η s = some (.ref R, s)) (hR : s[R]? = some (.dtp (dOf v ls))) (H : HT s) (hm : sortK (ls.map plK) = ms.map plK) :
    fSrtK [("_law_needs", "_law_needs.<locals>.<lambda>")] e η s = some (.ref s.length, s ++ [.lst (ms.map plD)]) := by
  unfold fSrtK
  rw [he]
  simp only [Option.bind_some, hR]
  rw [dOf_keys, if_pos ⟨H.head, keyable_pl ls⟩, hm, List.map_map]
  have q : (fun ks : List Key => D.tup (ks.map keyV)) ∘ plK = plD := by
    funext l
    show D.tup ((plK l).map keyV) = _
    unfold plK plD numsD
    rw [List.map_map]; rfl
  rw [q]; rfl
theorem lneeds_ok (n : Nat) {d : Nat} {p : PT} (hp : OkW d p) (hd : d ≤ 4) (st : Sto) (H : HT st) : ∃ (s' : Sto) (N : Nat) (ms : List (List Nat)), callN pg (n + 2) "_law_needs" [treeD p] st = some (.ref N, s') ∧ s'[N]? = some (.dtp (dOf (vN p) ms)) ∧ ms.Nodup ∧ (∀ l, l ∈ ms ↔ l ∈ (rowsT [] p).map (·.1)) ∧ Ext st s' := by
  obtain ⟨s1, ls, c1, I, g1, x1⟩ := spots_ok n hp hd st
  obtain ⟨ms, m1, m2, m3⟩ := sort_pl ls
  have lb := rows_len d [] p hp
  have lb2 := cN_le hd
  have hil := I.len
  have nd0 := I.nd
  rw [List.append_nil] at hil nd0
  have hndm : ms.Nodup := m2.nodup_iff.mpr nd0
  have hmem : ∀ l, l ∈ ms ↔ l ∈ ls := fun l => m2.mem_iff
  have x2 : Ext s1 (s1 ++ [.dtp []]) := Ext.app
  have gR2 := x2 _ _ g1
  have gN2 : (s1 ++ [O.dtp []])[s1.length]? = some (.dtp (dOf (vN p) [])) := get_new
  have H2 := (H.ext x1).ext x2
  have dn : fDn true [some (treeD p), none, none, none, none, none, none] s1 = some (.ref s1.length, s1 ++ [.dtp []]) := rfl
  have l2 : (s1 ++ [O.dtp []]).length = s1.length + 1 := by rw [List.length_append]; rfl
  have l1 := (List.getElem?_eq_some_iff.mp g1).1
  generalize hs2 : s1 ++ [O.dtp []] = s2 at *
  have sr := srt_ev (n := n) (e := fVar 2) (η := [some (treeD p), none, some (.ref st.length), some (.ref s1.length), none, none, none]) rfl gR2 H2 m1
  have gL3 : (s2 ++ [O.lst (ms.map plD)])[s2.length]? = some (.lst (ms.map plD)) := get_new
  have x3 : Ext s2 (s2 ++ [.lst (ms.map plD)]) := Ext.app
  have gR3 := x3 _ _ gR2
  have gN3 := x3 _ _ gN2
  generalize s2 ++ [O.lst (ms.map plD)] = s3 at *
  obtain ⟨s4, h1, h4, h5, h6, run, gN4, k4⟩ := nd_for hp hd (R := st.length) (N := s1.length) (L := s2.length) (by omega) (by omega) (ls := ls) (ms := ms) (fun l h => (hmem l).mp h) (fun l => by
      rw [hmem l]
      exact ⟨fun h => I.wf l (List.mem_append_left _ h), fun ⟨q, h⟩ => I.all _ l rfl q h⟩) hndm m3 (by rw [m2.length_eq]; omega) (P := some (treeD p)) ms [] s3 none none none none rfl gR3 gN3 gL3
  refine ⟨s4, s1.length, ms, ?_, gN4, hndm, fun l => by rw [hmem l]; exact I.iff l, fun k o h => ?_⟩
  · rw [r__law_needs, runB_ev rfl]
    show (Option.bind (b__law_needs (callN pg (n + 1)) [some (treeD p), none, none, none, none, none, none] st) _) = _
    have eb : b__law_needs (callN pg (n + 1)) = sSeq (sAsg (fTup (fCons (fCall (callN pg (n + 1)) "_law_spots" (fCons (fVar 0) (fNil))) (fCons (fDn true) (fNil)))) (gvTup (gvCons (gvName 2) (gvCons (gvName 3) (gvNil)))))
      (sSeq (sFor (iPlain (fSrtK [("_law_needs", "_law_needs.<locals>.<lambda>")] (fVar 2))) (gvName 1) ndB)
      (sSeq (sRet (fVar 3))
      (sNil))) := rfl
    rw [eb]
    have a1 : sAsg (fTup (fCons (fCall (callN pg (n + 1)) "_law_spots" (fCons (fVar 0) (fNil))) (fCons (fDn true) (fNil)))) (gvTup (gvCons (gvName 2) (gvCons (gvName 3) (gvNil)))) [some (treeD p), none, none, none, none, none, none] st = some (.nx [some (treeD p), none, some (.ref st.length), some (.ref s1.length), none, none, none], s2) := by
      generalize treeD p = T at *
      generalize hD : fDn true = DD at *
      simp [c1, dn]
    have src : iPlain (fSrtK [("_law_needs", "_law_needs.<locals>.<lambda>")] (fVar 2)) [some (treeD p), none, some (.ref st.length), some (.ref s1.length), none, none, none] s2 = some (⟨ms.map plD, some (s2.length, .lst (ms.map plD))⟩, s3) := by
      rw [iPlain_ev, sr]
      have : srcOf (.ref s2.length) s3 = some ⟨ms.map plD, some (s2.length, .lst (ms.map plD))⟩ := by
        unfold srcOf; simp only [gL3]
      simp only [Option.bind_some, this, Option.map_some]
    have a2 : sFor (iPlain (fSrtK [("_law_needs", "_law_needs.<locals>.<lambda>")] (fVar 2))) (gvName 1) ndB [some (treeD p), none, some (.ref st.length), some (.ref s1.length), none, none, none] s2 = some (.nx [some (treeD p), h1, some (.ref st.length), some (.ref s1.length), h4, h5, h6], s4) := by
      rw [sFor_ev, src]
      exact run
    rw [seq_step a1, seq_step a2]
    rfl
  · have a := x3 _ _ (x2 _ _ (x1 _ _ h))
    refine k4 k o ?_ a
    have := (List.getElem?_eq_some_iff.mp (x1 _ _ h)).1
    omega
end K21

namespace K21
open PySem L2 Sim Sim.PTr
/-! ### sorted(d): the places in the order of the tree -/
theorem lex_lt : ∀ a b : List Nat, lexN a b → (a.map fun i : Nat => (i : Int)) < (b.map fun i : Nat => (i : Int))
  | [], [], h => h.elim
  | [], y :: b, _ => by rw [List.map_nil, List.map_cons]; exact List.nil_lt_cons _ _
  | x :: a, [], h => h.elim
  | x :: a, y :: b, h => by
    rw [List.map_cons, List.map_cons, List.cons_lt_cons_iff]
    rcases h with h | ⟨rfl, h⟩
    · exact .inl (by omega)
    · exact .inr ⟨rfl, lex_lt a b h⟩
theorem plP_ints (l : List Nat) : plP l = .tuple ((l.map fun i : Nat => (i : Int)).map .int) := by
  unfold plP
  rw [List.map_map]; rfl
theorem lex_dlt {a b : List Nat} (h : lexN a b) : PySem.W.dataLt (plP a) (plP b) = true := by
  rw [plP_ints, plP_ints, PySem.W.dataLt_tuple]
  have := PySem.W.dataLt_ints (a.map fun i : Nat => (i : Int)) (b.map fun i : Nat => (i : Int))
  unfold PySem.W.rowLt at this
  rw [this]
  exact decide_eq_true (lex_lt a b h)
theorem le_lex {a b : List Nat} (h : PySem.W.dataLe false plP a b = true) (ne : a ≠ b) : lexN a b := by
  rw [PySem.W.dataLe_eq] at h
  have h : (!PySem.W.dataLt (plP b) (plP a)) = true := h
  rcases lex_tri a b with c | c | c
  · exact c
  · exact absurd c ne
  · rw [lex_dlt c] at h; cases h
def prP (l : List Nat) : D × PyData := (plD l, plP l)
theorem pair_pls (st : Sto) : ∀ ms : List (List Nat), pairUp st (ms.map plD) = some (ms.map prP)
  | [] => rfl
  | l :: ms => by
    show ((toP st 40 (plD l)).map _).bind _ = _
    rw [toP_pl st 38 l]
    show (pairUp st (ms.map plD)).map _ = _
    rw [pair_pls st ms]; rfl
theorem alike_nums : ∀ a b : List Nat, PySem.W.alikeAll (a.map fun i : Nat => PyData.int (i : Int)) (b.map fun i : Nat => PyData.int (i : Int)) = true
  | [], _ => rfl
  | _ :: _, [] => rfl
  | x :: a, y :: b => by
    show (PySem.W.alike (.int x) (.int y) && PySem.W.alikeAll (a.map fun i : Nat => PyData.int (i : Int)) (b.map fun i : Nat => PyData.int (i : Int))) = true
    rw [alike_nums a b]; rfl
theorem sortable_pls (ms : List (List Nat)) : sortable (ms.map plP) = true := by
  have a : alikes (ms.map plP) = true := by
    unfold alikes
    refine List.all_eq_true.mpr fun d hd => List.all_eq_true.mpr fun e he => ?_
    obtain ⟨x, _, rfl⟩ := List.mem_map.mp hd
    obtain ⟨y, _, rfl⟩ := List.mem_map.mp he
    exact alike_nums x y
  have b : (ms.map plP).all isTupP = true := List.all_eq_true.mpr fun d hd => by
    obtain ⟨x, _, rfl⟩ := List.mem_map.mp hd
    rfl
  have c : (ms.map plP).all (fun d => decide (d.depth ≤ 40)) = true := List.all_eq_true.mpr fun d hd => by
    obtain ⟨x, _, rfl⟩ := List.mem_map.mp hd
    refine decide_eq_true ?_
    show PyData.depthAll _ + 1 ≤ 40
    rw [dep_nums]; decide
  unfold sortable
  rw [a, b, c]; rfl
theorem sort_plain {ms xs : List (List Nat)} (hnd : ms.Nodup) (hm : ∀ l, l ∈ ms ↔ l ∈ xs) (hx : xs.Pairwise lexN) : sortD (ms.map prP) = xs.map plD := by
  have e := PySem.W.sort_maps (l := ms) (r := fun a b => PySem.W.dataLe false (·.2) (prP a) (prP b)) (s := PySem.W.dataLe false (·.2)) prP (fun _ _ _ _ => rfl)
  unfold sortD
  rw [← e, List.map_map]
  have q : (fun x : D × PyData => x.1) ∘ prP = plD := rfl
  rw [q]
  congr 1
  have pm : (ms.mergeSort fun a b => PySem.W.dataLe false (·.2) (prP a) (prP b)).Perm ms := List.mergeSort_perm _ _
  have pw : (ms.mergeSort fun a b => PySem.W.dataLe false (·.2) (prP a) (prP b)).Pairwise fun a b => PySem.W.dataLe false plP a b = true := PySem.W.sort_pairwise (PySem.W.sortLe_total _ false _) ms
  generalize (ms.mergeSort fun a b => PySem.W.dataLe false (·.2) (prP a) (prP b)) = zs at *
  have nd : zs.Nodup := pm.nodup_iff.mpr hnd
  refine lex_uniq zs xs ?_ hx fun z => by rw [pm.mem_iff, hm z]
  exact (pw.and nd).imp fun h => le_lex h.1 h.2
theorem sorted_ok {s : Sto} {N : Nat} {v : List Nat → D} {ms xs : List (List Nat)} (hN : s[N]? = some (.dtp (dOf v ms))) (hnd : ms.Nodup) (hm : ∀ l, l ∈ ms ↔ l ∈ xs) (hx : xs.Pairwise lexN) : bSorted [.ref N] s = some (.ref s.length, s ++ [.lst (xs.map plD)]) := by
  have k : keysOf (.ref N) s = some (ms.map plD) := by
    unfold keysOf
    simp only [hN]
    unfold dOf
    rw [List.map_map]
    congr 1
    refine List.map_congr_left fun l _ => ?_
    show D.tup ((plK l).map keyV) = _
    unfold plK plD numsD
    rw [List.map_map]; rfl
  unfold bSorted
  simp only [k]
  rw [pair_pls]
  simp only [Option.bind_some]
  have e2 : (ms.map prP).map (·.2) = ms.map plP := by rw [List.map_map]; rfl
  rw [e2, if_pos (sortable_pls ms), sort_plain hnd hm hx]; rfl
/-! ### what the tree and its rows weigh -/
theorem th_nat {B : Nat} {M : List Nat} {s : Sto} {n a k : Nat} (h : k < 2 ^ a) (h1 : a ≤ B) (h0 : 0 < a) : Th B M s (n + 1) (.int (k : Nat)) (a + 1) := Th.int (by simpa using h) h1 h0
theorem th_word {B : Nat} {M : List Nat} {s : Sto} {n : Nat} (w : Bool) : Th B M s (n + 1) (.str (wordT w)) 62 := by
  cases w with
  | true => exact (Th.str (s := "then") (by decide +kernel)).up (by decide +kernel)
  | false => exact (Th.str (s := "beside") (by decide +kernel)).up (by decide +kernel)
theorem th_trees {M : List Nat} {s : Sto} {d : Nat} (ih : ∀ (p : PT) (pre : List Nat), OkW d p → Th 700 M s (2 * d + 2) (treeD p) (100 * (rowsT pre p).length - 10)) : ∀ (ps : PTs) (pre : List Nat) (k : Nat), OkWs d ps → Ths 700 M s (2 * d + 2) (treeDs ps) (100 * (rowsTs pre k ps).length)
  | .nil, pre, k, _ => by rw [treeDs]; exact Ths.nil.up (Nat.zero_le _)
  | .cons a b p ps, pre, k, h => by
    have a1 := ih p (pre ++ [k]) h.1
    have a2 := th_trees ih ps pre (k + 1) h.2
    have pos : 0 < (rowsT (pre ++ [k]) p).length := by rw [rows_head]; exact Nat.succ_pos _
    rw [treeDs, rowsTs, List.length_append]
    exact (Ths.cons a1 a2).up (by omega)
theorem th_tree {M : List Nat} {s : Sto} : ∀ (d : Nat) (p : PT) (pre : List Nat), OkW d p → Th 700 M s (2 * d + 2) (treeD p) (100 * (rowsT pre p).length - 10) := by
  have work : ∀ (n b r : Nat) (pre : List Nat), b ≤ 1000000 → Th 700 M s (n + 2) (treeD (.work b r)) (100 * (rowsT pre (.work b r)).length - 10) := fun n b r pre h => by
    have w1 : Th 700 M s (n + 1) (.str "work") 42 := (Th.str (s := "work") (by decide +kernel)).up (by decide +kernel)
    have w2 : Th 700 M s (n + 1) (.int (b : Nat)) 21 := th_nat (a := 20) (by omega) (by decide) (by decide)
    rw [treeD, rowsT]
    exact ((Ths.cons w1 (Ths.cons w2 Ths.nil)).tup).up (show 42 + 2 + (21 + 2 + 0) + 3 ≤ 100 * 1 - 10 by decide)
  intro d
  induction d with
  | zero =>
    intro p pre h
    cases p with
    | work b r => exact work 0 b r pre h
    | node w t ps => exact h.elim
  | succ d ih =>
    intro p pre h
    cases p with
    | work b r => exact work (2 * d + 2) b r pre h
    | node w t ps =>
      obtain ⟨h1, _, _, h4⟩ := h
      have a1 := th_word (B := 700) (M := M) (s := s) (n := 2 * d + 2) w
      have a2 : Th 700 M s (2 * d + 3) (.int (t : Nat)) 5 := th_nat (a := 4) (by omega) (by decide) (by decide)
      have a3 := (th_trees ih ps pre 0 h4).tup
      rw [treeD, rowsT, List.length_cons]
      exact ((Ths.cons a1 (Ths.cons a2 (Ths.cons a3 Ths.nil))).tup).up (by omega)
theorem needs_le {d : Nat} (ih : ∀ (p : PT) (pre : List Nat), OkW d p → need p + 16 ≤ 1000016 * (rowsT pre p).length) : ∀ (ps : PTs) (pre : List Nat) (k : Nat), OkWs d ps → needS ps + 16 * ps.len ≤ 1000016 * (rowsTs pre k ps).length ∧ needM ps ≤ 1000016 * (rowsTs pre k ps).length
  | .nil, pre, k, _ => ⟨by simp [needS, PTs.len], by simp [needM]⟩
  | .cons a b p ps, pre, k, h => by
    have a1 := ih p (pre ++ [k]) h.1
    obtain ⟨a2, a3⟩ := needs_le ih ps pre (k + 1) h.2
    rw [needS, needM, PTs.len, rowsTs, List.length_append, Nat.mul_add]
    omega
theorem need_le : ∀ (d : Nat) (p : PT) (pre : List Nat), OkW d p → need p + 16 ≤ 1000016 * (rowsT pre p).length := by
  intro d
  induction d with
  | zero =>
    intro p pre h
    cases p with
    | work b r =>
      have h : b ≤ 1000000 := h
      rw [need, rowsT]; show b + 16 ≤ 1000016 * 1; omega
    | node w t ps => exact h.elim
  | succ d ih =>
    intro p pre h
    cases p with
    | work b r =>
      have h : b ≤ 1000000 := h
      rw [need, rowsT]; show b + 16 ≤ 1000016 * 1; omega
    | node w t ps =>
      obtain ⟨h1, _, _, h4⟩ := h
      obtain ⟨a1, a2⟩ := needs_le ih ps pre 0 h4
      have hm : 2 * t * ps.len ≤ 16 * ps.len := Nat.mul_le_mul_right _ (by omega)
      rw [rowsT, List.length_cons]
      cases w with
      | true => rw [need]; omega
      | false => rw [need]; omega
end K21

namespace K21
open PySem L2 Sim Sim.PTr
/-! ### shown alike -/
theorem sub_idx : ∀ (l : List Nat) {d : Nat} {p q : PT}, OkW d p → sub p l = some q → ∀ k ∈ l, k < 16
  | [], d, p, q, _, _, k, hk => by cases hk
  | j :: l, d, p, q, h, e, k, hk => by
    rw [sub_cons] at e
    cases z : (kidsL p)[j]? with
    | none => rw [z] at e; cases e
    | some y =>
      rw [z] at e
      have hj := (List.getElem?_eq_some_iff.mp z).1
      have hy := List.mem_of_getElem? z
      have l12 := okW_kids h
      cases p with
      | work b r => cases hy
      | node w t ps =>
        cases d with
        | zero => exact h.elim
        | succ d =>
          rcases List.mem_cons.mp hk with rfl | hk
          · omega
          · exact sub_idx l (okW_mem h.2.2.2 y hy) e k hk
theorem th_nums {M : List Nat} {s : Sto} {n : Nat} : ∀ l : List Nat, (∀ k ∈ l, k < 16) → Ths 700 M s (n + 1) (numsD l) (7 * l.length)
  | [], _ => Ths.nil
  | k :: l, h => by
    have a : Th 700 M s (n + 1) (.int (k : Nat)) 5 := th_nat (a := 4) (h k List.mem_cons_self) (by decide) (by decide)
    have b := th_nums (M := M) (s := s) (n := n) l fun x hx => h x (List.mem_cons_of_mem _ hx)
    rw [List.length_cons]
    exact (Ths.cons a b).up (by omega)
theorem th_rows {M : List Nat} {s : Sto} {n : Nat} : ∀ zs : List (List Nat × PT), (∀ z ∈ zs, (∀ k ∈ z.1, k < 16) ∧ z.1.length ≤ 4 ∧ need z.2 < 2 ^ 40) → Ths 700 M s (n + 3) (zs.map nrD) (82 * zs.length)
  | [], _ => Ths.nil
  | z :: zs, h => by
    obtain ⟨h1, h2, h3⟩ := h z List.mem_cons_self
    have a : Th 700 M s (n + 2) (plD z.1) 31 := ((th_nums z.1 h1).tup).up (by omega)
    have b : Th 700 M s (n + 2) (.int (need z.2 : Nat)) 41 := th_nat (a := 40) h3 (by decide) (by decide)
    have c : Th 700 M s (n + 3) (nrD z) 80 := ((Ths.cons a (Ths.cons b Ths.nil)).tup).up (by decide)
    have r := th_rows (M := M) (s := s) (n := n) zs fun x hx => h x (List.mem_cons_of_mem _ hx)
    rw [List.map_cons, List.length_cons]
    exact (Ths.cons c r).up (by omega)
theorem need_lt {d : Nat} {p : PT} (hp : OkW d p) (hd : d ≤ 4) : need p < 2 ^ 40 := by
  have a := need_le d p [] hp
  have b := rows_len d [] p hp
  have c := cN_le hd
  have e := Nat.mul_le_mul_left 1000016 (Nat.le_trans b c)
  omega
theorem th_all {M : List Nat} {s : Sto} {d : Nat} {p : PT} (hp : OkW d p) (hd : d ≤ 4) : Th 700 M s 4 (.tup ((rowsT [] p).map nrD)) (82 * (rowsT [] p).length + 3) :=
  (th_rows (n := 0) (rowsT [] p) fun z hz => by
    obtain ⟨m, h1, h2⟩ := rows_sub [] p z hz
    rw [List.nil_append] at h1
    obtain ⟨e, e1, e2⟩ := subW_ok m hp h2
    rw [h1]
    exact ⟨sub_idx m hp h2, by omega, need_lt e2 (by omega)⟩).tup
/-- what it shows as, from here on -/
theorem repr_th {B n w : Nat} {M : List Nat} {s : Sto} {x : D} (h : Th B M s n x w) (hB : B ≤ 1900) (hn : n ≤ 60) (hw : w ≤ 1000000) : ∃ p : PyData, shows p = true ∧ toP s 60 x = some p ∧ ∀ s', Ext s s' → bRepr [x] s' = some (.str p.shown, s') := by
  obtain ⟨p, h1, h2⟩ := h.data hB
  have h3 := toP_up hn h1
  exact ⟨p, h2.shows hn hw, h3, fun s' e => repr_of (toP_ext e h3) (h2.shows hn hw)⟩
theorem toP_needs (s : Sto) (p : PT) : toP s 60 (.tup (needsD p)) = toP s 60 (.tup ((rowsT [] p).map nrD)) := by
  rw [rows_head [] p]
  rfl
theorem map_vN (p : PT) : ((rowsT [] p).map (·.1)).map (fun l => D.tup [plD l, vN p l]) = (rowsT [] p).map nrD := by
  rw [List.map_map]
  refine List.map_congr_left fun z hz => ?_
  obtain ⟨m, h1, h2⟩ := rows_sub [] p z hz
  rw [List.nil_append] at h1
  show D.tup [plD z.1, vN p z.1] = _
  rw [h1, vN_of h2, ← h1]; rfl
theorem ne_same (z : Str) (s : Sto) : cmpop .NotEq (.str z) (.str z) s = some false := by
  rw [ne_str]; simp
def c3 : Nat → Nat
  | 0 => 1
  | d + 1 => 1 + 3 * c3 d
theorem rowss_3 {d : Nat} (ih : ∀ pre p, PTr.Ok d p → (rowsT pre p).length ≤ c3 d) : ∀ (pre : List Nat) (k : Nat) (ps : PTs), Oks d ps → (rowsTs pre k ps).length ≤ ps.len * c3 d
  | pre, k, .nil, _ => by simp [rowsTs]
  | pre, k, .cons a b p ps, h => by
    have := rowss_3 ih pre (k + 1) ps h.2
    have := ih (pre ++ [k]) p h.1
    rw [rowsTs, List.length_append, PTs.len, Nat.succ_mul]; omega
theorem rows_3 : ∀ (d : Nat) (pre : List Nat) (p : PT), PTr.Ok d p → (rowsT pre p).length ≤ c3 d := by
  intro d
  induction d with
  | zero =>
    intro pre p h
    cases p with
    | work b r => simp [rowsT, c3]
    | node w t ps => exact h.elim
  | succ d ih =>
    intro pre p h
    cases p with
    | work b r => simp [rowsT, c3]
    | node w t ps =>
      obtain ⟨_, _, h3, h4⟩ := h
      have := rowss_3 ih pre 0 ps h4
      have := Nat.mul_le_mul_right (c3 d) h3
      rw [rowsT, List.length_cons, c3]; omega
end K21

namespace K21
open PySem L2 Sim Sim.PTr
/-! ### a turn of the law, from its plan on -/
noncomputable abbrev laS (cf : CallF) : SemS := sAsg (fTup (fCons (fBlt bRepr (fCons (fVar 3) (fNil))) (fCons (fCall cf "_law_needs" (fCons (fVar 3) (fNil))) (fNil)))) (gvTup (gvCons (gvName 4) (gvCons (gvName 5) (gvNil))))
noncomputable abbrev laG (cf : CallF) : SemT := gOr (gCmp .NotEq (fBlt bRepr (fCons (fCall cf "need" (fCons (fVar 3) (fNil))) (fNil))) (fBlt bRepr (fCons (fIx (fVar 5) (fTup (fNil))) (fNil)))) (gCmp .NotEq (fBlt bRepr (fCons (fVar 3) (fNil))) (fVar 4))
noncomputable abbrev laL : SemE := fLc (iPlain (fBlt bSorted (fCons (fVar 5) (fNil)))) (gvName 6) (gYes) (fTup (fCons (fVar 6) (fCons (fIx (fVar 5) (fVar 6)) (fNil)))) [6]
noncomputable abbrev laN (cf : CallF) : SemT := gCmp .NotEq (fBlt bRepr (fCons (fCall cf "needs" (fCons (fVar 3) (fNil))) (fNil))) (fBlt bRepr (fCons (fBlt bTuple (fCons laL (fNil))) (fNil)))
abbrev laF : SemS := sSeq (sRet (fC (.bl false))) (sNil)
noncomputable abbrev laR (cf : CallF) : SemS := sSeq (laS cf) (sSeq (sIf (laG cf) laF (sNil)) (sSeq (sIf (laN cf) laF (sNil)) (sNil)))
theorem laL_ok {s : Sto} {N : Nat} {p : PT} {ms : List (List Nat)} (hN : s[N]? = some (.dtp (dOf (vN p) ms))) (hnd : ms.Nodup) (hm : ∀ l, l ∈ ms ↔ l ∈ (rowsT [] p).map (·.1)) (hz : (rowsT [] p).length < 100000) {a0 a1 a2 a3 a4 a6 : Option D} :
    ∃ (s' : Sto), laL [a0, a1, a2, a3, a4, some (.ref N), a6] s = some (.ref (s.length + 1), s') ∧ Ext s s' ∧ s'[s.length + 1]? = some (.lst ((rowsT [] p).map nrD)) := by
  have hx : ((rowsT [] p).map (·.1)).Pairwise lexN := List.pairwise_map.mpr (rows_lex [] p)
  have so := sorted_ok hN hnd hm hx
  have x1 : Ext s (s ++ [.lst (((rowsT [] p).map (·.1)).map plD)]) := Ext.app
  have gK : (s ++ [O.lst (((rowsT [] p).map (·.1)).map plD)])[s.length]? = some (.lst (((rowsT [] p).map (·.1)).map plD)) := get_new
  have l1 : (s ++ [O.lst (((rowsT [] p).map (·.1)).map plD)]).length = s.length + 1 := by rw [List.length_append]; rfl
  have hN1 := x1 _ _ hN
  generalize s ++ [O.lst (((rowsT [] p).map (·.1)).map plD)] = s1 at *
  have src : iPlain (fBlt bSorted (fCons (fVar 5) (fNil))) [a0, a1, a2, a3, a4, some (.ref N), a6] s = some (⟨((rowsT [] p).map (·.1)).map plD, some (s.length, .lst (((rowsT [] p).map (·.1)).map plD))⟩, s1) := by
    have sr : srcOf (.ref s.length) s1 = some ⟨((rowsT [] p).map (·.1)).map plD, some (s.length, .lst (((rowsT [] p).map (·.1)).map plD))⟩ := by
      unfold srcOf; simp only [gK]
    generalize ((rowsT [] p).map (·.1)).map plD = XS at *
    simp [so, sr]
  obtain ⟨s', e1, e2, e3⟩ := lc_map (fi := iPlain (fBlt bSorted (fCons (fVar 5) (fNil)))) (fe := fTup (fCons (fVar 6) (fCons (fIx (fVar 5) (fVar 6)) (fNil)))) (g := gvName 6) (vs := [6]) (η := [a0, a1, a2, a3, a4, some (.ref N), a6]) (st := s) (s0 := s1) (l := (rowsT [] p).map (·.1)) (d := plD) (e := fun l => D.tup [plD l, vN p l]) src
    (fun s2 h z hz => by cases hz; exact h _ _ gK) (by rw [List.length_map]; exact hz)
    (fun l hl s2 h => by
      have i := ix_dt (v := vN p) (h _ _ hN1) ((hm l).mpr hl)
      refine ⟨_, s2, rfl, ?_, Ext.refl _⟩
      generalize plD l = PL at *
      generalize vN p l = VL at *
      simp [wipeD, i])
  refine ⟨s', by rw [← l1]; exact e1, x1.trans e2, ?_⟩
  rw [← l1, e3, map_vN]
theorem rest_ok (n : Nat) {d : Nat} {p : PT} (hp : OkW d p) (hd : d ≤ 4) (hr : (rowsT [] p).length ≤ 200) {s : Sto} (H : HT s) {a0 a1 a2 a4 a5 a6 : Option D} :
    ∃ (s' : Sto) (e4 e5 : Option D), laR (callN pg (n + 7)) [a0, a1, a2, some (treeD p), a4, a5, a6] s = some (.nx [a0, a1, a2, some (treeD p), e4, e5, a6], s') ∧ Ext s s' := by
  obtain ⟨P1, _, _, r1⟩ := repr_th (s := s) (M := []) (th_tree d p [] hp) (by decide) (by omega) (by omega)
  obtain ⟨s1, N, ms, c1, g1, nd, hm, x1⟩ := lneeds_ok (n + 5) hp hd s H
  have b1 : laS (callN pg (n + 7)) [a0, a1, a2, some (treeD p), a4, a5, a6] s = some (.nx [a0, a1, a2, some (treeD p), some (.str P1.shown), some (.ref N), a6], s1) := by
    have r := r1 s (Ext.refl _)
    generalize treeD p = T at *
    unfold laS
    simp [r, c1]
  obtain ⟨s2, c2, x2⟩ := need_ok d (n + 6) (by omega) p hp s1
  have nl := need_lt hp hd
  obtain ⟨P2, _, _, r2⟩ := repr_th (B := 700) (M := []) (s := s2) (n := 1) (th_nat (a := 40) nl (by decide) (by decide)) (by decide) (by decide) (by decide)
  have mem0 : ([] : List Nat) ∈ ms := (hm []).mpr (List.mem_map.mpr ⟨([], p), by rw [rows_head]; exact List.mem_cons_self, rfl⟩)
  have i2 : ix (.ref N) (.tup []) s2 = some (.int (need p : Nat)) := by
    have := ix_dt (v := vN p) (x2 _ _ g1) mem0
    rw [vN_of (sub_nil p)] at this
    exact this
  have b2 : laG (callN pg (n + 7)) [a0, a1, a2, some (treeD p), some (.str P1.shown), some (.ref N), a6] s1 = some (false, s2) := by
    have r := r1 s2 (x1.trans x2)
    have q := r2 s2 (Ext.refl _)
    have n1 := ne_same P1.shown s2
    have n2 := ne_same P2.shown s2
    generalize treeD p = T at *
    generalize P1.shown = Z1 at *
    generalize P2.shown = Z2 at *
    generalize D.int (need p : Nat) = V at *
    unfold laG
    rw [gOr_ev, gCmp_ev]
    have e1 : fBlt bRepr (fCons (fCall (callN pg (n + 7)) "need" (fCons (fVar 3) (fNil))) (fNil)) [a0, a1, a2, some T, some (.str Z1), some (.ref N), a6] s1 = some (.str Z2, s2) := by
      simp [c2, q]
    have e2 : fBlt bRepr (fCons (fIx (fVar 5) (fTup (fNil))) (fNil)) [a0, a1, a2, some T, some (.str Z1), some (.ref N), a6] s2 = some (.str Z2, s2) := by
      simp [i2, q]
    have e3 : gCmp .NotEq (fBlt bRepr (fCons (fVar 3) (fNil))) (fVar 4) [a0, a1, a2, some T, some (.str Z1), some (.ref N), a6] s2 = some (false, s2) := by
      simp [r]
    rw [e1]
    simp only [Option.bind_some]
    rw [e2]
    simp only [Option.bind_some, n2, Option.map_some]
    exact e3
  obtain ⟨s3, c3, x3⟩ := needs_ok (n := n + 4) (by omega) hd hp s2
  obtain ⟨s4, c4, x4, g4⟩ := laL_ok (p := p) (x3 _ _ (x2 _ _ g1)) nd hm (by omega) (a0 := a0) (a1 := a1) (a2 := a2) (a3 := some (treeD p)) (a4 := some (.str P1.shown)) (a6 := a6)
  obtain ⟨P3, sh3, t3, r3⟩ := repr_th (s := s3) (M := []) (th_all hp hd) (by decide) (by decide) (by omega)
  have q3 : bRepr [.tup (needsD p)] s3 = some (.str P3.shown, s3) := repr_of (by rw [toP_needs]; exact t3) sh3
  have q4 := r3 s4 x4
  have tu := tup_ref g4
  have b3 : laN (callN pg (n + 7)) [a0, a1, a2, some (treeD p), some (.str P1.shown), some (.ref N), a6] s2 = some (false, s4) := by
    have n3 := ne_same P3.shown s4
    generalize treeD p = T at *
    generalize P1.shown = Z1 at *
    generalize P3.shown = Z3 at *
    generalize D.tup (needsD p) = V at *
    generalize (rowsT [] p).map nrD = RR at *
    unfold laN
    have e1 : fBlt bRepr (fCons (fCall (callN pg (n + 7)) "needs" (fCons (fVar 3) (fNil))) (fNil)) [a0, a1, a2, some T, some (.str Z1), some (.ref N), a6] s2 = some (.str Z3, s3) := by
      simp [c3, q3]
    have e2 : fBlt bRepr (fCons (fBlt bTuple (fCons laL (fNil))) (fNil)) [a0, a1, a2, some T, some (.str Z1), some (.ref N), a6] s3 = some (.str Z3, s4) := by
      generalize laL = LL at *
      simp [c4, tu, q4]
    rw [gCmp_ev, e1]
    simp only [Option.bind_some]
    rw [e2]
    simp only [Option.bind_some, n3, Option.map_some]
  refine ⟨s4, some (.str P1.shown), some (.ref N), ?_, ((x1.trans x2).trans x3).trans x4⟩
  exact (seq_step b1).trans ((seq_step (sIf_ff b2)).trans ((seq_step (sIf_ff b3)).trans rfl))
end K21

namespace Sim
open PySem L2 PySem.Spec PyProof.Rows
/-! ### the end of a law some of whose defs make lambdas: the tables of their code objects, void at the start -/
def voidT : Obj := { cls := .none, data := .fields #[] }
theorem lawGT {P : Program} {w : World} {K : Frg} {mg mb : Str → Option Value} {s₁ : Shared} {fa a : Addr} {fd : FuncData} {x : Str} {vs : List Value} {ns : List Int} {k : Nat} {CX : CXT} {sp : Sp} {Ts : List (Addr × Addr)} (KX : K.In s₁.heap)
    (hns : s₁.heap.Ns mainGlobals mg) (hb : s₁.heap.Ns builtinsNs mb) (hbb : ∀ x : Str, x ≠ "__name__" → mb x = bootBuiltins x) (lim : s₁.heap.NoLimit) (hg : s₁.gens = #[])
    (tabs : ∀ p ∈ Ts, s₁.heap.get? p.2 = some voidT ∧ K.lookup p.2 = none ∧ PySem.W.CodeHd s₁.heap p.1 p.2) (bm : ∃ (m : Addr) (ob : Obj), mg "__builtins__" = some (.ref m) ∧ m ≠ builtinsNs ∧ s₁.heap.get? m = some ob ∧ ob.cls = .type "module" ∧ ob.dict = some builtinsNs ∧ ob.data = .plain)
    (ha : s₁.heap.get? a = some { cls := .type "list", data := .seq vs.toArray }) (hi : IntsAre vs ns) (hl : ns.length ≤ sizeLine) (room : Room k callerA)
    (F : ∀ b : Heap, K.In b → b.Ns mainGlobals mg → (∀ p ∈ Ts, LamX.TabB b mg p.1 p.2) → FnG P w K mg b CX k fa fd [x] sp) (bind : ∀ (s : Shared) (u : Value), BindsTo s fd ⟨[u], []⟩ [(x, u)])
    (hsp : ∀ H : Hp, (∀ p ∈ Ts, H p.2 = some (.tbl #[])) → SqL K H a (ns.map V.int) → sp [.ref a] H (fun v _ => v = .bl true) fun _ _ _ => False) (hCX : ∀ (H : Hp) (e : Value) (s' : Shared), CX [] H s₁ (fun _ _ _ => False) e s' → False) :
    codeAny (model P w) callerA (.call (.ref fa) ⟨[.ref a], []⟩) (fun r s' => r = .ok (.ret (.bool true)) ∧ OldK s₁.heap s'.heap ∧ s'.os = s₁.os ∧ AllBare s'.gens) s₁ := by
  have rv : Vals (ns.map V.int) vs := vals_of_ints hi
  have lv : vs.length = ns.length := by rw [← rv.length, List.length_map]
  let isP : Addr → Prop := fun b => ∃ p ∈ Ts, p.2 = b
  have aP : ¬ isP a := fun ⟨p, hp, e⟩ => by
    have q := (tabs p hp).1
    rw [e, ha] at q
    cases q
  have main : ∀ H : Hp, (∀ b, H b = none ∨ (∃ o xs, H b = some (.frz o (.lst xs))) ∨ (isP b ∧ H b = some (.tbl #[]))) → (∀ p ∈ Ts, H p.2 = some (.tbl #[])) → SqL K H a (ns.map V.int) → HOk P w H s₁.heap → (∀ b, H b ≠ none → K.lookup b = none) →
      codeAny (model P w) callerA (.call (.ref fa) ⟨[.ref a], []⟩) (fun r s' => r = .ok (.ret (.bool true)) ∧ OldK s₁.heap s'.heap ∧ s'.os = s₁.os ∧ AllBare s'.gens) s₁ := by
    intro H hO hT hS hok hK
    -- an object that is neither a row nor a void table is not tracked
    have free : ∀ (b : Addr) (o : Obj), s₁.heap.get? b = some o → (∀ us n, o.data ≠ .seq us n) → o.data ≠ .fields #[] → H b = none := fun b o e d1 d2 => by
      rcases hO b with q | ⟨ob, xs, q⟩ | ⟨⟨p, hp, ep⟩, q⟩
      · exact q
      · obtain ⟨e1, _, us, m, _, e2⟩ := hok b _ q
        rw [e] at e1; cases e1
        rw [e] at e2; cases e2
        exact (d1 _ _ rfl).elim
      · have e1 := (tabs p hp).1
        rw [ep, e] at e1; cases e1
        exact (d2 rfl).elim
    have thin : ∀ (b : Addr) (o : Obj), s₁.heap.get? b = some o → H b = none → (hidT s₁.heap H).get? b = some o := fun b o e q => hidT_get e q
    have names : ∀ (b : Addr) (m : Str → Option Value), s₁.heap.Ns b m → (hidT s₁.heap H).Ns b m := by
      rintro b m ⟨o, es, ep, e, d, r⟩
      refine ⟨o, es, ep, thin b o e (free b o e (fun us n z => ?_) fun z => ?_), d, r⟩
      · rw [d] at z; cases z
      · rw [d] at z; cases z
    have KB : K.In (hidT s₁.heap H) := fun b o e => thin b o (KX b o e) (Classical.byContradiction fun q => by rw [hK b q] at e; cases e)
    have M : Mod K mg (hidT s₁.heap H) := by
      refine ⟨KB, names _ _ hns, ⟨mb, names _ _ hb, hbb⟩, ?_⟩
      obtain ⟨mc, z1, z2⟩ := lim
      exact ⟨mc, names _ _ z1, z2⟩
    have TB : ∀ p ∈ Ts, LamX.TabB (hidT s₁.heap H) mg p.1 p.2 := fun p hp => by
      obtain ⟨t1, t2, t3⟩ := tabs p hp
      refine ⟨?_, ?_, fun z => ?_⟩
      · obtain ⟨o, us, file, tf, flags, tg, inF, text, tt, e1, r1, r2, r3, rest⟩ := t3
        refine ⟨o, us, file, tf, flags, tg, inF, text, tt, thin _ _ e1 (free _ _ e1 (fun us n z => ?_) fun z => ?_), r1, r2, r3, rest⟩
        · rw [r2] at z; cases z
        · rw [r2] at z
          cases z
          simp at r3
      · obtain ⟨m, ob, b1, b2, b3, b4, b5, b6⟩ := bm
        refine ⟨m, ob, b1, b2, fun q => ?_, fun q => ?_, thin _ _ b3 (free _ _ b3 (fun us n z => ?_) fun z => ?_), b4, b5, b6⟩
        · obtain ⟨o, es, ep, e, d, _⟩ := hns
          rw [q, e] at b3
          cases b3
          rw [d] at b6; cases b6
        · rw [q, t1] at b3
          cases b3
          cases b6
        · rw [b6] at z; cases z
        · rw [b6] at z; cases z
      · obtain ⟨o, es, ep, e, d, _⟩ := hns
        rw [z, t1] at e
        cases e
        cases d
    have e0 : Env0 P w K mg (hidT s₁.heap H) callerA [] s₁ H :=
      { frames := rfl, mod := M, bs := fun b o e => of_hidT e, bsz := Nat.le_of_eq (hidT_size _ _), funs := trivial, frf := (fun b z => absurd (show b ∈ ([] : List Addr) from z) (by simp)), hok := hok, bare := AllBare.of_eq hg }
    apply codeAny_mono ((F _ KB (names _ _ hns) TB).run callerA [] s₁ H ⟨[.ref a], []⟩ [.ref a] [.ref a] _ _ room rfl e0 (bind s₁ (.ref a)) (.cons rfl .nil) (hsp H hT hS))
    rintro (e | fl) s' h
    · exact (hCX H e s' h).elim
    cases fl with
    | next => cases h
    | brk => cases h
    | cont => cases h
    | ret u =>
      obtain ⟨v, H', os, bare, un, hok', r', q⟩ := h
      cases (show v = .bl true from q)
      cases (show u = Value.bool true from r')
      have stays : ∀ b o, ¬ isP b → s₁.heap.get? b = some o → s'.heap.get? b = some o := fun b o nb e => by
        rcases hO b with z | ⟨ob, xs, z⟩ | ⟨z, _⟩
        · exact un.keep b o e z (fun z => by cases z) (fun z => by cases z)
        · have f1 := (hok b _ z).1
          have f2 := (hok' b _ (un.frzs b ob _ z)).1
          rw [e] at f1
          cases f1
          exact f2
        · exact absurd z nb
      have grows : ∀ p ∈ Ts, ∃ more : Array Value, s'.heap.get? p.2 = some { cls := .none, data := .fields more } := fun p hp => by
        obtain ⟨more, z⟩ := un.tbls p.2 #[] (hT p hp)
        exact ⟨_, hok' p.2 _ z⟩
      refine ⟨rfl, ⟨fun b o e => ?_, fun b o e => ?_⟩, os, bare⟩
      · by_cases c : isP b
        · obtain ⟨p, hp, rfl⟩ := c
          obtain ⟨t1, t2, t3⟩ := tabs p hp
          obtain ⟨more, g⟩ := grows p hp
          have t1' := t1
          rw [e] at t1; cases t1
          exact .inr (.inl ⟨(t3.tab t1').isCodeTable, rfl, #[], more, rfl, by rw [Array.empty_append]; exact g⟩)
        · exact .inl (stays b o c e)
      · by_cases c : isP b
        · obtain ⟨p, hp, rfl⟩ := c
          obtain ⟨more, g⟩ := grows p hp
          exact ⟨_, g⟩
        · exact ⟨o, stays b o c e⟩
  have tab? : ∀ b, isP b → s₁.heap.get? b = some voidT ∧ K.lookup b = none := fun b ⟨p, hp, e⟩ => by
    have t := tabs p hp
    rw [e] at t
    exact ⟨t.1, t.2.1⟩
  have dec : ∀ b, Decidable (isP b) := fun b => Classical.propDecidable _
  let T0 : Hp := fun b => @ite _ (isP b) (dec b) (some (.tbl #[])) none
  have T1 : ∀ b, isP b → T0 b = some (.tbl #[]) := fun b h => if_pos h
  have T2 : ∀ b, ¬ isP b → T0 b = none := fun b h => if_neg h
  cases q : K.lookup a with
  | some o =>
    have e := (KX a o q).symm.trans ha
    cases e
    refine main T0 (fun b => ?_) (fun p hp => T1 _ ⟨p, hp, rfl⟩) (Or.inr ⟨_, vs.toArray, _, q, rfl, rfl, rfl, by rw [List.size_toArray, lv]; exact hl, by rw [List.toList_toArray]; exact rv⟩) (fun b u z => ?_) (fun b z => ?_)
    · by_cases c : isP b
      · exact .inr (.inr ⟨c, T1 b c⟩)
      · exact .inl (T2 b c)
    · by_cases c : isP b
      · rw [T1 b c] at z; cases z
        exact (tab? b c).1
      · rw [T2 b c] at z; cases z
    · by_cases c : isP b
      · exact (tab? b c).2
      · exact absurd (T2 b c) z
  | none =>
    let H : Hp := L2.upd T0 a (.frz { cls := .type "list", data := .seq vs.toArray } (.lst (ns.map V.int)))
    have H1 : H a = some (.frz { cls := .type "list", data := .seq vs.toArray } (.lst (ns.map V.int))) := upd_same
    have H2 : ∀ b, b ≠ a → H b = T0 b := fun b hb => upd_ne hb
    have nA : ∀ b, isP b → b ≠ a := fun b h e => aP (e ▸ h)
    refine main H (fun b => ?_) (fun p hp => (H2 _ (nA _ ⟨p, hp, rfl⟩)).trans (T1 _ ⟨p, hp, rfl⟩)) (Or.inl (Or.inr ⟨_, H1⟩)) (fun b u z => ?_) (fun b z => ?_)
    · by_cases hb : b = a
      · rw [hb]; exact .inr (.inl ⟨_, _, H1⟩)
      · by_cases c : isP b
        · exact .inr (.inr ⟨c, (H2 b hb).trans (T1 b c)⟩)
        · exact .inl ((H2 b hb).trans (T2 b c))
    · by_cases hb : b = a
      · subst hb
        rw [H1] at z
        cases z
        exact ⟨ha, by rw [List.length_map]; exact hl, vs, _, rv, ha⟩
      · rw [H2 b hb] at z
        by_cases c : isP b
        · rw [T1 b c] at z; cases z
          exact (tab? b c).1
        · rw [T2 b c] at z; cases z
    · by_cases hb : b = a
      · rw [hb]; exact q
      · rw [H2 b hb] at z
        by_cases c : isP b
        · exact (tab? b c).2
        · exact absurd (T2 b c) z
/-- the tables of the defs that make lambdas -/
def tabsOf (K : Frg) (tq : List (Str × Str)) : List (Addr × Addr) := tq.filterMap fun p => PySem.W.tabIn K p.1
theorem tabs_mem {K : Frg} {tq : List (Str × Str)} {p : Addr × Addr} (h : p ∈ tabsOf K tq) : ∃ y ∈ tq, PySem.W.tabIn K y.1 = some p := by
  obtain ⟨y, h1, h2⟩ := List.mem_filterMap.mp h
  exact ⟨y, h1, h2⟩
theorem walkGT {l : PySem.W.OpenLaw} {n k : Nat} {q : Program} {loose : List Str} {XP : (Str → Option Value) → Heap → Prop} {YP : World → Heap → Prop} {d : DefRec} {K : Params → Frg} {CX : World → CXT} {sp : World → Sp} {x : Str} {tq : List (Str × Str)}
    (hn : l.most = some n) (hn2 : n ≤ sizeLine) (hdf : d.params.defaults = []) (room : Room k callerA) (hY : ∀ (w : World) (h : Heap), YP w h → (K w.params).In h)
    (hrec : ∀ p ∈ tq, ∃ r, (recsOf q).find? (fun e => e.name == p.1) = some r) (hnt : ∀ w : World, PySem.W.noTabs (K w.params) = true)
    (F : ∀ (w : World) (mg : Str → Option Value) (fa : Addr) (h : Heap), (K w.params).In h → h.Ns mainGlobals mg → mg d.name = some (.ref fa) →
      ∃ fd : FuncData, (∀ (s : Shared) (u : Value), BindsTo s fd ⟨[u], []⟩ [(x, u)]) ∧ ∀ b : Heap, (K w.params).In b → b.Ns mainGlobals mg → (∀ p ∈ tabsOf (K w.params) tq, LamX.TabB b mg p.1 p.2) → FnG l.prog w (K w.params) mg b (CX w) k fa fd [x] (sp w))
    (hsp : ∀ (w : World) (H : Hp) (a : Addr) (ns : List Int), ns.length ≤ n → (∀ p ∈ tabsOf (K w.params) tq, H p.2 = some (.tbl #[])) → SqL (K w.params) H a (ns.map V.int) → sp w [.ref a] H (fun v _ => v = .bl true) fun _ _ _ => False)
    (hCX : ∀ (w : World) (H : Hp) (s : Shared) (e : Value) (s' : Shared), CX w [] H s (fun _ _ _ => False) e s' → False) : PySem.W.WalkO q loose XP YP l.row.toRowW d [] (fun f vs => PySem.call f vs) := by
  apply Att.attach_call hn hdf
  intro w s₀ s₁ mg mb fa o pm cd doc a vs ns G Y ho hd hcd hmg hobj hints hlen hg
  have KX := hY w _ Y
  obtain ⟨fd, bind, FF⟩ := F w mg fa _ KX G.T.g hmg
  refine lawGT (Ts := tabsOf (K w.params) tq) KX G.T.g G.T.b G.T.builtins G.T.nolimit hg (fun p hp => ?_) G.T.bmain hobj hints (Nat.le_trans hlen hn2) room FF bind (fun H => hsp w H a ns hlen) fun H => hCX w H s₁
  obtain ⟨y, hy, ht⟩ := tabs_mem hp
  obtain ⟨r, hr⟩ := hrec y hy
  obtain ⟨c1, c2⟩ := PySem.W.tab_of G.T KX hr ht
  refine ⟨c2, ?_, c1⟩
  cases e : (K w.params).lookup p.2 with
  | none => rfl
  | some ob =>
    have z := KX _ _ e
    rw [c2] at z
    cases z
    exact absurd (show false = true from List.all_eq_true.mp (hnt w) _ (PySem.W.mem_of_lookupK e)) Bool.false_ne_true
/-- the law at every script, its defs' tables behind the script -/
def stks (tq : List (Str × Str)) : List O := tq.map fun p => .stk (.tab p.1 p.2)
def LawOkT (P : Pg) (n : Nat) (tq : List (Str × Str)) : Prop := ∀ (ns : List Int) (o : O), ns.length ≤ 63 → (o = .lst (ns.map .int) ∨ o = .frz (ns.map .int)) → ∃ st', callN P n "law" [.ref 0] (o :: stks tq) = some (.bl true, st')
theorem stk_own {tq : List (Str × Str)} {n : Nat} {x : O} (h : (stks tq)[n]? = some x) : x.own = false := by
  unfold stks at h
  rw [List.getElem?_map] at h
  obtain ⟨p, _, rfl⟩ := Option.map_eq_some_iff.mp h
  rfl
theorem sr_tabs {K : Frg} {H : Hp} {a : Addr} {o : O} {tq : List (Str × Str)} {Ps : List Addr} (h : OR K (a :: Ps) H o a) (hp : Ps.length = tq.length) (ht : ∀ (n : Nat) (p : Str × Str) (b : Addr), tq[n]? = some p → Ps[n]? = some b → TabOf K p.1 b ∧ H b = some (.tbl #[])) : SR K (a :: Ps) (o :: stks tq) H := by
  refine ⟨by simp [stks, hp], fun n x b h1 h2 => ?_, fun n m x y b h1 h2 m1 m2 _ _ => ?_, fun n x h1 _ => ?_⟩
  · cases n with
    | zero => cases h1; cases h2; exact h
    | succ n =>
      rw [List.getElem?_cons_succ] at h1 h2
      unfold stks at h1
      rw [List.getElem?_map] at h1
      obtain ⟨p, h3, rfl⟩ := Option.map_eq_some_iff.mp h1
      obtain ⟨t1, t2⟩ := ht n p b h3 h2
      exact ⟨t1, LamX.TabS.nil t2⟩
  · cases n with
    | zero => cases m with
      | zero => rfl
      | succ m =>
        rw [List.getElem?_cons_succ] at h2
        rw [stk_own h2] at m2; cases m2
    | succ n =>
      rw [List.getElem?_cons_succ] at h1
      rw [stk_own h1] at m1; cases m1
  · rw [List.getElem?_cons_succ] at h1 ⊢
    have hl : n + 1 < (stks tq).length := (List.getElem?_eq_some_iff.mp h1).1
    have hl2 : n < tq.length := by unfold stks at hl; rw [List.length_map] at hl; omega
    refine ⟨.stk (.tab tq[n].1 tq[n].2), ?_, rfl⟩
    unfold stks
    rw [List.getElem?_map, List.getElem?_eq_getElem hl2]; rfl
theorem law_spT {P : Pg} {n : Nat} {tq : List (Str × Str)} (L : LawOkT P n tq) {K : Frg} {H : Hp} {a : Addr} {ns : List Int} (hl : ns.length ≤ 63) (hS : SqL K H a (ns.map V.int)) (hk : ∀ p ∈ tq, ∃ c b, PySem.W.tabIn K p.1 = some (c, b)) (hT : ∀ p ∈ tabsOf K tq, H p.2 = some (.tbl #[])) (E : XK) : spF K (callN P n) "law" 1 [.ref a] H (fun v _ => v = .bl true) E := by
  have go : ∀ o : O, (o = .lst (ns.map .int) ∨ o = .frz (ns.map .int)) → (∀ ρ, OR K ρ H o a) → spF K (callN P n) "law" 1 [.ref a] H (fun v _ => v = .bl true) E := fun o ho h => by
    obtain ⟨st', e⟩ := L ns o hl ho
    have ex : ∀ tq : List (Str × Str), (∀ p ∈ tq, ∃ c b, PySem.W.tabIn K p.1 = some (c, b)) → (∀ p ∈ tabsOf K tq, H p.2 = some (.tbl #[])) → ∃ Ps : List Addr, Ps.length = tq.length ∧ ∀ (n : Nat) (p : Str × Str) (b : Addr), tq[n]? = some p → Ps[n]? = some b → TabOf K p.1 b ∧ H b = some (.tbl #[]) := by
      intro tq
      induction tq with
      | nil => exact fun _ _ => ⟨[], rfl, fun n p b h => by simp at h⟩
      | cons p tq ih =>
        intro h1 h2
        obtain ⟨c, b, hb⟩ := h1 p List.mem_cons_self
        have e2 : tabsOf K (p :: tq) = (c, b) :: tabsOf K tq := by
          unfold tabsOf
          rw [List.filterMap_cons, hb]
        obtain ⟨Ps, l1, l2⟩ := ih (fun q hq => h1 q (List.mem_cons_of_mem _ hq)) (fun q hq => h2 q (by rw [e2]; exact List.mem_cons_of_mem _ hq))
        refine ⟨b :: Ps, by rw [List.length_cons, List.length_cons, l1], fun n q b' g1 g2 => ?_⟩
        cases n with
        | zero => cases g1; cases g2; exact ⟨⟨c, hb⟩, h2 (c, b) (by rw [e2]; exact List.mem_cons_self)⟩
        | succ n => exact l2 n q b' g1 g2
    obtain ⟨Ps, l1, l2⟩ := ex tq hk hT
    exact ⟨rfl, a :: Ps, o :: stks tq, [.ref 0], .bl true, st', sr_tabs (h _) l1 l2, .cons (.ref rfl) .nil, e, fun ρ' H' v _ _ r => by cases r; rfl⟩
  rcases hS with (h | ⟨u, h⟩) | h
  · exact go _ (.inl rfl) fun ρ => ⟨_, h, drs_ints ns⟩
  · exact go _ (.inr rfl) fun ρ => ⟨_, .inl ⟨u, h⟩, drs_ints ns⟩
  · exact go _ (.inr rfl) fun ρ => ⟨_, .inr h, drs_ints ns⟩
/-- the end of a law some of whose defs make lambdas -/
theorem finishT {P : Pg} {n : Nat} (L : LawOkT P n P.tq) {dl : Def} (hdl : look "law" P.defs = some dl) (hps : dl.ps = (["_law_script"] : List Str)) {l : PySem.W.OpenLaw} {q : Program} {loose : List Str} {XP : (Str → Option Value) → Heap → Prop} {YP : World → Heap → Prop} {d : DefRec} {K : Params → Frg}
    (hn : l.most = some 63) (hdf : d.params.defaults = []) (room : Room (n + 2) callerA) (hY : ∀ (w : World) (h : Heap), YP w h → (K w.params).In h) (hname : d.name = "law")
    (hrec : ∀ p ∈ P.tq, ∃ r, (recsOf q).find? (fun e => e.name == p.1) = some r) (hnt : ∀ w : World, PySem.W.noTabs (K w.params) = true) (hk : ∀ (w : World), ∀ p ∈ P.tq, ∃ c b, PySem.W.tabIn (K w.params) p.1 = some (c, b))
    (F : ∀ (w : World) (mg : Str → Option Value) (h : Heap), (K w.params).In h → h.Ns mainGlobals mg → PgOk P (K w.params) w mg)
    (B : ∀ (w : World) (mg : Str → Option Value) (fa : Addr) (fd : FuncData), DefOk dl (K w.params) mg fa fd → ∀ (s : Shared) (u : Value), BindsTo s fd ⟨[u], []⟩ [("_law_script", u)]) :
    PySem.W.WalkO q loose XP YP l.row.toRowW d [] (fun f vs => PySem.call f vs) := by
  refine walkGT (n := 63) (k := n + 2) (x := "_law_script") (CX := fun w => L2.CX l.prog w) (sp := fun w => spF (K w.params) (callN P n) "law" 1) (tq := P.tq) hn (by decide) hdf room hY hrec hnt (fun w mg fa h KX G hmg => ?_) (fun w H a ns hl ht hS => law_spT L hl hS (hk w) ht _) fun _ _ _ _ _ z => by
    obtain ⟨_, _, _, _, _, _, _, _, _, _, _, _, z⟩ := z
    exact z
  have O := F w mg h KX G
  obtain ⟨hm, hnm⟩ := look_mem hdl
  obtain ⟨fa', fd, Dl⟩ := O.defs dl hm
  have e : fa' = fa := by
    have h1 := Dl.at'
    rw [hnm, ← hname, hmg] at h1
    cases h1; rfl
  subst e
  refine ⟨fd, B w mg fa' fd Dl, fun b _ _ TB => ?_⟩
  have this := all_ok (prog := l.prog) (w := w) (base := b) O (fun x r c a h t => TB (c, a) (List.mem_filterMap.mpr ⟨(x, r), h, t⟩)) n "law" dl hdl fa' fd Dl
  have this := this.imp fun vs H Q E q => spX_of q
  rw [hps] at this
  exact this
end Sim
namespace Sim
theorem pair_some {α β : Type} {o : Option (α × β)} (h : o.isSome = true) : ∃ c b, o = some (c, b) := by
  cases o with
  | none => cases h
  | some p => exact ⟨p.1, p.2, rfl⟩
end Sim
namespace Sim
open PySem in
theorem tab_mk {K : Frg} {x : Str} {f c a : Addr} {o1 o2 : Value} {p1 p2 : Option Addr} {fd : FuncData} {s1 s2 : Array (Option Value)} {us : Array Value} (h1 : PySem.W.nsIn K mainGlobals x = some (some (.ref f))) (h2 : K.lookup f = some ⟨o1, p1, .func fd, s1⟩) (h3 : fd.code = .ref c) (h4 : K.lookup c = some ⟨o2, p2, .fields us, s2⟩) (h5 : us[11]? = some (.ref a)) : PySem.W.tabIn K x = some (c, a) := by
  unfold PySem.W.tabIn
  rw [h1]
  simp only [h2, h3, h4, h5]
end Sim

namespace K21
open PySem L2 Sim Sim.PTr
/-! ### the law -/
theorem feed_ext {a b : Sto} {f g : Nat} {ns : List Int} {t : Nat} (h : Ext a b) (F : FeedD a f g ns t) : FeedD b f g ns t := by
  obtain ⟨i, c, k, h1, h2, h3⟩ := F.ex
  exact ⟨i, c, k, h _ _ h1, h _ _ h2, h3⟩
abbrev tabN : O := .stk (.tab "_law_needs" "_law_needs.<locals>.<lambda>")
structure LS (o : O) (ms : List Int) (s : Sto) (t : Nat) : Prop where
  F : FeedD s 2 4 ms t
  h0 : s[0]? = some o
  ho : isTab o = false
  h1 : s[1]? = some tabN
theorem LS.ht {o : O} {ms : List Int} {s : Sto} {t : Nat} (h : LS o ms s t) : HT s := by
  obtain ⟨i, c, k, e, _⟩ := h.F.ex
  exact ⟨o, _, h.h0, h.ho, h.h1, e⟩
theorem LS.ext {o : O} {ms : List Int} {a b : Sto} {t : Nat} (h : LS o ms a t) (e : Ext a b) : LS o ms b t := ⟨feed_ext e h.F, e _ _ h.h0, h.ho, e _ _ h.h1⟩
theorem LS.keep {o : O} {ms : List Int} {a b : Sto} {t u : Nat} (h : LS o ms a t) (F : FeedD b 2 4 ms u) (k : Keep 2 a b) : LS o ms b u := ⟨F, k _ _ (by decide) h.h0, h.ho, k _ _ (by decide) h.h1⟩
noncomputable abbrev laP (cf : CallF) : SemS := sAsg (fCall cf "_law_whole_plan" (fCons (fVar 1) (fNil))) (gvName 3)
noncomputable abbrev laW (cf : CallF) : SemS := sIf (gCmp .Gt (fVar 2) (fC (.int 5)))
          (sSeq (sAsg (fCall cf "_law_wide" (fCons (fVar 1) (fNil))) (gvName 3))
            (sNil))
          (sNil)
noncomputable abbrev laB (cf : CallF) : SemS := sSeq (laP cf) (sSeq (laW cf) (laR cf))
theorem turn_ok (n : Nat) {o : O} {ms : List Int} {s : Sto} {t : Nat} (L : LS o ms s t) (ht : t + 400 < 30000) (k : Int) {a0 e3 e4 e5 e6 : Option D} :
    ∃ (s' : Sto) (t' : Nat) (h3 h4 h5 : Option D), laB (callN pg (n + 7)) [a0, some (.ref 2), some (.int k), e3, e4, e5, e6] s = some (.nx [a0, some (.ref 2), some (.int k), h3, h4, h5, e6], s') ∧ LS o ms s' t' ∧ t' ≤ t + 160 := by
  obtain ⟨y, s1, t1, c1, F1, l1, T1, K1⟩ := whole_ok (n + 1) L.F (by decide) (by omega)
  obtain ⟨p, rfl, op⟩ := pt_of T1
  have L1 := L.keep F1 K1
  have b1 : laP (callN pg (n + 7)) [a0, some (.ref 2), some (.int k), e3, e4, e5, e6] s = some (.nx [a0, some (.ref 2), some (.int k), some (treeD p), e4, e5, e6], s1) := by
    generalize treeD p = T at *
    simp [c1]
  by_cases hk : (5 : Int) < k
  · obtain ⟨q, s2, t2, c2, F2, l2, oq, K2⟩ := wide_ok (n + 5) F1 (by decide) (by omega)
    have L2 := L1.keep F2 K2
    have rl := rows_len 1 [] q oq
    obtain ⟨s3, h4, h5, b3, x3⟩ := rest_ok n (d := 1) oq (by decide) (Nat.le_trans rl (by decide)) L2.ht (a0 := a0) (a1 := some (.ref 2)) (a2 := some (.int k)) (a4 := e4) (a5 := e5) (a6 := e6)
    refine ⟨s3, t2, some (treeD q), h4, h5, ?_, L2.ext x3, by omega⟩
    have b2 : laW (callN pg (n + 7)) [a0, some (.ref 2), some (.int k), some (treeD p), e4, e5, e6] s1 = some (.nx [a0, some (.ref 2), some (.int k), some (treeD q), e4, e5, e6], s2) := by
      have test : gCmp .Gt (fVar 2) (fC (.int 5)) [a0, some (.ref 2), some (.int k), some (treeD p), e4, e5, e6] s1 = some (true, s1) := by
        simp [hk]
      refine (sIf_tt test).trans ?_
      generalize treeD p = T at *
      generalize treeD q = TQ at *
      simp [c2]
    exact (seq_step b1).trans ((seq_step b2).trans b3)
  · have rl := rows_3 4 [] p op
    obtain ⟨s3, h4, h5, b3, x3⟩ := rest_ok n (d := 4) (okW_of op) (by decide) (Nat.le_trans rl (by decide)) L1.ht (a0 := a0) (a1 := some (.ref 2)) (a2 := some (.int k)) (a4 := e4) (a5 := e5) (a6 := e6)
    refine ⟨s3, t1, some (treeD p), h4, h5, ?_, L1.ext x3, by omega⟩
    have b2 : laW (callN pg (n + 7)) [a0, some (.ref 2), some (.int k), some (treeD p), e4, e5, e6] s1 = some (.nx [a0, some (.ref 2), some (.int k), some (treeD p), e4, e5, e6], s1) := by
      have test : gCmp .Gt (fVar 2) (fC (.int 5)) [a0, some (.ref 2), some (.int k), some (treeD p), e4, e5, e6] s1 = some (false, s1) := by
        simp [hk]
      exact (sIf_ff test).trans rfl
    exact (seq_step b1).trans ((seq_step b2).trans b3)
theorem turns_ok (n : Nat) {o : O} {ms : List Int} {a0 e6 : Option D} : ∀ (xs : List D) (s : Sto) (t : Nat) (e2 e3 e4 e5 : Option D), (∀ x ∈ xs, ∃ k : Int, x = .int k) → LS o ms s t → t + 160 * xs.length + 400 < 30000 →
    ∃ (η' : LocD) (s' : Sto), forGo (gvName 2) (laB (callN pg (n + 7))) none xs [a0, some (.ref 2), e2, e3, e4, e5, e6] s = some (.nx η', s')
  | [], s, t, e2, e3, e4, e5, _, _, _ => ⟨_, s, forGo_nil⟩
  | x :: xs, s, t, e2, e3, e4, e5, hx, L, ht => by
    rw [List.length_cons] at ht
    obtain ⟨k, rfl⟩ := hx x List.mem_cons_self
    obtain ⟨s1, t1, h3, h4, h5, run, L1, l1⟩ := turn_ok n L (by omega) k (a0 := a0) (e3 := e3) (e4 := e4) (e5 := e5) (e6 := e6)
    obtain ⟨η', s', r⟩ := turns_ok n xs s1 t1 (some (.int k)) h3 h4 h5 (fun y hy => hx y (List.mem_cons_of_mem _ hy)) L1 (by omega)
    exact ⟨η', s', (forGo_nx (η2 := [a0, some (.ref 2), some (.int k), e3, e4, e5, e6]) rfl run).trans r⟩
theorem law_ok : LawOkT pg 25 pg.tq := by
  intro ns o hl ho
  have ht : isTab o = false := by rcases ho with rfl | rfl <;> rfl
  obtain ⟨ms, os, c0, F0⟩ := law_feed_ok 23 (tb := tabN) ho
  have L0 : LS o ms (o :: tabN :: os) 0 := ⟨F0, rfl, ht, rfl⟩
  have xs : ∀ x ∈ rngD 0 9 1, ∃ k : Int, x = .int k := fun x hx => by
    unfold rngD at hx
    obtain ⟨i, _, rfl⟩ := List.mem_map.mp hx
    exact ⟨_, rfl⟩
  obtain ⟨η', s', run⟩ := turns_ok 17 (o := o) (ms := ms) (a0 := some (.ref 0)) (e6 := none) (rngD 0 9 1) (o :: tabN :: os) 0 none none none none xs L0 (by rw [rngD_len]; decide)
  refine ⟨s', ?_⟩
  show callN pg 25 "law" [.ref 0] [o, tabN] = _
  rw [r_law, runB_ev rfl]
  show (Option.bind (b_law (callN pg 24) [some (.ref 0), none, none, none, none, none, none] [o, tabN]) _) = _
  have eb : b_law (callN pg 24) = sSeq (sAsg (fCall (callN pg 24) "_law_feed" (fCons (fVar 0) (fNil))) (gvName 1))
    (sSeq (sFor (iRng (fCons (fC (.int 9)) (fNil))) (gvName 2) (laB (callN pg 24)))
    (sSeq (sRet (fC (.bl true)))
    (sNil))) := rfl
  rw [eb]
  have a1 : sAsg (fCall (callN pg 24) "_law_feed" (fCons (fVar 0) (fNil))) (gvName 1) [some (.ref 0), none, none, none, none, none, none] [o, tabN] = some (.nx [some (.ref 0), some (.ref 2), none, none, none, none, none], o :: tabN :: os) := by
    simp [c0]
  have rg : iRng (fCons (fC (.int 9)) (fNil)) [some (.ref 0), some (.ref 2), none, none, none, none, none] (o :: tabN :: os) = some (⟨rngD 0 9 1, none⟩, o :: tabN :: os) := rng_src (N := ((9 : Nat) : Int)) rfl (rng_nat (by decide))
  have a2 : sFor (iRng (fCons (fC (.int 9)) (fNil))) (gvName 2) (laB (callN pg 24)) [some (.ref 0), some (.ref 2), none, none, none, none, none] (o :: tabN :: os) = some (.nx η', s') := by
    rw [sFor_ev, rg]
    exact run
  rw [seq_step a1, seq_step a2]
  rfl
end K21

namespace Sim
open PySem L2
/-! ### own exceptions as they stand in the program's top -/
theorem exm_of {K : Frg} {S C : Addr} {b : Bool} (h1 : PySem.W.subIn K (.ref C) (.type "BaseException") = some true) (h2 : PySem.W.isClsIn K C = true) (h3 : PySem.W.typeIn K (.ref C) = some (.type "type")) (h4 : PySem.W.subIn K (.ref S) (.ref C) = some b) :
    PySem.W.exmOne K (.ref S) (.ref C) = some b := by
  have e1 : (PySem.W.subIn K (.ref C) (.type "BaseException") == some true) = true := by rw [h1] <;> rfl
  have e2 : ((PySem.W.clsIn K C).isSome && PySem.W.typeIn K (.ref C) == some (.type "type")) = true := by
    have h2' : (PySem.W.clsIn K C).isSome = true := h2
    rw [h2', h3] <;> rfl
  show (if _ then (if _ then PySem.W.subIn K (.ref S) (.ref C) else none) else none) = some b
  rw [if_pos e1, if_pos e2]
  exact h4
theorem exm_ofB {K : Frg} {S : Addr} {T : String} {b : Bool} (h1 : PySem.W.subIn K (.type T) (.type "BaseException") = some true) (h2 : PySem.W.kitMeta T = true) (h4 : PySem.W.subIn K (.ref S) (.type T) = some b) :
    PySem.W.exmOne K (.ref S) (.type T) = some b := by
  have e1 : (PySem.W.subIn K (.type T) (.type "BaseException") == some true) = true := by rw [h1] <;> rfl
  show (if _ then (if _ then PySem.W.subIn K (.ref S) (.type T) else none) else none) = some b
  rw [if_pos e1, if_pos h2]
  exact h4
theorem exc_mk {w : World} {K : Frg} {mg : Str → Option Value} {c qual : Str} {st : Stmt} {f : Str} {fl : List Str} {C fI : Addr} {od an : Option Addr} {oc kV dc pm cdv ct : Value} {osl : Array (Option Value)}
    {nm q : Str} {N : Addr} {bs bm : List Value} {sn : List Str} {sub : List Value} {ab : Bool} {col : Option Bool} {dd : Option Addr} {k0 k1 k2 k3 k5 : Option Value}
    (gC : mg c = some (.ref C)) (xL : K.lookup C = some (excClassObj nm q C N bs bm true sn sub ab col dd k0 k1 k2 k3 k5 "ValueError.__new__")) (hbm : PySem.HandSPX.refsVE bm = true) (sa : PySem.W.findIn K (.ref C) "__setattr__" = some (some (.builtin "object.__setattr__")))
    (exC : PySem.W.subIn K (.ref C) (.type "BaseException") = some true) (tyC : PySem.W.typeIn K (.ref C) = some (.type "type")) (kC : PySem.W.keepIn K (.ref C) = true) (iC : PySem.W.findIn K (.ref C) "__init__" = some (some (.ref fI))) (tI : PySem.W.typeIn K (.ref fI) = some (.type "function"))
    (no : ∀ g ∈ f :: fl, PySem.W.findIn K (.ref C) g = some none)
    (l : K.lookup fI = some ⟨oc, od, .func (PySem.W.fnOf "__init__" qual (C8.fnArgs st) (C8.fnBody st) (C8.fnScope st) .none kV dc pm an cdv ct), osl⟩) (cI : PySem.W.codeIn K cdv qual = true)
    (S : FnScope (("self" : Str) :: f :: fl) (("self" : Str) :: f :: fl) (C8.fnScope st)) (hb : InitB (f :: fl) (C8.fnBody st)) (hl : (f :: fl).length ≤ 800) (hn : ∀ g ∈ ("self" : Str) :: f :: fl, nmFine g = true)
    (bd : ∀ (kV dc pm : Value) (an : Option Addr) (cdv ct : Value) (us : List Value), us.length = (("self" : Str) :: f :: fl).length → bindArgs (PySem.W.fnOf "__init__" qual (C8.fnArgs st) (C8.fnBody st) (C8.fnScope st) .none kV dc pm an cdv ct) ⟨us, []⟩ = pure ((("self" : Str) :: f :: fl).zip us)) :
    (f :: fl).length ≤ 800 ∧ ∃ (C fI : Addr) (fd : FuncData), mg c = some (.ref C) ∧ OexC K C ∧ PySem.W.findIn K (.ref C) "__init__" = some (some (.ref fI)) ∧ PySem.W.typeIn K (.ref fI) = some (.type "function") ∧
      (∀ (prog : Program) (base : Heap), FnOk prog w K mg base C8.CX0 1 fI fd (("self" : Str) :: f :: fl) (spI C (f :: fl))) ∧ Binds K fd (("self" : Str) :: f :: fl) [] := by
  have T : OexC K C := ⟨⟨nm, q, N, bs, bm, sn, sub, ab, col, dd, k0, k1, k2, k3, k5, xL, hbm⟩, sa, exC, tyC, kC⟩
  exact ⟨hl, C, fI, _, gC, T, iC, tI, fun prog base => init_ok ⟨⟨oc, od, .none, kV, dc, pm, an, cdv, ct, osl, rfl, l, cI⟩⟩ S T hb no hl hn, .all (bd kV dc pm an cdv ct)⟩
end Sim

namespace K21
open PySem L2 Sim
theorem s_need : FnScope d_need.N d_need.ps (defScope d_need.st) := ⟨rfl, rfl, rfl, by decide +kernel, rfl, by decide +kernel, by decide +kernel⟩
theorem s_needs : FnScope d_needs.N d_needs.ps (defScope d_needs.st) := ⟨rfl, rfl, rfl, by decide +kernel, rfl, by decide +kernel, by decide +kernel⟩
theorem s_parts_of : FnScope d_parts_of.N d_parts_of.ps (defScope d_parts_of.st) := ⟨rfl, rfl, rfl, by decide +kernel, rfl, by decide +kernel, by decide +kernel⟩
theorem s_trees_in : FnScope d_trees_in.N d_trees_in.ps (defScope d_trees_in.st) := ⟨rfl, rfl, rfl, by decide +kernel, rfl, by decide +kernel, by decide +kernel⟩
theorem s__law_feed : FnScope d__law_feed.N d__law_feed.ps (defScope d__law_feed.st) := ⟨rfl, rfl, rfl, by decide +kernel, rfl, by decide +kernel, by decide +kernel⟩
theorem s__law_draw : FnScope d__law_draw.N d__law_draw.ps (defScope d__law_draw.st) := ⟨rfl, rfl, rfl, by decide +kernel, rfl, by decide +kernel, by decide +kernel⟩
theorem s__law_plan : FnScope d__law_plan.N d__law_plan.ps (defScope d__law_plan.st) := ⟨rfl, rfl, rfl, by decide +kernel, rfl, by decide +kernel, by decide +kernel⟩
theorem s__law_whole_plan : FnScope d__law_whole_plan.N d__law_whole_plan.ps (defScope d__law_whole_plan.st) := ⟨rfl, rfl, rfl, by decide +kernel, rfl, by decide +kernel, by decide +kernel⟩
theorem s__law_spots : FnScope d__law_spots.N d__law_spots.ps (defScope d__law_spots.st) := ⟨rfl, rfl, rfl, by decide +kernel, rfl, by decide +kernel, by decide +kernel⟩
theorem s__law_needs : FnScope d__law_needs.N d__law_needs.ps (defScope d__law_needs.st) := ⟨rfl, rfl, rfl, by decide +kernel, rfl, by decide +kernel, by decide +kernel⟩
theorem s__law_wide : FnScope d__law_wide.N d__law_wide.ps (defScope d__law_wide.st) := ⟨rfl, rfl, rfl, by decide +kernel, rfl, by decide +kernel, by decide +kernel⟩
theorem s_law : FnScope d_law.N d_law.ps (defScope d_law.st) := ⟨rfl, rfl, rfl, by decide +kernel, rfl, by decide +kernel, by decide +kernel⟩
theorem bd_need {K : Frg} {fa : Addr} {fd : FuncData} (F : FunE K d_need.name d_need.name d_need.st .none fa fd) : Binds K fd d_need.ps [] := F.binds (ps := d_need.ps) fun _ _ _ _ _ _ us hl => match us, hl with | [_], _ => rfl
theorem mk_need {K : Frg} {h : Heap} {mg : Str → Option Value} (X : K.In h) (G : h.Ns mainGlobals mg) {f : Addr} {od an : Option Addr} {sl : Array (Option Value)} {oc kV dc pm cd ct : Value}
    (a : PySem.W.nsIn K mainGlobals "need" = some (some (.ref f))) (l : K.lookup f = some ⟨oc, od, .func (PySem.W.fnOf "need" "need" (defArgs d_need.st) (defBody d_need.st) (defScope d_need.st) .none kV dc pm an cd ct), sl⟩)
    (c : PySem.W.codeIn K cd "need" = true) (k : PySem.W.keepIn K (.ref f) = true) : ∃ fa fd, DefOk d_need K mg fa fd :=
  ⟨f, _, DefOk.mk0 rfl (PySem.W.mg_of X G a) (funE_mk (x := "need") (qual := "need") (st := d_need.st) l c k) (bd_need (funE_mk (x := "need") (qual := "need") (st := d_need.st) l c k)) s_need⟩
theorem bd_needs {K : Frg} {fa : Addr} {fd : FuncData} (F : FunE K d_needs.name d_needs.name d_needs.st .none fa fd) : Binds K fd d_needs.ps [] := F.binds (ps := d_needs.ps) fun _ _ _ _ _ _ us hl => match us, hl with | [_], _ => rfl
theorem mk_needs {K : Frg} {h : Heap} {mg : Str → Option Value} (X : K.In h) (G : h.Ns mainGlobals mg) {f : Addr} {od an : Option Addr} {sl : Array (Option Value)} {oc kV dc pm cd ct : Value}
    (a : PySem.W.nsIn K mainGlobals "needs" = some (some (.ref f))) (l : K.lookup f = some ⟨oc, od, .func (PySem.W.fnOf "needs" "needs" (defArgs d_needs.st) (defBody d_needs.st) (defScope d_needs.st) .none kV dc pm an cd ct), sl⟩)
    (c : PySem.W.codeIn K cd "needs" = true) (k : PySem.W.keepIn K (.ref f) = true) : ∃ fa fd, DefOk d_needs K mg fa fd :=
  ⟨f, _, DefOk.mk0 rfl (PySem.W.mg_of X G a) (funE_mk (x := "needs") (qual := "needs") (st := d_needs.st) l c k) (bd_needs (funE_mk (x := "needs") (qual := "needs") (st := d_needs.st) l c k)) s_needs⟩
theorem bd_parts_of {K : Frg} {fa : Addr} {fd : FuncData} (F : FunE K d_parts_of.name d_parts_of.name d_parts_of.st .none fa fd) : Binds K fd d_parts_of.ps [] := F.binds (ps := d_parts_of.ps) fun _ _ _ _ _ _ us hl => match us, hl with | [_], _ => rfl
theorem mk_parts_of {K : Frg} {h : Heap} {mg : Str → Option Value} (X : K.In h) (G : h.Ns mainGlobals mg) {f : Addr} {od an : Option Addr} {sl : Array (Option Value)} {oc kV dc pm cd ct : Value}
    (a : PySem.W.nsIn K mainGlobals "parts_of" = some (some (.ref f))) (l : K.lookup f = some ⟨oc, od, .func (PySem.W.fnOf "parts_of" "parts_of" (defArgs d_parts_of.st) (defBody d_parts_of.st) (defScope d_parts_of.st) .none kV dc pm an cd ct), sl⟩)
    (c : PySem.W.codeIn K cd "parts_of" = true) (k : PySem.W.keepIn K (.ref f) = true) : ∃ fa fd, DefOk d_parts_of K mg fa fd :=
  ⟨f, _, DefOk.mk0 rfl (PySem.W.mg_of X G a) (funE_mk (x := "parts_of") (qual := "parts_of") (st := d_parts_of.st) l c k) (bd_parts_of (funE_mk (x := "parts_of") (qual := "parts_of") (st := d_parts_of.st) l c k)) s_parts_of⟩
theorem bd_trees_in {K : Frg} {fa T : Addr} {fd : FuncData} {ob : Obj} {m : Nat} {aD0 : Addr} {oD0 : Obj} {nD0 : Nat} (F : FunE K d_trees_in.name d_trees_in.name d_trees_in.st (.ref T) fa fd) (lT : K.lookup T = some ob) (oT : ob.data = .seq #[.ref aD0] m) (lD0 : K.lookup aD0 = some oD0) (cD0 : oD0.cls = .type "tuple") (dD0 : oD0.dict = none) (sD0 : oD0.data = .seq #[] nD0) : ∀ j, j ≤ d_trees_in.dfl.length → ∃ us vs, Vals vs us ∧ Binds K fd d_trees_in.ps us ∧ ∀ ρ H, DRs K ρ H (d_trees_in.dfl.drop j) vs := by
  intro j hj
  have hj : j ≤ 1 := hj
  have hj : j = 0 ∨ j = 1 := by omega
  rcases hj with rfl | rfl
  · obtain ⟨ds, h1, h2⟩ := F.bindsD (ps := d_trees_in.ps) (its := [.ref aD0]) (dvs := [.ref aD0]) lT oT (.cons rfl .nil) 1 0 rfl (fun kV doc pm an cdv ct us zs h1 h2 => match us, zs, h1, h2 with | [_], [_], _, _ => ⟨_, rfl, rfl⟩)
    exact ⟨ds, [.ref aD0], h1, h2, fun ρ H => .cons (.ktup (.inl ⟨oD0, #[], nD0, lD0, cD0, dD0, sD0, Nat.zero_le _, .nil⟩) .nil) (.nil)⟩
  · obtain ⟨ds, h1, h2⟩ := F.bindsD (ps := d_trees_in.ps) (its := [.ref aD0]) (dvs := [.ref aD0]) lT oT (.cons rfl .nil) 2 1 rfl (fun kV doc pm an cdv ct us zs h1 h2 => match us, zs, h1, h2 with | [_, _], [_], _, _ => ⟨_, rfl, rfl⟩)
    exact ⟨ds, [], h1, h2, fun ρ H => .nil⟩
theorem mk_trees_in {K : Frg} {h : Heap} {mg : Str → Option Value} (X : K.In h) (G : h.Ns mainGlobals mg) {f : Addr} {od an : Option Addr} {sl : Array (Option Value)} {oc kV dc pm cd ct : Value} {T : Addr} {ob : Obj} {mT : Nat} {aD0 : Addr} {oD0 : Obj} {nD0 : Nat}
    (a : PySem.W.nsIn K mainGlobals "trees_in" = some (some (.ref f))) (l : K.lookup f = some ⟨oc, od, .func (PySem.W.fnOf "trees_in" "trees_in" (defArgs d_trees_in.st) (defBody d_trees_in.st) (defScope d_trees_in.st) (.ref T) kV dc pm an cd ct), sl⟩)
    (c : PySem.W.codeIn K cd "trees_in" = true) (k : PySem.W.keepIn K (.ref f) = true) (lT : K.lookup T = some ob) (oT : ob.data = .seq #[.ref aD0] mT) (lD0 : K.lookup aD0 = some oD0) (cD0 : oD0.cls = .type "tuple") (dD0 : oD0.dict = none) (sD0 : oD0.data = .seq #[] nD0) : ∃ fa fd, DefOk d_trees_in K mg fa fd :=
  ⟨f, _, { at' := PySem.W.mg_of X G a, fn := ⟨.ref T, (fun q => nomatch q), (funE_mk (x := "trees_in") (qual := "trees_in") (st := d_trees_in.st) l c k)⟩, dl := by decide, bd := bd_trees_in (funE_mk (x := "trees_in") (qual := "trees_in") (st := d_trees_in.st) l c k) lT oT lD0 cD0 dD0 sD0, sc := s_trees_in }⟩
theorem bd__law_feed {K : Frg} {fa : Addr} {fd : FuncData} (F : FunE K d__law_feed.name d__law_feed.name d__law_feed.st .none fa fd) : Binds K fd d__law_feed.ps [] := F.binds (ps := d__law_feed.ps) fun _ _ _ _ _ _ us hl => match us, hl with | [_], _ => rfl
theorem mk__law_feed {K : Frg} {h : Heap} {mg : Str → Option Value} (X : K.In h) (G : h.Ns mainGlobals mg) {f : Addr} {od an : Option Addr} {sl : Array (Option Value)} {oc kV dc pm cd ct : Value}
    (a : PySem.W.nsIn K mainGlobals "_law_feed" = some (some (.ref f))) (l : K.lookup f = some ⟨oc, od, .func (PySem.W.fnOf "_law_feed" "_law_feed" (defArgs d__law_feed.st) (defBody d__law_feed.st) (defScope d__law_feed.st) .none kV dc pm an cd ct), sl⟩)
    (c : PySem.W.codeIn K cd "_law_feed" = true) (k : PySem.W.keepIn K (.ref f) = true) : ∃ fa fd, DefOk d__law_feed K mg fa fd :=
  ⟨f, _, DefOk.mk0 rfl (PySem.W.mg_of X G a) (funE_mk (x := "_law_feed") (qual := "_law_feed") (st := d__law_feed.st) l c k) (bd__law_feed (funE_mk (x := "_law_feed") (qual := "_law_feed") (st := d__law_feed.st) l c k)) s__law_feed⟩
theorem bd__law_draw {K : Frg} {fa : Addr} {fd : FuncData} (F : FunE K d__law_draw.name d__law_draw.name d__law_draw.st .none fa fd) : Binds K fd d__law_draw.ps [] := F.binds (ps := d__law_draw.ps) fun _ _ _ _ _ _ us hl => match us, hl with | [_, _], _ => rfl
theorem mk__law_draw {K : Frg} {h : Heap} {mg : Str → Option Value} (X : K.In h) (G : h.Ns mainGlobals mg) {f : Addr} {od an : Option Addr} {sl : Array (Option Value)} {oc kV dc pm cd ct : Value}
    (a : PySem.W.nsIn K mainGlobals "_law_draw" = some (some (.ref f))) (l : K.lookup f = some ⟨oc, od, .func (PySem.W.fnOf "_law_draw" "_law_draw" (defArgs d__law_draw.st) (defBody d__law_draw.st) (defScope d__law_draw.st) .none kV dc pm an cd ct), sl⟩)
    (c : PySem.W.codeIn K cd "_law_draw" = true) (k : PySem.W.keepIn K (.ref f) = true) : ∃ fa fd, DefOk d__law_draw K mg fa fd :=
  ⟨f, _, DefOk.mk0 rfl (PySem.W.mg_of X G a) (funE_mk (x := "_law_draw") (qual := "_law_draw") (st := d__law_draw.st) l c k) (bd__law_draw (funE_mk (x := "_law_draw") (qual := "_law_draw") (st := d__law_draw.st) l c k)) s__law_draw⟩
theorem bd__law_plan {K : Frg} {fa : Addr} {fd : FuncData} (F : FunE K d__law_plan.name d__law_plan.name d__law_plan.st .none fa fd) : Binds K fd d__law_plan.ps [] := F.binds (ps := d__law_plan.ps) fun _ _ _ _ _ _ us hl => match us, hl with | [_, _, _], _ => rfl
theorem mk__law_plan {K : Frg} {h : Heap} {mg : Str → Option Value} (X : K.In h) (G : h.Ns mainGlobals mg) {f : Addr} {od an : Option Addr} {sl : Array (Option Value)} {oc kV dc pm cd ct : Value}
    (a : PySem.W.nsIn K mainGlobals "_law_plan" = some (some (.ref f))) (l : K.lookup f = some ⟨oc, od, .func (PySem.W.fnOf "_law_plan" "_law_plan" (defArgs d__law_plan.st) (defBody d__law_plan.st) (defScope d__law_plan.st) .none kV dc pm an cd ct), sl⟩)
    (c : PySem.W.codeIn K cd "_law_plan" = true) (k : PySem.W.keepIn K (.ref f) = true) : ∃ fa fd, DefOk d__law_plan K mg fa fd :=
  ⟨f, _, DefOk.mk0 rfl (PySem.W.mg_of X G a) (funE_mk (x := "_law_plan") (qual := "_law_plan") (st := d__law_plan.st) l c k) (bd__law_plan (funE_mk (x := "_law_plan") (qual := "_law_plan") (st := d__law_plan.st) l c k)) s__law_plan⟩
theorem bd__law_whole_plan {K : Frg} {fa : Addr} {fd : FuncData} (F : FunE K d__law_whole_plan.name d__law_whole_plan.name d__law_whole_plan.st .none fa fd) : Binds K fd d__law_whole_plan.ps [] := F.binds (ps := d__law_whole_plan.ps) fun _ _ _ _ _ _ us hl => match us, hl with | [_], _ => rfl
theorem mk__law_whole_plan {K : Frg} {h : Heap} {mg : Str → Option Value} (X : K.In h) (G : h.Ns mainGlobals mg) {f : Addr} {od an : Option Addr} {sl : Array (Option Value)} {oc kV dc pm cd ct : Value}
    (a : PySem.W.nsIn K mainGlobals "_law_whole_plan" = some (some (.ref f))) (l : K.lookup f = some ⟨oc, od, .func (PySem.W.fnOf "_law_whole_plan" "_law_whole_plan" (defArgs d__law_whole_plan.st) (defBody d__law_whole_plan.st) (defScope d__law_whole_plan.st) .none kV dc pm an cd ct), sl⟩)
    (c : PySem.W.codeIn K cd "_law_whole_plan" = true) (k : PySem.W.keepIn K (.ref f) = true) : ∃ fa fd, DefOk d__law_whole_plan K mg fa fd :=
  ⟨f, _, DefOk.mk0 rfl (PySem.W.mg_of X G a) (funE_mk (x := "_law_whole_plan") (qual := "_law_whole_plan") (st := d__law_whole_plan.st) l c k) (bd__law_whole_plan (funE_mk (x := "_law_whole_plan") (qual := "_law_whole_plan") (st := d__law_whole_plan.st) l c k)) s__law_whole_plan⟩
theorem bd__law_spots {K : Frg} {fa : Addr} {fd : FuncData} (F : FunE K d__law_spots.name d__law_spots.name d__law_spots.st .none fa fd) : Binds K fd d__law_spots.ps [] := F.binds (ps := d__law_spots.ps) fun _ _ _ _ _ _ us hl => match us, hl with | [_], _ => rfl
theorem mk__law_spots {K : Frg} {h : Heap} {mg : Str → Option Value} (X : K.In h) (G : h.Ns mainGlobals mg) {f : Addr} {od an : Option Addr} {sl : Array (Option Value)} {oc kV dc pm cd ct : Value}
    (a : PySem.W.nsIn K mainGlobals "_law_spots" = some (some (.ref f))) (l : K.lookup f = some ⟨oc, od, .func (PySem.W.fnOf "_law_spots" "_law_spots" (defArgs d__law_spots.st) (defBody d__law_spots.st) (defScope d__law_spots.st) .none kV dc pm an cd ct), sl⟩)
    (c : PySem.W.codeIn K cd "_law_spots" = true) (k : PySem.W.keepIn K (.ref f) = true) : ∃ fa fd, DefOk d__law_spots K mg fa fd :=
  ⟨f, _, DefOk.mk0 rfl (PySem.W.mg_of X G a) (funE_mk (x := "_law_spots") (qual := "_law_spots") (st := d__law_spots.st) l c k) (bd__law_spots (funE_mk (x := "_law_spots") (qual := "_law_spots") (st := d__law_spots.st) l c k)) s__law_spots⟩
theorem bd__law_needs {K : Frg} {fa : Addr} {fd : FuncData} (F : FunE K d__law_needs.name d__law_needs.name d__law_needs.st .none fa fd) : Binds K fd d__law_needs.ps [] := F.binds (ps := d__law_needs.ps) fun _ _ _ _ _ _ us hl => match us, hl with | [_], _ => rfl
theorem mk__law_needs {K : Frg} {h : Heap} {mg : Str → Option Value} (X : K.In h) (G : h.Ns mainGlobals mg) {f : Addr} {od an : Option Addr} {sl : Array (Option Value)} {oc kV dc pm cd ct : Value}
    (a : PySem.W.nsIn K mainGlobals "_law_needs" = some (some (.ref f))) (l : K.lookup f = some ⟨oc, od, .func (PySem.W.fnOf "_law_needs" "_law_needs" (defArgs d__law_needs.st) (defBody d__law_needs.st) (defScope d__law_needs.st) .none kV dc pm an cd ct), sl⟩)
    (c : PySem.W.codeIn K cd "_law_needs" = true) (k : PySem.W.keepIn K (.ref f) = true) : ∃ fa fd, DefOk d__law_needs K mg fa fd :=
  ⟨f, _, DefOk.mk0 rfl (PySem.W.mg_of X G a) (funE_mk (x := "_law_needs") (qual := "_law_needs") (st := d__law_needs.st) l c k) (bd__law_needs (funE_mk (x := "_law_needs") (qual := "_law_needs") (st := d__law_needs.st) l c k)) s__law_needs⟩
theorem bd__law_wide {K : Frg} {fa : Addr} {fd : FuncData} (F : FunE K d__law_wide.name d__law_wide.name d__law_wide.st .none fa fd) : Binds K fd d__law_wide.ps [] := F.binds (ps := d__law_wide.ps) fun _ _ _ _ _ _ us hl => match us, hl with | [_], _ => rfl
theorem mk__law_wide {K : Frg} {h : Heap} {mg : Str → Option Value} (X : K.In h) (G : h.Ns mainGlobals mg) {f : Addr} {od an : Option Addr} {sl : Array (Option Value)} {oc kV dc pm cd ct : Value}
    (a : PySem.W.nsIn K mainGlobals "_law_wide" = some (some (.ref f))) (l : K.lookup f = some ⟨oc, od, .func (PySem.W.fnOf "_law_wide" "_law_wide" (defArgs d__law_wide.st) (defBody d__law_wide.st) (defScope d__law_wide.st) .none kV dc pm an cd ct), sl⟩)
    (c : PySem.W.codeIn K cd "_law_wide" = true) (k : PySem.W.keepIn K (.ref f) = true) : ∃ fa fd, DefOk d__law_wide K mg fa fd :=
  ⟨f, _, DefOk.mk0 rfl (PySem.W.mg_of X G a) (funE_mk (x := "_law_wide") (qual := "_law_wide") (st := d__law_wide.st) l c k) (bd__law_wide (funE_mk (x := "_law_wide") (qual := "_law_wide") (st := d__law_wide.st) l c k)) s__law_wide⟩
theorem bd_law {K : Frg} {fa : Addr} {fd : FuncData} (F : FunE K d_law.name d_law.name d_law.st .none fa fd) : Binds K fd d_law.ps [] := F.binds (ps := d_law.ps) fun _ _ _ _ _ _ us hl => match us, hl with | [_], _ => rfl
theorem mk_law {K : Frg} {h : Heap} {mg : Str → Option Value} (X : K.In h) (G : h.Ns mainGlobals mg) {f : Addr} {od an : Option Addr} {sl : Array (Option Value)} {oc kV dc pm cd ct : Value}
    (a : PySem.W.nsIn K mainGlobals "law" = some (some (.ref f))) (l : K.lookup f = some ⟨oc, od, .func (PySem.W.fnOf "law" "law" (defArgs d_law.st) (defBody d_law.st) (defScope d_law.st) .none kV dc pm an cd ct), sl⟩)
    (c : PySem.W.codeIn K cd "law" = true) (k : PySem.W.keepIn K (.ref f) = true) : ∃ fa fd, DefOk d_law K mg fa fd :=
  ⟨f, _, DefOk.mk0 rfl (PySem.W.mg_of X G a) (funE_mk (x := "law") (qual := "law") (st := d_law.st) l c k) (bd_law (funE_mk (x := "law") (qual := "law") (st := d_law.st) l c k)) s_law⟩
theorem pg_mk {K : Frg} {w : World} {h : Heap} {mg : Str → Option Value} (X : K.In h) (G : h.Ns mainGlobals mg)
    (m0 : ∃ fa fd, DefOk d_need K mg fa fd)
    (m1 : ∃ fa fd, DefOk d_needs K mg fa fd)
    (m2 : ∃ fa fd, DefOk d_parts_of K mg fa fd)
    (m3 : ∃ fa fd, DefOk d_trees_in K mg fa fd)
    (m4 : ∃ fa fd, DefOk d__law_feed K mg fa fd)
    (m5 : ∃ fa fd, DefOk d__law_draw K mg fa fd)
    (m6 : ∃ fa fd, DefOk d__law_plan K mg fa fd)
    (m7 : ∃ fa fd, DefOk d__law_whole_plan K mg fa fd)
    (m8 : ∃ fa fd, DefOk d__law_spots K mg fa fd)
    (m9 : ∃ fa fd, DefOk d__law_needs K mg fa fd)
    (m10 : ∃ fa fd, DefOk d__law_wide K mg fa fd)
    (m11 : ∃ fa fd, DefOk d_law K mg fa fd)
    (z0 : PySem.W.nsIn K mainGlobals "enumerate" = some none)
    (z1 : PySem.W.nsIn K mainGlobals "len" = some none)
    (z2 : PySem.W.nsIn K mainGlobals "list" = some none)
    (z3 : PySem.W.nsIn K mainGlobals "max" = some none)
    (z4 : PySem.W.nsIn K mainGlobals "range" = some none)
    (z5 : PySem.W.nsIn K mainGlobals "repr" = some none)
    (z6 : PySem.W.nsIn K mainGlobals "sorted" = some none)
    (z7 : PySem.W.nsIn K mainGlobals "sum" = some none)
    (z8 : PySem.W.nsIn K mainGlobals "tuple" = some none)
    {tf0 tc0 ta0 : Addr} {to0 tO0 : Value} {tp0 tP0 : Option Addr} {td0 : FuncData} {ts0 tS0 : Array (Option Value)} {tU0 : Array Value}
    (tn_0 : PySem.W.nsIn K mainGlobals "_law_needs" = some (some (.ref tf0))) (tl_0 : K.lookup tf0 = some ⟨to0, tp0, .func td0, ts0⟩) (te_0 : td0.code = .ref tc0) (tz_0 : K.lookup tc0 = some ⟨tO0, tP0, .fields tU0, tS0⟩) (tv_0 : tU0[11]? = some (.ref ta0))
    : PgOk pg K w mg := by
  refine PgOk.mk (fun d hd => ?_) (fun x hx => ?_) (fun hm => ?_) (fun d hd => ?_) (fun x d hd => ?_) (fun x tb hd => ?_) ?_ (tq := fun x q h => ?_)
  · simp only [pg, List.mem_cons, List.not_mem_nil, or_false] at hd
    rcases hd with rfl | rfl | rfl | rfl | rfl | rfl | rfl | rfl | rfl | rfl | rfl | rfl
    · exact m0
    · exact m1
    · exact m2
    · exact m3
    · exact m4
    · exact m5
    · exact m6
    · exact m7
    · exact m8
    · exact m9
    · exact m10
    · exact m11
  · simp only [pg, List.mem_cons, List.not_mem_nil, or_false] at hx
    rcases hx with rfl | rfl | rfl | rfl | rfl | rfl | rfl | rfl | rfl
    · exact PySem.W.mg_none_of X G z0
    · exact PySem.W.mg_none_of X G z1
    · exact PySem.W.mg_none_of X G z2
    · exact PySem.W.mg_none_of X G z3
    · exact PySem.W.mg_none_of X G z4
    · exact PySem.W.mg_none_of X G z5
    · exact PySem.W.mg_none_of X G z6
    · exact PySem.W.mg_none_of X G z7
    · exact PySem.W.mg_none_of X G z8
  · exact nomatch hm
  · simp only [pg, List.mem_cons, List.not_mem_nil, or_false] at hd
    rcases hd with rfl | rfl | rfl | rfl | rfl | rfl | rfl | rfl | rfl | rfl | rfl | rfl <;> decide
  · exact nomatch hd
  · exact nomatch hd
  · decide +kernel
  · simp only [pg, List.mem_cons, List.not_mem_nil, or_false] at h
    rcases h with h
    · obtain ⟨rfl, rfl⟩ := Prod.mk.inj h
      refine ⟨by decide +kernel, tf0, tc0, ta0, _, td0, PySem.W.mg_of X G tn_0, tl_0, rfl, te_0, tab_mk tn_0 tl_0 te_0 tz_0 tv_0, fun z hz ht => ?_⟩
      simp only [pg, List.mem_cons, List.not_mem_nil, or_false] at hz
      rcases hz with rfl
      · rfl
theorem law_binds {K : Frg} {mg : Str → Option Value} {fa : Addr} {fd : FuncData} (D : DefOk d_law K mg fa fd) (s : Shared) (u : Value) : BindsTo s fd ⟨[u], []⟩ [("_law_script", u)] := by
  obtain ⟨oc, od, kV, dc, pm, an, cd, ct, sl, e, _, _⟩ := (D.law rfl).ex
  rw [e]
  exact .of_eq rfl
end K21
open PySem PySem.W PyProof.Rows
set_option maxRecDepth 100000 in
set_option maxHeartbeats 0 in
theorem PySem.Challenge.cw_twicecalls_k21_needs_holds : PySem.Challenge.rw_twicecalls_k21_needs.Holds := by
  w_on; o_law; k_head; (case hw => w_witness2)
  k_fill
  refine Sim.finishT (P := K21.pg) (n := 25) K21.law_ok (dl := K21.d_law) rfl rfl (l := PySem.Challenge.rw_twicecalls_k21_needs) rfl rfl ⟨rfl, by decide, by decide⟩ (fun w h Y => PySem.W.km_in_of Y) rfl ?qR ?qN ?qT ?F ?B
  case qR =>
    intro p hp
    simp only [K21.pg, List.mem_cons, List.not_mem_nil, or_false] at hp
    rcases hp with rfl
    all_goals exact Option.isSome_iff_exists.mp (by kernel_rfl)
  case qN =>
    intro w
    kernel_rfl
  case qT =>
    intro w p hp
    simp only [K21.pg, List.mem_cons, List.not_mem_nil, or_false] at hp
    rcases hp with rfl
    all_goals exact Sim.pair_some (by kernel_rfl)
  case F =>
    intro w mg h KX G
    refine' K21.pg_mk KX G (K21.mk_need KX G ?a0 ?l0 ?c0 ?k0) (K21.mk_needs KX G ?a1 ?l1 ?c1 ?k1) (K21.mk_parts_of KX G ?a2 ?l2 ?c2 ?k2) (K21.mk_trees_in KX G ?a3 ?l3 ?c3 ?k3 ?t3 ?o3 ?lD0_3 ?cD0_3 ?dD0_3 ?sD0_3) (K21.mk__law_feed KX G ?a4 ?l4 ?c4 ?k4) (K21.mk__law_draw KX G ?a5 ?l5 ?c5 ?k5) (K21.mk__law_plan KX G ?a6 ?l6 ?c6 ?k6) (K21.mk__law_whole_plan KX G ?a7 ?l7 ?c7 ?k7) (K21.mk__law_spots KX G ?a8 ?l8 ?c8 ?k8) (K21.mk__law_needs KX G ?a9 ?l9 ?c9 ?k9) (K21.mk__law_wide KX G ?a10 ?l10 ?c10 ?k10) (K21.mk_law KX G ?a11 ?l11 ?c11 ?k11) ?z0 ?z1 ?z2 ?z3 ?z4 ?z5 ?z6 ?z7 ?z8 ?tn_0 ?tl_0 ?te_0 ?tz_0 ?tv_0
    (case a0 => k_is); (case l0 => k_is); (case c0 => k_is); (case k0 => k_is)
    (case a1 => k_is); (case l1 => k_is); (case c1 => k_is); (case k1 => k_is)
    (case a2 => k_is); (case l2 => k_is); (case c2 => k_is); (case k2 => k_is)
    (case a3 => k_is); (case l3 => k_is); (case c3 => k_is); (case k3 => k_is); (case t3 => k_is); (case o3 => rfl); (case lD0_3 => k_is); (case cD0_3 => rfl); (case dD0_3 => rfl); (case sD0_3 => rfl)
    (case a4 => k_is); (case l4 => k_is); (case c4 => k_is); (case k4 => k_is)
    (case a5 => k_is); (case l5 => k_is); (case c5 => k_is); (case k5 => k_is)
    (case a6 => k_is); (case l6 => k_is); (case c6 => k_is); (case k6 => k_is)
    (case a7 => k_is); (case l7 => k_is); (case c7 => k_is); (case k7 => k_is)
    (case a8 => k_is); (case l8 => k_is); (case c8 => k_is); (case k8 => k_is)
    (case a9 => k_is); (case l9 => k_is); (case c9 => k_is); (case k9 => k_is)
    (case a10 => k_is); (case l10 => k_is); (case c10 => k_is); (case k10 => k_is)
    (case a11 => k_is); (case l11 => k_is); (case c11 => k_is); (case k11 => k_is)
    (case z0 => k_is)
    (case z1 => k_is)
    (case z2 => k_is)
    (case z3 => k_is)
    (case z4 => k_is)
    (case z5 => k_is)
    (case z6 => k_is)
    (case z7 => k_is)
    (case z8 => k_is)
    (case tn_0 => first | k_is | rfl)
    (case tl_0 => first | k_is | rfl)
    (case te_0 => rfl)
    (case tz_0 => first | k_is | rfl)
    (case tv_0 => rfl)
  case B =>
    intro w mg fa fd D s u
    exact K21.law_binds D s u
