import PyProof.Rows.All
import Wide.All
import OpenK.AllK
import Wide.FinOn
import HandS.ForMost
import HandS.ForExc
import HandS.Gcd
import HandS.Wide
import HandS.IsInst
import HandS.Defaults
import HandS.Text
import KE.KMathG
import KE.KMathGC
import HandS.Style
import HandS.HeadEnd
import HandS.Iter
import HandS.HeadHook1
import HandS.HeadHook2
import HandS.Head0
import HandS.Head1
import HandS.Head2
import HandS.Head3
import HandS.StrMore
import HandS.Star
import HandS.NoneIn
import PyProof.StrBlock2
import KE.GoesEnum
import HandS.List
import HandS.Strs
import HandS.DictComp
import HandS.Dict
import HandS.TupAny
import HandS.Zip
import HandS.Deep
import HandS.TupMul
import Flt.RightSqrt
import PySem.Challenge.RW_latestshake_k07_whole_heard_floors
set_option Elab.async false
set_option linter.all false
set_option maxRecDepth 100000
namespace Zq
open PySem PySem.Spec PyProof.Rows L2

/-! data, without the heap: tuples are values, lists stand at addresses -/
inductive D where
  | non | bl (b : Bool) | int (i : Int) | str (x : Str) | ty (n : String) | tup (xs : List D) | ro (xs : List D) | lst (a : Addr) | dic (ks : List Str) (xs : List D) | tpx (xs : List D)

abbrev Env := List (Option D)
/-- the lists that may be written -/
abbrev Mem := Addr → Option (List D)
def Mem.put (M : Mem) (a : Addr) (ds : List D) : Mem := fun b => if b = a then some ds else M b
theorem Mem.put_same {M : Mem} {a : Addr} {ds : List D} : M.put a ds a = some ds := by unfold Mem.put; rw [if_pos rfl]
theorem Mem.put_ne {M : Mem} {a b : Addr} {ds : List D} (h : b ≠ a) : M.put a ds b = M b := by unfold Mem.put; rw [if_neg h]

/-- a list that nobody writes -/
def RoL (K : PySem.W.Frag) (H : Hp) (a : Addr) (xs : List V) : Prop :=
  (∃ o, H a = some (.frz o (.lst xs))) ∨
    ∃ (o : Obj) (its : Array Value) (n : Nat), K.lookup a = some o ∧ o.cls = .type "list" ∧ o.dict = none ∧ o.data = .seq its n ∧ its.size ≤ sizeLine ∧ Vals xs its.toList
theorem RoL.sq {K : PySem.W.Frag} {H : Hp} {a : Addr} {xs : List V} (h : RoL K H a xs) : SqL K H a xs := by
  rcases h with h | h
  · exact .inl (.inr h)
  · exact .inr h
mutual
def Rp (K : PySem.W.Frag) (H : Hp) : D → V → Prop
  | .non, v => v = .non
  | .bl b, v => v = .bl b
  | .int i, v => v = .int i
  | .str x, v => v = .str x
  | .ty n, v => v = .ty n
  | .lst a, v => v = .ref a
  | .tup ds, v => ∃ a vs, v = .ref a ∧ SqT K H a vs ∧ RpL K H ds vs
  | .ro ds, v => ∃ a vs, v = .ref a ∧ RoL K H a vs ∧ RpL K H ds vs
  | .dic ks ds, v => ∃ a vs, v = .ref a ∧ H a = some (.dK ((ks.zip vs).map fun p => (.inr p.1, p.2))) ∧ ks.length = vs.length ∧ RpL K H ds vs
  | .tpx ds, v => ∃ a vs o, v = .ref a ∧ H a = some (.frz o (.tup vs)) ∧ (o.cls = .type "tuple" ∧ o.dict = none) ∧ RpL K H ds vs
def RpL (K : PySem.W.Frag) (H : Hp) : List D → List V → Prop
  | [], vs => vs = []
  | d :: ds, vs => ∃ v vs', vs = v :: vs' ∧ Rp K H d v ∧ RpL K H ds vs'
end

structure Ext (K : PySem.W.Frag) (H H' : Hp) : Prop where
  tu : ∀ a vs, SqT K H a vs → SqT K H' a vs
  ro : ∀ a vs, RoL K H a vs → RoL K H' a vs
  di : ∀ a kvs, H a = some (.dK kvs) → H' a = some (.dK kvs)
  fz : ∀ a o u, H a = some (.frz o u) → H' a = some (.frz o u)
theorem Ext.refl {K : PySem.W.Frag} {H : Hp} : Ext K H H := ⟨fun _ _ h => h, fun _ _ h => h, fun _ _ h => h, fun _ _ _ h => h⟩
theorem Ext.trans {K : PySem.W.Frag} {H H1 H2 : Hp} (a : Ext K H H1) (b : Ext K H1 H2) : Ext K H H2 := ⟨fun c vs h => b.tu c vs (a.tu c vs h), fun c vs h => b.ro c vs (a.ro c vs h), fun c vs h => b.di c vs (a.di c vs h), fun c o u h => b.fz c o u (a.fz c o u h)⟩
/-- a list (or what is new) is written -/
theorem Ext.upd {K : PySem.W.Frag} {H : Hp} {p : Addr} {o : HO} (h : H p = none ∨ ∃ vs, H p = some (.lst vs)) : Ext K H (L2.upd H p o) := by
  have k : ∀ a u, H a = some u → (∀ vs, u ≠ .lst vs) → L2.upd H p o a = some u := fun a u q n => by
    rw [upd_ne]
    · exact q
    · rintro rfl
      rcases h with h | ⟨vs, h⟩
      · rw [h] at q; cases q
      · rw [h] at q; cases q; exact n vs rfl
  refine ⟨fun a vs q => ?_, fun a vs q => ?_, fun a kvs q => k _ _ q (fun _ e => nomatch e), fun a o u q => k _ _ q (fun _ e => nomatch e)⟩
  · rcases q with (q | ⟨u, q⟩) | q
    · exact .inl (.inl (k _ _ q fun _ e => nomatch e))
    · exact .inl (.inr ⟨u, k _ _ q fun _ e => nomatch e⟩)
    · exact .inr q
  · rcases q with ⟨u, q⟩ | q
    · exact .inl ⟨u, k _ _ q fun _ e => nomatch e⟩
    · exact .inr q

mutual
theorem Rp.ext {K : PySem.W.Frag} {H H' : Hp} (e : Ext K H H') : ∀ (d : D) {v : V}, Rp K H d v → Rp K H' d v
  | .non, _, h => h
  | .bl _, _, h => h
  | .int _, _, h => h
  | .str _, _, h => h
  | .ty _, _, h => h
  | .lst _, _, h => h
  | .tup ds, v, h => by
    unfold Rp at h ⊢
    obtain ⟨a, vs, e1, e2, e3⟩ := h
    exact ⟨a, vs, e1, e.tu a vs e2, RpL.ext e ds e3⟩
  | .ro ds, v, h => by
    unfold Rp at h ⊢
    obtain ⟨a, vs, e1, e2, e3⟩ := h
    exact ⟨a, vs, e1, e.ro a vs e2, RpL.ext e ds e3⟩
  | .dic ks ds, v, h => by
    unfold Rp at h ⊢
    obtain ⟨a, vs, e1, e2, e4, e3⟩ := h
    exact ⟨a, vs, e1, e.di a _ e2, e4, RpL.ext e ds e3⟩
  | .tpx ds, v, h => by
    unfold Rp at h ⊢
    obtain ⟨a, vs, o, e1, e2, e4, e3⟩ := h
    exact ⟨a, vs, o, e1, e.fz a _ _ e2, e4, RpL.ext e ds e3⟩
theorem RpL.ext {K : PySem.W.Frag} {H H' : Hp} (e : Ext K H H') : ∀ (ds : List D) {vs : List V}, RpL K H ds vs → RpL K H' ds vs
  | [], _, h => h
  | d :: ds, vs, h => by
    unfold RpL at h ⊢
    obtain ⟨v, vs', e1, e2, e3⟩ := h
    exact ⟨v, vs', e1, Rp.ext e d e2, RpL.ext e ds e3⟩
end
theorem RpL.length {K : PySem.W.Frag} {H : Hp} : ∀ {ds : List D} {vs : List V}, RpL K H ds vs → ds.length = vs.length
  | [], _, h => by
    unfold RpL at h
    rw [h]
    rfl
  | d :: ds, vs, h => by
    unfold RpL at h
    obtain ⟨v, vs', rfl, _, h⟩ := h
    simp [RpL.length h]
theorem RpL.get {K : PySem.W.Frag} {H : Hp} : ∀ {ds : List D} {vs : List V} {i : Nat} {d : D}, RpL K H ds vs → ds[i]? = some d → ∃ v, vs[i]? = some v ∧ Rp K H d v
  | [], _, _, _, _, e => by simp at e
  | d :: ds, vs, 0, x, h, e => by
    unfold RpL at h
    obtain ⟨v, vs', rfl, r, h⟩ := h
    simp at e
    subst e
    exact ⟨v, rfl, r⟩
  | d :: ds, vs, i + 1, x, h, e => by
    unfold RpL at h
    obtain ⟨v, vs', rfl, r, h⟩ := h
    obtain ⟨u, e1, e2⟩ := RpL.get (i := i) h (by simpa using e)
    exact ⟨u, by simpa using e1, e2⟩
theorem RpL.set {K : PySem.W.Frag} {H : Hp} {x : D} {u : V} (r : Rp K H x u) : ∀ {ds : List D} {vs : List V} (i : Nat), RpL K H ds vs → RpL K H (ds.set i x) (vs.set i u)
  | [], _, _, h => by
    unfold RpL at h
    subst h
    exact rfl
  | d :: ds, vs, 0, h => by
    unfold RpL at h
    obtain ⟨v, vs', rfl, _, h⟩ := h
    show RpL K H (x :: ds) (u :: vs')
    unfold RpL
    exact ⟨u, vs', rfl, r, h⟩
  | d :: ds, vs, i + 1, h => by
    unfold RpL at h
    obtain ⟨v, vs', rfl, q, h⟩ := h
    show RpL K H (d :: ds.set i x) (v :: vs'.set i u)
    unfold RpL
    exact ⟨v, _, rfl, q, RpL.set r i h⟩
theorem RpL.append {K : PySem.W.Frag} {H : Hp} : ∀ {ds es : List D} {vs us : List V}, RpL K H ds vs → RpL K H es us → RpL K H (ds ++ es) (vs ++ us)
  | [], _, _, _, h, h' => by
    unfold RpL at h
    subst h
    exact h'
  | d :: ds, es, vs, us, h, h' => by
    unfold RpL at h
    obtain ⟨v, vs', rfl, q, h⟩ := h
    show RpL K H (d :: (ds ++ es)) (v :: (vs' ++ us))
    unfold RpL
    exact ⟨v, _, rfl, q, RpL.append h h'⟩
theorem RpL.drop {K : PySem.W.Frag} {H : Hp} : ∀ {ds : List D} {vs : List V} (n : Nat), RpL K H ds vs → RpL K H (ds.drop n) (vs.drop n)
  | _, _, 0, h => h
  | [], _, n + 1, h => by
    unfold RpL at h
    subst h
    exact rfl
  | d :: ds, _, n + 1, h => by
    unfold RpL at h
    obtain ⟨v, vs', rfl, q, h⟩ := h
    exact RpL.drop n h
theorem RpL.take {K : PySem.W.Frag} {H : Hp} : ∀ {ds : List D} {vs : List V} (n : Nat), RpL K H ds vs → RpL K H (ds.take n) (vs.take n)
  | _, _, 0, h => rfl
  | [], _, n + 1, h => by
    unfold RpL at h
    subst h
    exact rfl
  | d :: ds, _, n + 1, h => by
    unfold RpL at h
    obtain ⟨v, vs', rfl, q, h⟩ := h
    show RpL K H (d :: ds.take n) (v :: vs'.take n)
    unfold RpL
    exact ⟨v, _, rfl, q, RpL.take n h⟩

/-- the lists -/
def MR (K : PySem.W.Frag) (H : Hp) (M : Mem) : Prop := ∀ a ds, M a = some ds → ∃ vs, RpL K H ds vs ∧ H a = some (.lst vs)
theorem MR.free {K : PySem.W.Frag} {H : Hp} {M : Mem} (m : MR K H M) {p : Addr} (h : H p = none) : M p = none := by
  cases e : M p with
  | none => rfl
  | some ds =>
    obtain ⟨vs, _, r⟩ := m p ds e
    rw [h] at r; cases r
/-- a list is written, or made -/
theorem MR.put {K : PySem.W.Frag} {H : Hp} {M : Mem} (m : MR K H M) {p : Addr} {ds : List D} {vs : List V} (r : RpL K H ds vs) (h : H p = none ∨ ∃ us, H p = some (.lst us)) : MR K (L2.upd H p (.lst vs)) (M.put p ds) := by
  intro a es e
  have x : Ext K H (L2.upd H p (.lst vs)) := .upd h
  by_cases ha : a = p
  · subst ha
    rw [Mem.put_same] at e
    cases e
    exact ⟨vs, RpL.ext x _ r, upd_same⟩
  · rw [Mem.put_ne ha] at e
    obtain ⟨us, q, rd⟩ := m a es e
    exact ⟨us, RpL.ext x _ q, by rw [upd_ne ha]; exact rd⟩
/-- something else is new -/
theorem MR.new {K : PySem.W.Frag} {H : Hp} {M : Mem} (m : MR K H M) {p : Addr} {o : HO} (h : H p = none) : MR K (L2.upd H p o) M := by
  intro a es e
  have x : Ext K H (L2.upd H p o) := .upd (.inl h)
  obtain ⟨us, q, rd⟩ := m a es e
  have ha : a ≠ p := by
    rintro rfl
    rw [h] at rd; cases rd
  exact ⟨us, RpL.ext x _ q, by rw [upd_ne ha]; exact rd⟩

/-- the slots -/
structure ER (K : PySem.W.Frag) (H : Hp) (ρ : Env) (σ : L2.St) : Prop where
  len : ρ.length = σ.length
  at_ : ∀ (i : Nat) (d : D), ρ[i]? = some (some d) → ∃ v, σ[i]? = some (some v) ∧ Rp K H d v
theorem ER.ext {K : PySem.W.Frag} {H H' : Hp} {ρ : Env} {σ : L2.St} (e : ER K H ρ σ) (x : Ext K H H') : ER K H' ρ σ := ⟨e.len, fun i d h => by
  obtain ⟨v, a, b⟩ := e.at_ i d h
  exact ⟨v, a, Rp.ext x _ b⟩⟩
theorem ER.set {K : PySem.W.Frag} {H : Hp} {ρ : Env} {σ : L2.St} (e : ER K H ρ σ) (i : Nat) {d : D} {v : V} (r : Rp K H d v) : ER K H (ρ.set i (some d)) (σ.set i (some v)) := by
  refine ⟨by simp [e.len], fun j x h => ?_⟩
  by_cases hj : i = j
  · subst hj
    have hl : i < ρ.length := by
      by_cases hl : i < ρ.length
      · exact hl
      · rw [List.getElem?_eq_none (by simpa using hl)] at h
        cases h
    rw [List.getElem?_set_self hl] at h
    cases h
    exact ⟨v, by rw [List.getElem?_set_self (by rw [← e.len]; exact hl)], r⟩
  · rw [List.getElem?_set_ne hj] at h ⊢
    exact e.at_ j x h

/-! ### what is wanted -/
abbrev DK := D → Mem → Prop
abbrev WE := Env → Mem → DK → Prop
abbrev WT := Env → Mem → (Bool → Mem → Prop) → Prop
abbrev WA := Env → Mem → (List D → Mem → Prop) → Prop
structure WEnds where
  nx : Env → Mem → Prop
  rt : DK
  bk : Env → Mem → Prop := fun _ _ => False
  ct : Env → Mem → Prop := fun _ _ => False
abbrev WS := WEnds → Env → Mem → Prop
abbrev WG := D → Env → Mem → (Env → Mem → Prop) → Prop
abbrev WGs := List D → Env → Mem → (Env → Mem → Prop) → Prop
abbrev WI := Env → Mem → (Option Addr → List D → Mem → Prop) → Prop
abbrev WFn := List D → Mem → DK → Prop

def PostE (K : PySem.W.Frag) (H : Hp) (R : DK) (Q : VK) : Prop := ∀ d M' v H', R d M' → MR K H' M' → Rp K H' d v → Ext K H H' → Q v H'
def PostT (K : PySem.W.Frag) (H : Hp) (R : Bool → Mem → Prop) (Q : Bool → Hp → Prop) : Prop := ∀ b M' H', R b M' → MR K H' M' → Ext K H H' → Q b H'
def PostA (K : PySem.W.Frag) (H : Hp) (R : List D → Mem → Prop) (Q : List V → Hp → Prop) : Prop := ∀ ds M' vs H', R ds M' → MR K H' M' → RpL K H' ds vs → Ext K H H' → Q vs H'
def PostN (K : PySem.W.Frag) (H : Hp) (R : Env → Mem → Prop) (Q : L2.St → Hp → Prop) : Prop := ∀ ρ' M' σ' H', R ρ' M' → ER K H' ρ' σ' → MR K H' M' → Ext K H H' → Q σ' H'
structure PostS (K : PySem.W.Frag) (H : Hp) (R : WEnds) (D : Ends) : Prop where
  nx : PostN K H R.nx D.nx
  rt : PostE K H R.rt D.rt
  bk : PostN K H R.bk D.bk
  ct : PostN K H R.ct D.ct
theorem PostE.ext {K : PySem.W.Frag} {H H1 : Hp} {R : DK} {Q : VK} (p : PostE K H R Q) (x : Ext K H H1) : PostE K H1 R Q := fun d M' v H' a b c e => p d M' v H' a b c (x.trans e)
theorem PostT.ext {K : PySem.W.Frag} {H H1 : Hp} {R : Bool → Mem → Prop} {Q : Bool → Hp → Prop} (p : PostT K H R Q) (x : Ext K H H1) : PostT K H1 R Q := fun d M' H' a b e => p d M' H' a b (x.trans e)
theorem PostA.ext {K : PySem.W.Frag} {H H1 : Hp} {R : List D → Mem → Prop} {Q : List V → Hp → Prop} (p : PostA K H R Q) (x : Ext K H H1) : PostA K H1 R Q := fun d M' v H' a b c e => p d M' v H' a b c (x.trans e)
theorem PostN.ext {K : PySem.W.Frag} {H H1 : Hp} {R : Env → Mem → Prop} {Q : L2.St → Hp → Prop} (p : PostN K H R Q) (x : Ext K H H1) : PostN K H1 R Q := fun d M' v H' a b c e => p d M' v H' a b c (x.trans e)
theorem PostS.ext {K : PySem.W.Frag} {H H1 : Hp} {R : WEnds} {D : Ends} (p : PostS K H R D) (x : Ext K H H1) : PostS K H1 R D := ⟨p.nx.ext x, p.rt.ext x, p.bk.ext x, p.ct.ext x⟩

def liftE (K : PySem.W.Frag) (w : WE) : TE := fun σ H Q => ∃ ρ M R, ER K H ρ σ ∧ MR K H M ∧ w ρ M R ∧ PostE K H R Q
def liftT (K : PySem.W.Frag) (w : WT) : TT := fun σ H Q => ∃ ρ M R, ER K H ρ σ ∧ MR K H M ∧ w ρ M R ∧ PostT K H R Q
def liftA (K : PySem.W.Frag) (w : WA) : TA := fun σ H Q => ∃ ρ M R, ER K H ρ σ ∧ MR K H M ∧ w ρ M R ∧ PostA K H R Q
def liftS (K : PySem.W.Frag) (w : WS) : TS := fun D σ H => ∃ ρ M R, ER K H ρ σ ∧ MR K H M ∧ w R ρ M ∧ PostS K H R D
def liftG (K : PySem.W.Frag) (g : WG) : TG := fun v σ H Q => ∃ d ρ M R, Rp K H d v ∧ ER K H ρ σ ∧ MR K H M ∧ g d ρ M R ∧ PostN K H R Q
def liftGs (K : PySem.W.Frag) (g : WGs) : TGs := fun vs σ H Q => ∃ ds ρ M R, RpL K H ds vs ∧ ER K H ρ σ ∧ MR K H M ∧ g ds ρ M R ∧ PostN K H R Q
abbrev DE (X : Cx) (e : Expr) (w : WE) := PE X e (liftE X.K w)
abbrev DT (X : Cx) (e : Expr) (w : WT) := PT X e (liftT X.K w)
abbrev DW (X : Cx) (e : Expr) (w : WT) := PW X e (liftT X.K w)
abbrev DA (X : Cx) (es : List Expr) (w : WA) := PA X es (liftA X.K w)
abbrev DS (X : Cx) (st : Stmt) (w : WS) := PS X st (liftS X.K w)
abbrev DSs (X : Cx) (st : List Stmt) (w : WS) := PSs X st (liftS X.K w)
abbrev DG (X : Cx) (e : Expr) (g : WG) := PG X e (liftG X.K g)
abbrev DGs (X : Cx) (es : List Expr) (g : WGs) := PGs X es (liftGs X.K g)

theorem pe_w {X : Cx} {e : Expr} {t t' : TE} (h : PE X e t) (i : ∀ σ H Q, t' σ H Q → t σ H Q) : PE X e t' := ⟨fun pins s σ H Q I q => h.run pins s σ H Q I (i σ H Q q)⟩
theorem pt_w {X : Cx} {e : Expr} {t t' : TT} (h : PT X e t) (i : ∀ σ H Q, t' σ H Q → t σ H Q) : PT X e t' := ⟨fun pins s σ H Q I q => h.run pins s σ H Q I (i σ H Q q)⟩
theorem pw_w {X : Cx} {e : Expr} {t t' : TT} (h : PW X e t) (i : ∀ σ H Q, t' σ H Q → t σ H Q) : PW X e t' := ⟨fun wh pins s σ H Q I q => h.run wh pins s σ H Q I (i σ H Q q)⟩
theorem pa_w {X : Cx} {es : List Expr} {t t' : TA} (h : PA X es t) (i : ∀ σ H Q, t' σ H Q → t σ H Q) : PA X es t' := ⟨fun pos pins s σ H Q I q => h.run pos pins s σ H Q I (i σ H Q q)⟩
theorem ps_w {X : Cx} {st : Stmt} {t t' : TS} (h : PS X st t) (i : ∀ D σ H, t' D σ H → t D σ H) : PS X st t' := ⟨fun pins s σ H D I q => h.run pins s σ H D I (i D σ H q)⟩
theorem pss_w {X : Cx} {st : List Stmt} {t t' : TS} (h : PSs X st t) (i : ∀ D σ H, t' D σ H → t D σ H) : PSs X st t' := ⟨fun pins s σ H D I q => h.run pins s σ H D I (i D σ H q)⟩
theorem pg_w {X : Cx} {e : Expr} {t t' : TG} (h : PG X e t) (i : ∀ v σ H Q, t' v σ H Q → t v σ H Q) : PG X e t' := ⟨fun pins s σ H v u Q I r q => h.run pins s σ H v u Q I r (i v σ H Q q)⟩
theorem pgs_w {X : Cx} {es : List Expr} {t t' : TGs} (h : PGs X es t) (i : ∀ v σ H Q, t' v σ H Q → t v σ H Q) : PGs X es t' := ⟨fun pins s σ H vs us Q I r q => h.run pins s σ H vs us Q I r (i vs σ H Q q)⟩
end Zq


set_option Elab.async false
set_option linter.all false
set_option maxRecDepth 100000
namespace Zq
open PySem PySem.Spec PyProof.Rows L2
section
variable {X : Cx}

/-! ### names, constants -/
def wVar (i : Nat) : WE := fun ρ M R => match ρ[i]? with
  | some (some d) => R d M
  | _ => False
def wC (d : D) : WE := fun _ M R => R d M
theorem de_var (i : Nat) {x : Str} {pos : Pos} (hN : X.N[i]? = some x := by rfl) (hv : Vis X.env.scope x := by first | exact Or.inl rfl | exact Or.inr (Or.inl rfl) | exact Or.inr (Or.inr rfl)) (hd : (x == ("__debug__" : Str)) = false := by decide)
    (hcd : (x == ("__classdict__" : Str)) = false := by decide) : DE X (.Name x pos) (wVar i) := pe_w (pe_var hN hv hd hcd) fun σ H Q ⟨ρ, M, R, er, mr, h, p⟩ => by
  unfold wVar at h
  split at h
  · rename_i d e
    obtain ⟨v, e1, e2⟩ := er.at_ i d e
    exact ⟨v, e1, p d M v H h mr e2 .refl⟩
  · exact h.elim
theorem de_int {i : Int} {k : Nat} {pos : Pos} : DE X (.Constant (.int i) k pos) (wC (.int i)) := pe_w pe_int fun σ H Q ⟨ρ, M, R, er, mr, h, p⟩ => p (.int i) M _ H h mr rfl .refl
theorem de_str {i : Str} {k : Nat} {pos : Pos} : DE X (.Constant (.str i) k pos) (wC (.str i)) := pe_w pe_str fun σ H Q ⟨ρ, M, R, er, mr, h, p⟩ => p (.str i) M _ H h mr rfl .refl
theorem de_bl {i : Bool} {k : Nat} {pos : Pos} : DE X (.Constant (.bool i) k pos) (wC (.bl i)) := pe_w pe_bl fun σ H Q ⟨ρ, M, R, er, mr, h, p⟩ => p (.bl i) M _ H h mr rfl .refl
theorem de_non {k : Nat} {pos : Pos} : DE X (.Constant .none k pos) (wC .non) := pe_w pe_non fun σ H Q ⟨ρ, M, R, er, mr, h, p⟩ => p .non M _ H h mr rfl .refl

/-! ### operators -/
abbrev WF2 := D → D → Mem → DK → Prop
def DOp (K : PySem.W.Frag) (f : WF2) (r : R2) : Prop := ∀ (x y : D) (u v : V) (M : Mem) (H : Hp) (R : DK) (Q : VK), Rp K H x u → Rp K H y v → MR K H M → f x y M R → PostE K H R Q → r u v H Q
def wBin (f : WF2) (a b : WE) : WE := fun ρ M R => a ρ M fun x M1 => b ρ M1 fun y M2 => f x y M2 R
variable {a b c : Expr} {wa wb wc : WE} {pos : Pos}
theorem bin_w {f : WF2} {r : R2} (h : DOp X.K f r) {σ : L2.St} {H : Hp} {Q : VK} (q : liftE X.K (wBin f wa wb) σ H Q) : tOp r (liftE X.K wa) (liftE X.K wb) σ H Q := by
  obtain ⟨ρ, M, R, er, mr, hw, p⟩ := q
  refine ⟨ρ, M, _, er, mr, hw, fun d M1 v H1 h1 m1 r1 x1 => ⟨ρ, M1, _, er.ext x1, m1, h1, fun d2 M2 v2 H2 h2 m2 r2 x2 => ?_⟩⟩
  exact h d d2 v v2 M2 H2 R Q (Rp.ext x2 _ r1) r2 m2 h2 (p.ext (x1.trans x2))
theorem de_op {op : Operator} {f : WF2} {r : R2} (ho : OpR X (binaryOp op) r) (h : DOp X.K f r) (ha : DE X a wa) (hb : DE X b wb) : DE X (.BinOp a op b pos) (wBin f wa wb) := pe_w (pe_op ho ha hb) fun _ _ _ => bin_w h
theorem de_cmp {op : CmpOp} {f : WF2} {r : R2} (ho : OpR X (compareOp op) r) (h : DOp X.K f r) (ha : DE X a wa) (hb : DE X b wb) (hm : behindInMarks op b = false) : DE X (.Compare a [op] [b] pos) (wBin f wa wb) := pe_w (pe_cmpR ho ha hb hm) fun _ _ _ => bin_w h
/-- a value that is True or False, as a test -/
def wTest (w : WE) : WT := fun ρ M R => w ρ M fun d M' => match d with
  | .bl b => R b M'
  | _ => False
theorem test_w {w : WE} {t : TE} (h : ∀ σ H Q, liftE X.K w σ H Q → t σ H Q) {σ : L2.St} {H : Hp} {Q : Bool → Hp → Prop} (q : liftT X.K (wTest w) σ H Q) : tTest t σ H Q := by
  obtain ⟨ρ, M, R, er, mr, hw, p⟩ := q
  refine h _ _ _ ⟨ρ, M, _, er, mr, hw, fun d M1 v H1 h1 m1 r1 x1 => ?_⟩
  cases d with
  | bl k => exact ⟨k, r1, p k M1 H1 h1 m1 x1⟩
  | _ => exact h1.elim
theorem dt_cmp {op : CmpOp} {f : WF2} {r : R2} (ho : OpR X (compareOp op) r) (h : DOp X.K f r) (ha : DE X a wa) (hb : DE X b wb) (hm : behindInMarks op b = false) : DT X (.Compare a [op] [b] pos) (wTest (wBin f wa wb)) := pt_w (pt_cmpR ho ha hb hm) fun _ _ _ => test_w fun _ _ _ => bin_w h
theorem dt_val (h : DE X a wa) (he : ∀ whole, isTrue a X.env whole = (do let v ← whole; standAt a.pos; holding [v] (truthy v)) := by intro _; rfl) : DT X a (wTest wa) := pt_w (pt_val h he) fun _ _ _ => test_w fun _ _ _ q => q

/-- ints -/
def fII (C : Int → Int → Prop) (g : Int → Int → D) : WF2 := fun x y M R => match x, y with
  | .int i, .int j => C i j ∧ R (g i j) M
  | _, _ => False
def fI0 (g : Int → Int → D) : WF2 := fun x y M R => match x, y with
  | .int i, .int j => R (g i j) M
  | _, _ => False
theorem dop_II {K : PySem.W.Frag} {C : Int → Int → Prop} {g : Int → Int → D} {g' : Int → Int → V} (hg : ∀ i j H, Rp K H (g i j) (g' i j)) : DOp K (fII C g) (rI C g') := by
  intro x y u v M H R Q rx ry m h p
  unfold fII at h
  split at h
  · exact ⟨_, _, rx, ry, h.1, p _ _ _ _ h.2 m (hg _ _ _) .refl⟩
  · exact h.elim
theorem dop_I0 {K : PySem.W.Frag} {g : Int → Int → D} {g' : Int → Int → V} (hg : ∀ i j H, Rp K H (g i j) (g' i j)) : DOp K (fI0 g) (rI0 g') := by
  intro x y u v M H R Q rx ry m h p
  unfold fI0 at h
  split at h
  · exact ⟨_, _, rx, ry, p _ _ _ _ h m (hg _ _ _) .refl⟩
  · exact h.elim
def fSub : WF2 := fI0 fun i j => .int (i - j)
def fMul : WF2 := fII CMulW fun i j => .int (i * j)
def fDiv : WF2 := fII CDivW fun i j => .int (i / j)
def fMod : WF2 := fII (fun _ j => 0 < j) fun i j => .int (i % j)
def fPow : WF2 := fII CPow fun i j => .int (i ^ j.toNat)
theorem de_sub (ha : DE X a wa) (hb : DE X b wb) : DE X (.BinOp a .Sub b pos) (wBin fSub wa wb) := de_op op_sub (dop_I0 fun _ _ _ => rfl) ha hb
theorem de_mul (ha : DE X a wa) (hb : DE X b wb) : DE X (.BinOp a .Mult b pos) (wBin fMul wa wb) := de_op op_mulW (dop_II fun _ _ _ => rfl) ha hb
theorem de_div (ha : DE X a wa) (hb : DE X b wb) : DE X (.BinOp a .FloorDiv b pos) (wBin fDiv wa wb) := de_op op_fdivW (dop_II fun _ _ _ => rfl) ha hb
theorem de_mod (ha : DE X a wa) (hb : DE X b wb) : DE X (.BinOp a .Mod b pos) (wBin fMod wa wb) := de_op op_mod (dop_II fun _ _ _ => rfl) ha hb
theorem de_pow (ha : DE X a wa) (hb : DE X b wb) : DE X (.BinOp a .Pow b pos) (wBin fPow wa wb) := de_op op_pow (dop_II fun _ _ _ => rfl) ha hb
/-- + of ints, texts, tuples, lists -/
def fAdd : WF2 := fun x y M R => match x, y with
  | .int i, .int j => R (.int (i + j)) M
  | .str i, .str j => i.length + j.length ≤ sizeLine ∧ R (.str (i ++ j)) M
  | .tup xs, .tup ys => xs.length + ys.length ≤ sizeLine ∧ xs ≠ [] ∧ R (.tup (xs ++ ys)) M
  | .lst p, .lst q => match M p, M q with
    | some xs, some ys => xs.length + ys.length ≤ sizeLine ∧ ∀ l, M l = none → R (.lst l) (M.put l (xs ++ ys))
    | _, _ => False
  | _, _ => False
theorem RpL.ne_nil {K : PySem.W.Frag} {H : Hp} {ds : List D} {vs : List V} (r : RpL K H ds vs) (h : ds ≠ []) : vs ≠ [] := by
  rintro rfl
  have := r.length
  simp at this
  exact h this
theorem RpL.nil_of {K : PySem.W.Frag} {H : Hp} {ds : List D} {vs : List V} (r : RpL K H ds vs) (h : vs = []) : ds = [] := by
  subst h
  have := r.length
  simpa using this
theorem op_addAll : OpR X (binaryOp .Add) (fun x y H Q => (rI0 (fun i j => .int (i + j)) x y H Q ∨ ∃ i j, x = .str i ∧ y = .str j ∧ i.length + j.length ≤ sizeLine ∧ Q (.str (i ++ j)) H) ∨ rCatT X.K x y H Q ∨ rCat x y H Q) := (op_add.or op_add_str).or (op_catT.or op_cat)
theorem de_add (ha : DE X a wa) (hb : DE X b wb) : DE X (.BinOp a .Add b pos) (wBin fAdd wa wb) := de_op op_addAll (by
  intro x y u v M H R Q rx ry m h p
  unfold fAdd at h
  split at h
  · exact .inl (.inl ⟨_, _, rx, ry, p _ _ _ _ h m rfl .refl⟩)
  · exact .inl (.inr ⟨_, _, rx, ry, h.1, p _ _ _ _ h.2 m rfl .refl⟩)
  · rename_i xs ys
    obtain ⟨h1, h2, h3⟩ := h
    unfold Rp at rx ry
    obtain ⟨a, vs, rfl, sa, ra⟩ := rx
    obtain ⟨b, us, rfl, sb, rb⟩ := ry
    refine .inr (.inl ⟨a, b, vs, us, rfl, rfl, sa, sb, ra.ne_nil h2, by rw [← ra.length, ← rb.length]; exact h1, fun e => ?_, fun e l hl => ?_⟩)
    · have e2 := rb.nil_of e
      subst e2
      rw [List.append_nil] at h3
      refine p _ _ _ _ h3 m ?_ .refl
      unfold Rp
      exact ⟨a, vs, rfl, sa, ra⟩
    · have x : Ext X.K H (L2.upd H l (.tup (vs ++ us))) := .upd (.inl hl)
      refine p _ _ _ _ h3 (m.new hl) ?_ x
      unfold Rp
      exact ⟨l, _, rfl, .inl (.inl upd_same), (RpL.ext x _ ra).append (RpL.ext x _ rb)⟩
  · rename_i p' q
    split at h
    · rename_i xs ys e1 e2
      obtain ⟨h1, h2⟩ := h
      obtain ⟨vs, ra, ea⟩ := m _ _ e1
      obtain ⟨us, rb, eb⟩ := m _ _ e2
      cases rx
      cases ry
      refine .inr (.inr ⟨p', q, vs, us, rfl, rfl, ea, eb, by rw [← ra.length, ← rb.length]; exact h1, fun l hl => ?_⟩)
      exact p _ _ _ _ (h2 l (m.free hl)) (m.put (ra.append rb) (.inl hl)) rfl (.upd (.inl hl))
    · exact h.elim
  · exact h.elim) ha hb
/-- -x -/
def wNeg (w : WE) : WE := fun ρ M R => w ρ M fun d M' => match d with
  | .int i => R (.int (-i)) M'
  | _ => False
theorem de_neg (ha : DE X a wa) : DE X (.UnaryOp .USub a pos) (wNeg wa) := pe_w (pe_un un_neg ha) fun σ H Q ⟨ρ, M, R, er, mr, h, p⟩ => by
  refine ⟨ρ, M, _, er, mr, h, fun d M1 v H1 h1 m1 r1 x1 => ?_⟩
  cases d with
  | int i => exact ⟨i, r1, p _ _ _ _ h1 m1 rfl x1⟩
  | _ => exact h1.elim

/-! ### comparisons -/
def fLt : WF2 := fI0 fun i j => .bl (decide (i < j))
def fLe : WF2 := fun x y M R => match x, y with
  | .int i, .int j => R (.bl (decide (i ≤ j))) M
  | .str i, .str j => R (.bl (!decide (j.cps.toList < i.cps.toList))) M
  | _, _ => False
def fGt : WF2 := fI0 fun i j => .bl (decide (j < i))
def fGe : WF2 := fI0 fun i j => .bl (decide (j ≤ i))
theorem dop_Lt {K : PySem.W.Frag} : DOp K fLt (rI0 fun i j => .bl (decide (i < j))) := dop_I0 fun _ _ _ => rfl

def rLeAll : R2 := fun x y H Q => rI0 (fun i j => .bl (decide (i ≤ j))) x y H Q ∨ ∃ i j, x = .str i ∧ y = .str j ∧ Q (.bl (!decide (j.cps.toList < i.cps.toList))) H
theorem op_leAll : OpR X (compareOp .LtE) rLeAll := op_le.or op_le_str
theorem dop_Le {K : PySem.W.Frag} : DOp K fLe rLeAll := by
  intro x y u v M H R Q rx ry m h p
  unfold fLe at h
  split at h
  · cases rx
    cases ry
    exact .inl ⟨_, _, rfl, rfl, p _ _ _ _ h m rfl .refl⟩
  · cases rx
    cases ry
    exact .inr ⟨_, _, rfl, rfl, p _ _ _ _ h m rfl .refl⟩
  · exact h.elim
theorem dop_Gt {K : PySem.W.Frag} : DOp K fGt (rI0 fun i j => .bl (decide (j < i))) := dop_I0 fun _ _ _ => rfl
theorem dop_Ge {K : PySem.W.Frag} : DOp K fGe (rI0 fun i j => .bl (decide (j ≤ i))) := dop_I0 fun _ _ _ => rfl
/-- x is None, x is not None -/
def wIsN (neg : Bool) (w : WE) : WE := fun ρ M R => w ρ M fun d M' => match d with
  | .non => R (.bl (!neg)) M'
  | _ => R (.bl neg) M'
theorem rp_non {K : PySem.W.Frag} {H : Hp} {d : D} {v : V} (r : Rp K H d v) : decide (v = .non) = (match d with | .non => true | _ => false) := by
  cases d with
  | non => cases r; rfl
  | bl _ => cases r; rfl
  | int _ => cases r; rfl
  | str _ => cases r; rfl
  | ty _ => cases r; rfl
  | lst _ => cases r; rfl
  | tup _ => unfold Rp at r; obtain ⟨_, _, rfl, _⟩ := r; rfl
  | ro _ => unfold Rp at r; obtain ⟨_, _, rfl, _⟩ := r; rfl
  | dic _ _ => unfold Rp at r; obtain ⟨_, _, rfl, _⟩ := r; rfl
  | tpx _ => unfold Rp at r; obtain ⟨_, _, _, rfl, _⟩ := r; rfl
theorem isN_w {neg : Bool} {σ : L2.St} {H : Hp} {Q : VK} (q : liftE X.K (wIsN neg wa) σ H Q) : tOp (fun x y H Q => y = .non ∧ Q (.bl (if neg then !decide (x = .non) else decide (x = .non))) H) (liftE X.K wa) (tC .non) σ H Q := by
  obtain ⟨ρ, M, R, er, mr, hw, p⟩ := q
  refine ⟨ρ, M, _, er, mr, hw, fun d M1 v H1 h1 m1 r1 x1 => ⟨rfl, ?_⟩⟩
  rw [rp_non r1]
  cases d <;> cases neg <;> exact p _ _ _ _ h1 m1 rfl x1
theorem de_isN {k : Nat} {pos' : Pos} (ha : DE X a wa) : DE X (.Compare a [.Is] [.Constant .none k pos'] pos) (wIsN false wa) := pe_w (pe_cmpR op_isN ha pe_non (nomark _)) fun _ _ _ q => isN_w q
theorem de_notN {k : Nat} {pos' : Pos} (ha : DE X a wa) : DE X (.Compare a [.IsNot] [.Constant .none k pos'] pos) (wIsN true wa) := pe_w (pe_cmpR op_notN ha pe_non (nomark _)) fun _ _ _ q => isN_w q
end
end Zq


set_option Elab.async false
set_option linter.all false
set_option maxRecDepth 100000
namespace Zq
open PySem PySem.Spec PyProof.Rows L2

/-! ### calls, where what is shown just now is known -/
structure FnG (P : Program) (w : World) (K : PySem.W.Frag) (mg : Str → Option Value) (base : Heap) (CX : CXT) (k : Nat) (f : Addr) (fd : FuncData) (ps : List Str) (sp : Sp) : Prop where
  len : ∀ vs H Q E, sp vs H Q E → vs.length = ps.length
  go : ∀ (A : Around) (out : List PySem.Env) (s : Shared) (H : Hp) (args : Args) (us : List Value) (vs : List V) (Q : VK) (E : XK), Room k A → A.guards = some [] → Env0 P w K mg base A out s H →
    BindsTo s fd args (ps.zip us) → Vals vs us → sp vs H Q E → codeAny (model P w) A (.call (.ref f) args) (CR CX out P w H s Q E) s
theorem FnG.mono {P : Program} {w : World} {K : PySem.W.Frag} {mg : Str → Option Value} {base : Heap} {CX : CXT} {j k : Nat} {f : Addr} {fd : FuncData} {ps : List Str} {sp : Sp} (F : FnG P w K mg base CX j f fd ps sp) (h : j ≤ k) : FnG P w K mg base CX k f fd ps sp :=
  ⟨F.len, fun A out s H args us vs Q E hr => F.go A out s H args us vs Q E (hr.mono h)⟩
theorem FnG.imp {P : Program} {w : World} {K : PySem.W.Frag} {mg : Str → Option Value} {base : Heap} {CX : CXT} {k : Nat} {f : Addr} {fd : FuncData} {ps : List Str} {sp sp' : Sp} (F : FnG P w K mg base CX k f fd ps sp)
    (h : ∀ vs H Q E, sp' vs H Q E → sp vs H Q E) : FnG P w K mg base CX k f fd ps sp' :=
  ⟨fun vs H Q E q => F.len vs H Q E (h _ _ _ _ q), fun A out s H args us vs Q E hr hg e0 hb hv q => F.go A out s H args us vs Q E hr hg e0 hb hv (h _ _ _ _ q)⟩
/-- a def keeps what its body keeps -/
theorem fng_of {CX : CXT} {P : Program} {w : World} {K : PySem.W.Frag} {mg : Str → Option Value} {base : Heap} {k : Nat} {f : Addr} {x qual : Str} {params : Arguments} {body : List Stmt} {scope : Scope} {dvs : List V} {kws : List (Str × V)} {fd : FuncData}
    {N ps : List Str} {sp : Sp} (F : FunD K x qual params body scope dvs kws f fd) (S : FnScope N ps scope) (hlen : ∀ vs H Q E, sp vs H Q E → vs.length = ps.length)
    (hbody : ∀ (cdv : Value) (A : Around) (out : List PySem.Env) (s : Shared) (H : Hp) (vs : List V) (Q : VK) (E : XK), Room k (A.deeper (envOfC qual scope s.heap.objs.size f cdv)) → A.guards = some [] → sp vs H Q E →
      ∃ t, PSs (cxOf CX P w K mg base N qual scope f cdv A out s H E) body t ∧ t { nx := fun _ H' => Q .non H', rt := Q } (start N vs) H) : FnG P w K mg base CX (k + 1) f fd ps sp := by
  obtain ⟨oc, od, dV, kV, doc, pm, an, cdv, ct, osl, rfl, lk, hcd, _, _⟩ := F.ex
  refine ⟨hlen, fun A out s H args us vs Q E room gd e0 bind vals hsp => ?_⟩
  have inS : ∀ b o, base.get? b = some o → s.heap.get? b = some o := fun b o e => (e0.bs b o e).1
  have kin : K.In s.heap := e0.mod.kin.keeps inS
  have params_ok : ∀ y ∈ ps.zip us, scope.names.lookup y.1 = some .local ∨ (scope.names.lookup y.1 = some .cell ∧ ((cellsFrom (s.heap.objs.size + 1) scope.names []).lookup y.1).isSome = true) := by
    rintro ⟨n, v⟩ hy
    exact (S.par n (List.of_mem_zip hy).1).imp id fun q => ⟨q, PySem.W.cellsFrom_some _ _ _ (.inl q)⟩
  refine codeAny_call_function room.depth (kin _ _ lk) rfl S.co S.gen rfl (PySem.W.codeRec_of kin hcd) (bind _ _ _ _ ?_)
  refine wpAny_newFunctionEnv_cells S.kind params_ok fun env he s1 inC => ?_
  cases he
  refine ⟨(e0.mod.nolimit.keeps inS).keeps inC.toInCall.keep, codeAny_func ?_⟩
  obtain ⟨t, derived, ht⟩ := hbody cdv A out s H vs Q E (room.deeper _) gd hsp
  have I0 : Inv (cxOf CX P w K mg base N qual scope f cdv A out s H E) [] (start N vs) H s1 := inv_start S room.hd e0 (hlen _ _ _ _ hsp) vals inC
  refine wpAny_mono (derived.run [] s1 (start N vs) H _ I0 ht) (fun flow s' got => ?_) fun _ _ z => z
  match flow, got with
  | .ret u, ⟨v, σ', H', J, rv, q⟩ => exact ⟨v, H', J.os, J.bare, J.base, J.hok, rv, q⟩
  | .next, ⟨σ', H', J, q⟩ => exact ⟨V.non, H', J.os, J.bare, J.base, J.hok, rfl, q⟩
  | .brk, ⟨_, _, _, q⟩ => exact q.elim
  | .cont, ⟨_, _, _, q⟩ => exact q.elim
section
variable {X : Cx} {CX : CXT} {k n : Nat} {f : Addr} {fd : FuncData} {ps ks : List Str} {sp : Sp} {E : XK} {x : Str} {p pos : Pos}
theorem run_g {pins : List (Addr × Obj)} {σ : L2.St} {H : Hp} {s : Shared} {Q : VK} {args : Args} {us : List Value} {vs : List V} (F : FnG X.prog X.w X.K X.mg X.base CX k f fd ps sp) (hr : Room k X.A) (hg : X.A.guards = some []) (hx : Passes CX X E)
    (hb : BindsTo s fd args (ps.zip us)) (I : Inv X pins σ H s) (r : Vals vs us) (h : sp vs H Q E) : codeAny (model X.prog X.w) X.A (.call (.ref f) args) (fun r s' => match r with
      | .ok (.ret u) => EP X pins σ Q u s'
      | .error e => X.xe e s'
      | _ => False) s :=
  codeAny_mono (F.go X.A X.stack s H args us vs Q E hr hg I.env0 hb r h) fun r s' got => match r, got with
    | .error e, got => hx pins σ H s e s' I got
    | .ok (.ret u), got => I.after got
end
end Zq


set_option Elab.async false
set_option linter.all false
set_option maxRecDepth 100000
namespace Zq
open PySem PySem.Spec PyProof.Rows L2
section
variable {X : Cx} {a b c e : Expr} {es : List Expr} {wa wb wc w : WE} {pos : Pos}

/-! ### several expressions -/
def aNil : WA := fun _ M R => R [] M
def aCons (w : WE) (r : WA) : WA := fun ρ M R => w ρ M fun d M1 => r ρ M1 fun ds M2 => R (d :: ds) M2
theorem rpl_nil {K : PySem.W.Frag} {H : Hp} : RpL K H [] [] := rfl
theorem rpl_cons {K : PySem.W.Frag} {H : Hp} {d : D} {v : V} {ds : List D} {vs : List V} (r : Rp K H d v) (q : RpL K H ds vs) : RpL K H (d :: ds) (v :: vs) := by
  unfold RpL
  exact ⟨v, vs, rfl, r, q⟩
theorem cons_w {wr : WA} {σ : L2.St} {H : Hp} {Q : List V → Hp → Prop} (q : liftA X.K (aCons w wr) σ H Q) : tCons (liftE X.K w) (liftA X.K wr) σ H Q := by
  obtain ⟨ρ, M, R, er, mr, hw, p⟩ := q
  exact ⟨ρ, M, _, er, mr, hw, fun d M1 v H1 h1 m1 r1 x1 => ⟨ρ, M1, _, er.ext x1, m1, h1, fun ds M2 vs H2 h2 m2 r2 x2 => p _ _ _ _ h2 m2 (rpl_cons (Rp.ext x2 _ r1) r2) (x1.trans x2)⟩⟩
theorem da_nil : DA X [] aNil := pa_w pa_nil fun σ H Q ⟨ρ, M, R, er, mr, h, p⟩ => p [] M [] H h mr rpl_nil .refl
theorem da_cons {wr : WA} (he : DE X e w) (hr : DA X es wr) (hs : starEach (e :: es) X.env = (false, eval e X.env) :: starEach es X.env := by rfl) : DA X (e :: es) (aCons w wr) := pa_w (pa_cons he hr hs) fun _ _ _ => cons_w
/-- (a, b, ..), [a, b, ..] -/
def wTup (t : WA) : WE := fun ρ M R => t ρ M fun ds M1 => ds.length ≤ 1000 ∧ R (.tup ds) M1
def wLst (t : WA) : WE := fun ρ M R => t ρ M fun ds M1 => ds.length ≤ 1000 ∧ ∀ p, M1 p = none → R (.lst p) (M1.put p ds)
theorem line1000 {n : Nat} (h : n ≤ 1000) : n ≤ sizeLine := Nat.le_trans h (by decide)
theorem de_tup {t : WA} {k : Nat} (h : DA X es t) : DE X (.Tuple es k pos) (wTup t) := pe_w (pe_tup h) fun σ H Q ⟨ρ, M, R, er, mr, hw, p⟩ =>
  ⟨ρ, M, _, er, mr, hw, fun ds M1 vs H1 h1 m1 r1 x1 => ⟨by rw [← r1.length]; exact line1000 h1.1, fun q hq => by
    have x : Ext X.K H1 (L2.upd H1 q (.tup vs)) := .upd (.inl hq)
    refine p _ _ _ _ h1.2 (m1.new hq) ?_ (x1.trans x)
    unfold Rp
    exact ⟨q, vs, rfl, .inl (.inl upd_same), RpL.ext x _ r1⟩⟩⟩
theorem de_lst {t : WA} (h : DA X es t) : DE X (.List es pos) (wLst t) := pe_w (pe_lst h) fun σ H Q ⟨ρ, M, R, er, mr, hw, p⟩ =>
  ⟨ρ, M, _, er, mr, hw, fun ds M1 vs H1 h1 m1 r1 x1 => ⟨by rw [← r1.length]; exact line1000 h1.1, fun q hq =>
    p _ _ _ _ (h1.2 q (m1.free hq)) (m1.put r1 (.inl hq)) rfl (x1.trans (.upd (.inl hq)))⟩⟩

/-! ### items, slices -/
def fIx : WF2 := fun x y M R => match x, y with
  | .lst p, .int i => match M p with
    | some ds => match atI ds i with
      | some d => R d M
      | none => False
    | none => False
  | .tup ds, .int i => match atI ds i with
    | some d => R d M
    | none => False
  | .ro ds, .int i => match atI ds i with
    | some d => R d M
    | none => False
  | .str z, .int i => z.length ≤ sizeLine ∧ match atI z.cps.toList i with
    | some d => R (.str ⟨#[d]⟩) M
    | none => False
  | _, _ => False
theorem atI_rp {K : PySem.W.Frag} {H : Hp} {ds : List D} {vs : List V} {i : Int} {d : D} (r : RpL K H ds vs) (e : atI ds i = some d) : ∃ v, atI vs i = some v ∧ Rp K H d v := by
  unfold atI at e ⊢
  rw [r.length] at e
  cases q : ixN vs.length i with
  | none => rw [q] at e; cases e
  | some j =>
    rw [q] at e
    exact r.get (i := j) e
theorem dop_ix {K : PySem.W.Frag} : DOp K fIx (rIx K) := by
  intro x y u v M H R Q rx ry m h p
  unfold fIx at h
  split at h
  · rename_i l i
    split at h
    · rename_i ds e
      split at h
      · rename_i d e2
        obtain ⟨vs, r, eh⟩ := m _ _ e
        obtain ⟨w, e3, r3⟩ := atI_rp r e2
        cases rx
        cases ry
        exact .inl ⟨l, vs, i, w, rfl, rfl, SqL.of eh, e3, p _ _ _ _ h m r3 .refl⟩
      · exact h.elim
    · exact h.elim
  · rename_i ds i
    split at h
    · rename_i d e2
      unfold Rp at rx
      obtain ⟨l, vs, rfl, sq, r⟩ := rx
      obtain ⟨w, e3, r3⟩ := atI_rp r e2
      cases ry
      exact .inr (.inl ⟨l, vs, i, w, rfl, rfl, sq, e3, p _ _ _ _ h m r3 .refl⟩)
    · exact h.elim
  · rename_i ds i
    split at h
    · rename_i d e2
      unfold Rp at rx
      obtain ⟨l, vs, rfl, sq, r⟩ := rx
      obtain ⟨w, e3, r3⟩ := atI_rp r e2
      cases ry
      exact .inl ⟨l, vs, i, w, rfl, rfl, sq.sq, e3, p _ _ _ _ h m r3 .refl⟩
    · exact h.elim
  · rename_i z i
    obtain ⟨hz, h⟩ := h
    split at h
    · rename_i d e2
      cases rx
      cases ry
      exact .inr (.inr ⟨z, i, d, rfl, rfl, hz, e2, p _ _ _ _ h m rfl .refl⟩)
    · exact h.elim
  · exact h.elim
theorem de_ix (ha : DE X a wa) (hb : DE X b wb) (hs : PlainIx b := by exact fun _ _ => rfl) : DE X (.Subscript a b pos) (wBin fIx wa wb) := pe_w (pe_ix ix_seq ha hb hs) fun _ _ _ => bin_w dop_ix
/-- a part of a slice -/
abbrev WO := Env → Mem → (Option Int → Mem → Prop) → Prop
def liftO (K : PySem.W.Frag) (w : WO) : TO := fun σ H Q => ∃ ρ M R, ER K H ρ σ ∧ MR K H M ∧ w ρ M R ∧ ∀ o M' H', R o M' → MR K H' M' → Ext K H H' → Q o H'
abbrev DO (X : Cx) (e : Option Expr) (w : WO) := PO X e (liftO X.K w)
theorem po_w {e : Option Expr} {t t' : TO} (h : PO X e t) (i : ∀ σ H Q, t' σ H Q → t σ H Q) : PO X e t' := ⟨fun pins s σ H Q I q => h.run pins s σ H Q I (i σ H Q q)⟩
def oNone : WO := fun _ M R => R none M
def oSome (w : WE) : WO := fun ρ M R => w ρ M fun d M' => match d with
  | .int i => R (some i) M'
  | _ => False
theorem do_none : DO X none oNone := po_w po_none fun σ H Q ⟨ρ, M, R, er, mr, h, p⟩ => p none M H h mr .refl
theorem do_some (ha : DE X a wa) : DO X (some a) (oSome wa) := po_w (po_some ha) fun σ H Q ⟨ρ, M, R, er, mr, h, p⟩ => ⟨ρ, M, _, er, mr, h, fun d M1 v H1 h1 m1 r1 x1 => by
  cases d with
  | int i => exact ⟨i, r1, p _ _ _ h1 m1 x1⟩
  | _ => exact h1.elim⟩
def cutD (xs : List D) (lo hi : Option Int) : List D := (xs.drop (HT.sIx xs.length 0 lo)).take (HT.sIx xs.length xs.length hi - HT.sIx xs.length 0 lo)
theorem cut_rp {K : PySem.W.Frag} {H : Hp} {ds : List D} {vs : List V} {lo hi : Option Int} (r : RpL K H ds vs) : RpL K H (cutD ds lo hi) (cutV vs lo hi) := by
  unfold cutD cutV
  rw [r.length]
  exact (r.drop _).take _
def fSlice (x : D) (lo hi : Option Int) (M : Mem) (R : DK) : Prop := match x with
  | .lst p => match M p with
    | some ds => ∀ l, M l = none → R (.lst l) (M.put l (cutD ds lo hi))
    | none => False
  | .ro ds => ∀ l, M l = none → R (.lst l) (M.put l (cutD ds lo hi))
  | .tup ds => ¬ (HT.sIx ds.length 0 lo = 0 ∧ HT.sIx ds.length ds.length hi = ds.length) ∧ R (.tup (cutD ds lo hi)) M
  | .str z => z.length ≤ sizeLine ∧ R (.str (cutS z lo hi)) M
  | _ => False
def wSlice (w : WE) (lo hi : WO) : WE := fun ρ M R => w ρ M fun x M1 => lo ρ M1 fun l M2 => hi ρ M2 fun u M3 => fSlice x l u M3 R
theorem sl_all : SlR X (fun x lo hi H Q => (rSlL X.K x lo hi H Q ∨ rSlT X.K x lo hi H Q) ∨ rSlS x lo hi H Q) := (sl_list.or sl_tup).or sl_str
theorem de_slice {lo hi : Option Expr} {wl wh : WO} {p2 : Pos} (ha : DE X a wa) (hl : DO X lo wl) (hh : DO X hi wh) : DE X (.Subscript a (.Slice lo hi none p2) pos) (wSlice wa wl wh) := pe_w (pe_slice sl_all ha hl hh) fun σ H Q ⟨ρ, M, R, er, mr, h, p⟩ => by
  refine ⟨ρ, M, _, er, mr, h, fun d M1 v H1 h1 m1 r1 x1 => ⟨ρ, M1, _, er.ext x1, m1, h1, fun l M2 H2 h2 m2 x2 => ⟨ρ, M2, _, (er.ext x1).ext x2, m2, h2, fun u M3 H3 h3 m3 x3 => ?_⟩⟩⟩
  have r3 := Rp.ext (x2.trans x3) _ r1
  have p3 := p.ext (x1.trans (x2.trans x3))
  unfold fSlice at h3
  split at h3
  · rename_i q
    split at h3
    · rename_i ds e
      obtain ⟨vs, r, eh⟩ := m3 _ _ e
      cases r3
      exact .inl (.inl ⟨q, vs, rfl, SqL.of eh, fun l' hl' => p3 _ _ _ _ (h3 l' (m3.free hl')) (m3.put (cut_rp r) (.inl hl')) rfl (.upd (.inl hl'))⟩)
    · exact h3.elim
  · rename_i ds
    unfold Rp at r3
    obtain ⟨q, vs, rfl, sq, r⟩ := r3
    exact .inl (.inl ⟨q, vs, rfl, sq.sq, fun l' hl' => p3 _ _ _ _ (h3 l' (m3.free hl')) (m3.put (cut_rp r) (.inl hl')) rfl (.upd (.inl hl'))⟩)
  · rename_i ds
    unfold Rp at r3
    obtain ⟨q, vs, rfl, sq, r⟩ := r3
    refine .inl (.inr ⟨q, vs, rfl, sq, by rw [← r.length]; exact h3.1, fun l' hl' => ?_⟩)
    have x : Ext X.K H3 (L2.upd H3 l' (.tup (cutV vs l u))) := .upd (.inl hl')
    refine p3 _ _ _ _ h3.2 (m3.new hl') ?_ x
    unfold Rp
    exact ⟨l', _, rfl, .inl (.inl upd_same), RpL.ext x _ (cut_rp r)⟩
  · cases r3
    exact .inr ⟨_, rfl, h3.1, p3 _ _ _ _ h3.2 m3 rfl .refl⟩
  · exact h3.elim

/-! ### data as the library tells it -/
mutual
def pyD (M : Mem) : Nat → D → Option PyData
  | 0, _ => none
  | _ + 1, .non => some .none
  | _ + 1, .bl b => some (.bool b)
  | _ + 1, .int i => some (.int i)
  | _ + 1, .str x => some (.str x)
  | _ + 1, .ty _ => none
  | _ + 1, .dic _ _ => none
  | n + 1, .tup ds => (pyDs M n ds).map .tuple
  | n + 1, .tpx ds => (pyDs M n ds).map .tuple
  | n + 1, .ro ds => (pyDs M n ds).map .list
  | n + 1, .lst a => match M a with
    | some ds => (pyDs M n ds).map .list
    | none => none
def pyDs (M : Mem) : Nat → List D → Option (List PyData)
  | 0, _ => none
  | _ + 1, [] => some []
  | n + 1, d :: ds => match pyD M n d with
    | some p => (pyDs M n ds).map (p :: ·)
    | none => none
end
mutual
theorem pyD_dp {K : PySem.W.Frag} {H : Hp} {M : Mem} (m : MR K H M) : ∀ (n : Nat) (d : D) {v : V} {p : PyData}, Rp K H d v → pyD M n d = some p → Dp K H v p
  | 0, _, _, _, _, e => by simp [pyD] at e
  | _ + 1, .non, _, _, r, e => by simp [pyD] at e; subst e; cases r; exact .non
  | _ + 1, .bl b, _, _, r, e => by simp [pyD] at e; subst e; cases r; exact .bl b
  | _ + 1, .int i, _, _, r, e => by simp [pyD] at e; subst e; cases r; exact .int i
  | _ + 1, .str x, _, _, r, e => by simp [pyD] at e; subst e; cases r; exact .str x
  | _ + 1, .ty _, _, _, r, e => by simp [pyD] at e
  | _ + 1, .dic _ _, _, _, r, e => by simp [pyD] at e
  | n + 1, .tup ds, _, _, r, e => by
    simp only [pyD, Option.map_eq_some_iff] at e
    obtain ⟨ps, e, rfl⟩ := e
    unfold Rp at r
    obtain ⟨a, vs, rfl, sq, r⟩ := r
    exact .tup sq (pyDs_dp m n ds r e)
  | n + 1, .tpx ds, _, _, r, e => by
    simp only [pyD, Option.map_eq_some_iff] at e
    obtain ⟨ps, e, rfl⟩ := e
    unfold Rp at r
    obtain ⟨a, vs, o, rfl, sq, _, r⟩ := r
    exact .tup (.inl (.inr ⟨o, sq⟩)) (pyDs_dp m n ds r e)
  | n + 1, .ro ds, _, _, r, e => by
    simp only [pyD, Option.map_eq_some_iff] at e
    obtain ⟨ps, e, rfl⟩ := e
    unfold Rp at r
    obtain ⟨a, vs, rfl, sq, r⟩ := r
    exact .lst sq.sq (pyDs_dp m n ds r e)
  | n + 1, .lst a, _, _, r, e => by
    simp only [pyD] at e
    split at e
    · rename_i ds q
      simp only [Option.map_eq_some_iff] at e
      obtain ⟨ps, e, rfl⟩ := e
      obtain ⟨vs, r2, eh⟩ := m a ds q
      cases r
      exact .lst (SqL.of eh) (pyDs_dp m n ds r2 e)
    · cases e
theorem pyDs_dp {K : PySem.W.Frag} {H : Hp} {M : Mem} (m : MR K H M) : ∀ (n : Nat) (ds : List D) {vs : List V} {ps : List PyData}, RpL K H ds vs → pyDs M n ds = some ps → DpAll K H vs ps
  | 0, _, _, _, _, e => by simp [pyDs] at e
  | _ + 1, [], _, _, r, e => by
    simp [pyDs] at e
    subst e
    unfold RpL at r
    subst r
    exact .nil
  | n + 1, d :: ds, _, _, r, e => by
    simp only [pyDs] at e
    split at e
    · rename_i p q
      simp only [Option.map_eq_some_iff] at e
      obtain ⟨ps, e, rfl⟩ := e
      unfold RpL at r
      obtain ⟨v, vs, rfl, r1, r2⟩ := r
      exact .cons (pyD_dp m n d r1 q) (pyDs_dp m n ds r2 e)
    · cases e
end
/-- == and != -/
def fEq (neg : Bool) : WF2 := fun x y M R => match x, y with
  | .int i, .int j => R (.bl (if neg then !decide (i = j) else decide (i = j))) M
  | .str i, .str j => R (.bl (if neg then !decide (i = j) else decide (i = j))) M
  | .bl i, .bl j => R (.bl (if neg then !decide (i = j) else decide (i = j))) M
  | x, y => match pyD M 200 x, pyD M 200 y with
    | some p, some q => SeqAt.shaped p = true ∧ SeqAt.shaped q = true ∧ R (.bl (if neg then !PyData.eqv p q else PyData.eqv p q)) M
    | _, _ => False
def rEqAll (K : PySem.W.Frag) (neg : Bool) : R2 := fun x y H Q => (scal x y = true ∧ Q (.bl (if neg then !decide (x = y) else decide (x = y))) H) ∨ ∃ d e, Dp K H x d ∧ Dp K H y e ∧ SeqAt.shaped d = true ∧ SeqAt.shaped e = true ∧ Q (.bl (if neg then !PyData.eqv d e else PyData.eqv d e)) H
theorem dop_eq {K : PySem.W.Frag} {neg : Bool} : DOp K (fEq neg) (rEqAll K neg) := by
  intro x y u v M H R Q rx ry m h p
  unfold fEq at h
  split at h
  · rename_i i j
    cases rx; cases ry
    refine .inl ⟨rfl, ?_⟩
    have e : decide (V.int i = V.int j) = decide (i = j) := by rw [dec_int, Bool.beq_eq_decide_eq]
    rw [e]
    exact p _ _ _ _ h m rfl .refl
  · rename_i i j
    cases rx; cases ry
    refine .inl ⟨rfl, ?_⟩
    have e : decide (V.str i = V.str j) = decide (i = j) := by rw [dec_str, Bool.beq_eq_decide_eq]
    rw [e]
    exact p _ _ _ _ h m rfl .refl
  · rename_i i j
    cases rx; cases ry
    refine .inl ⟨rfl, ?_⟩
    have e : decide (V.bl i = V.bl j) = decide (i = j) := by rw [dec_bl, Bool.beq_eq_decide_eq]
    rw [e]
    exact p _ _ _ _ h m rfl .refl
  · split at h
    · rename_i d e e1 e2
      exact .inr ⟨d, e, pyD_dp m _ _ rx e1, pyD_dp m _ _ ry e2, h.1, h.2.1, p _ _ _ _ h.2.2 m rfl .refl⟩
    · exact h.elim
theorem op_eqAll (hu : X.A.units + 64 < cLine) : OpR X (compareOp .Eq) (rEqAll X.K false) := op_eq.or (op_eqD hu)
theorem op_neAll (hu : X.A.units + 64 < cLine) : OpR X (compareOp .NotEq) (rEqAll X.K true) := op_ne.or (op_neD hu)

end
end Zq


set_option Elab.async false
set_option linter.all false
set_option maxRecDepth 100000
namespace Zq
open PySem PySem.Spec PyProof.Rows L2

/-! ### isqrt, lcm of ints of up to some thousand figures -/
theorem run_isqrt {prog : Program} {w : World} {A : Around} {E : Value → Shared → Prop} {s : Shared} {Q : Value → Shared → Prop} {a : Int} {t : Tok} (h0 : 0 ≤ a) (h1 : a.natAbs.log2 < 13000)
    (h : Q (.int ((Float64.isqrt a.toNat : Nat) : Int) s.toks) { s with toks := s.toks + 1 }) : wpAny (model prog w) A (call (.builtin "math.isqrt") [.int a t]) Q E s := by
  have e : a.toNat = a.natAbs := by omega
  exact call_function_meets PySem.W.MGF.kind_isqrt PySem.W.MGF.plain_isqrt PySem.W.MGF.entry_isqrt (PySem.W.MGF.args_isqrt _) (PySem.W.mg_run_isqrt a t (by omega) (by rw [e]; omega) (by rw [e]; omega)).meets h
theorem log2_max {a b : Nat} {k : Nat} (ha : a.log2 < k) (hb : b.log2 < k) : (max a b).log2 < k := by
  rcases Nat.le_total a b with h | h
  · rw [Nat.max_eq_right h]; exact hb
  · rw [Nat.max_eq_left h]; exact ha
theorem lcm_one' (a : Nat) : Nat.lcm 1 a = a := Nat.lcm_one_left a
theorem lcm_pos_le {a b : Nat} : a.lcm b ≤ a * b := by
  unfold Nat.lcm
  exact Nat.div_le_self _ _
theorem log2_le_of_lt {n k : Nat} (h : n < 2 ^ (k + 1)) : n.log2 ≤ k := PySem.W.mg_log h
theorem lt_of_log2 {n k : Nat} (h : n.log2 < k) : n < 2 ^ k := by
  by_cases h0 : n = 0
  · subst h0
    exact Nat.pow_pos (by decide)
  · exact (Nat.log2_lt h0).mp h
theorem lcm_log {a b i j : Nat} (ha : a.log2 < i) (hb : b.log2 < j) : (a.lcm b).log2 < i + j := by
  have h1 := lt_of_log2 ha
  have h2 := lt_of_log2 hb
  have h3 : a.lcm b < 2 ^ (i + j) := Nat.lt_of_le_of_lt lcm_pos_le (by rw [Nat.pow_add]; exact Nat.mul_lt_mul'' h1 h2)
  have h4 : i + j = (i + j - 1) + 1 := by omega
  rw [h4] at h3 ⊢
  exact Nat.lt_succ_of_le (log2_le_of_lt h3)
theorem run_lcm2 {prog : Program} {w : World} {A : Around} {E : Value → Shared → Prop} {s : Shared} {Q : Value → Shared → Prop} {a b : Int} {t u : Tok} (h1 : a.natAbs.log2 < 6000) (h2 : b.natAbs.log2 < 6000)
    (h : Q (.int ((a.natAbs.lcm b.natAbs : Nat) : Int) s.toks) { s with toks := s.toks + 1 }) : wpAny (model prog w) A (call (.builtin "math.lcm") [.int a t, .int b u]) Q E s := by
  have g1 := log2_max (a := 1) (k := 6000) (by decide) h1
  have g2 := log2_max h1 h2
  have g3 := lcm_log h1 h2
  have r := PySem.W.mg_run_lcm a t b u (by omega) (by omega) (by
    rw [lcm_one']
    show (a.natAbs.lcm b.natAbs).log2 < bitsLine
    exact Nat.lt_trans g3 (by decide))
  rw [lcm_one'] at r
  exact call_function_meets PySem.W.MGF.kind_lcm PySem.W.MGF.plain_lcm PySem.W.MGF.entry_lcm (PySem.W.MGF.args_lcm _ _) r.meets h
theorem args_lcm3 (a b c : Value) : argsOk "math.lcm" ⟨[a, b, c], []⟩ := by unfold argsOk; kernel_rfl
theorem gives_lcm3 (a : Int) (t : Tok) (b : Int) (u : Tok) (c : Int) (v : Tok) (hc0 : ¬(max 1 a.natAbs).log2 / 30 + 1 > 450) (hc1 : ¬(max a.natAbs b.natAbs).log2 / 30 + 1 > 450) (hc2 : ¬(max (a.natAbs.lcm b.natAbs) c.natAbs).log2 / 30 + 1 > 450)
    (hsz : (((((a.natAbs).lcm b.natAbs).lcm c.natAbs : Nat) : Int)).natAbs.log2 < bitsLine) :
    Gives (Builtin.«math.lcm» ⟨[.int a t, .int b u, .int c v], []⟩) (.int ((((a.natAbs.lcm b.natAbs).lcm c.natAbs : Nat) : Int))) := by
  refine .of_wp fun M A E s Q h => ?_
  obtain ⟨hp, g, d, tk, os⟩ := s
  wp_walk
  rw [lcm_one']
  refine wpAny_ite_false (decide_eq_false (Nat.not_le.mpr hsz)) ?_
  wp_walk
  exact ⟨_, rfl, h⟩
theorem run_lcm3 {prog : Program} {w : World} {A : Around} {E : Value → Shared → Prop} {s : Shared} {Q : Value → Shared → Prop} {a b c : Int} {t u v : Tok} (h1 : a.natAbs.log2 < 6000) (h2 : b.natAbs.log2 < 6000) (h3 : c.natAbs.log2 < 6000)
    (h : Q (.int (((a.natAbs.lcm b.natAbs).lcm c.natAbs : Nat) : Int) s.toks) { s with toks := s.toks + 1 }) : wpAny (model prog w) A (call (.builtin "math.lcm") [.int a t, .int b u, .int c v]) Q E s := by
  have g1 := log2_max (a := 1) (k := 6000) (by decide) h1
  have g2 := log2_max h1 h2
  have g3 := lcm_log h1 h2
  have g4 := log2_max g3 (Nat.lt_trans h3 (by decide : 6000 < 6000 + 6000))
  have g5 := lcm_log g3 h3
  exact call_function_meets PySem.W.MGF.kind_lcm PySem.W.MGF.plain_lcm PySem.W.MGF.entry_lcm (args_lcm3 _ _ _) (gives_lcm3 a t b u c v (by omega) (by omega) (by omega) (by
    show ((a.natAbs.lcm b.natAbs).lcm c.natAbs).log2 < bitsLine
    exact Nat.lt_trans g5 (by decide))).meets h

section
variable {X : Cx} {es : List Expr} {e : Expr} {pos p : Pos}
/-! ### built-in functions -/
abbrev WB := List D → Mem → DK → Prop
def DB (K : PySem.W.Frag) (f : WB) (r : List V → Hp → VK → Prop) : Prop := ∀ (ds : List D) (vs : List V) (M : Mem) (H : Hp) (R : DK) (Q : VK), RpL K H ds vs → MR K H M → f ds M R → PostE K H R Q → r vs H Q
/-- f(e, ..) of what is known by its name -/
def wB (f : WB) (t : WA) : WE := fun ρ M R => t ρ M fun ds M1 => f ds M1 R
theorem b_w {f : WB} {r : List V → Hp → VK → Prop} {t : WA} (h : DB X.K f r) {σ : L2.St} {H : Hp} {Q : VK} (q : liftE X.K (wB f t) σ H Q) : tCB r (liftA X.K t) σ H Q := by
  obtain ⟨ρ, M, R, er, mr, hw, p⟩ := q
  exact ⟨ρ, M, _, er, mr, hw, fun ds M1 vs H1 h1 m1 r1 x1 => h ds vs M1 H1 R Q r1 m1 h1 (p.ext x1)⟩
theorem rp1 {K : PySem.W.Frag} {H : Hp} {d : D} {vs : List V} (r : RpL K H [d] vs) : ∃ v, vs = [v] ∧ Rp K H d v := by
  unfold RpL at r
  obtain ⟨v, vs', rfl, r1, r2⟩ := r
  unfold RpL at r2
  subst r2
  exact ⟨v, rfl, r1⟩
theorem rp2 {K : PySem.W.Frag} {H : Hp} {d d' : D} {vs : List V} (r : RpL K H [d, d'] vs) : ∃ v u, vs = [v, u] ∧ Rp K H d v ∧ Rp K H d' u := by
  unfold RpL at r
  obtain ⟨v, vs', rfl, r1, r2⟩ := r
  obtain ⟨u, rfl, r3⟩ := rp1 r2
  exact ⟨v, u, rfl, r1, r3⟩
theorem rp3 {K : PySem.W.Frag} {H : Hp} {d d' d'' : D} {vs : List V} (r : RpL K H [d, d', d''] vs) : ∃ v u z, vs = [v, u, z] ∧ Rp K H d v ∧ Rp K H d' u ∧ Rp K H d'' z := by
  unfold RpL at r
  obtain ⟨v, vs', rfl, r1, r2⟩ := r
  obtain ⟨u, z, rfl, r3, r4⟩ := rp2 r2
  exact ⟨v, u, z, rfl, r1, r3, r4⟩
def bAbs : WB := fun ds M R => match ds with
  | [.int i] => R (.int (if i < 0 then -i else i)) M
  | _ => False
def bMax : WB := fun ds M R => match ds with
  | [.int i, .int j] => R (.int (if j > i then j else i)) M
  | _ => False
def bMin : WB := fun ds M R => match ds with
  | [.int i, .int j] => R (.int (if j < i then j else i)) M
  | _ => False
def bInt : WB := fun ds M R => match ds with
  | [.int i] => R (.int i) M
  | [.bl k] => R (.int (if k then 1 else 0)) M
  | _ => False
def bStr : WB := fun ds M R => match ds with
  | [.int i] => i.natAbs.log2 < 1920 ∧ R (.str (toString i)) M
  | _ => False
def bDivmod : WB := fun ds M R => match ds with
  | [.int i, .int j] => CDiv i j ∧ R (.tup [.int (i / j), .int (i % j)]) M
  | _ => False
def bLen : WB := fun ds M R => match ds with
  | [.lst a] => match M a with
    | some xs => R (.int xs.length) M
    | none => False
  | [.tup xs] => R (.int xs.length) M
  | [.ro xs] => R (.int xs.length) M
  | [.str z] => z.length ≤ sizeLine ∧ R (.int z.length) M
  | _ => False
def bGcd : WB := fun ds M R => match ds with
  | [.int a, .int b] => R (.int ((Nat.gcd a.natAbs b.natAbs : Nat) : Int)) M
  | _ => False
def bIsqrt : WB := fun ds M R => match ds with
  | [.int a] => 0 ≤ a ∧ a.natAbs.log2 < 13000 ∧ R (.int ((Float64.isqrt a.toNat : Nat) : Int)) M
  | _ => False
def bLcm : WB := fun ds M R => match ds with
  | [.int a, .int b] => a.natAbs.log2 < 6000 ∧ b.natAbs.log2 < 6000 ∧ R (.int ((a.natAbs.lcm b.natAbs : Nat) : Int)) M
  | [.int a, .int b, .int c] => a.natAbs.log2 < 6000 ∧ b.natAbs.log2 < 6000 ∧ c.natAbs.log2 < 6000 ∧ R (.int (((a.natAbs.lcm b.natAbs).lcm c.natAbs : Nat) : Int)) M
  | _ => False
/-- all of True and False -/
def blsOf : List D → Option (List Bool)
  | [] => some []
  | .bl b :: r => (blsOf r).map (b :: ·)
  | _ => none
def bAll (any : Bool) : WB := fun ds M R => match ds with
  | [.lst a] => match M a with
    | some xs => match blsOf xs with
      | some bs => R (.bl (if any then bs.any id else bs.all id)) M
      | none => False
    | none => False
  | _ => False
def bRepr : WB := fun ds M R => match ds with
  | [d] => match pyD M 200 d with
    | some p => p.showable = true ∧ SeqAt.shaped p = true ∧ p.shown.length ≤ sizeLine ∧ R (.str p.shown) M
    | none => False
  | _ => False
/-- isinstance of a built-in type -/
def isiD (d : D) (T : String) : Option Bool := match d with
  | .non => kitB "NoneType" T
  | .bl _ => kitB "bool" T
  | .int _ => kitB "int" T
  | .str _ => kitB "str" T
  | .tup _ => kitB "tuple" T
  | .lst _ => kitB "list" T
  | .dic _ _ => kitB "dict" T
  | _ => none
def bIsi : WB := fun ds M R => match ds with
  | [.lst a, .ty T] => match M a with
    | some _ => match isiD (.lst a) T with
      | some b => R (.bl b) M
      | none => False
    | none => False
  | [d, .ty T] => match isiD d T with
    | some b => R (.bl b) M
    | none => False
  | _ => False
variable {t : WA} {w : WE}
theorem de_bltn {v : String} {x : Str} (hg : Gl X x := by rfl) (hm : X.mg x = none) (hv : bootBuiltins x = some (.type v)) (hn : x ≠ "__name__" := by decide) (hd : (x == ("__debug__" : Str)) = false := by decide) : DE X (.Name x pos) (wC (.ty v)) :=
  pe_w (pe_bltn (v := .ty v) (u := .type v) hg hm hv rfl hn hd) fun σ H Q ⟨ρ, M, R, er, mr, h, p⟩ => p (.ty v) M (.ty v) H h mr rfl .refl
end
end Zq


set_option Elab.async false
set_option linter.all false
set_option maxRecDepth 100000
namespace Zq
open PySem PySem.Spec PyProof.Rows L2
section
variable {X : Cx} {es : List Expr} {e : Expr} {pos p : Pos} {K : PySem.W.Frag}
theorem db_abs : DB K bAbs (fun xs H Q => ∃ i, xs = [.int i] ∧ Q (.int (if i < 0 then -i else i)) H) := by
  intro ds vs M H R Q r m h p
  unfold bAbs at h
  split at h
  · obtain ⟨v, rfl, r1⟩ := rp1 r
    cases r1
    exact ⟨_, rfl, p _ _ _ _ h m rfl .refl⟩
  · exact h.elim
theorem db_max : DB K bMax (fun xs H Q => ∃ i j, xs = [.int i, .int j] ∧ Q (.int (if j > i then j else i)) H) := by
  intro ds vs M H R Q r m h p
  unfold bMax at h
  split at h
  · obtain ⟨v, u, rfl, r1, r2⟩ := rp2 r
    cases r1
    cases r2
    exact ⟨_, _, rfl, p _ _ _ _ h m rfl .refl⟩
  · exact h.elim
theorem db_min : DB K bMin (fun xs H Q => ∃ i j, xs = [.int i, .int j] ∧ Q (.int (if j < i then j else i)) H) := by
  intro ds vs M H R Q r m h p
  unfold bMin at h
  split at h
  · obtain ⟨v, u, rfl, r1, r2⟩ := rp2 r
    cases r1
    cases r2
    exact ⟨_, _, rfl, p _ _ _ _ h m rfl .refl⟩
  · exact h.elim
theorem db_int : DB K bInt (fun xs H Q => (∃ i, xs = [.int i] ∧ Q (.int i) H) ∨ ∃ k, xs = [.bl k] ∧ Q (.int (if k then 1 else 0)) H) := by
  intro ds vs M H R Q r m h p
  unfold bInt at h
  split at h
  · obtain ⟨v, rfl, r1⟩ := rp1 r
    cases r1
    exact .inl ⟨_, rfl, p _ _ _ _ h m rfl .refl⟩
  · obtain ⟨v, rfl, r1⟩ := rp1 r
    cases r1
    exact .inr ⟨_, rfl, p _ _ _ _ h m rfl .refl⟩
  · exact h.elim
theorem db_str : DB K bStr (fun xs H Q => ∃ i, xs = [.int i] ∧ i.natAbs.log2 < 1920 ∧ Q (.str (toString i)) H) := by
  intro ds vs M H R Q r m h p
  unfold bStr at h
  split at h
  · obtain ⟨v, rfl, r1⟩ := rp1 r
    cases r1
    exact ⟨_, rfl, h.1, p _ _ _ _ h.2 m rfl .refl⟩
  · exact h.elim
theorem db_divmod : DB K bDivmod (fun xs H Q => ∃ i j, xs = [.int i, .int j] ∧ CDiv i j ∧ ∀ p, H p = none → Q (.ref p) (L2.upd H p (.tup [.int (i / j), .int (i % j)]))) := by
  intro ds vs M H R Q r m h p
  unfold bDivmod at h
  split at h
  · rename_i i j
    obtain ⟨v, u, rfl, r1, r2⟩ := rp2 r
    cases r1
    cases r2
    refine ⟨_, _, rfl, h.1, fun l hl => ?_⟩
    refine p _ _ _ _ h.2 (m.new hl) ?_ (.upd (.inl hl))
    unfold Rp
    exact ⟨l, _, rfl, .inl (.inl upd_same), rpl_cons (show Rp K _ (.int (i / j)) _ from rfl) (rpl_cons (show Rp K _ (.int (i % j)) _ from rfl) rpl_nil)⟩
  · exact h.elim
theorem db_len : DB K bLen (fun xs H Q => ∃ x n, xs = [x] ∧ LenV K x H n ∧ Q (.int n) H) := by
  intro ds vs M H R Q r m h p
  unfold bLen at h
  split at h
  · rename_i a
    split at h
    · rename_i xs e
      obtain ⟨us, q, eh⟩ := m a xs e
      obtain ⟨v, rfl, r1⟩ := rp1 r
      cases r1
      rw [q.length] at h
      exact ⟨_, _, rfl, .inl ⟨us, SqL.of eh, rfl⟩, p _ _ _ _ h m rfl .refl⟩
    · exact h.elim
  · obtain ⟨v, rfl, r1⟩ := rp1 r
    unfold Rp at r1
    obtain ⟨a, us, rfl, sq, q⟩ := r1
    rw [q.length] at h
    exact ⟨_, _, rfl, .inr ⟨us, sq, rfl⟩, p _ _ _ _ h m rfl .refl⟩
  · obtain ⟨v, rfl, r1⟩ := rp1 r
    unfold Rp at r1
    obtain ⟨a, us, rfl, sq, q⟩ := r1
    rw [q.length] at h
    exact ⟨_, _, rfl, .inl ⟨us, sq.sq, rfl⟩, p _ _ _ _ h m rfl .refl⟩
  · obtain ⟨v, rfl, r1⟩ := rp1 r
    cases r1
    exact ⟨_, _, rfl, ⟨h.1, rfl⟩, p _ _ _ _ h.2 m rfl .refl⟩
  · exact h.elim
theorem db_gcd : DB K bGcd rGcd := by
  intro ds vs M H R Q r m h p
  unfold bGcd at h
  split at h
  · obtain ⟨v, u, rfl, r1, r2⟩ := rp2 r
    cases r1
    cases r2
    exact ⟨_, _, rfl, p _ _ _ _ h m rfl .refl⟩
  · exact h.elim
def rIsqrt : List V → Hp → VK → Prop := fun vs H Q => ∃ a : Int, vs = [.int a] ∧ 0 ≤ a ∧ a.natAbs.log2 < 13000 ∧ Q (.int ((Float64.isqrt a.toNat : Nat) : Int)) H
theorem cr_isqrt : CallR X (.builtin "math.isqrt") rIsqrt := by
  intro pins s σ H vs us Q I r h
  obtain ⟨a, rfl, h0, h1, q⟩ := h
  obtain ⟨u, rfl, r1⟩ := L2.vals1 r
  obtain ⟨t, rfl⟩ := r1
  exact run_isqrt h0 h1 ⟨.int _, H, I.tok _, ⟨_, rfl⟩, q⟩
theorem db_isqrt : DB K bIsqrt rIsqrt := by
  intro ds vs M H R Q r m h p
  unfold bIsqrt at h
  split at h
  · obtain ⟨v, rfl, r1⟩ := rp1 r
    cases r1
    exact ⟨_, rfl, h.1, h.2.1, p _ _ _ _ h.2.2 m rfl .refl⟩
  · exact h.elim
def rLcm : List V → Hp → VK → Prop := fun vs H Q => (∃ a b : Int, vs = [.int a, .int b] ∧ a.natAbs.log2 < 6000 ∧ b.natAbs.log2 < 6000 ∧ Q (.int ((a.natAbs.lcm b.natAbs : Nat) : Int)) H) ∨
  ∃ a b c : Int, vs = [.int a, .int b, .int c] ∧ a.natAbs.log2 < 6000 ∧ b.natAbs.log2 < 6000 ∧ c.natAbs.log2 < 6000 ∧ Q (.int (((a.natAbs.lcm b.natAbs).lcm c.natAbs : Nat) : Int)) H
theorem cr_lcm : CallR X (.builtin "math.lcm") rLcm := by
  intro pins s σ H vs us Q I r h
  rcases h with ⟨a, b, rfl, h0, h1, q⟩ | ⟨a, b, c, rfl, h0, h1, h2, q⟩
  · obtain ⟨t, u, rfl⟩ := Vals.int2 r
    exact run_lcm2 h0 h1 ⟨.int _, H, I.tok _, ⟨_, rfl⟩, q⟩
  · cases r with
    | cons r1 r2 =>
      obtain ⟨t, rfl⟩ := r1
      obtain ⟨t1, t2, rfl⟩ := Vals.int2 r2
      exact run_lcm3 h0 h1 h2 ⟨.int _, H, I.tok _, ⟨_, rfl⟩, q⟩
theorem db_lcm : DB K bLcm rLcm := by
  intro ds vs M H R Q r m h p
  unfold bLcm at h
  split at h
  · obtain ⟨v, u, rfl, r1, r2⟩ := rp2 r
    cases r1
    cases r2
    exact .inl ⟨_, _, rfl, h.1, h.2.1, p _ _ _ _ h.2.2 m rfl .refl⟩
  · obtain ⟨v, u, z, rfl, r1, r2, r3⟩ := rp3 r
    cases r1
    cases r2
    cases r3
    exact .inr ⟨_, _, _, rfl, h.1, h.2.1, h.2.2.1, p _ _ _ _ h.2.2.2 m rfl .refl⟩
  · exact h.elim
theorem bls_rp {H : Hp} : ∀ {xs : List D} {vs : List V} {bs : List Bool}, RpL K H xs vs → blsOf xs = some bs → vs = bs.map V.bl
  | [], vs, bs, r, e => by
    unfold blsOf at e
    cases e
    exact r
  | d :: xs, vs, bs, r, e => by
    cases d with
    | bl b =>
      unfold blsOf at e
      simp only [Option.map_eq_some_iff] at e
      obtain ⟨cs, e, rfl⟩ := e
      unfold RpL at r
      obtain ⟨v, vs', rfl, r1, r2⟩ := r
      cases r1
      rw [bls_rp r2 e]
      rfl
    | _ =>
      unfold blsOf at e
      cases e
theorem db_all : DB K (bAll false) (rAll K) := by
  intro ds vs M H R Q r m h p
  unfold bAll at h
  split at h
  · rename_i a
    split at h
    · rename_i xs e
      split at h
      · rename_i bs e2
        obtain ⟨us, q, eh⟩ := m a xs e
        obtain ⟨v, rfl, r1⟩ := rp1 r
        cases r1
        rw [bls_rp q e2] at eh
        exact ⟨a, bs, rfl, SqL.of eh, p _ _ _ _ h m rfl .refl⟩
      · exact h.elim
    · exact h.elim
  · exact h.elim
theorem db_any : DB K (bAll true) (rAny K) := by
  intro ds vs M H R Q r m h p
  unfold bAll at h
  split at h
  · rename_i a
    split at h
    · rename_i xs e
      split at h
      · rename_i bs e2
        obtain ⟨us, q, eh⟩ := m a xs e
        obtain ⟨v, rfl, r1⟩ := rp1 r
        cases r1
        rw [bls_rp q e2] at eh
        exact ⟨a, bs, rfl, SqL.of eh, p _ _ _ _ h m rfl .refl⟩
      · exact h.elim
    · exact h.elim
  · exact h.elim
/-- repr of data -/
def rRepr (K : PySem.W.Frag) : List V → Hp → VK → Prop := fun vs H Q => ∃ v d, vs = [v] ∧ Dp K H v d ∧ d.showable = true ∧ SeqAt.shaped d = true ∧ d.shown.length ≤ sizeLine ∧ Q (.str d.shown) H
theorem cr_repr (hg : X.A.guards = some []) (hu : X.A.units + 100 < cLine) : CallR X (.builtin "repr") (rRepr X.K) := by
  intro pins s σ H vs us Q I r h
  obtain ⟨v, d, rfl, hd, h1, h2, h3, q⟩ := h
  obtain ⟨u, rfl, r1⟩ := L2.vals1 r
  obtain ⟨as, rd⟩ := Dp.reads I d v u hd r1
  have dep := SeqAt.depth_of_shaped h2
  cases hd with
  | non =>
    cases r1
    exact P.repr_of_none ⟨.str _, H, I.tok _, ⟨_, rfl⟩, q⟩
  | bl b =>
    cases r1
    exact P.repr_of_bool ⟨.str _, H, I.tok _, ⟨_, rfl⟩, q⟩
  | int i =>
    obtain ⟨t, rfl⟩ := r1
    refine P.repr_of_int ?_ ⟨.str _, H, I.tok _, ⟨_, rfl⟩, q⟩
    simpa [PyData.showable] using h1
  | str x =>
    obtain ⟨t, rfl⟩ := r1
    exact P.repr_of_str ⟨.str _, H, I.tok _, ⟨_, rfl⟩, q⟩ h3
  | lst hs ha =>
    cases r1
    refine repr_of_reads' rd h1 (PyData.noDict_hsm (PyData.hasDict_of_canLay _ (SeqAt.canLay_of_shaped h2))) hg (by omega) (fun _ _ e => e) (fun h' u tk keep => ?_) h3
    exact ⟨.str _, H, I.kept keep, ⟨_, rfl⟩, q⟩
  | tup hs ha =>
    cases r1
    refine repr_of_reads' rd h1 (PyData.noDict_hsm (PyData.hasDict_of_canLay _ (SeqAt.canLay_of_shaped h2))) hg (by omega) (fun _ _ e => e) (fun h' u tk keep => ?_) h3
    exact ⟨.str _, H, I.kept keep, ⟨_, rfl⟩, q⟩
theorem db_repr : DB K bRepr (rRepr K) := by
  intro ds vs M H R Q r m h p
  unfold bRepr at h
  split at h
  · split at h
    · rename_i d e
      obtain ⟨v, rfl, r1⟩ := rp1 r
      exact ⟨v, d, rfl, pyD_dp m _ _ r1 e, h.1, h.2.1, h.2.2.1, p _ _ _ _ h.2.2.2 m rfl .refl⟩
    · exact h.elim
  · exact h.elim
theorem ty_of {H : Hp} {d : D} {v : V} {T : String} {b : Bool} (r : Rp K H d v) (hd : ∀ a, d ≠ .lst a) (e : isiD d T = some b) : ∃ t, TyX K H v t ∧ PySem.W.kitOne K t (.type T) = some b := by
  cases d with
  | non => cases r; exact ⟨_, .base .non, kit_ty e⟩
  | bl x => cases r; exact ⟨_, .base (.bl x), kit_ty e⟩
  | int x => cases r; exact ⟨_, .base (.int x), kit_ty e⟩
  | str x => cases r; exact ⟨_, .base (.str x), kit_ty e⟩
  | ty x => simp [isiD] at e
  | ro x => simp [isiD] at e
  | tpx x => simp [isiD] at e
  | dic ks x =>
    unfold Rp at r
    obtain ⟨a, vs, rfl, sq, _⟩ := r
    exact ⟨_, .base (.dK sq), kit_ty e⟩
  | lst a => exact absurd rfl (hd a)
  | tup xs =>
    unfold Rp at r
    obtain ⟨a, vs, rfl, sq, _⟩ := r
    rcases sq with (sq | ⟨o, sq⟩) | ⟨o, _, _, sq, c, _⟩
    · exact ⟨_, .base (.tup sq), kit_ty e⟩
    · exact ⟨_, .fTuple sq, kit_ty e⟩
    · exact ⟨_, .kTuple sq c, kit_ty e⟩
theorem db_isi : DB K bIsi (rIsi K) := by
  intro ds vs M H R Q r m h p
  unfold bIsi at h
  split at h
  · rename_i a T
    split at h
    · rename_i xs e0
      split at h
      · rename_i b e
        obtain ⟨v, u, rfl, r1, r2⟩ := rp2 r
        cases r1
        cases r2
        obtain ⟨us, _, eh⟩ := m a xs e0
        exact ⟨_, _, _, _, b, rfl, .ty T, .base (.lst eh), kit_ty e, p _ _ _ _ h m rfl .refl⟩
      · exact h.elim
    · exact h.elim
  · rename_i d T hd
    split at h
    · rename_i b e
      obtain ⟨v, u, rfl, r1, r2⟩ := rp2 r
      cases r2
      obtain ⟨t, ht, hk⟩ := ty_of r1 (fun a z => hd a z) e
      exact ⟨_, _, t, _, b, rfl, .ty T, ht, hk, p _ _ _ _ h m rfl .refl⟩
    · exact h.elim
  · exact h.elim

variable {t : WA} {x : Str} {id T : String} {f : WB} {r : List V → Hp → VK → Prop}
theorem de_b (hc : CallR X (.builtin id) r) (hd : DB X.K f r) (hg : Gl X x) (hm : X.mg x = none) (hv : bootBuiltins x = some (.builtin id)) (ha : DA X (e :: es) t) (hn : x ≠ "__name__" := by decide) (hdb : (x == ("__debug__" : Str)) = false := by decide)
    (he : starEach (e :: es) X.env = (false, eval e X.env) :: starEach es X.env := by rfl) (hpl : (backTo pos (starEach es X.env)).any (·.1) = false := by rfl) : DE X (.Call (.Name x p) (e :: es) [] pos) (wB f t) :=
  pe_w (pe_callB hc hg hm hv ha hn hdb he hpl) fun _ _ _ => b_w hd
theorem de_bt (hc : CallR X (.type T) r) (hd : DB X.K f r) (hg : Gl X x) (hm : X.mg x = none) (hv : bootBuiltins x = some (.type T)) (ha : DA X (e :: es) t) (hn : x ≠ "__name__" := by decide) (hdb : (x == ("__debug__" : Str)) = false := by decide)
    (he : starEach (e :: es) X.env = (false, eval e X.env) :: starEach es X.env := by rfl) (hpl : (backTo pos (starEach es X.env)).any (·.1) = false := by rfl) : DE X (.Call (.Name x p) (e :: es) [] pos) (wB f t) :=
  pe_w (pe_callTy hc hg hm hv ha hn hdb he hpl) fun _ _ _ => b_w hd
theorem de_bm (hc : CallR X (.builtin id) r) (hd : DB X.K f r) (hg : Gl X x) (hm : X.mg x = some (.builtin id)) (ha : DA X (e :: es) t) (hdb : (x == ("__debug__" : Str)) = false := by decide)
    (he : starEach (e :: es) X.env = (false, eval e X.env) :: starEach es X.env := by rfl) (hpl : (backTo pos (starEach es X.env)).any (·.1) = false := by rfl) : DE X (.Call (.Name x p) (e :: es) [] pos) (wB f t) :=
  pe_w (pe_callBfun hc hg hm ha hdb he hpl) fun _ _ _ => b_w hd

/-! ### calls of the text's defs -/
/-- a def's promise, from what its body wants -/
def spD (K : PySem.W.Frag) (n : Nat) (wf : WFn) : Sp := fun vs H Q _ => vs.length = n ∧ ∃ ds M R, RpL K H ds vs ∧ MR K H M ∧ wf ds M R ∧ PostE K H R Q
def wCall (wf : WFn) (t : WA) : WE := fun ρ M R => t ρ M fun ds M1 => wf ds M1 R
/-- f wants n arguments -/
def Arity (n : Nat) (wf : WFn) : Prop := ∀ ds M R, wf ds M R → ds.length = n
variable {CX : CXT} {k n : Nat} {ff : Addr} {fd : FuncData} {ps ks : List Str} {E : XK} {wf : WFn} {wk : WA} {kws : List Keyword}
theorem ep_of {pins : List (Addr × Obj)} {σ : L2.St} {Q : VK} {s : Shared} {args : Args} (h : codeAny (model X.prog X.w) X.A (.call (.ref ff) args) (fun r s' => match r with
      | .ok (.ret u) => EP X pins σ Q u s'
      | .error e => X.xe e s'
      | _ => False) s) : wpAny (model X.prog X.w) X.A (call (.ref ff) args.pos args.kw) (EP X pins σ Q) X.xe s := by
  refine wpAny_call (codeAny_mono h fun r s' got => ?_)
  match r, got with
  | .error e, got => exact got
  | .ok (.ret u), got => exact got
theorem de_call (F : FnG X.prog X.w X.K X.mg X.base CX k ff fd ps (spD X.K n wf)) (ar : Arity n wf) (hr : Room k X.A) (gd : X.A.guards = some []) (hg : Gl X x) (hm : X.mg x = some (.ref ff)) (hk : PySem.W.keepIn X.K (.ref ff) = true) (hb : Binds X.K fd ps []) (hx : Passes CX X E)
    (ha : DA X (e :: es) t) (hdb : (x == ("__debug__" : Str)) = false := by decide) (he : starEach (e :: es) X.env = (false, eval e X.env) :: starEach es X.env := by rfl) (hpl : (backTo pos (starEach es X.env)).any (·.1) = false := by rfl) :
    DE X (.Call (.Name x p) (e :: es) [] pos) (wCall wf t) := by
  refine ⟨fun pins s σ H Q I h => ?_⟩
  obtain ⟨ρ, M, R, er, mr, hw, pp⟩ := h
  refine wpAny_Call_Name_kw (ld_glob I hg hm ?_ hdb)
  refine PySem.W.callWith_K (h₀ := X.base) I.ok.mod.kin hk (thn (ha.run pos pins s σ H (fun vs H1 => ∃ ds M1, RpL X.K H1 ds vs ∧ MR X.K H1 M1 ∧ wf ds M1 R ∧ Ext X.K H H1) I ⟨ρ, M, _, er, mr, hw, fun ds M1 vs H1 h1 m1 r1 x1 => ⟨ds, M1, r1, m1, h1, x1⟩⟩) fun us s1 ⟨vs, H1, I1, rv, ds, M1, r1, m1, h1, x1⟩ => ⟨I1.kIn, ?_⟩) he hpl
  have hs : spD X.K n wf vs H1 Q E := ⟨by rw [← r1.length]; exact ar _ _ _ h1, ds, M1, R, r1, m1, h1, pp.ext x1⟩
  have hl : (us ++ []).length = ps.length := by rw [List.append_nil, ← rv.length]; exact F.len _ _ _ _ hs
  have hb' := hb s1 us I1.kIn hl
  rw [List.append_nil] at hb'
  exact ep_of (args := ⟨us, []⟩) (run_g F hr gd hx hb' I1 rv hs)
abbrev DK' (X : Cx) (kws : List Keyword) (w : WA) := PK X kws (liftA X.K w)
theorem pk_w {t t' : TA} (h : PK X kws t) (i : ∀ σ H Q, t' σ H Q → t σ H Q) : PK X kws t' := ⟨fun pos pins s σ H Q I q => h.run pos pins s σ H Q I (i σ H Q q)⟩
theorem dk_nil : DK' X [] aNil := pk_w pk_nil fun σ H Q ⟨ρ, M, R, er, mr, h, p⟩ => p [] M [] H h mr rpl_nil .refl
theorem dk_cons {nm : Option Str} {kpos : Pos} {w : WE} (he : DE X e w) (hr : DK' X kws wk) : DK' X (⟨nm, e, kpos⟩ :: kws) (aCons w wk) := pk_w (pk_cons he hr) fun _ _ _ => cons_w
/-- how values and data are put in order alike -/
def Puts (fd : FuncData) (ps ks : List Str) (n : Nat) (perm : List Nat) : Prop :=
  ∀ (us ws : List Value), us.length = n → ws.length = ks.length → bindArgs fd ⟨us, ks.zip ws⟩ = pure (ps.zip (perm.filterMap fun i => (us ++ ws)[i]?))
def ordD (perm : List Nat) (ds : List D) : List D := perm.filterMap fun i => ds[i]?
theorem ord_rp {H : Hp} {ds : List D} {vs : List V} (r : RpL K H ds vs) : ∀ perm : List Nat, RpL K H (ordD perm ds) (perm.filterMap fun i => vs[i]?)
  | [] => rpl_nil
  | i :: l => by
    have ih := ord_rp r l
    unfold ordD at ih ⊢
    rw [List.filterMap_cons, List.filterMap_cons]
    cases e : ds[i]? with
    | none =>
      have e2 : vs[i]? = none := by
        rw [List.getElem?_eq_none_iff] at e ⊢
        rw [← r.length]
        exact e
      rw [e2]
      exact ih
    | some d =>
      obtain ⟨v, e2, r2⟩ := r.get e
      rw [e2]
      exact rpl_cons r2 ih
theorem ord_vals {vs : List V} {us : List Value} (r : Vals vs us) : ∀ perm : List Nat, Vals (perm.filterMap fun i => vs[i]?) (perm.filterMap fun i => us[i]?)
  | [] => .nil
  | i :: l => by
    have ih := ord_vals r l
    rw [List.filterMap_cons, List.filterMap_cons]
    cases e : vs[i]? with
    | none =>
      rw [r.none_of e]
      exact ih
    | some d =>
      obtain ⟨v, e2, r2⟩ := r.get e
      rw [e2]
      exact .cons r2 ih
/-- all by keywords -/
def wCallK (m : Nat) (perm : List Nat) (wf : WFn) (wk : WA) : WE := fun ρ M R => wk ρ M fun ds M1 => ds.length = m ∧ wf (ordD perm ds) M1 R
theorem de_callK0 {perm : List Nat} (F : FnG X.prog X.w X.K X.mg X.base CX k ff fd ps (spD X.K n wf)) (ar : Arity n wf) (hr : Room k X.A) (gd : X.A.guards = some []) (hg : Gl X x) (hm : X.mg x = some (.ref ff)) (hk : PySem.W.keepIn X.K (.ref ff) = true) (hb : Puts fd ps ks 0 perm) (hx : Passes CX X E)
    (hkw : DK' X kws wk) (hall : (backToKw pos (keywordEach kws X.env)).all (·.1.isSome) = true := by rfl) (hks : (backToKw pos (keywordEach kws X.env)).filterMap (·.1) = ks := by rfl)
    (hdb : (x == ("__debug__" : Str)) = false := by decide) (hpl : ((backTo pos (starEach [] X.env)).any (·.1) || (backToKw pos (keywordEach kws X.env)).any (·.1.isNone)) = false := by rfl) :
    DE X (.Call (.Name x p) [] kws pos) (wCallK ks.length perm wf wk) := by
  refine ⟨fun pins s σ H Q I h => ?_⟩
  obtain ⟨ρ, M, R, er, mr, hw, pp⟩ := h
  refine wpAny_Call_Name_kw (ld_glob I hg hm ?_ hdb)
  refine PySem.W.callWith_KW0 (h₀ := X.base) I.ok.mod.kin hk hall (thn (hkw.run pos pins s σ H (fun vs H1 => ∃ ds M1, ds.length = ks.length ∧ RpL X.K H1 ds vs ∧ MR X.K H1 M1 ∧ wf (ordD perm ds) M1 R ∧ Ext X.K H H1) I ⟨ρ, M, _, er, mr, hw, fun ds M1 vs H1 h1 m1 r1 x1 => ⟨ds, M1, h1.1, r1, m1, h1.2, x1⟩⟩) fun us s1 ⟨vs, H1, I1, rv, ds, M1, l1, r1, m1, h1, x1⟩ => ⟨I1.kIn, ?_⟩) hpl
  rw [hks]
  have r2 := ord_rp r1 perm
  have rv2 := ord_vals rv perm
  have hs : spD X.K n wf (perm.filterMap fun i => vs[i]?) H1 Q E := ⟨by rw [← r2.length]; exact ar _ _ _ h1, _, M1, R, r2, m1, h1, pp.ext x1⟩
  have hb' : BindsTo s1 fd ⟨[], ks.zip us⟩ (ps.zip (perm.filterMap fun i => us[i]?)) := .of_eq (hb [] us rfl (by rw [← rv.length, ← r1.length]; exact l1))
  exact ep_of (args := ⟨[], ks.zip us⟩) (run_g F hr gd hx hb' I1 rv2 hs)
end
end Zq


set_option Elab.async false
set_option linter.all false
set_option maxRecDepth 100000
namespace Zq
open PySem PySem.Spec PyProof.Rows L2
section
variable {X : Cx} {a b c e : Expr} {es rest : List Expr} {wa wb wc w : WE} {ta tb tc : WT} {pos p : Pos}

/-! ### tests -/
def tAnd' (t u : WT) : WT := fun ρ M R => t ρ M fun k M1 => if k = true then u ρ M1 R else R false M1
def tOr' (t u : WT) : WT := fun ρ M R => t ρ M fun k M1 => if k = true then R true M1 else u ρ M1 R
def tNot' (t : WT) : WT := fun ρ M R => t ρ M fun k M1 => R (!k) M1
theorem dw_and1 (h : DT X a ta) : DW X (.BoolOp .And [a] pos) ta := pw_and1 h
theorem dw_or1 (h : DT X a ta) : DW X (.BoolOp .Or [a] pos) ta := pw_or1 h
theorem and_w {σ : L2.St} {H : Hp} {Q : Bool → Hp → Prop} (q : liftT X.K (tAnd' ta tb) σ H Q) : tAnd (liftT X.K ta) (liftT X.K tb) σ H Q := by
  obtain ⟨ρ, M, R, er, mr, hw, p⟩ := q
  refine ⟨ρ, M, _, er, mr, hw, fun k M1 H1 h1 m1 x1 => ?_⟩
  cases k with
  | true => exact ⟨ρ, M1, R, er.ext x1, m1, h1, p.ext x1⟩
  | false => exact p false M1 H1 h1 m1 x1
theorem or_w {σ : L2.St} {H : Hp} {Q : Bool → Hp → Prop} (q : liftT X.K (tOr' ta tb) σ H Q) : tOr (liftT X.K ta) (liftT X.K tb) σ H Q := by
  obtain ⟨ρ, M, R, er, mr, hw, p⟩ := q
  refine ⟨ρ, M, _, er, mr, hw, fun k M1 H1 h1 m1 x1 => ?_⟩
  cases k with
  | false => exact ⟨ρ, M1, R, er.ext x1, m1, h1, p.ext x1⟩
  | true => exact p true M1 H1 h1 m1 x1
theorem dw_and (ha : DT X a ta) (hb : DW X (.BoolOp .And (b :: rest) pos) tb) : DW X (.BoolOp .And (a :: b :: rest) pos) (tAnd' ta tb) := pw_w (pw_and ha hb) fun _ _ _ => and_w
theorem dw_or (ha : DT X a ta) (hb : DW X (.BoolOp .Or (b :: rest) pos) tb) : DW X (.BoolOp .Or (a :: b :: rest) pos) (tOr' ta tb) := pw_w (pw_or ha hb) fun _ _ _ => or_w
theorem dt_w (h : DW X a ta) : DT X a ta := h.pt
theorem dt_not (h : DT X a ta) : DT X (.UnaryOp .Not a pos) (tNot' ta) := pt_w (pt_not h) fun σ H Q ⟨ρ, M, R, er, mr, hw, p⟩ => ⟨ρ, M, _, er, mr, hw, fun k M1 H1 h1 m1 x1 => p _ M1 H1 h1 m1 x1⟩
/-- .. as values, of True and False -/
def wAnd (a b : WE) : WE := fun ρ M R => a ρ M fun d M1 => match d with
  | .bl true => b ρ M1 R
  | .bl false => R (.bl false) M1
  | _ => False
def wOr (a b : WE) : WE := fun ρ M R => a ρ M fun d M1 => match d with
  | .bl true => R (.bl true) M1
  | .bl false => b ρ M1 R
  | _ => False
def wNot (a : WE) : WE := fun ρ M R => a ρ M fun d M1 => match d with
  | .bl k => R (.bl (!k)) M1
  | _ => False
theorem de_one {op : BoolOp} (h : DE X a wa) : DE X (.BoolOp op [a] pos) wa := pe_one h
theorem de_and (ha : DE X a wa) (hb : DE X (.BoolOp .And (b :: rest) pos) wb) : DE X (.BoolOp .And (a :: b :: rest) pos) (wAnd wa wb) := pe_w (pe_and ha hb) fun σ H Q ⟨ρ, M, R, er, mr, hw, p⟩ => ⟨ρ, M, _, er, mr, hw, fun d M1 v H1 h1 m1 r1 x1 => by
  cases d with
  | bl k =>
    refine ⟨k, r1, ?_⟩
    cases k with
    | true => exact ⟨ρ, M1, R, er.ext x1, m1, h1, p.ext x1⟩
    | false => exact p _ _ _ _ h1 m1 rfl x1
  | _ => exact h1.elim⟩
theorem de_or (ha : DE X a wa) (hb : DE X (.BoolOp .Or (b :: rest) pos) wb) : DE X (.BoolOp .Or (a :: b :: rest) pos) (wOr wa wb) := pe_w (pe_or ha hb) fun σ H Q ⟨ρ, M, R, er, mr, hw, p⟩ => ⟨ρ, M, _, er, mr, hw, fun d M1 v H1 h1 m1 r1 x1 => by
  cases d with
  | bl k =>
    refine ⟨k, r1, ?_⟩
    cases k with
    | false => exact ⟨ρ, M1, R, er.ext x1, m1, h1, p.ext x1⟩
    | true => exact p _ _ _ _ h1 m1 rfl x1
  | _ => exact h1.elim⟩
theorem de_not (ha : DE X a wa) : DE X (.UnaryOp .Not a pos) (wNot wa) := pe_w (pe_not ha) fun σ H Q ⟨ρ, M, R, er, mr, hw, p⟩ => ⟨ρ, M, _, er, mr, hw, fun d M1 v H1 h1 m1 r1 x1 => by
  cases d with
  | bl k => exact ⟨k, r1, p _ _ _ _ h1 m1 rfl x1⟩
  | _ => exact h1.elim⟩
/-- a if t else b -/
def wIf (t : WT) (a b : WE) : WE := fun ρ M R => t ρ M fun k M1 => if k = true then a ρ M1 R else b ρ M1 R
theorem de_if (hc : DT X c tc) (ha : DE X a wa) (hb : DE X b wb) : DE X (.IfExp c a b pos) (wIf tc wa wb) := pe_w (pe_ifExp hc ha hb) fun σ H Q ⟨ρ, M, R, er, mr, hw, p⟩ => ⟨ρ, M, _, er, mr, hw, fun k M1 H1 h1 m1 x1 => by
  cases k with
  | true => exact ⟨ρ, M1, R, er.ext x1, m1, h1, p.ext x1⟩
  | false => exact ⟨ρ, M1, R, er.ext x1, m1, h1, p.ext x1⟩⟩
/-- a < b < c -/
def wChain (f g : WF2) (a b c : WE) : WE := fun ρ M R => a ρ M fun x M1 => b ρ M1 fun y M2 => f x y M2 fun z M3 => match z with
  | .bl true => c ρ M3 fun u M4 => g y u M4 R
  | .bl false => R (.bl false) M3
  | _ => False
theorem chain_w {f g : WF2} {r r' : R2} (hf : DOp X.K f r) (hg : DOp X.K g r') {σ : L2.St} {H : Hp} {Q : VK} (q : liftE X.K (wChain f g wa wb wc) σ H Q) : tChain r r' (liftE X.K wa) (liftE X.K wb) (liftE X.K wc) σ H Q := by
  obtain ⟨ρ, M, R, er, mr, hw, p⟩ := q
  refine ⟨ρ, M, _, er, mr, hw, fun d M1 v H1 h1 m1 r1 x1 => ⟨ρ, M1, _, er.ext x1, m1, h1, fun d2 M2 v2 H2 h2 m2 r2 x2 => ?_⟩⟩
  refine hf d d2 v v2 M2 H2 _ _ (Rp.ext x2 _ r1) r2 m2 h2 fun z M3 u H3 h3 m3 r3 x3 => ?_
  have x03 := x1.trans (x2.trans x3)
  cases z with
  | bl k =>
    refine ⟨k, r3, ?_⟩
    cases k with
    | true => exact ⟨ρ, M3, _, er.ext x03, m3, h3, fun d4 M4 v4 H4 h4 m4 r4 x4 => hg d2 d4 v2 v4 M4 H4 R Q (Rp.ext (x3.trans x4) _ r2) r4 m4 h4 (p.ext (x03.trans x4))⟩
    | false => exact p _ _ _ _ h3 m3 rfl x03
  | _ => exact h3.elim
theorem de_chain {op op' : CmpOp} {f g : WF2} {r r' : R2} (ho : OpR X (compareOp op) r) (ho' : OpR X (compareOp op') r') (hf : DOp X.K f r) (hg : DOp X.K g r') (ha : DE X a wa) (hb : DE X b wb) (hc : DE X c wc)
    (hm : lastMarks [op, op'] [b, c] = false := by with_unfolding_all rfl) : DE X (.Compare a [op, op'] [b, c] pos) (wChain f g wa wb wc) := pe_w (pe_chain ho ho' ha hb hc hm) fun _ _ _ => chain_w hf hg
theorem dt_chain {op op' : CmpOp} {f g : WF2} {r r' : R2} (ho : OpR X (compareOp op) r) (ho' : OpR X (compareOp op') r') (hf : DOp X.K f r) (hg : DOp X.K g r') (ha : DE X a wa) (hb : DE X b wb) (hc : DE X c wc)
    (hm : lastMarks [op, op'] [b, c] = false := by with_unfolding_all rfl) : DT X (.Compare a [op, op'] [b, c] pos) (wTest (wChain f g wa wb wc)) := pt_w (pt_chain ho ho' ha hb hc hm) fun _ _ _ => test_w fun _ _ _ => chain_w hf hg

/-! ### targets -/
def gN (i : Nat) : WG := fun d ρ M R => R (ρ.set i (some d)) M
theorem dg_name {i : Nat} {x : Str} (hN : X.N.Nodup) (hi : X.N[i]? = some x) (hx : Loc X.env.scope x) (hf : X.fn x = true ∨ X.env.scope.names.lookup x = some .local := by first | exact .inl rfl | exact .inr rfl | assumption) : DG X (.Name x pos) (gN i) :=
  pg_w (pg_name hN hi hx hf) fun v σ H Q ⟨d, ρ, M, R, r, er, mr, h, p⟩ => p _ _ _ _ h (er.set i r) mr .refl
def gN0 : WGs := fun ds ρ M R => match ds with
  | [] => R ρ M
  | _ => False
def gNC (g : WG) (gs : WGs) : WGs := fun ds ρ M R => match ds with
  | d :: ds => g d ρ M fun ρ' M' => gs ds ρ' M' R
  | [] => False
def gT (n : Nat) (gs : WGs) : WG := fun d ρ M R => match d with
  | .tup ds => ds.length = n ∧ gs ds ρ M R
  | _ => False
theorem dgs_nil : DGs X [] gN0 := pgs_w pgs_nil fun vs σ H Q ⟨ds, ρ, M, R, r, er, mr, h, p⟩ => by
  unfold gN0 at h
  split at h
  · unfold RpL at r
    exact ⟨r, p _ _ _ _ h er mr .refl⟩
  · exact h.elim
theorem dgs_cons {g : WG} {gs : WGs} (h1 : DG X e g) (h2 : DGs X es gs) (hst : (assignEach (e :: es) X.env).map (·.2) = assign e X.env :: (assignEach es X.env).map (·.2) := by rfl) : DGs X (e :: es) (gNC g gs) := pgs_w (pgs_cons h1 h2 hst) fun vs σ H Q ⟨ds, ρ, M, R, r, er, mr, h, p⟩ => by
  unfold gNC at h
  split at h
  · unfold RpL at r
    obtain ⟨v, vs', rfl, r1, r2⟩ := r
    exact ⟨v, vs', rfl, _, ρ, M, _, r1, er, mr, h, fun ρ' M' σ' H' h' er' mr' x' => ⟨_, ρ', M', R, RpL.ext x' _ r2, er', mr', h', p.ext x'⟩⟩
  · exact h.elim
theorem dg_tup {gs : WGs} {n k : Nat} (hc : X.calm = true) (h : DGs X es gs) (hn : (assignEach es X.env).length = n := by rfl) (hst : (assignEach es X.env).findIdx? (·.1) = none := by rfl) : DG X (.Tuple es k pos) (gT n gs) := pg_w (pg_tup hc h hn hst) fun v σ H Q ⟨d, ρ, M, R, r, er, mr, h, p⟩ => by
  unfold gT at h
  split at h
  · unfold Rp at r
    obtain ⟨a, vs, rfl, sq, r⟩ := r
    exact ⟨a, vs, rfl, sq, by rw [← r.length]; exact h.1, _, ρ, M, R, r, er, mr, h.2, p⟩
  · exact h.elim
def gS (wo wi : WE) : WG := fun d ρ M R => wo ρ M fun o M1 => wi ρ M1 fun i M2 => match o, i with
  | .lst l, .int k => match M2 l with
    | some ds => match ixN ds.length k with
      | some j => R ρ (M2.put l (ds.set j d))
      | none => False
    | none => False
  | _, _ => False
theorem dg_sub (ha : DE X a wa) (hb : DE X b wb)
    (h : ∀ v, assign (.Subscript a b pos) X.env v = (do
      let ov ← holding [v] (eval a X.env)
      let iv ← holding [v, ov] (eval b X.env)
      standAt pos
      holding [v, ov, iv] (setItem ov iv v)
      release [v, ov, iv] []) := by intro _; rfl) : DG X (.Subscript a b pos) (gS wa wb) := pg_w (pg_sub ha hb set_list h) fun v σ H Q ⟨d, ρ, M, R, r, er, mr, h, p⟩ => by
  refine ⟨ρ, M, _, er, mr, h, fun o M1 u H1 h1 m1 r1 x1 => ⟨ρ, M1, _, er.ext x1, m1, h1, fun i M2 u2 H2 h2 m2 r2 x2 => ?_⟩⟩
  split at h2
  · rename_i l k
    split at h2
    · rename_i ds e
      split at h2
      · rename_i j e2
        obtain ⟨vs, q, eh⟩ := m2 _ _ e
        cases r1
        cases r2
        rw [q.length] at e2
        have x3 := x1.trans x2
        have q2 := RpL.set (Rp.ext x3 _ r) j q
        have x4 : Ext X.K H2 (L2.upd H2 l (.lst (vs.set j v))) := .upd (.inr ⟨vs, eh⟩)
        exact ⟨l, vs, k, j, rfl, rfl, eh, e2, p _ _ _ _ h2 (er.ext (x3.trans x4)) (m2.put q2 (.inr ⟨vs, eh⟩)) (x3.trans x4)⟩
      · exact h2.elim
    · exact h2.elim
  · exact h2.elim

/-! ### statements -/
theorem PostN.id {K : PySem.W.Frag} {H : Hp} {R : Env → Mem → Prop} {Q : L2.St → Hp → Prop} (p : PostN K H R Q) : PostN K H R Q := p
def sNil : WS := fun R ρ M => R.nx ρ M
def sCons (s t : WS) : WS := fun R ρ M => s { R with nx := fun ρ' M' => t R ρ' M' } ρ M
variable {st : Stmt} {sts : List Stmt} {s1 s2 : WS}
theorem dss_nil : DSs X [] sNil := pss_w pss_nil fun D σ H ⟨ρ, M, R, er, mr, h, p⟩ => p.nx _ _ _ _ h er mr .refl
theorem dss_cons (h1 : DS X st s1) (h2 : DSs X sts s2) : DSs X (st :: sts) (sCons s1 s2) := pss_w (pss_cons h1 h2) fun D σ H ⟨ρ, M, R, er, mr, h, p⟩ =>
  ⟨ρ, M, _, er, mr, h, ⟨fun ρ' M' σ' H' h' er' mr' x' => ⟨ρ', M', R, er', mr', h', p.ext x'⟩, p.rt, p.bk, p.ct⟩⟩
def sPass : WS := fun R ρ M => R.nx ρ M
def sBrk : WS := fun R ρ M => R.bk ρ M
def sCnt : WS := fun R ρ M => R.ct ρ M
def sNever : WS := fun _ _ _ => False
theorem ds_pass : DS X (.Pass pos) sPass := ps_w ps_pass fun D σ H ⟨ρ, M, R, er, mr, h, p⟩ => p.nx _ _ _ _ h er mr .refl
theorem ds_brk : DS X (.Break pos) sBrk := ps_w ps_break fun D σ H ⟨ρ, M, R, er, mr, h, p⟩ => p.bk _ _ _ _ h er mr .refl
theorem ds_cnt : DS X (.Continue pos) sCnt := ps_w ps_continue fun D σ H ⟨ρ, M, R, er, mr, h, p⟩ => p.ct _ _ _ _ h er mr .refl
theorem ds_never : DS X st sNever := ps_w ps_never fun D σ H ⟨ρ, M, R, er, mr, h, p⟩ => h
def sRet (w : WE) : WS := fun R ρ M => w ρ M R.rt
def sRetN : WS := fun R _ M => R.rt .non M
def sExpr (w : WE) : WS := fun R ρ M => w ρ M fun _ M' => R.nx ρ M'
theorem ds_ret (h : DE X a wa) : DS X (.Return (some a) pos) (sRet wa) := ps_w (ps_ret h) fun D σ H ⟨ρ, M, R, er, mr, h, p⟩ => ⟨ρ, M, R.rt, er, mr, h, p.rt⟩
theorem ds_retN : DS X (.Return none pos) sRetN := ps_w ps_retN fun D σ H ⟨ρ, M, R, er, mr, h, p⟩ => p.rt _ _ _ _ h mr rfl .refl
theorem ds_expr (h : DE X a wa) (hs : swapsWith a none pos.line X.env = pure false := by rfl) : DS X (.Expr a pos) (sExpr wa) := ps_w (ps_expr h hs) fun D σ H ⟨ρ, M, R, er, mr, h, p⟩ => ⟨ρ, M, _, er, mr, h, fun d M1 v H1 h1 m1 r1 x1 => p.nx _ _ _ _ h1 (er.ext x1) m1 x1⟩
def sIf (t : WT) (s1 s2 : WS) : WS := fun R ρ M => t ρ M fun k M1 => if k = true then s1 R ρ M1 else s2 R ρ M1
theorem ds_if {sb : List Stmt} (hc : DT X c tc) (ha : DSs X sts s1) (hb : DSs X sb s2) : DS X (.If c sts sb pos) (sIf tc s1 s2) := ps_w (ps_if hc ha hb) fun D σ H ⟨ρ, M, R, er, mr, h, p⟩ => ⟨ρ, M, _, er, mr, h, fun k M1 H1 h1 m1 x1 => by
  cases k with
  | true => exact ⟨ρ, M1, R, er.ext x1, m1, h1, p.ext x1⟩
  | false => exact ⟨ρ, M1, R, er.ext x1, m1, h1, p.ext x1⟩⟩
def sAsg (w : WE) (g : WG) : WS := fun R ρ M => w ρ M fun d M1 => g d ρ M1 R.nx
theorem asg_w {g : WG} {D : Ends} {σ : L2.St} {H : Hp} (q : liftS X.K (sAsg w g) D σ H) : tAsg (liftE X.K w) (liftG X.K g) D σ H := by
  obtain ⟨ρ, M, R, er, mr, h, p⟩ := q
  exact ⟨ρ, M, _, er, mr, h, fun d M1 v H1 h1 m1 r1 x1 => ⟨d, ρ, M1, R.nx, r1, er.ext x1, m1, h1, p.nx.ext x1⟩⟩
theorem ds_asg {tg : Expr} {g : WG} (he : DE X e w) (hg : DG X tg g) (hs : swapsWithSole [tg] e pos.line X.env = pure false := by rfl) (hw : swappedStores [tg] e X.env = pure none := by rfl)
    (h1 : (assignEach [tg] X.env).map (·.2) = [assign tg X.env] := by rfl) : DS X (.Assign [tg] e pos) (sAsg w g) := ps_w (ps_asg he hg hs hw h1) fun _ _ _ => asg_w
def sSet (i : Nat) (w : WE) : WS := fun R ρ M => w ρ M fun d M1 => R.nx (ρ.set i (some d)) M1
theorem ds_set {i : Nat} {x : Str} {pos' : Pos} (hN : X.N.Nodup) (hi : X.N[i]? = some x) (hx : Loc X.env.scope x) (he : DE X e w) (hs : swapsWith e (some (.Name x pos')) pos.line X.env = pure false := by rfl) (hf : X.fn x = true ∨ X.env.scope.names.lookup x = some .local := by first | exact .inl rfl | exact .inr rfl | assumption) :
    DS X (.Assign [.Name x pos'] e pos) (sSet i w) := ps_w (ps_set hN hi hx he hs hf) fun D σ H ⟨ρ, M, R, er, mr, h, p⟩ => ⟨ρ, M, _, er, mr, h, fun d M1 v H1 h1 m1 r1 x1 => p.nx _ _ _ _ h1 ((er.ext x1).set i r1) m1 x1⟩
def sPar (i j : Nat) (t : WA) : WS := fun R ρ M => t ρ M fun ds M1 => match ds with
  | [x, y] => R.nx ((ρ.set i (some x)).set j (some y)) M1
  | _ => False
def sPar3 (i j l : Nat) (t : WA) : WS := fun R ρ M => t ρ M fun ds M1 => match ds with
  | [x, y, z] => R.nx (((ρ.set i (some x)).set j (some y)).set l (some z)) M1
  | _ => False
variable {t : WA}
theorem ds_par {i j : Nat} {x y : Str} {px py pt : Pos} {kt k2 pt2} (hc : X.calm = true) (hN : X.N.Nodup) (hi : X.N[i]? = some x) (hj : X.N[j]? = some y) (hij : i ≠ j)
    (hx : X.env.scope.names.lookup x = some .local) (hy : X.env.scope.names.lookup y = some .local) (ha : DA X [a, b] t)
    (hw : swappedStores [.Tuple [.Name x px, .Name y py] kt pt] (.Tuple [a, b] k2 pt2) X.env = pure (some [x, y]))
    (hs : swapsWithSole [.Tuple [.Name x px, .Name y py] kt pt] (.Tuple [a, b] k2 pt2) pos.line X.env = pure false := by rfl) :
    DS X (.Assign [.Tuple [.Name x px, .Name y py] kt pt] (.Tuple [a, b] k2 pt2) pos) (sPar i j t) := ps_w (ps_par hc hN hi hj hij hx hy ha hw hs) fun D σ H ⟨ρ, M, R, er, mr, h, p⟩ => ⟨ρ, M, _, er, mr, h, fun ds M1 vs H1 h1 m1 r1 x1 => by
  split at h1
  · obtain ⟨v, u, rfl, r2, r3⟩ := rp2 r1
    exact ⟨v, u, rfl, p.nx _ _ _ _ h1 (((er.ext x1).set i r2).set j r3) m1 x1⟩
  · exact h1.elim⟩
theorem ds_par3 {i j l : Nat} {x y z : Str} {px py pz pt : Pos} {kt k2 pt2} (hc : X.calm = true) (hN : X.N.Nodup) (hi : X.N[i]? = some x) (hj : X.N[j]? = some y) (hl : X.N[l]? = some z) (hij : i ≠ j) (hil : i ≠ l) (hjl : j ≠ l)
    (hx : X.env.scope.names.lookup x = some .local) (hy : X.env.scope.names.lookup y = some .local) (hz : X.env.scope.names.lookup z = some .local) (ha : DA X [a, b, c] t)
    (hw : swappedStores [.Tuple [.Name x px, .Name y py, .Name z pz] kt pt] (.Tuple [a, b, c] k2 pt2) X.env = pure (some [x, y, z]))
    (hs : swapsWithSole [.Tuple [.Name x px, .Name y py, .Name z pz] kt pt] (.Tuple [a, b, c] k2 pt2) pos.line X.env = pure false := by rfl) :
    DS X (.Assign [.Tuple [.Name x px, .Name y py, .Name z pz] kt pt] (.Tuple [a, b, c] k2 pt2) pos) (sPar3 i j l t) := ps_w (ps_par3 hc hN hi hj hl hij hil hjl hx hy hz ha hw hs) fun D σ H ⟨ρ, M, R, er, mr, h, p⟩ => ⟨ρ, M, _, er, mr, h, fun ds M1 vs H1 h1 m1 r1 x1 => by
  split at h1
  · obtain ⟨v, u, y, rfl, r2, r3, r4⟩ := rp3 r1
    exact ⟨v, u, y, rfl, p.nx _ _ _ _ h1 ((((er.ext x1).set i r2).set j r3).set l r4) m1 x1⟩
  · exact h1.elim⟩
def sAug (i : Nat) (f : WF2) (w : WE) : WS := fun R ρ M => match ρ[i]? with
  | some (some x) => w ρ M fun y M1 => f x y M1 fun z M2 => R.nx (ρ.set i (some z)) M2
  | _ => False
theorem ds_aug {i : Nat} {x : Str} {op : Operator} {f : WF2} {r : R2} {pos' : Pos} (hN : X.N.Nodup) (hi : X.N[i]? = some x) (hx : Loc X.env.scope x) (he : DE X e w) (ho : PIp X op r) (hd : DOp X.K f r) (hf : X.fn x = true ∨ X.env.scope.names.lookup x = some .local := by first | exact .inl rfl | exact .inr rfl | assumption) :
    DS X (.AugAssign (.Name x pos') op e pos) (sAug i f w) := ps_w (ps_aug hN hi hx he ho hf) fun D σ H ⟨ρ, M, R, er, mr, h, p⟩ => by
  unfold sAug at h
  split at h
  · rename_i d e
    obtain ⟨v, e1, r1⟩ := er.at_ i d e
    refine ⟨v, e1, ρ, M, _, er, mr, h, fun y M1 u H1 h1 m1 r2 x1 => ?_⟩
    exact hd d y v u M1 H1 _ _ (Rp.ext x1 _ r1) r2 m1 h1 fun z M2 v2 H2 h2 m2 r3 x2 => p.nx _ _ _ _ h2 ((er.ext (x1.trans x2)).set i r3) m2 (x1.trans x2)
  · exact h.elim
end
end Zq


set_option Elab.async false
set_option linter.all false
set_option maxRecDepth 100000
namespace Zq
open PySem PySem.Spec PyProof.Rows L2
section
variable {X : Cx} {a b c e tg iter : Expr} {es rest : List Expr} {wa wb wc w : WE} {ta tb tc : WT} {pos p : Pos} {sts : List Stmt} {s1 s2 : WS} {K : PySem.W.Frag}

/-! ### while -/
def sWhile (t : WT) (b : WS) : WS := fun R ρ M => ∃ W : Nat → Env → Mem → Prop, (∃ m, W m ρ M) ∧ ∀ m ρ M, W m ρ M →
  t ρ M fun k M1 => if k = true then b { R with nx := fun ρ' M' => ∃ m', m' < m ∧ W m' ρ' M', ct := fun ρ' M' => ∃ m', m' < m ∧ W m' ρ' M', bk := R.nx } ρ M1 else R.nx ρ M1
theorem ds_while (hp : PassesOwn (model X.prog X.w) X.A X.env X.xe) (hc : DT X c tc) (hb : DSs X sts s1) : DS X (.While c sts [] pos) (sWhile tc s1) := ps_w (ps_while hp hc hb) fun D σ H ⟨ρ, M, R, er, mr, h, p⟩ => by
  obtain ⟨W, ⟨m0, h0⟩, hs⟩ := h
  refine ⟨fun m σ' H' => ∃ ρ' M', ER X.K H' ρ' σ' ∧ MR X.K H' M' ∧ Ext X.K H H' ∧ W m ρ' M', ⟨m0, ρ, M, er, mr, .refl, h0⟩, fun m σ1 H1 ⟨ρ1, M1, er1, mr1, x1, w1⟩ => ?_⟩
  refine ⟨ρ1, M1, _, er1, mr1, hs m ρ1 M1 w1, fun k M2 H2 h2 m2 x2 => ?_⟩
  cases k with
  | false => exact p.nx _ _ _ _ h2 (er1.ext x2) m2 (x1.trans x2)
  | true =>
    have again : PostN X.K H2 (fun ρ' M' => ∃ m', m' < m ∧ W m' ρ' M') (fun σ' H' => ∃ m', m' < m ∧ ∃ ρ' M', ER X.K H' ρ' σ' ∧ MR X.K H' M' ∧ Ext X.K H H' ∧ W m' ρ' M') :=
      fun ρ' M' σ' H' ⟨m', l, w'⟩ er' mr' x' => ⟨m', l, ρ', M', er', mr', x1.trans (x2.trans x'), w'⟩
    have px := p.ext (x1.trans x2)
    exact ⟨fun σ' H' => ∃ m', m' < m ∧ ∃ ρ' M', ER X.K H' ρ' σ' ∧ MR X.K H' M' ∧ Ext X.K H H' ∧ W m' ρ' M', fun σ' H' q => q, ρ1, M2, _, er1.ext x2, m2, h2, ⟨again, px.rt, px.nx, again⟩⟩

/-! ### what is walked -/
/-- the items as they stand -/
def Stands (src : Option Addr) (ds : List D) (M : Mem) : Prop := match src with
  | some a => M a = some ds
  | none => True
structure ItRel (K : PySem.W.Frag) (H0 : Hp) (J : It) (src : Option Addr) (ds : List D) : Prop where
  go : ∀ i H M, Ext K H0 H → MR K H M → Stands src ds M → i < ds.length → J.go i H
  yld : ∀ i x H H' M d, Ext K H0 H → MR K H M → Stands src ds M → ds[i]? = some d → J.yld i H x H' → (MR K H' M ∧ Ext K H H') ∧ Rp K H' d x
  stop : ∀ i H M, Ext K H0 H → MR K H M → Stands src ds M → ds.length ≤ i → J.stop i H
def liftI (K : PySem.W.Frag) (wi : WI) : TI := fun σ H R => ∃ ρ M Rd, ER K H ρ σ ∧ MR K H M ∧ wi ρ M Rd ∧ ∀ src ds M' H' J, Rd src ds M' → MR K H' M' → Stands src ds M' → Ext K H H' → ItRel K H' J src ds → R J H'
abbrev DI (X : Cx) (tg iter : Expr) (wi : WI) := PI X tg iter (liftI X.K wi)
theorem pi_w {t t' : TI} (h : PI X tg iter t) (i : ∀ σ H Q, t' σ H Q → t σ H Q) : PI X tg iter t' := ⟨fun pins s σ H Q I q => h.run pins s σ H Q I (i σ H Q q)⟩
def iL (w : WE) : WI := fun ρ M R => w ρ M fun d M1 => match d with
  | .lst a => match M1 a with
    | some ds => R (some a) ds M1
    | none => False
  | .ro ds => R none ds M1
  | _ => False
def iT (w : WE) : WI := fun ρ M R => w ρ M fun d M1 => match d with
  | .tup ds => R none ds M1
  | _ => False
def rangeD (lo : Int) (n : Nat) : List D := (List.range n).map fun (i : Nat) => D.int (lo + (i : Int))
def iR1 (t : WA) : WI := fun ρ M R => t ρ M fun ds M1 => match ds with
  | [.int j] => -(2 ^ 62) ≤ j ∧ j < 2 ^ 62 ∧ R none (rangeD 0 j.toNat) M1
  | _ => False
def iR2 (t : WA) : WI := fun ρ M R => t ρ M fun ds M1 => match ds with
  | [.int i, .int j] => (-(2 ^ 62) ≤ i ∧ i < 2 ^ 62 ∧ -(2 ^ 62) ≤ j ∧ j < 2 ^ 62) ∧ R none (rangeD i (j - i).toNat) M1
  | _ => False
theorem get_rp {H : Hp} {ds : List D} {vs : List V} {i : Nat} {d : D} {x : V} (r : RpL K H ds vs) (e : ds[i]? = some d) (e2 : vs[i]? = some x) : Rp K H d x := by
  obtain ⟨v, e3, q⟩ := r.get e
  rw [e3] at e2
  cases e2
  exact q
theorem itrel_list {H0 : Hp} {l : Addr} {ds : List D} : ItRel K H0 (Itl K l) (some l) ds where
  go := fun i H M x m st hi => by
    obtain ⟨vs, r, eh⟩ := m l ds st
    rw [r.length] at hi
    exact ⟨vs, vs[i], SqL.of eh, List.getElem?_eq_getElem hi⟩
  yld := fun i x H H' M d _ m st e ⟨e1, y⟩ => by
    subst e1
    obtain ⟨vs, r, eh⟩ := m l ds st
    exact ⟨⟨m, .refl⟩, get_rp r e (y vs (SqL.of eh))⟩
  stop := fun i H M x m st hi => by
    obtain ⟨vs, r, eh⟩ := m l ds st
    exact ⟨vs, SqL.of eh, by rw [← r.length]; exact hi⟩
theorem itrel_ro {H0 : Hp} {l : Addr} {ds : List D} {vs : List V} (h : RoL K H0 l vs) (r : RpL K H0 ds vs) : ItRel K H0 (Itl K l) none ds where
  go := fun i H M x m st hi => by
    rw [r.length] at hi
    exact ⟨vs, vs[i], (x.ro _ _ h).sq, List.getElem?_eq_getElem hi⟩
  yld := fun i y H H' M d x m st e ⟨e1, yy⟩ => by
    subst e1
    exact ⟨⟨m, .refl⟩, get_rp (RpL.ext x _ r) e (yy vs (x.ro _ _ h).sq)⟩
  stop := fun i H M x m st hi => ⟨vs, (x.ro _ _ h).sq, by rw [← r.length]; exact hi⟩
theorem itrel_tup {H0 : Hp} {l : Addr} {ds : List D} {vs : List V} (h : SqT K H0 l vs) (r : RpL K H0 ds vs) : ItRel K H0 (Itt K l) none ds where
  go := fun i H M x m st hi => by
    rw [r.length] at hi
    exact ⟨vs, vs[i], x.tu _ _ h, List.getElem?_eq_getElem hi⟩
  yld := fun i y H H' M d x m st e ⟨e1, yy⟩ => by
    subst e1
    exact ⟨⟨m, .refl⟩, get_rp (RpL.ext x _ r) e (yy vs (x.tu _ _ h))⟩
  stop := fun i H M x m st hi => ⟨vs, x.tu _ _ h, by rw [← r.length]; exact hi⟩
theorem rangeD_length (lo : Int) (n : Nat) : (rangeD lo n).length = n := by
  unfold rangeD
  rw [List.length_map, List.length_range]
theorem itrel_range {H0 : Hp} {lo : Int} {n : Nat} : ItRel K H0 (Itr lo n) none (rangeD lo n) where
  go := fun i H M x m st hi => by
    rw [rangeD_length] at hi
    exact hi
  yld := fun i y H H' M d x m st e ⟨e1, yy⟩ => by
    subst e1
    refine ⟨⟨m, .refl⟩, ?_⟩
    unfold rangeD at e
    rw [List.getElem?_map] at e
    cases q : (List.range n)[i]? with
    | none => rw [q] at e; cases e
    | some j =>
      rw [q] at e
      have hj : j = i := by
        obtain ⟨h1, h2⟩ := List.getElem?_eq_some_iff.mp q
        rw [List.getElem_range] at h2
        exact h2.symm
      subst hj
      cases e
      exact yy
  stop := fun i H M x m st hi => by
    rw [rangeD_length] at hi
    exact hi
theorem di_list (h : DE X a wa) : DI X tg a (iL wa) := pi_w (pi_list h) fun σ H Q ⟨ρ, M, R, er, mr, hw, p⟩ => ⟨ρ, M, _, er, mr, hw, fun d M1 v H1 h1 m1 r1 x1 => by
  split at h1
  · rename_i l
    split at h1
    · rename_i ds e
      cases r1
      obtain ⟨vs, r, eh⟩ := m1 l ds e
      exact ⟨l, rfl, ⟨vs, SqL.of eh⟩, p (some l) ds M1 H1 _ h1 m1 e x1 itrel_list⟩
    · exact h1.elim
  · rename_i ds
    unfold Rp at r1
    obtain ⟨l, vs, rfl, sq, r⟩ := r1
    exact ⟨l, rfl, ⟨vs, sq.sq⟩, p none ds M1 H1 _ h1 m1 trivial x1 (itrel_ro sq r)⟩
  · exact h1.elim⟩
theorem di_tup (h : DE X a wa) : DI X tg a (iT wa) := pi_w (pi_tup h) fun σ H Q ⟨ρ, M, R, er, mr, hw, p⟩ => ⟨ρ, M, _, er, mr, hw, fun d M1 v H1 h1 m1 r1 x1 => by
  split at h1
  · rename_i ds
    unfold Rp at r1
    obtain ⟨l, vs, rfl, sq, r⟩ := r1
    exact ⟨l, rfl, ⟨vs, sq⟩, p none ds M1 H1 _ h1 m1 trivial x1 (itrel_tup sq r)⟩
  · exact h1.elim⟩
variable {t : WA}
theorem di_range1 {px : Pos} (hg : Gl X "range") (hm : X.mg "range" = none) (ha : DA X [a] t) (hs : starEach [a] X.env = [(false, eval a X.env)] := by rfl) : DI X tg (.Call (.Name "range" px) [a] [] pos) (iR1 t) := pi_w (pi_range1 hg hm ha hs) fun σ H Q ⟨ρ, M, R, er, mr, hw, p⟩ => ⟨ρ, M, _, er, mr, hw, fun ds M1 vs H1 h1 m1 r1 x1 => by
  split at h1
  · obtain ⟨v, rfl, r2⟩ := rp1 r1
    cases r2
    exact ⟨_, rfl, h1.1, h1.2.1, p none _ M1 H1 _ h1.2.2 m1 trivial x1 itrel_range⟩
  · exact h1.elim⟩
theorem di_range2 {px : Pos} (hg : Gl X "range") (hm : X.mg "range" = none) (ha : DA X [a, b] t) (hs : starEach [a, b] X.env = [(false, eval a X.env), (false, eval b X.env)] := by rfl) (hs2 : starEach [b] X.env = [(false, eval b X.env)] := by rfl) : DI X tg (.Call (.Name "range" px) [a, b] [] pos) (iR2 t) := pi_w (pi_range2 hg hm ha hs hs2) fun σ H Q ⟨ρ, M, R, er, mr, hw, p⟩ => ⟨ρ, M, _, er, mr, hw, fun ds M1 vs H1 h1 m1 r1 x1 => by
  split at h1
  · obtain ⟨v, u, rfl, r2, r3⟩ := rp2 r1
    cases r2
    cases r3
    exact ⟨_, _, rfl, h1.1, p none _ M1 H1 _ h1.2 m1 trivial x1 itrel_range⟩
  · exact h1.elim⟩

/-! ### for -/
def forGo (src : Option Addr) (all : List D) (g : WG) (b : WS) (R : WEnds) : List D → Env → Mem → Prop
  | [], ρ, M => Stands src all M ∧ R.nx ρ M
  | d :: ds, ρ, M => Stands src all M ∧ g d ρ M fun ρ' M' => b { R with nx := forGo src all g b R ds, ct := forGo src all g b R ds, bk := R.nx } ρ' M'
def sFor (wi : WI) (g : WG) (b : WS) : WS := fun R ρ M => wi ρ M fun src ds M1 => forGo src ds g b R ds ρ M1
theorem ds_for {wi : WI} {g : WG} (hp : PassesOwn (model X.prog X.w) X.A X.env X.xe) (hc : X.calm = true) (hi : DI X tg iter wi) (hg : DG X tg g) (hb : DSs X sts s1)
    (hs : ∀ x, foldedSetIterable iter X.env x = pure x := by intro _; rfl) : DS X (.For tg iter sts [] pos) (sFor wi g s1) := ps_w (ps_for hp hc hi hg hb hs) fun Dn σ H ⟨ρ, M, R, er, mr, h, p⟩ => by
  refine ⟨ρ, M, _, er, mr, h, fun src ds M1 H1 J h1 m1 st1 x1 jr => ?_⟩
  refine ⟨fun i m σ' H' => m = ds.length - i ∧ i ≤ ds.length ∧ ∃ ρ' M', ER X.K H' ρ' σ' ∧ MR X.K H' M' ∧ Ext X.K H1 H' ∧ forGo src ds g s1 R (ds.drop i) ρ' M', ⟨ds.length, by simp, Nat.zero_le _, ρ, M1, er.ext x1, m1, .refl, h1⟩, ?_⟩
  rintro i m σ2 H2 ⟨rfl, hi, ρ2, M2, er2, mr2, x2, w2⟩
  by_cases hlt : i < ds.length
  · rw [List.drop_eq_getElem_cons hlt] at w2
    obtain ⟨st2, w2⟩ := w2
    refine .inr ⟨jr.go i H2 M2 x2 mr2 st2 hlt, fun σ' H' => ∃ ρ' M', ER X.K H' ρ' σ' ∧ MR X.K H' M' ∧ Ext X.K H1 H' ∧ forGo src ds g s1 R (ds.drop (i + 1)) ρ' M', fun σ' H' q => ⟨ds.length - (i + 1), by omega, rfl, hlt, q⟩, fun x H3 y => ?_⟩
    obtain ⟨⟨mr3, x23⟩, rx⟩ := jr.yld i x H2 H3 M2 ds[i] x2 mr2 st2 (List.getElem?_eq_getElem hlt) y
    refine ⟨ds[i], ρ2, M2, _, rx, er2.ext x23, mr3, w2, fun ρ4 M4 σ4 H4 w4 er4 mr4 x34 => ?_⟩
    have x4 := x23.trans x34
    have again : PostN X.K H4 (forGo src ds g s1 R (ds.drop (i + 1))) (fun σ' H' => ∃ ρ' M', ER X.K H' ρ' σ' ∧ MR X.K H' M' ∧ Ext X.K H1 H' ∧ forGo src ds g s1 R (ds.drop (i + 1)) ρ' M') :=
      fun ρ' M' σ' H' w' er' mr' x' => ⟨ρ', M', er', mr', x2.trans (x4.trans x'), w'⟩
    have px := p.ext (x1.trans (x2.trans x4))
    exact ⟨ρ4, M4, _, er4, mr4, w4, ⟨again, px.rt, px.nx, again⟩⟩
  · have e : i = ds.length := by omega
    subst e
    rw [List.drop_length] at w2
    exact .inl ⟨jr.stop _ H2 M2 x2 mr2 w2.1 (Nat.le_refl _), p.nx _ _ _ _ w2.2 er2 mr2 (x1.trans x2)⟩

/-! ### comprehensions -/
/-- targets that store in own slots alone -/
def liftGo (K : PySem.W.Frag) (own : List Nat) (g : WG) : TG := fun v σ H Q => ∃ d ρ M R, Rp K H d v ∧ ER K H ρ σ ∧ MR K H M ∧ g d ρ M R ∧ ∀ ρ' M' σ' H', R ρ' M' → ER K H' ρ' σ' → MR K H' M' → Ext K H H' → wipe σ' own = wipe σ own → Q σ' H'
def liftGso (K : PySem.W.Frag) (own : List Nat) (g : WGs) : TGs := fun vs σ H Q => ∃ ds ρ M R, RpL K H ds vs ∧ ER K H ρ σ ∧ MR K H M ∧ g ds ρ M R ∧ ∀ ρ' M' σ' H', R ρ' M' → ER K H' ρ' σ' → MR K H' M' → Ext K H H' → wipe σ' own = wipe σ own → Q σ' H'
theorem wipe_get (σ : L2.St) : ∀ (own : List Nat) (i : Nat), (wipe σ own)[i]? = if i ∈ own ∧ i < σ.length then some none else σ[i]?
  | [], i => by simp [wipe]
  | v :: vs, i => by
    unfold wipe
    by_cases h : v = i
    · subst h
      by_cases hl : v < σ.length
      · rw [List.getElem?_set_self (by rw [wipe_length]; exact hl), if_pos ⟨List.mem_cons_self .., hl⟩]
      · rw [List.getElem?_eq_none (by rw [List.length_set, wipe_length]; omega), if_neg (fun z => hl z.2), List.getElem?_eq_none (by omega)]
    · rw [List.getElem?_set_ne h, wipe_get σ vs i]
      have : (i ∈ v :: vs) = (i ∈ vs) := by
        rw [List.mem_cons]
        exact propext ⟨fun q => q.resolve_left (fun z => h z.symm), .inr⟩
      simp only [this]
theorem wipe_set {σ : L2.St} {own : List Nat} {i : Nat} {x : Option V} (h : i ∈ own) : wipe (σ.set i x) own = wipe σ own := by
  apply List.ext_getElem?
  intro j
  rw [wipe_get, wipe_get, List.length_set]
  by_cases e : i = j
  · subst e
    by_cases hl : i < σ.length
    · rw [if_pos ⟨h, hl⟩, if_pos ⟨h, hl⟩]
    · rw [if_neg (fun z => hl z.2), if_neg (fun z => hl z.2), List.getElem?_eq_none (by rw [List.length_set]; omega), List.getElem?_eq_none (by omega)]
  · rw [List.getElem?_set_ne e]
theorem dgo_name {own : List Nat} {i : Nat} {x : Str} (ho : i ∈ own) (hN : X.N.Nodup) (hi : X.N[i]? = some x) (hx : Loc X.env.scope x) (hf : X.fn x = true ∨ X.env.scope.names.lookup x = some .local := by first | exact .inl rfl | exact .inr rfl | assumption) : PG X (.Name x pos) (liftGo X.K own (gN i)) :=
  pg_w (pg_name hN hi hx hf) fun v σ H Q ⟨d, ρ, M, R, r, er, mr, h, p⟩ => p _ _ _ _ h (er.set i r) mr .refl (wipe_set ho)
theorem dgso_nil {own : List Nat} : PGs X [] (liftGso X.K own gN0) := pgs_w pgs_nil fun vs σ H Q ⟨ds, ρ, M, R, r, er, mr, h, p⟩ => by
  unfold gN0 at h
  split at h
  · unfold RpL at r
    exact ⟨r, p _ _ _ _ h er mr .refl rfl⟩
  · exact h.elim
theorem dgso_cons {own : List Nat} {g : WG} {gs : WGs} (h1 : PG X e (liftGo X.K own g)) (h2 : PGs X es (liftGso X.K own gs)) (hst : (assignEach (e :: es) X.env).map (·.2) = assign e X.env :: (assignEach es X.env).map (·.2) := by rfl) : PGs X (e :: es) (liftGso X.K own (gNC g gs)) := pgs_w (pgs_cons h1 h2 hst) fun vs σ H Q ⟨ds, ρ, M, R, r, er, mr, h, p⟩ => by
  unfold gNC at h
  split at h
  · unfold RpL at r
    obtain ⟨v, vs', rfl, r1, r2⟩ := r
    exact ⟨v, vs', rfl, _, ρ, M, _, r1, er, mr, h, fun ρ' M' σ' H' h' er' mr' x' w' => ⟨_, ρ', M', R, RpL.ext x' _ r2, er', mr', h', fun ρ2 M2 σ2 H2 h2 er2 mr2 x2 w2 => p _ _ _ _ h2 er2 mr2 (x'.trans x2) (w2.trans w')⟩⟩
  · exact h.elim
theorem dgo_tup {own : List Nat} {gs : WGs} {n k : Nat} (hc : X.calm = true) (h : PGs X es (liftGso X.K own gs)) (hn : (assignEach es X.env).length = n := by rfl) (hst : (assignEach es X.env).findIdx? (·.1) = none := by rfl) : PG X (.Tuple es k pos) (liftGo X.K own (gT n gs)) := pg_w (pg_tup hc h hn hst) fun v σ H Q ⟨d, ρ, M, R, r, er, mr, h, p⟩ => by
  unfold gT at h
  split at h
  · unfold Rp at r
    obtain ⟨a, vs, rfl, sq, r⟩ := r
    exact ⟨a, vs, rfl, sq, by rw [← r.length]; exact h.1, _, ρ, M, R, r, er, mr, h.2, p⟩
  · exact h.elim
def wipeD (ρ : Env) : List Nat → Env
  | [] => ρ
  | v :: vs => (wipeD ρ vs).set v none
theorem wipeD_len (ρ : Env) : ∀ own, (wipeD ρ own).length = ρ.length
  | [] => rfl
  | v :: vs => by unfold wipeD; rw [List.length_set, wipeD_len ρ vs]
theorem er_none {H : Hp} {ρ : Env} {σ : L2.St} (e : ER K H ρ σ) (i : Nat) : ER K H (ρ.set i none) (σ.set i none) := by
  refine ⟨by simp [e.len], fun j d h => ?_⟩
  by_cases hj : i = j
  · subst hj
    by_cases hl : i < ρ.length
    · rw [List.getElem?_set_self hl] at h
      cases h
    · rw [List.getElem?_eq_none (by rw [List.length_set]; omega)] at h
      cases h
  · rw [List.getElem?_set_ne hj] at h ⊢
    exact e.at_ j d h
theorem er_wipe {H : Hp} {ρ : Env} {σ : L2.St} (e : ER K H ρ σ) : ∀ own : List Nat, ER K H (wipeD ρ own) (wipe σ own)
  | [] => e
  | v :: vs => er_none (er_wipe e vs) v
def lcGo (src : Option Addr) (all : List D) (g : WG) (t : WT) (w : WE) (ρ : Env) (Da : Addr) (R : DK) : List D → Mem → Prop
  | [], M => Stands src all M ∧ R (.lst Da) M
  | d :: ds, M => Stands src all M ∧ g d ρ M fun ρ2 M2 => t ρ2 M2 fun k M3 => if k = true then w ρ2 M3 fun y M4 => match M4 Da with
    | some acc => acc.length ≤ 1000 ∧ lcGo src all g t w ρ Da R ds (M4.put Da (acc ++ [y]))
    | none => False
    else lcGo src all g t w ρ Da R ds M3
def wLc (wi : WI) (g : WG) (t : WT) (w : WE) (own : List Nat) : WE := fun ρ M R => wi ρ M fun src ds M1 => ∀ Da, M1 Da = none → lcGo src ds g t w (wipeD ρ own) Da R ds (M1.put Da [])
theorem lc_w {wi : WI} {g : WG} {t : WT} {w : WE} {own : List Nat} {σ : L2.St} {H : Hp} {Q : VK} (q : liftE K (wLc wi g t w own) σ H Q) : tLc (liftI K wi) (liftGo K own g) (liftT K t) (liftE K w) own σ H Q := by
  obtain ⟨ρ, M, R, er, mr, h, p⟩ := q
  refine ⟨ρ, M, _, er, mr, h, fun src ds M1 H1 J h1 m1 st1 x1 jr Da hD => ?_⟩
  have h2 := h1 Da (m1.free hD)
  have m2 : MR K (L2.upd H1 Da (.lst [])) (M1.put Da []) := m1.put rpl_nil (.inl hD)
  have x2 : Ext K H1 (L2.upd H1 Da (.lst [])) := .upd (.inl hD)
  refine ⟨fun i m H' => m = ds.length - i ∧ i ≤ ds.length ∧ ∃ M', MR K H' M' ∧ Ext K H1 H' ∧ lcGo src ds g t w (wipeD ρ own) Da R (ds.drop i) M', ⟨ds.length, by simp, Nat.zero_le _, _, m2, x2, h2⟩, ?_⟩
  rintro i m H3 ⟨rfl, hi, M3, m3, x3, w3⟩
  by_cases hlt : i < ds.length
  · rw [List.drop_eq_getElem_cons hlt] at w3
    obtain ⟨st3, w3⟩ := w3
    refine .inr ⟨jr.go i H3 M3 x3 m3 st3 hlt, fun H' => ∃ M', MR K H' M' ∧ Ext K H1 H' ∧ lcGo src ds g t w (wipeD ρ own) Da R (ds.drop (i + 1)) M', fun H' q => ⟨ds.length - (i + 1), by omega, rfl, hlt, q⟩, fun x H4 y => ?_⟩
    obtain ⟨⟨m4, x34⟩, rx⟩ := jr.yld i x H3 H4 M3 ds[i] x3 m3 st3 (List.getElem?_eq_getElem hlt) y
    have er3 := er_wipe (er.ext (x1.trans (x3.trans x34))) own
    refine ⟨ds[i], wipeD ρ own, M3, _, rx, er3, m4, w3, fun ρ5 M5 σ5 H5 w5 er5 m5 x45 wi5 => ⟨?_, ρ5, M5, _, er5, m5, w5, fun k M6 H6 w6 m6 x6 => ?_⟩⟩
    · rw [wi5]
      apply List.ext_getElem?
      intro j
      rw [wipe_get, wipe_length]
      split
      · rename_i hj
        rw [wipe_get, if_pos hj]
      · rfl
    · cases k with
      | false =>
        exact ⟨M6, m6, x3.trans ((x34.trans x45).trans x6), w6⟩
      | true =>
        refine ⟨ρ5, M6, _, er5.ext x6, m6, w6, fun z M7 v H7 w7 m7 r7 x7 => ?_⟩
        split at w7
        · rename_i acc e7
          obtain ⟨vs, ra, eh⟩ := m7 Da acc e7
          refine ⟨vs, eh, ?_, M7.put Da (acc ++ [z]), m7.put (ra.append (rpl_cons r7 rpl_nil)) (.inr ⟨vs, eh⟩), x3.trans ((x34.trans x45).trans (x6.trans (x7.trans (.upd (.inr ⟨vs, eh⟩))))), w7.2⟩
          rw [← ra.length]
          exact Nat.lt_of_le_of_lt w7.1 (by decide)
        · exact w7.elim
  · have e : i = ds.length := by omega
    subst e
    rw [List.drop_length] at w3
    exact .inl ⟨jr.stop _ H3 M3 x3 m3 w3.1 (Nat.le_refl _), p _ _ _ _ w3.2 m3 rfl (x1.trans x3)⟩
def tYes' : WT := fun _ M R => R true M
theorem dts_nil : PTs X [] (liftT X.K tYes') := ⟨fun pins s σ H Q I ⟨ρ, M, R, er, mr, h, p⟩ => wpAny_tests_nil ⟨H, I, p true M H h mr .refl⟩⟩
theorem dts_one (h : DT X c tc) : PTs X [c] (liftT X.K tc) := pts_one h
theorem de_lc {ifs : List Expr} {scope : Scope} {own : List (Str × Nat)} {wi : WI} {g : WG} {t : WT} {elt : Expr} (hc : X.calm = true) (hN : X.N.Nodup) (hi : DI X tg iter wi) (ok : BlkOk X.N X.env.scope scope own)
    (hg : ∀ (s : Shared) (H : Hp) (C : Addr) (cl : List (Str × Addr)) (fp : List Addr), PG (X.blk s H scope (compEnvC scope cl C X.env) fp) tg (liftGo X.K (own.map (·.2)) g)) (ht : ∀ (s : Shared) (H : Hp) (C : Addr) (cl : List (Str × Addr)) (fp : List Addr), PTs (X.blk s H scope (compEnvC scope cl C X.env) fp) ifs (liftT X.K t))
    (he : ∀ (s : Shared) (H : Hp) (C : Addr) (cl : List (Str × Addr)) (fp : List Addr), PE (X.blk s H scope (compEnvC scope cl C X.env) fp) elt (liftE X.K w)) (hs : ∀ x, foldedSetIterable iter X.env x = pure x := by intro _; rfl) :
    DE X (.ListComp elt [⟨tg, iter, ifs, 0⟩] scope pos) (wLc wi g t w (own.map (·.2))) := pe_w (pe_lc hc hN hi ok hg ht he hs) fun _ _ _ q => lc_w q
/-- y = [..] -/
theorem ds_setLc {i : Nat} {y : Str} {py spos : Pos} {ifs : List Expr} {scope : Scope} {own : List (Str × Nat)} {wi : WI} {g : WG} {t : WT} {elt : Expr} (hc : X.calm = true) (hN : X.N.Nodup) (hy : X.N[i]? = some y) (hyl : X.env.scope.names.lookup y = some .local)
    (hsw : swapsWith (.ListComp elt [⟨tg, iter, ifs, 0⟩] scope pos) (some (.Name y py)) spos.line X.env = pure true) (hi : DI X tg iter wi) (ok : BlkOk X.N X.env.scope scope own)
    (hg : ∀ (s : Shared) (H : Hp) (C : Addr) (cl : List (Str × Addr)) (fp : List Addr), PG (X.blk s H scope (compEnvC scope cl C X.env) fp) tg (liftGo X.K (own.map (·.2)) g)) (ht : ∀ (s : Shared) (H : Hp) (C : Addr) (cl : List (Str × Addr)) (fp : List Addr), PTs (X.blk s H scope (compEnvC scope cl C X.env) fp) ifs (liftT X.K t))
    (he : ∀ (s : Shared) (H : Hp) (C : Addr) (cl : List (Str × Addr)) (fp : List Addr), PE (X.blk s H scope (compEnvC scope cl C X.env) fp) elt (liftE X.K w)) (hs : ∀ x, foldedSetIterable iter X.env x = pure x := by intro _; rfl) :
    DS X (.Assign [.Name y py] (.ListComp elt [⟨tg, iter, ifs, 0⟩] scope pos) spos) (sSet i (wLc wi g t w (own.map (·.2)))) := ps_w (ps_setLc hc hN hy hyl hsw hi ok hg ht he hs) fun D σ H ⟨ρ, M, R, er, mr, h, p⟩ => by
  refine lc_w ⟨ρ, M, _, er, mr, h, fun d M1 v H1 h1 m1 r1 x1 => ?_⟩
  exact p.nx _ _ _ _ h1 ((er.ext x1).set i r1) m1 x1
end
end Zq


set_option Elab.async false
set_option linter.all false
set_option maxRecDepth 100000
namespace Zq
open PySem PySem.Spec PyProof.Rows L2

/-! ### a def's body -/
def wBody (n extra : Nat) (w : WS) : WFn := fun ds M R => ds.length = n ∧ w { nx := fun _ M' => R .non M', rt := R } (ds.map some ++ List.replicate extra none) M
theorem wBody_arity {n extra : Nat} {w : WS} : Arity n (wBody n extra w) := fun _ _ _ h => h.1
theorem er_start {K : PySem.W.Frag} {H : Hp} : ∀ {ds : List D} {vs : List V} (m : Nat), RpL K H ds vs → ER K H (ds.map some ++ List.replicate m none) (vs.map some ++ List.replicate m none) := by
  intro ds vs m r
  refine ⟨by simp [r.length], fun i d h => ?_⟩
  by_cases hi : i < ds.length
  · rw [List.getElem?_append_left (by simpa using hi), List.getElem?_map] at h
    cases q : ds[i]? with
    | none => rw [q] at h; cases h
    | some y =>
      rw [q] at h
      cases h
      obtain ⟨v, e, r2⟩ := r.get q
      refine ⟨v, ?_, r2⟩
      rw [List.getElem?_append_left (by rw [List.length_map, ← r.length]; exact hi), List.getElem?_map, e]
      rfl
  · rw [List.getElem?_append_right (by simpa using hi)] at h
    exfalso
    rw [List.getElem?_replicate] at h
    split at h <;> cases h
theorem fng_body {P : Program} {w : World} {K : PySem.W.Frag} {mg : Str → Option Value} {base : Heap} {k n extra : Nat} {f : Addr} {x qual : Str} {params : Arguments} {body : List Stmt} {scope : Scope} {dvs : List V} {kws : List (Str × V)} {fd : FuncData}
    {N ps : List Str} {wb : WS} (F : FunD K x qual params body scope dvs kws f fd) (S : FnScope N ps scope) (hn : ps.length = n) (hN : N.length = n + extra)
    (hbody : ∀ (cdv : Value) (A : Around) (out : List PySem.Env) (s : Shared) (H : Hp) (E : XK), Room k (A.deeper (envOfC qual scope s.heap.objs.size f cdv)) → A.guards = some [] →
      DSs (cxOf CX0 P w K mg base N qual scope f cdv A out s H E).nox body wb) : FnG P w K mg base CX0 (k + 1) f fd ps (spD K n (wBody n extra wb)) := by
  refine fng_of F S (fun vs H Q E h => by rw [h.1, hn]) fun cdv A out s H vs Q E hr gd hsp => ?_
  obtain ⟨hl, ds, M, R, r, m, ⟨_, hw⟩, p⟩ := hsp
  refine ⟨_, (hbody cdv A out s H E hr gd).nox, ?_⟩
  have e : L2.start N vs = vs.map some ++ List.replicate extra none := by
    unfold L2.start
    rw [hl, hN, Nat.add_sub_cancel_left]
  rw [e]
  exact ⟨_, M, _, er_start extra r, m, hw, ⟨fun ρ' M' σ' H' h er mr x => p _ _ _ _ h mr rfl x, p, fun _ _ _ _ z => z.elim, fun _ _ _ _ z => z.elim⟩⟩

/-! ### the law's call -/
theorem law_callG {P : Program} {w : World} {K : PySem.W.Frag} {mg mb : Str → Option Value} {k : Nat} {fa l : Addr} {fd : FuncData} {x : Str} {sp : Sp} {s : Shared} {us : List Value} {ns : List Int}
    (kin : K.In s.heap) (gl : s.heap.Ns mainGlobals mg) (bl : s.heap.Ns builtinsNs mb) (bb : ∀ x : Str, x ≠ "__name__" → mb x = bootBuiltins x) (lim : s.heap.NoLimit) (gens : s.gens = #[])
    (at_l : s.heap.get? l = some { cls := .type "list", data := .seq us.toArray }) (hints : IntsAre us ns) (fits : ns.length ≤ sizeLine) (room : Room k callerA)
    (F : ∀ base : Heap, K.In base → base.Ns mainGlobals mg → FnG P w K mg base CX0 k fa fd [x] sp) (bind : ∀ (s : Shared) (u : Value), BindsTo s fd ⟨[u], []⟩ [(x, u)])
    (want : ∀ H : Hp, Only H → SqL K H l (ns.map V.int) → sp [.ref l] H (fun v _ => v = .bl true) fun _ _ _ => False) :
    codeAny (model P w) callerA (.call (.ref fa) ⟨[.ref l], []⟩) (fun r s' => r = .ok (.ret (.bool true)) ∧ OldK s.heap s'.heap ∧ s'.os = s.os ∧ AllBare s'.gens) s := by
  have rel := vals_ints hints
  suffices main : ∀ H : Hp, Only H → SqL K H l (ns.map V.int) → HOk P w H s.heap → (∀ b o, H b = some o → b = l) → (∀ o, H l = some o → K.lookup l = none) →
      codeAny (model P w) callerA (.call (.ref fa) ⟨[.ref l], []⟩) (fun r s' => r = .ok (.ret (.bool true)) ∧ OldK s.heap s'.heap ∧ s'.os = s.os ∧ AllBare s'.gens) s by
    cases own : K.lookup l with
    | some o =>
      have e := kin l o own
      rw [at_l] at e
      cases e
      exact main (fun _ => none) (fun _ => .inl rfl) (.inr ⟨_, us.toArray, _, own, rfl, rfl, rfl, by rw [List.size_toArray, hints.length]; exact fits, by simpa using rel⟩) (fun _ _ z => nomatch z) (fun _ _ z => nomatch z) fun _ z => nomatch z
    | none =>
      let H0 : Hp := fun b => if b = l then some (.frz { cls := .type "list", data := .seq us.toArray } (.lst (ns.map V.int))) else none
      have here : H0 l = some (.frz { cls := .type "list", data := .seq us.toArray } (.lst (ns.map V.int))) := if_pos rfl
      have only : ∀ b o, H0 b = some o → b = l := fun b o z => Classical.byContradiction fun nb => by
        rw [show H0 b = none from if_neg nb] at z
        cases z
      refine main H0 (fun b => ?_) (.inl (.inr ⟨_, here⟩)) (fun b o z => ?_) only fun _ _ => own
      · by_cases hb : b = l
        · exact .inr ⟨_, _, if_pos hb⟩
        · exact .inl (if_neg hb)
      · have hb := only b o z
        subst hb
        rw [here] at z
        cases z
        exact ⟨at_l, by rw [List.length_map]; exact fits, us, _, rel, at_l⟩
  intro H only seq hok near free
  have keep : ∀ {b : Addr} {o : Obj}, s.heap.get? b = some o → H b = none → (hidT s.heap H).get? b = some o := fun e n => hidT_get e n
  have dictFree : ∀ {b : Addr} {o : Obj} {es : Array DictEntry} {ep : Nat}, s.heap.get? b = some o → o.data = .dict es ep → H b = none := fun {b o es ep} e d => by
    cases q : H b with
    | none => rfl
    | some z =>
      cases near b z q
      rw [at_l] at e
      cases e
      exact nomatch (show Data.seq us.toArray _ = Data.dict es ep from d)
  have spaces : ∀ {b : Addr} {m : Str → Option Value}, s.heap.Ns b m → (hidT s.heap H).Ns b m := fun ⟨o, es, ep, e, d, r⟩ => ⟨o, es, ep, keep e (dictFree e d), d, r⟩
  have kin' : K.In (hidT s.heap H) := fun b o e => keep (kin b o e) (by
    cases q : H b with
    | none => rfl
    | some z =>
      cases near b z q
      rw [free z q] at e
      cases e)
  have md : Mod K mg (hidT s.heap H) := ⟨kin', spaces gl, ⟨mb, spaces bl, bb⟩, let ⟨mc, h1, h2⟩ := lim; ⟨mc, spaces h1, h2⟩⟩
  have e0 : Env0 P w K mg (hidT s.heap H) callerA [] s H := ⟨rfl, md, fun b o e => of_hidT e, Nat.le_of_eq (hidT_size _ _), trivial, fun b hb => (List.not_mem_nil hb).elim, hok, .of_eq gens⟩
  refine codeAny_mono ((F _ kin' (spaces gl)).go callerA [] s H ⟨[.ref l], []⟩ [.ref l] [.ref l] _ _ room rfl e0 (bind s (.ref l)) (.cons rfl .nil) (want H only seq)) fun r s' got => ?_
  match r, got with
  | .error _, got => exact got.elim
  | .ok (.ret u), ⟨v, H', os, bare, un, hok', rv, q⟩ =>
    subst q
    cases rv
    refine ⟨rfl, OldK.of_keep fun b o e => ?_, os, bare⟩
    cases q : H b with
    | none => exact un.keep b o e q (fun z => (List.not_mem_nil z).elim) (fun z => (List.not_mem_nil z).elim)
    | some z =>
      rcases only b with n | ⟨ob, xs, n⟩
      · rw [q] at n; cases n
      · have z2 := hok' b _ (un.frzs b ob _ n)
        obtain ⟨w1, _⟩ := hok b _ n
        obtain ⟨w2, _⟩ := z2
        rw [e] at w1
        cases w1
        exact w2
/-- from a law's promise to the row -/
theorem walk_g {l : PySem.W.OpenLaw} {n k : Nat} {q : Program} {loose : List Str} {XP : (Str → Option Value) → Heap → Prop} {YP : World → Heap → Prop} {d : DefRec} {x : Str}
    (hn : l.most = some n) (hn2 : n ≤ sizeLine) (hdf : d.params.defaults = []) (hr : Room k callerA)
    (F : ∀ (w : World) (mg : Str → Option Value) (fa : Addr) (h : Heap), YP w h → h.Ns mainGlobals mg → mg d.name = some (.ref fa) →
      ∃ (K : PySem.W.Frag) (fd : FuncData) (wf : WFn), K.In h ∧ (∀ (s : Shared) (u : Value), BindsTo s fd ⟨[u], []⟩ [(x, u)]) ∧
        (∀ ns : List Int, ns.length ≤ n → wf [.ro (ns.map D.int)] (fun _ => none) fun d _ => d = .bl true) ∧
        ∀ base : Heap, K.In base → base.Ns mainGlobals mg → FnG l.prog w K mg base CX0 k fa fd [x] (spD K 1 wf)) :
    PySem.W.WalkO q loose XP YP l.row.toRowW d [] (fun f vs => PySem.call f vs) := by
  refine Att.attach_call hn hdf fun w s₀ s₁ mg mb fa o pm cd doc a vs ns G Y ho hd hcd hmg hobj hints hlen hg => ?_
  obtain ⟨K, fd, wf, kin, bind, want, hF⟩ := F w mg fa _ Y G.T.g hmg
  refine law_callG kin G.T.g G.T.b G.T.builtins G.T.nolimit hg hobj hints (Nat.le_trans hlen hn2) hr hF bind fun H only seq => ?_
  have ro : RoL K H a (ns.map V.int) := by
    rcases seq with (z | z) | z
    · rcases only a with n | ⟨ob, xs, n⟩ <;> (rw [z] at n; cases n)
    · exact .inl z
    · exact .inr z
  have rp : ∀ l : List Int, RpL K H (l.map D.int) (l.map V.int) := fun l => by
    induction l with
    | nil => exact rpl_nil
    | cons i l ih => exact rpl_cons (show Rp K H (.int i) (.int i) from rfl) ih
  refine ⟨rfl, _, fun _ => none, _, rpl_cons ?_ rpl_nil, (fun a ds z => by cases z), want ns hlen, fun d M' v H' e _ r _ => ?_⟩
  · unfold Rp
    exact ⟨a, _, rfl, ro, rp ns⟩
  · subst e
    exact r
end Zq


set_option Elab.async false
set_option linter.all false
set_option maxRecDepth 100000
namespace Zq
open PySem PySem.Spec PyProof.Rows L2
section
variable {X : Cx} {a b c e tg iter : Expr} {es : List Expr} {wa wb w : WE} {pos p : Pos} {K : PySem.W.Frag}
/-- a text's signs -/
def signsD (z : Str) : List D := z.cps.toList.map fun c => .str ⟨#[c]⟩
theorem itrel_str {H0 : Hp} {z : Str} : ItRel K H0 (Its z) none (signsD z) where
  go := fun i H M x m st hi => by
    unfold signsD at hi
    rw [List.length_map, Array.length_toList] at hi
    exact hi
  yld := fun i y H H' M d x m st e ⟨e1, c, hc, ey⟩ => by
    subst e1
    refine ⟨⟨m, .refl⟩, ?_⟩
    unfold signsD at e
    rw [List.getElem?_map, Array.getElem?_toList, hc] at e
    cases e
    exact ey
  stop := fun i H M x m st hi => by
    unfold signsD at hi
    rw [List.length_map, Array.length_toList] at hi
    exact hi
/-- a list or a tuple, walked -/
def iQ (w : WE) : WI := fun ρ M R => w ρ M fun d M1 => match d with
  | .lst a => match M1 a with
    | some ds => R (some a) ds M1
    | none => False
  | .ro ds => R none ds M1
  | .tup ds => R none ds M1
  | .tpx ds => R none ds M1
  | .str z => R none (signsD z) M1
  | _ => False
theorem fp_new {pins : List (Addr × Obj)} {σ : L2.St} {H : Hp} {s : Shared} (I : Inv X pins σ H s) : ∀ b ∈ [s.heap.objs.size], FpOk X pins H b := fun b hb => by
  cases (List.mem_singleton.mp hb)
  exact I.fpOk (Nat.le_refl _) (I.hok.fresh (Nat.le_refl _))
theorem di_seq (h : DE X a wa) : DI X tg a (iQ wa) := by
  refine ⟨fun pins s σ H Q I q => ?_⟩
  obtain ⟨ρ, M, R, er, mr, hw, p⟩ := q
  refine thn (h.run pins s σ H (fun v H1 => ∃ J, ((∃ l, v = .ref l ∧ (∃ vs, SqL X.K H1 l vs) ∧ J = Itl X.K l) ∨ (∃ l, v = .ref l ∧ (∃ vs, SqT X.K H1 l vs) ∧ J = Itt X.K l) ∨ (∃ z, v = .str z ∧ J = Its z)) ∧ Q J H1) I ⟨ρ, M, _, er, mr, hw, fun d M1 v H1 h1 m1 r1 x1 => ?_⟩) fun v s1 ⟨x, H1, I1, rv, J, alt, q⟩ => ?_
  · split at h1
    · rename_i l
      split at h1
      · rename_i ds e
        cases r1
        obtain ⟨vs, r, eh⟩ := m1 l ds e
        exact ⟨_, .inl ⟨l, rfl, ⟨vs, SqL.of eh⟩, rfl⟩, p (some l) ds M1 H1 _ h1 m1 e x1 itrel_list⟩
      · exact h1.elim
    · rename_i ds
      unfold Rp at r1
      obtain ⟨l, vs, rfl, sq, r⟩ := r1
      exact ⟨_, .inl ⟨l, rfl, ⟨vs, sq.sq⟩, rfl⟩, p none ds M1 H1 _ h1 m1 trivial x1 (itrel_ro sq r)⟩
    · rename_i ds
      unfold Rp at r1
      obtain ⟨l, vs, rfl, sq, r⟩ := r1
      exact ⟨_, .inr (.inl ⟨l, rfl, ⟨vs, sq⟩, rfl⟩), p none ds M1 H1 _ h1 m1 trivial x1 (itrel_tup sq r)⟩
    · rename_i ds
      unfold Rp at r1
      obtain ⟨l, vs, o, rfl, sq, _, r⟩ := r1
      have sq : SqT X.K H1 l vs := .inl (.inr ⟨o, sq⟩)
      exact ⟨_, .inr (.inl ⟨l, rfl, ⟨vs, sq⟩, rfl⟩), p none ds M1 H1 _ h1 m1 trivial x1 (itrel_tup sq r)⟩
    · rename_i z
      cases r1
      exact ⟨_, .inr (.inr ⟨z, rfl, rfl⟩), p none _ M1 H1 _ h1 m1 trivial x1 itrel_str⟩
    · exact h1.elim
  · rcases alt with ⟨l, rfl, ⟨vs, sq⟩, rfl⟩ | ⟨l, rfl, ⟨vs, sq⟩, rfl⟩ | ⟨z, rfl, rfl⟩
    · cases rv
      obtain ⟨its, _, pl, _⟩ := I1.list sq
      exact wpAny_pyIter_list pl.isList ⟨_, [_], _, _, H1, rfl, I1.kept (t' := s1.toks) fun _ _ z => Heap.get?_push_of_some _ z, turn_list l _, ⟨_, Heap.get?_push_size _ rfl, rfl, rfl⟩, fp_new I1, q⟩
    · cases rv
      obtain ⟨its, _, pt, _⟩ := I1.tuple sq
      exact wpAny_pyIter_tuple (show s1.heap.IsTuple l its.toArray from pt) ⟨_, [_], _, _, H1, rfl, I1.kept (t' := s1.toks) fun _ _ z => Heap.get?_push_of_some _ z, turn_tuple l _, ⟨_, Heap.get?_push_size _ rfl, rfl, rfl⟩, fp_new I1, q⟩
    · obtain ⟨t, rfl⟩ := rv
      cases ha : z.cps.all (· < 128)
      · exact wpAny_pyIter_wide ha (pi_one (tk := s1.toks) I1 _ (turn_str _ z t "str_iterator" (.inr rfl)) ⟨_, Heap.get?_push_size _ rfl, rfl, rfl⟩ q)
      · exact wpAny_pyIter_ascii ha (pi_one (tk := s1.toks) I1 _ (turn_str _ z t "str_ascii_iterator" (.inl rfl)) ⟨_, Heap.get?_push_size _ rfl, rfl, rfl⟩ q)
/-- a constant of the module -/
def Glb (K : PySem.W.Frag) (mg : Str → Option Value) (x : Str) (d : D) : Prop := ∃ u v, mg x = some u ∧ RelV v u ∧ ∀ H, Rp K H d v
theorem de_glob {x : Str} {d : D} (h : Glb X.K X.mg x d) (hg : Gl X x := by rfl) (hd : (x == ("__debug__" : Str)) = false := by decide) : DE X (.Name x pos) (wC d) := by
  obtain ⟨u, v, hm, r, rp⟩ := h
  exact pe_w (pe_glob hg hm r hd) fun σ H Q ⟨ρ, M, R, er, mr, hw, p⟩ => p d M v H hw mr (rp H) .refl

/-! ### the text's defs, by their names -/
structure Kn (P : Program) (w : World) (K : PySem.W.Frag) (mg : Str → Option Value) (base : Heap) (x : Str) (st : Stmt) (k n : Nat) (ps : List Str) (wf : WFn) : Prop where
  ex : ∃ (ff : Addr) (fd : FuncData), FunD K x x (defArgs st) (defBody st) (defScope st) [] [] ff fd ∧ FnG P w K mg base CX0 k ff fd ps (spD K n wf) ∧ mg x = some (.ref ff) ∧ Binds K fd ps []
def fdOf (x : Str) (st : Stmt) (kV doc pm : Value) (an : Option Addr) (cdv ct : Value) : FuncData := PySem.W.fnOf x x (defArgs st) (defBody st) (defScope st) .none kV doc pm an cdv ct
theorem funD_fd {x : Str} {st : Stmt} {ff : Addr} {fd : FuncData} (F : FunD K x x (defArgs st) (defBody st) (defScope st) [] [] ff fd) : ∃ kV doc pm an cdv ct, fd = fdOf x st kV doc pm an cdv ct := by
  obtain ⟨oc, od, dV, kV, doc, pm, an, cdv, ct, osl, rfl, lk, hcd, hD, hK⟩ := F.ex
  rcases hD with ⟨_, rfl⟩ | ⟨z, _⟩
  · exact ⟨kV, doc, pm, an, cdv, ct, rfl⟩
  · exact absurd rfl z
/-- positional arguments bind -/
def Pos0 (x : Str) (st : Stmt) (ps : List Str) : Prop := ∀ (kV doc pm : Value) (an : Option Addr) (cdv ct : Value) (us : List Value), us.length = ps.length → bindArgs (fdOf x st kV doc pm an cdv ct) ⟨us, []⟩ = pure (ps.zip us)
/-- keywords bind -/
def Kw0 (x : Str) (st : Stmt) (ps ks : List Str) (perm : List Nat) : Prop := ∀ (kV doc pm : Value) (an : Option Addr) (cdv ct : Value) (ws : List Value), ws.length = ks.length → bindArgs (fdOf x st kV doc pm an cdv ct) ⟨[], ks.zip ws⟩ = pure (ps.zip (perm.filterMap fun i => ws[i]?))
variable {P : Program} {wd : World} {mg : Str → Option Value} {base : Heap} {x : Str} {st : Stmt} {k n extra : Nat} {ps N ks : List Str} {wf : WFn} {t wk : WA} {wb' : WS} {kws : List Keyword}
theorem kn_of {ff : Addr} {fd : FuncData} (F : FunD K x x (defArgs st) (defBody st) (defScope st) [] [] ff fd) (hm : mg x = some (.ref ff)) (S : FnScope N ps (defScope st)) (hp : Pos0 x st ps) (hn : ps.length = n) (hN : N.length = n + extra)
    (hbody : ∀ (f : Addr) (cdv : Value) (A : Around) (out : List PySem.Env) (s : Shared) (H : Hp) (E : XK), Room k (A.deeper (envOfC x (defScope st) s.heap.objs.size f cdv)) → A.guards = some [] →
      DSs (cxOf CX0 P wd K mg base N x (defScope st) f cdv A out s H E).nox (defBody st) wb') : Kn P wd K mg base x st (k + 1) n ps (wBody n extra wb') := by
  refine ⟨ff, fd, F, fng_body F S hn hN (hbody ff), hm, ?_⟩
  obtain ⟨kV, doc, pm, an, cdv, ct, rfl⟩ := funD_fd F
  exact .all (hp kV doc pm an cdv ct)
theorem de_kn (F : Kn X.prog X.w X.K X.mg X.base x st k n ps wf) (ar : Arity n wf) (hr : Room k X.A) (gd : X.A.guards = some []) (hg : Gl X x) (hx : X.xe = fun _ _ => False)
    (ha : DA X (e :: es) t) (hdb : (x == ("__debug__" : Str)) = false := by decide) (he : starEach (e :: es) X.env = (false, eval e X.env) :: starEach es X.env := by rfl) (hpl : (backTo pos (starEach es X.env)).any (·.1) = false := by rfl) :
    DE X (.Call (.Name x p) (e :: es) [] pos) (wCall wf t) := by
  obtain ⟨ff, fd, FD, G, hm, hb⟩ := F.ex
  exact de_call G ar hr gd hg hm FD.kp hb (E := E0) pass0 ha hdb he hpl
theorem de_knK {perm : List Nat} (F : Kn X.prog X.w X.K X.mg X.base x st k n ps wf) (ar : Arity n wf) (hr : Room k X.A) (gd : X.A.guards = some []) (hg : Gl X x) (hx : X.xe = fun _ _ => False) (hb : Kw0 x st ps ks perm)
    (hkw : DK' X kws wk) (hall : (backToKw pos (keywordEach kws X.env)).all (·.1.isSome) = true := by rfl) (hks : (backToKw pos (keywordEach kws X.env)).filterMap (·.1) = ks := by rfl)
    (hdb : (x == ("__debug__" : Str)) = false := by decide) (hpl : ((backTo pos (starEach [] X.env)).any (·.1) || (backToKw pos (keywordEach kws X.env)).any (·.1.isNone)) = false := by rfl) :
    DE X (.Call (.Name x p) [] kws pos) (wCallK ks.length perm wf wk) := by
  obtain ⟨ff, fd, FD, G, hm, _⟩ := F.ex
  obtain ⟨kV, doc, pm, an, cdv, ct, rfl⟩ := funD_fd FD
  refine de_callK0 G ar hr gd hg hm FD.kp (perm := perm) (fun us ws h1 h2 => ?_) (E := E0) pass0 hkw hall hks hdb hpl
  cases us with
  | nil => exact hb kV doc pm an cdv ct ws h2
  | cons _ _ => cases h1
end
end Zq
namespace Zq
open PySem PySem.Spec PyProof.Rows L2
section
variable {X : Cx} {K : PySem.W.Frag}
theorem room100 {k : Nat} {A : Around} (hr : Room k A) : A.units + 100 < cLine := Nat.lt_of_le_of_lt (by omega) hr.un
def fIAdd : WF2 := fI0 fun i j => .int (i + j)
theorem dop_ipAdd : DOp K fIAdd (ipI fun i j => i + j) := by
  intro x y u v M H R Q rx ry m h p
  unfold fIAdd fI0 at h
  split at h
  · exact ⟨_, _, rx, ry, p _ _ _ _ h m rfl .refl⟩
  · exact h.elim
theorem dop_ipSub : DOp K fSub (ipI fun i j => i - j) := by
  intro x y u v M H R Q rx ry m h p
  unfold fSub fI0 at h
  split at h
  · exact ⟨_, _, rx, ry, p _ _ _ _ h m rfl .refl⟩
  · exact h.elim
theorem ip_mulW : PIp X .Mult (rI CMulW fun i j => .int (i * j)) := opI fun _ _ _ _ _ _ _ hc q => imul_int q hc.ok
theorem dop_ipMul : DOp K fMul (rI CMulW fun i j => .int (i * j)) := dop_II fun _ _ _ => rfl
end
end Zq


set_option Elab.async false
set_option linter.all false
set_option maxRecDepth 100000
namespace Zq
open PySem PySem.Spec PyProof.Rows L2
/-! ### the head's facts -/
def bltB (K : PySem.W.Frag) (ms : List (Str × String)) : Bool := ms.all fun p => He.eqO (PySem.W.nsIn K mainGlobals p.1) (some (some (.builtin p.2)))
theorem bltB_ok {K : PySem.W.Frag} {h : Heap} {mg : Str → Option Value} (X : K.In h) (G : h.Ns mainGlobals mg) {ms : List (Str × String)} (c : bltB K ms = true) (i : Nat) {p : Str × String} (e : ms[i]? = some p := by rfl) : mg p.1 = some (.builtin p.2) :=
  PySem.W.mg_of X G (He.eqO_ok (List.all_eq_true.mp c p (List.mem_of_getElem? e)))
abbrev AlZ : Type := He.AlD × Bool
def obsZ (n : Nat) (fa : List He.Fa) (fn : List He.DefD) (ex : PySem.W.Frag → Bool) (g : Addr → Option Obj) : AlZ := (He.obsD fa fn (He.frG g (He.asD g n)), ex (He.frG g (He.asD g n)))
def hookZ (n : Nat) (fa : List He.Fa) (fn : List He.DefD) (ex : PySem.W.Frag → Bool) : PySem.W.Hook where
  α := AlZ
  obs := fun s => obsZ n fa fn ex s.heap.get?
  val := fun _ => (He.valD fn, true)
  says := fun _ h => ∃ K : PySem.W.Frag, K.In h ∧ He.SaysD fa fn K ∧ ex K = true
  of := fun _ _ e => ⟨_, He.frG_in, congrArg Prod.fst e, congrArg Prod.snd e⟩
  keeps := fun _ _ _ ⟨K, hK, c⟩ k => ⟨K, PySem.W.Frag.In.keeps hK k, c⟩
theorem obsZ_eq {n : Nat} {fa : List He.Fa} {fn : List He.DefD} {ex : PySem.W.Frag → Bool} {g : Addr → Option Obj} {s : Shared} (h : ∀ a, g a = s.heap.get? a) : obsZ n fa fn ex g = (hookZ n fa fn ex).obs s := by
  have e : g = s.heap.get? := funext h
  rw [e] <;> rfl
theorem fun_of {K : PySem.W.Frag} {h : Heap} {mg : Str → Option Value} (X : K.In h) (G : h.Ns mainGlobals mg) {fa : List He.Fa} {fn : List He.DefD} (c : He.SaysD fa fn K) (i j : Nat) {x : Str} {st : Stmt} (hd : fn[i]? = some ⟨(x, none), x, x, defArgs st, defBody st, defScope st, [], []⟩ := by rfl) (hg : fa[j]? = some (.glo x) := by rfl) :
    ∃ ff fd, FunD K x x (defArgs st) (defBody st) (defScope st) [] [] ff fd ∧ mg x = some (.ref ff) := by
  obtain ⟨fd, F⟩ := c.def_ i hd
  exact ⟨_, fd, F, He.glo_ok X G (c.fact j hg)⟩
theorem glb_tup {K : PySem.W.Frag} {h : Heap} {mg : Str → Option Value} (X : K.In h) (G : h.Ns mainGlobals mg) {x : Str} {vs : List He.Dv} {ds : List D} (c : PySem.W.nsIn K mainGlobals x = some (some (.ref (He.ga K x)))) (ct : He.tupB K x vs = true) (r : ∀ H, RpL K H ds (vs.map (He.Dv.v K))) : Glb K mg x (.tup ds) := by
  refine ⟨_, .ref (He.ga K x), PySem.W.mg_of X G c, rfl, fun H => ?_⟩
  unfold Rp
  exact ⟨_, _, rfl, He.tupB_ok ct H, r H⟩
theorem glb_int {K : PySem.W.Frag} {h : Heap} {mg : Str → Option Value} (X : K.In h) (G : h.Ns mainGlobals mg) {x : Str} {i : Int} (c : (He.Fa.int x i).ok K = true) : Glb K mg x (.int i) := by
  obtain ⟨t, e⟩ := He.int_ok X G c
  exact ⟨_, .int i, e, ⟨t, rfl⟩, fun H => rfl⟩
/-- the end: the law's def, once for the head's heap, is the one that every base knows -/
theorem law_fin {P : Program} {w : World} {K : PySem.W.Frag} {mg : Str → Option Value} {h : Heap} {fa : Addr} {st : Stmt} {k : Nat} {s : Str} {wf : WFn} {n : Nat} (hmg : mg ("law" : Str) = some (.ref fa)) (C : ∀ base, Kn P w K mg base "law" st k 1 [s] wf)
    (want : ∀ ns : List Int, ns.length ≤ n → wf [.ro (ns.map D.int)] (fun _ => none) fun d _ => d = .bl true) (hp : Pos0 "law" st [s]) (KX : K.In h) :
    ∃ (K' : PySem.W.Frag) (fd : FuncData) (wf : WFn), K'.In h ∧ (∀ (s' : Shared) (u : Value), BindsTo s' fd ⟨[u], []⟩ [(s, u)]) ∧
        (∀ ns : List Int, ns.length ≤ n → wf [.ro (ns.map D.int)] (fun _ => none) fun d _ => d = .bl true) ∧
        ∀ base : Heap, K'.In base → base.Ns mainGlobals mg → FnG P w K' mg base CX0 k fa fd [s] (spD K' 1 wf) := by
  obtain ⟨ff, fd, F, _, hm, _⟩ := (C h).ex
  cases hmg.symm.trans hm
  refine ⟨K, fd, wf, KX, fun s' u => ?_, want, fun base _ _ => ?_⟩
  · obtain ⟨kV, doc, pm, an, cdv, ct, rfl⟩ := funD_fd F
    exact .of_eq (hp kV doc pm an cdv ct [u] rfl)
  · obtain ⟨ff2, fd2, F2, G2, hm2, _⟩ := (C base).ex
    cases hmg.symm.trans hm2
    obtain ⟨_, _, _, _, _, _, _, _, _, _, _, l1, _⟩ := F.ex
    obtain ⟨_, _, _, _, _, _, _, _, _, _, _, l2, _⟩ := F2.ex
    rw [l1] at l2
    cases l2
    exact G2
end Zq


set_option Elab.async false
set_option linter.all false
set_option maxRecDepth 100000
set_option maxHeartbeats 0
namespace K7n
open PySem PySem.Spec PyProof.Rows L2 Zq
def topS (i : Nat) : Stmt := PySem.Challenge.pw_latestshake_k07_whole_heard_floors.main.body.getD i (.Pass ⟨0, 0, 0, 0⟩)
def fa : List He.Fa := [.glo "is_whole", .glo "is_tuple_of", .glo "is_count", .glo "need_many", .glo "need_places", .glo "ten_to", .glo "in_figures", .glo "with_point", .glo "sign_of_whole", .glo "sign_with_root", .glo "floor_with_root", .glo "on_one_bottom", .glo "with_one_root", .glo "spot_of", .glo "sign_heard_at", .glo "sign_heard", .glo "floor_heard", .glo "is_fraction", .glo "need_fraction", .glo "is_pair", .glo "is_point", .glo "need_point", .glo "heard_floor", .glo "heard_figures", .glo "_law_jar", .glo "_law_dip", .glo "_law_one_of", .glo "_law_same", .glo "_law_frac", .glo "_law_plus", .glo "_law_less", .glo "_law_by", .glo "_law_sgn", .glo "_law_root_sign", .glo "_law_floor_root", .glo "_law_great", .glo "_law_some", .glo "_law_rootable", .glo "_law_pair_times", .glo "_law_heard"] ++ [.glo "_law_point", .glo "_law_floor", .glo "_law_figures", .glo "_law_heard_floor", .glo "_law_pythagoras", .glo "_law_ten", .glo "_law_right", .glo "law"] ++ [.free "abs", .free "all", .free "bool", .free "divmod", .free "int", .free "isinstance", .free "len", .free "max", .free "min", .free "range", .free "repr", .free "str", .free "tuple"]
def dd (x : Str) (i : Nat) : He.DefD := ⟨(x, none), x, x, defArgs (topS i), defBody (topS i), defScope (topS i), [], []⟩
def fn : List He.DefD := [dd "is_whole" 7, dd "is_tuple_of" 8, dd "is_count" 11, dd "need_many" 12, dd "need_places" 13, dd "ten_to" 16, dd "in_figures" 17, dd "with_point" 18, dd "sign_of_whole" 20, dd "sign_with_root" 21, dd "floor_with_root" 22, dd "on_one_bottom" 23, dd "with_one_root" 24, dd "spot_of" 26, dd "sign_heard_at" 27, dd "sign_heard" 28, dd "floor_heard" 29, dd "is_fraction" 31, dd "need_fraction" 32, dd "is_pair" 34, dd "is_point" 35, dd "need_point" 36, dd "heard_floor" 37, dd "heard_figures" 38, dd "_law_jar" 40, dd "_law_dip" 41, dd "_law_one_of" 42, dd "_law_same" 43, dd "_law_frac" 44, dd "_law_plus" 45, dd "_law_less" 46, dd "_law_by" 47, dd "_law_sgn" 48, dd "_law_root_sign" 49, dd "_law_floor_root" 50, dd "_law_great" 51, dd "_law_some" 52, dd "_law_rootable" 53, dd "_law_pair_times" 54, dd "_law_heard" 55] ++ [dd "_law_point" 56, dd "_law_floor" 57, dd "_law_figures" 58, dd "_law_heard_floor" 59, dd "_law_pythagoras" 60, dd "_law_ten" 61, dd "_law_right" 62, dd "law" 63]
def ex (K : PySem.W.Frag) : Bool := bltB K [("gcd", "math.gcd"), ("isqrt", "math.isqrt"), ("lcm", "math.lcm")] && (He.Fa.int "AT_ONCE" 1000).ok K && (He.Fa.int "MOST_PLACES" 40).ok K
abbrev R : PySem.W.OpenRow := PySem.W.OpenLaw.row PySem.Challenge.rw_latestshake_k07_whole_heard_floors
abbrev hk : PySem.W.Hook := hookZ 4 fa fn ex
def ob (s : PySem.W.SharedT) : AlZ := obsZ 4 fa fn ex (HandSHeadRun.getT s)
theorem ob_eq (s : PySem.W.SharedT) : ob s = hk.obs s.abs := obsZ_eq (HandSHeadRun.getT_eq s)
def loose : List Str := (["ShakeError", "InvalidFraction", "InvalidPoint", "InvalidCount", "is_whole", "is_tuple_of", "MOST_PLACES", "is_count", "need_many", "need_places", "AT_ONCE", "ten_to"] : List Str) ++ (["in_figures", "with_point", "sign_of_whole", "sign_with_root", "floor_with_root", "on_one_bottom", "with_one_root", "spot_of", "sign_heard_at", "sign_heard", "floor_heard", "is_fraction"] : List Str) ++ (["need_fraction", "is_pair", "is_point", "need_point", "heard_floor", "heard_figures", "_law_jar", "_law_dip", "_law_one_of", "_law_same", "_law_frac", "_law_plus"] : List Str) ++ (["_law_less", "_law_by", "_law_sgn", "_law_root_sign", "_law_floor_root", "_law_great", "_law_some", "_law_rootable", "_law_pair_times", "_law_heard", "_law_point", "_law_floor"] : List Str) ++ (["_law_figures", "_law_heard_floor", "_law_pythagoras", "_law_ten", "_law_right"] : List Str)
open HandSHeadRun PySem.W PySem.Calls PyProof.Rows in
theorem runA (w : World) : (wholeF (fun p => stepQ (denQ tabQ) p w) fenceQ 6000 R.prog).map (fun x => looksF R.prog x.1.heap x.2.abs) = some true := by
  kernel_rfl
open HandSHeadRun PySem.W PySem.Calls PyProof.Rows in
theorem runB (w : World) : (wholeF (fun p => stepQ (denQ tabQ) p w) fenceQ 6000 R.prog).map (fun x => seenQ (view R.prog [0, 63]) loose (importedModules R.prog.main.body) (fun s => xlAt (view R.prog [0, 63]) [] s && recOk R.toRowW.records s) x.2.abs) = some (openGood (view R.prog [0, 63]) loose) := by
  kernel_rfl
open HandSHeadRun PySem.W PySem.Calls PyProof.Rows in
theorem runC (w : World) : (wholeF (fun p => stepQ (denQ tabQ) p w) fenceQ 6000 R.prog).map (fun x => ob x.2) = some (hk.val w) := by
  kernel_rfl
open HandSHeadRun PySem.W PySem.Calls PyProof.Rows in
theorem run (w : World) : RunEqI R (view R.prog [0, 63]) hk ob 6000 loose w := by
  have a := runA w
  have b := runB w
  have c := runC w
  unfold RunEqI
  generalize wholeF (fun p => stepQ (denQ tabQ) p w) fenceQ 6000 R.prog = z at *
  cases z with
  | none => cases a
  | some x => exact congrArg some (Prod.ext (Option.some.inj a) (Prod.ext (Option.some.inj b) (Option.some.inj c)))
end K7n


set_option Elab.async false
set_option linter.all false
set_option maxRecDepth 100000
namespace Zq
open PySem PySem.Spec PyProof.Rows L2
section
variable {X : Cx} {a b c e o : Expr} {es : List Expr} {wa wb w wo : WE} {pos p apos cpos : Pos} {K : PySem.W.Frag}
theorem dt_isN {k : Nat} {pos' : Pos} (ha : DE X a wa) : DT X (.Compare a [.Is] [.Constant .none k pos'] pos) (wTest (wIsN false wa)) := pt_w (pt_cmpR op_isN ha pe_non (nomark _)) fun _ _ _ => test_w fun _ _ _ q => isN_w q
theorem dt_notN {k : Nat} {pos' : Pos} (ha : DE X a wa) : DT X (.Compare a [.IsNot] [.Constant .none k pos'] pos) (wTest (wIsN true wa)) := pt_w (pt_cmpR op_notN ha pe_non (nomark _)) fun _ _ _ => test_w fun _ _ _ q => isN_w q
/-- o.append(e) -/
def isL (x : D) (M : Mem) : Prop := match x with
  | .lst l => (M l).isSome = true
  | _ => False
def appK (x y : D) (M : Mem) (R : DK) : Prop := match x with
  | .lst l => (match M l with
    | some ds => ds.length ≤ 100000 ∧ R .non (M.put l (ds ++ [y]))
    | none => False)
  | _ => False
def app1 (x : D) (R : DK) : List D → Mem → Prop := fun ds M => match ds with
  | [y] => appK x y M R
  | _ => False
def wApp (wo w : WE) : WE := fun ρ M R => wo ρ M fun x M1 => isL x M1 ∧ w ρ M1 fun y M2 => appK x y M2 R
theorem de_app (ho : DE X o wo) (he : DE X e w)
    (hbase : attributeBase o "append" X.env (eval o X.env) = eval o X.env := by rfl)
    (hfew : ((backTo cpos (starEach [e] X.env)).all (fun x => !x.1) && (backToKw cpos (keywordEach [] X.env)).all (fun x => x.1.isSome)
      && decide ([e].length + ([] : List Keyword).length + (if ([] : List Keyword).isEmpty then 0 else 1) < 30)) = true := by rfl)
    (hline : (apos.endLine == cpos.line) = true := by rfl) (hs : starEach [e] X.env = (false, eval e X.env) :: starEach [] X.env := by rfl) (hplain : (backTo cpos (starEach [] X.env)).any (·.1) = false := by rfl) :
    DE X (.Call (.Attribute o "append" apos) [e] [] cpos) (wApp wo w) :=
  pe_w (pe_bm PySem.F.plainAttrs_list PySem.F.slot_list_append PySem.F.type_list_append mt_append ho (da_cons he da_nil hs) hbase hfew hline hs hplain) fun σ H Q ⟨ρ, M, R, er, mr, h, p⟩ => by
    refine ⟨ρ, M, _, er, mr, h, fun x M1 v H1 h1 m1 r1 x1 => ?_⟩
    obtain ⟨h0, h1⟩ := h1
    cases x with
    | lst l =>
      cases r1
      refine ⟨?_, ρ, M1, app1 (.lst l) R, er.ext x1, m1, h1, fun ds M2 vs H2 h2 m2 r2 x2 => ?_⟩
      · cases e1 : M1 l with
        | none =>
          unfold isL at h0
          simp only [e1] at h0
          cases h0
        | some ds =>
          obtain ⟨us, _, eh⟩ := m1 l ds e1
          exact .inl ⟨rfl, us, SqL.of eh⟩
      · unfold app1 at h2
        split at h2
        · unfold appK at h2
          simp only at h2
          split at h2
          · rename_i y ds e2
            obtain ⟨us, ru, eh⟩ := m2 l ds e2
            obtain ⟨v, rfl, rv⟩ := rp1 r2
            refine ⟨l, us, v, rfl, rfl, eh, ?_, ?_⟩
            · rw [← ru.length]
              exact Nat.lt_of_le_of_lt h2.1 (by decide)
            · exact p _ _ _ _ h2.2 (m2.put (ru.append (rpl_cons rv rpl_nil)) (.inr ⟨us, eh⟩)) rfl (x1.trans (x2.trans (.upd (.inr ⟨us, eh⟩))))
          · exact h2.elim
        · exact h2.elim
    | _ => exact h0.elim
/-- o.zfill(e) -/
def zfK (x : D) (R : DK) : DK := fun y M => match x, y with
  | .str z, .int i => PadOk i = true ∧ R (.str (Txt.zfill z i)) M
  | _, _ => False
def isS (x : D) : Prop := match x with
  | .str _ => True
  | _ => False
def zf1 (x : D) (R : DK) : List D → Mem → Prop := fun ds M => match ds with
  | [y] => zfK x R y M
  | _ => False
def wZf (wo w : WE) : WE := fun ρ M R => wo ρ M fun x M1 => isS x ∧ w ρ M1 (zfK x R)
theorem de_zf (ho : DE X o wo) (he : DE X e w)
    (hbase : attributeBase o "zfill" X.env (eval o X.env) = eval o X.env := by rfl)
    (hfew : ((backTo cpos (starEach [e] X.env)).all (fun x => !x.1) && (backToKw cpos (keywordEach [] X.env)).all (fun x => x.1.isSome)
      && decide ([e].length + ([] : List Keyword).length + (if ([] : List Keyword).isEmpty then 0 else 1) < 30)) = true := by rfl)
    (hline : (apos.endLine == cpos.line) = true := by rfl) (hs : starEach [e] X.env = (false, eval e X.env) :: starEach [] X.env := by rfl) (hplain : (backTo cpos (starEach [] X.env)).any (·.1) = false := by rfl) :
    DE X (.Call (.Attribute o "zfill" apos) [e] [] cpos) (wZf wo w) :=
  pe_w (pe_bm PySem.F.plainAttrs_str PySem.F.slot_str_zfill PySem.F.type_str_zfill mt_zfill ho (da_cons he da_nil hs) hbase hfew hline hs hplain) fun σ H Q ⟨ρ, M, R, er, mr, h, p⟩ => by
    refine ⟨ρ, M, _, er, mr, h, fun x M1 v H1 h1 m1 r1 x1 => ?_⟩
    obtain ⟨h0, h1⟩ := h1
    cases x with
    | str z =>
      cases r1
      refine ⟨rfl, ρ, M1, zf1 (.str z) R, er.ext x1, m1, h1, fun ds M2 vs H2 h2 m2 r2 x2 => ?_⟩
      unfold zf1 at h2
      split at h2
      · rename_i y
        cases y with
        | int i =>
          obtain ⟨v, rfl, rv⟩ := rp1 r2
          cases rv
          exact ⟨z, i, rfl, rfl, h2.1, p _ _ _ _ h2.2 m2 rfl (x1.trans x2)⟩
        | _ => exact h2.elim
      · exact h2.elim
    | _ => exact h0.elim
/-- a starred part of a display -/
def starK (RA : List D → Mem → Prop) (r : WA) (ρ : Env) : DK := fun x M1 => match x with
  | .tup xs => r ρ M1 fun ys M2 => RA (xs ++ ys) M2
  | _ => False
def aStar (w : WE) (r : WA) : WA := fun ρ M RA => w ρ M (starK RA r ρ)
theorem da_star {wr : WA} {p : Pos} (he : DE X e w) (hr : DA X es wr) (hs : starEach (.Starred e p :: es) X.env = (true, eval e X.env) :: starEach es X.env := by rfl) : DA X (.Starred e p :: es) (aStar w wr) :=
  pa_w (StX.pa_star he hr hs) fun σ H Q ⟨ρ, M, R, er, mr, h, p⟩ => by
    refine ⟨ρ, M, _, er, mr, h, fun x M1 v H1 h1 m1 r1 x1 => ?_⟩
    cases x with
    | tup xs =>
      unfold Rp at r1
      obtain ⟨a, vs, rfl, sq, rr⟩ := r1
      refine ⟨a, vs, rfl, .inl sq, ρ, M1, _, er.ext x1, m1, h1, fun ys M2 us H2 h2 m2 r2 x2 => ?_⟩
      exact p _ _ _ _ h2 m2 ((RpL.ext x2 _ rr).append r2) (x1.trans x2)
    | _ => exact h1.elim
end
end Zq


set_option Elab.async false
set_option linter.all false
set_option maxRecDepth 100000
namespace Zq
open PySem PySem.Spec PyProof.Rows L2
section
variable {X : Cx} {a b c e o : Expr} {es : List Expr} {wa wb w wo : WE} {pos p apos cpos : Pos} {K : PySem.W.Frag}
theorem pg_or {tg : Expr} {g g' : TG} (h : PG X tg g) (h' : PG X tg g') : PG X tg (fun v σ H Q => g v σ H Q ∨ g' v σ H Q) :=
  ⟨fun pins s σ H v u Q I r q => q.elim (h.run pins s σ H v u Q I r) (h'.run pins s σ H v u Q I r)⟩
/-- (a, b, ..) = a tuple or a list of that length -/
def kTL (n : Nat) (gs : WGs) (ρ : Zq.Env) (M : Mem) (R : Zq.Env → Mem → Prop) (o : Option (List D)) : Prop := match o with
  | some ds => ds.length = n ∧ gs ds ρ M R
  | none => False
def gTL (n : Nat) (gs : WGs) : WG := fun d ρ M R => match d with
  | .tup ds => ds.length = n ∧ gs ds ρ M R
  | .lst l => kTL n gs ρ M R (M l)
  | _ => False
theorem dg_tupL {gs : WGs} {n k : Nat} (hc : X.calm = true) (h : DGs X es gs) (hn : (assignEach es X.env).length = n := by rfl) (hst : (assignEach es X.env).findIdx? (·.1) = none := by rfl) : DG X (.Tuple es k pos) (gTL n gs) :=
  pg_w (pg_or (pg_tup hc h hn hst) (pg_unl hc h hn hst)) fun v σ H Q ⟨d, ρ, M, R, r, er, mr, h, p⟩ => by
    cases d with
    | tup ds =>
      unfold Rp at r
      obtain ⟨a, vs, rfl, sq, r⟩ := r
      have h : ds.length = n ∧ gs ds ρ M R := h
      exact .inl ⟨a, vs, rfl, sq, by rw [← r.length]; exact h.1, _, ρ, M, R, r, er, mr, h.2, p⟩
    | lst l =>
      cases r
      have h : kTL n gs ρ M R (M l) := h
      cases e : M l with
      | none =>
        rw [e] at h
        exact h.elim
      | some ds =>
        rw [e] at h
        obtain ⟨vs, rr, eh⟩ := mr l ds e
        exact .inr ⟨l, vs, rfl, SqL.of eh, by rw [← rr.length]; exact h.1, _, ρ, M, R, rr, er, mr, h.2, p⟩
    | _ => exact h.elim
theorem E_gTLt {n : Nat} {gs : WGs} {ds : List D} {ρ : Zq.Env} {M : Mem} {R : Zq.Env → Mem → Prop} : gTL n gs (.tup ds) ρ M R = (ds.length = n ∧ gs ds ρ M R) := (rfl)
theorem E_gTLl {n : Nat} {gs : WGs} {l : Addr} {ρ : Zq.Env} {M : Mem} {R : Zq.Env → Mem → Prop} : gTL n gs (.lst l) ρ M R = kTL n gs ρ M R (M l) := (rfl)
theorem E_kTL {n : Nat} {gs : WGs} {ds : List D} {ρ : Zq.Env} {M : Mem} {R : Zq.Env → Mem → Prop} : kTL n gs ρ M R (some ds) = (ds.length = n ∧ gs ds ρ M R) := (rfl)
/-- a text times an int -/
def fMulS : WF2 := fun x y M R => match x, y with
  | .str z, .int n => PySem.MulOk z n ∧ R (.str (PySem.Txt.mul z n)) M
  | _, _ => False
theorem op_mulS : OpR X (binaryOp .Mult) (fun x y H Q => ∃ z n, x = .str z ∧ y = .int n ∧ PySem.MulOk z n ∧ Q (.str (PySem.Txt.mul z n)) H) := by
  intro pins s σ H x y v u Q I rx ry h
  obtain ⟨z, n, rfl, rfl, hok, q⟩ := h
  obtain ⟨t, rfl⟩ := rx
  obtain ⟨t', rfl⟩ := ry
  exact PySem.SB.mul hok (fun t' tk => ⟨.str _, H, I.tok _, ⟨_, rfl⟩, q⟩)
theorem de_mulS (ha : DE X a wa) (hb : DE X b wb) : DE X (.BinOp a .Mult b pos) (wBin fMulS wa wb) := de_op op_mulS (by
  intro x y u v M H R Q rx ry m h p
  unfold fMulS at h
  split at h
  · exact ⟨_, _, rx, ry, h.1, p _ _ _ _ h.2 m rfl .refl⟩
  · exact h.elim) ha hb
theorem E_mulS {z : Str} {n : Int} {M : Mem} {R : DK} : fMulS (.str z) (.int n) M R = (PySem.MulOk z n ∧ R (.str (PySem.Txt.mul z n)) M) := (rfl)
end
end Zq


set_option Elab.async false
set_option linter.all false
set_option maxRecDepth 100000
namespace Zq
open PySem PySem.Spec PyProof.Rows L2
/-! ### enumerate of a tuple -/
theorem new_enumT (l : Addr) (items : Array Value) (n : Nat) (dct : Option Addr) (sl : Array (Option Value)) :
    Meets (Builtin.«enumerate.__new__» ⟨[.type "enumerate", .ref l], []⟩) (fun _ R t0 => t0.heap.get? l = some ⟨.type "tuple", dct, .seq items n, sl⟩ ∧
      R (.ok (.ret (.ref (t0.heap.push ⟨.type "tuple_iterator", none, .fields #[.ref l, .int 0 0], #[]⟩).objs.size)))
        { t0 with heap := (t0.heap.push ⟨.type "tuple_iterator", none, .fields #[.ref l, .int 0 0], #[]⟩).push ⟨.type "enumerate", none, .fields #[.none, .bool false, .ref t0.heap.objs.size, rawInt 0, .none, .none], #[]⟩ }) :=
  .of_wp fun prog w A R t0 q0 => by
    obtain ⟨hp, gg, dd, tk, oss⟩ := t0; obtain ⟨hl, q0⟩ := q0
    have sube := sub_enumerate
    have hT : Heap.IsTuple (Shared.heap ⟨hp, gg, dd, tk, oss⟩) l items := ⟨_, hl, rfl, n, rfl⟩
    wp_walk using AutoSeq1.wpAny_loadPart' hl
    refine wpAny_stack_any fun sk => wpAny_pure ?_
    split
    · rename_i cc _ _ _ _ _
      cases (cc == Value.type "enumerate")
      all_goals
        wp_walk using AutoSeq1.wpAny_loadPart' hl, wpAny_pyIter_tuple hT
        exact ⟨_, rfl, q0⟩
    · wp_walk using AutoSeq1.wpAny_loadPart' hl, wpAny_pyIter_tuple hT
      exact ⟨_, rfl, q0⟩
section
variable {prog : Program} {w : World} {A : Around} {E : Value → Shared → Prop} {s : Shared}
theorem call_enumT {l : Addr} {items : Array Value} {Q : Value → Shared → Prop} (hT : s.heap.IsTuple l items)
    (q : ∀ h', IsEnum h' (s.heap.objs.size + 1) s.heap.objs.size 0 .none → h'.IsTupleIter s.heap.objs.size l 0 → (∀ b o, s.heap.get? b = some o → h'.get? b = some o) → Q (.ref (s.heap.objs.size + 1)) { s with heap := h' }) :
    wpAny (model prog w) A (call (.type "enumerate") [.ref l]) Q E s := by
  obtain ⟨⟨c, dct, dt, sl⟩, hl, hc, n, hd⟩ := hT
  change c = .type "tuple" at hc
  change dt = .seq items n at hd
  subst hc hd
  refine callType_new F.called_enumerate (by decide) (F.typeCall_enumerate_1 _) (F.newCall_enumerate_1 _) (fun o1 => F.args_object_init_2 o1 _) F.entry_enumerate_new (new_enumT l items n dct sl) ⟨hl, ?_⟩
  have zz : (s.heap.push ⟨.type "tuple_iterator", none, .fields #[.ref l, .int 0 0], #[]⟩).objs.size = s.heap.objs.size + 1 := Heap.size_push ..
  show _ ∧ _
  rw [zz]
  have ee : IsEnum ((s.heap.push ⟨.type "tuple_iterator", none, .fields #[.ref l, .int 0 0], #[]⟩).push ⟨.type "enumerate", none, .fields #[.none, .bool false, .ref s.heap.objs.size, rawInt 0, .none, .none], #[]⟩) (s.heap.objs.size + 1) s.heap.objs.size 0 .none := by
    have g := Heap.get?_push_size (s.heap.push ⟨.type "tuple_iterator", none, .fields #[.ref l, .int 0 0], #[]⟩) (o := ⟨.type "enumerate", none, .fields #[.none, .bool false, .ref s.heap.objs.size, rawInt 0, .none, .none], #[]⟩) rfl
    rw [zz] at g
    exact g
  exact ⟨⟨_, ee, rfl⟩, q _ ee ⟨_, Heap.get?_push_of_some _ (Heap.get?_push_size _ rfl), rfl, rfl⟩ fun b o y => Heap.get?_push_of_some _ (Heap.get?_push_of_some _ y)⟩
end
def ItE (K : PySem.W.Frag) (a : Addr) : It :=
  ⟨fun i H => ∃ xs x, SqT K H a xs ∧ xs[i]? = some x, fun i H v H' => ∃ T x, v = .ref T ∧ H T = none ∧ H' = L2.upd H T (.tup [.int (i : Nat), x]) ∧ ∀ xs, SqT K H a xs → xs[i]? = some x, fun i H => ∃ xs, SqT K H a xs ∧ xs.length ≤ i⟩
theorem apart_kinds {h : Heap} {a b : Addr} {o o' : Obj} (e : h.get? a = some o) (e' : h.get? b = some o') (n : o.cls ≠ o'.cls) : a ≠ b := by
  rintro rfl
  rw [e] at e'
  cases e'
  exact n rfl
theorem turn_enumT {P : Program} {w : World} {K : PySem.W.Frag} {elts : List Expr} {kk : Nat} {tpos : Pos} (a e it : Addr) :
    Turn P w K (.Tuple elts kk tpos) (ItE K a) [e, it] e (fun i h => (∃ was, IsEnum h e it ((i : Nat) : Int) was) ∧ h.IsTupleIter it a i) where
  mem := List.mem_cons_self ..
  obj := fun i h st b hb => by
    obtain ⟨⟨was, he⟩, ⟨o, ho, hc, hd⟩⟩ := st
    rcases List.mem_cons.mp hb with z | z
    · subst z
      exact ⟨_, he, fun v q => nomatch q⟩
    · cases List.mem_singleton.mp z
      exact ⟨o, ho, fun v q => by rw [hd] at q; cases q⟩
  keep := fun i h h' ⟨⟨was, he⟩, hi⟩ k => ⟨⟨was, k e (List.mem_cons_self ..) _ he⟩, hi.at fun o q => k it (List.mem_cons_of_mem _ (List.mem_cons_self ..)) o q⟩
  item := by
    intro X hP hw hK hc i pins s σ H E I hf st hg
    subst hP hw hK
    obtain ⟨⟨was, he⟩, hit⟩ := st
    obtain ⟨xs, x, hq, hx⟩ := hg
    obtain ⟨its, rv, pt, hz⟩ := I.tuple hq
    obtain ⟨u, hu, ru⟩ := rv.get hx
    have hT : s.heap.IsTuple a its.toArray := pt
    obtain ⟨o1, e1, c1, d1⟩ := id hit
    obtain ⟨o2, e2, c2, _⟩ := id hT
    have n1 : e ≠ it := apart_kinds he e1 (by rw [c1]; show (Value.type "enumerate" : Value) ≠ .type "tuple_iterator"; decide)
    have n2 : e ≠ a := apart_kinds he e2 (by rw [c2]; show (Value.type "enumerate" : Value) ≠ .type "tuple"; decide)
    have n3 : a ≠ it := apart_kinds e2 e1 (by rw [c1, c2]; decide)
    have l1 : e < s.heap.objs.size := Heap.lt_size he
    have l2 : it < s.heap.objs.size := Heap.lt_size e1
    have hh : X.A.in1.handled = none := I.ok.hd hc
    refine wpAny_pyNext_enum_itemD (Draws.tuple hh it a n3 its.toArray) he ⟨hit, hT⟩ (i := i) ?_ n1 (by simp [n1, n2]) fun y h1 tk py ho ⟨hit', _⟩ hT' hsz hk => ?_
    · have := (List.getElem?_eq_some_iff.mp hu).1
      simpa using this
    have ey : y = u := by
      have z : its.toArray[i]? = some y := py
      have z2 : its.toArray[i]? = some u := by simpa using hu
      rw [z2] at z
      cases z
      rfl
    subst ey
    refine ⟨_, rfl, wpAny_letOwnedTupleGo_enum (s := { s with heap := h1, toks := tk + 1 }) ho fun h2 he' sb => ?_⟩
    have g2 : h2.get? s.heap.objs.size = some ⟨.type "tuple", none, .seq #[.int i tk, y], #[]⟩ := (sb.2 _ (Nat.ne_of_gt l1)).trans hT'
    have new : ObjOk X.prog X.w (L2.upd H s.heap.objs.size (.tup [.int (i : Nat), x])) h2 s.heap.objs.size (.tup [.int (i : Nat), x]) := by
      refine ⟨?_, [.int i tk, y], .cons ⟨_, rfl⟩ (.cons ru .nil), ⟨_, g2, rfl, _, rfl⟩⟩
      show 2 ≤ sizeLine
      decide
    have J : Inv X pins σ (L2.upd H s.heap.objs.size (.tup [.int (i : Nat), x])) { s with heap := h2, toks := tk + 1 } := by
      refine I.turnedNew (ch := [e, it]) (fun b ob hb q => ?_) hf (Nat.le_refl _) new
      have nb : b ≠ e ∧ b ≠ it := ⟨fun z => hb (by simp [z]), fun z => hb (by simp [z])⟩
      exact (sb.2 b nb.1).trans (hk b ob nb.1 nb.2 q)
    refine ⟨.ref s.heap.objs.size, _, J, rfl, ⟨_, x, rfl, I.hok.fresh (Nat.le_refl _), rfl, fun ys hy => by rw [I.tuple_inj hy hq]; exact hx⟩, ⟨⟨y, ?_⟩, hit'.at fun o q => (sb.2 it (Ne.symm n1)).trans q⟩, fun b hb => ?_⟩
    · rw [show ((i + 1 : Nat) : Int) = (i : Int) + 1 by omega]
      exact he'
    · have lb : b < s.heap.objs.size := by
        rcases List.mem_cons.mp hb with z | z
        · rw [z]
          exact l1
        · rw [List.mem_singleton.mp z]
          exact l2
      rw [upd_ne (Nat.ne_of_lt lb)]
      exact (hf b hb).1
  done := by
    intro X hP hw hK hc i pins s σ H E I hf st hg
    subst hP hw hK
    obtain ⟨⟨was, he⟩, hit⟩ := st
    obtain ⟨xs, hq, hx⟩ := hg
    obtain ⟨its, rv, pt, hz⟩ := I.tuple hq
    have hT : s.heap.IsTuple a its.toArray := pt
    obtain ⟨o1, e1, c1, d1⟩ := id hit
    obtain ⟨o2, e2, c2, _⟩ := id hT
    have n3 : a ≠ it := apart_kinds e2 e1 (by rw [c1, c2]; decide)
    obtain ⟨f0, f1, f2, f3, f4, f5⟩ := hf it (List.mem_cons_of_mem _ (List.mem_cons_self ..))
    have hh : X.A.in1.handled = none := I.ok.hd hc
    have hn : its.toArray[i]? = none := by
      have := rv.length
      rw [Array.getElem?_eq_none]
      simp
      omega
    have D : Draws X.prog X.w X.A.in1 it [it, a] i (fun _ _ => True) (fun j h => j = i ∧ h.IsTupleIter it a i ∧ h.IsTuple a its.toArray) :=
      { live := fun _ _ st => let ⟨o, ho, _⟩ := st.2.1; ⟨o, ho⟩
        frame := fun _ _ _ st hk => ⟨st.1, st.2.1.at fun o e => hk it (by simp) o e, st.2.2.at fun o e => hk a (by simp) o e⟩
        item := fun j s Q E hj st hQ => absurd hj (by rw [st.1]; exact Nat.lt_irrefl _)
        done := fun s Q E st hE => wpAny_nextOf_tuple_end hh st.2.1 st.2.2 hn hE }
    exact wpAny_pyNext_enum_endD D he ⟨rfl, hit, hT⟩ fun h' eb => ⟨rfl, I.turned (t' := s.toks) (fun b o hb q => eb b o hb q) f0 f1 f3 f4 f5⟩
  self := fun A i s Q E st h => let ⟨⟨_, he⟩, _⟩ := st; wpAny_pyIter_enum he h
section
variable {X : Cx} {a b c e o tg iter : Expr} {es : List Expr} {wa wb w wo : WE} {t : WA} {pos p apos cpos : Pos} {K : PySem.W.Frag}
def enD (k : Int) : List D → List D
  | [] => []
  | d :: ds => .tup [.int k, d] :: enD (k + 1) ds
theorem E_en0 {k : Int} : enD k [] = [] := (rfl)
theorem E_enS {k : Int} {d : D} {ds : List D} : enD k (d :: ds) = .tup [.int k, d] :: enD (k + 1) ds := (rfl)
theorem enD_len : ∀ (ds : List D) (k : Int), (enD k ds).length = ds.length
  | [], _ => rfl
  | d :: ds, k => by
    show (enD (k + 1) ds).length + 1 = ds.length + 1
    rw [enD_len ds]
theorem enD_get : ∀ (ds : List D) (k : Int) (i : Nat) {y : D}, (enD k ds)[i]? = some y → ∃ d, ds[i]? = some d ∧ y = .tup [.int (k + (i : Int)), d]
  | [], _, _, _, h => by simp [enD] at h
  | d :: ds, k, 0, y, h => by
    rw [E_enS, List.getElem?_cons_zero] at h
    cases h
    exact ⟨d, rfl, by simp⟩
  | d :: ds, k, i + 1, y, h => by
    rw [E_enS, List.getElem?_cons_succ] at h
    obtain ⟨d', h1, h2⟩ := enD_get ds (k + 1) i h
    refine ⟨d', h1, ?_⟩
    rw [h2]
    have e : k + 1 + (i : Int) = k + ((i + 1 : Nat) : Int) := by omega
    rw [e]
def kE (RI : Option Addr → List D → Mem → Prop) : List D → Mem → Prop := fun vs M1 => match vs with
  | [.tup ds] => RI none (enD 0 ds) M1
  | _ => False
def iE (t : WA) : WI := fun ρ M R => t ρ M (kE R)
theorem itrel_enum {H0 : Hp} {l : Addr} {ds : List D} {vs : List V} (h : SqT K H0 l vs) (r : RpL K H0 ds vs) : ItRel K H0 (ItE K l) none (enD 0 ds) where
  go := fun i H M x m st hi => by
    rw [enD_len, r.length] at hi
    exact ⟨vs, vs[i], x.tu _ _ h, List.getElem?_eq_getElem hi⟩
  yld := fun i y H H' M d x m st q ⟨T, z, e1, e2, e3, e4⟩ => by
    obtain ⟨d0, g, rfl⟩ := enD_get ds 0 i q
    have x2 : Ext K H H' := by
      rw [e3]
      exact .upd (.inl e2)
    refine ⟨⟨by rw [e3]; exact m.new e2, x2⟩, ?_⟩
    have rz := get_rp (RpL.ext x _ r) g (e4 vs (x.tu _ _ h))
    unfold Rp
    refine ⟨T, [.int (i : Nat), z], e1, .inl (.inl ?_), rpl_cons (by rw [Int.zero_add]; exact rfl) (rpl_cons (Rp.ext x2 _ rz) rpl_nil)⟩
    rw [e3]
    exact upd_same
  stop := fun i H M x m st hi => ⟨vs, x.tu _ _ h, by rw [← r.length, ← enD_len ds 0]; exact hi⟩
theorem di_enum {elts : List Expr} {kk : Nat} {tpos : Pos} (hg : Gl X "enumerate") (hm : X.mg "enumerate" = none) (ha : DA X [e] t) (hs : starEach [e] X.env = [(false, eval e X.env)] := by rfl) : DI X (.Tuple elts kk tpos) (.Call (.Name "enumerate" p) [e] [] pos) (iE t) := by
  refine ⟨fun pins s σ H Q I q => ?_⟩
  obtain ⟨ρ, M, R, er, mr, hw, pp⟩ := q
  refine Call_ (ld_blt I hg hm boot_enumerate (PyProof.Rows.callWith_type1 (thn (ha.run pos pins s σ H (fun vs H1 => ∃ l ys, vs = [.ref l] ∧ SqT X.K H1 l ys ∧ Q (ItE X.K l) H1) I ⟨ρ, M, _, er, mr, hw, fun ds M1 vs H1 h1 m1 r1 x1 => ?_⟩) fun us s1 ⟨vs, H1, I1, r1, q1⟩ => ?_) hs rfl))
  · unfold kE at h1
    split at h1
    · rename_i ds
      obtain ⟨v, rfl, r2⟩ := rp1 r1
      unfold Rp at r2
      obtain ⟨l, ys, rfl, sq, r⟩ := r2
      exact ⟨l, ys, rfl, sq, pp none _ M1 H1 _ h1 m1 trivial x1 (itrel_enum sq r)⟩
    · exact h1.elim
  · obtain ⟨l, ys, rfl, sq, q⟩ := q1
    obtain ⟨u1, rfl, r0⟩ := vals1 r1
    cases r0
    obtain ⟨its, _, pt, _⟩ := I1.tuple sq
    refine call_enumT (show s1.heap.IsTuple l its.toArray from pt) fun h' he hit hk => wpAny_pyIter_enum he ?_
    have I2 : Inv X pins σ H1 { s1 with heap := h' } := I1.kept (t' := s1.toks) hk
    refine ⟨s1.heap.objs.size + 1, [s1.heap.objs.size + 1, s1.heap.objs.size], _, _, H1, rfl, I2, turn_enumT l (s1.heap.objs.size + 1) s1.heap.objs.size, ⟨⟨.none, he⟩, hit⟩, fun b hb => ?_, q⟩
    have le : s1.heap.objs.size ≤ b := by
      rcases List.mem_cons.mp hb with z | z
      · rw [z]
        exact Nat.le_succ _
      · rw [List.mem_singleton.mp z]
        exact Nat.le_refl _
    exact I1.fpOk le (I1.hok.fresh le)
theorem E_iE {R : Option Addr → List D → Mem → Prop} {M : Mem} {ρ : Zq.Env} : iE t ρ M R = t ρ M (kE R) := (rfl)
theorem E_kE {R : Option Addr → List D → Mem → Prop} {M : Mem} {ds : List D} : kE R [.tup ds] M = R none (enD 0 ds) M := (rfl)
/-! ### in -/
def flatD : D → Bool
  | .non => true
  | .bl _ => true
  | .int _ => true
  | .str _ => true
  | _ => false
def toV : D → V
  | .bl b => .bl b
  | .int i => .int i
  | .str x => .str x
  | _ => .non
theorem flat_rp {H : Hp} {d : D} {v : V} (f : flatD d = true) (r : Rp K H d v) : v = toV d ∧ flatV v = true := by
  cases d with
  | non => cases r; exact ⟨rfl, rfl⟩
  | bl _ => cases r; exact ⟨rfl, rfl⟩
  | int _ => cases r; exact ⟨rfl, rfl⟩
  | str _ => cases r; exact ⟨rfl, rfl⟩
  | _ => cases f
theorem flat_rpl {H : Hp} : ∀ {ds : List D} {vs : List V}, ds.all flatD = true → RpL K H ds vs → vs = ds.map toV ∧ vs.all flatV = true
  | [], vs, _, r => by
    unfold RpL at r
    subst r
    exact ⟨rfl, rfl⟩
  | d :: ds, vs, f, r => by
    rw [List.all_cons, Bool.and_eq_true] at f
    unfold RpL at r
    obtain ⟨v, vs', rfl, r1, r2⟩ := r
    obtain ⟨e1, e2⟩ := flat_rp f.1 r1
    obtain ⟨e3, e4⟩ := flat_rpl f.2 r2
    refine ⟨by rw [List.map_cons, ← e1, ← e3], ?_⟩
    rw [List.all_cons, e2, e4]
    rfl
def inK (neg : Bool) (x : D) (ds : List D) : Bool := if neg then !inV (toV x) (ds.map toV) else inV (toV x) (ds.map toV)
def fIn (neg : Bool) : WF2 := fun x y M R => match y with
  | .tup ds => flatD x = true ∧ ds.all flatD = true ∧ R (.bl (inK neg x ds)) M
  | .ro ds => flatD x = true ∧ ds.all flatD = true ∧ R (.bl (inK neg x ds)) M
  | .lst a => (match M a with
    | some ds => flatD x = true ∧ ds.all flatD = true ∧ R (.bl (inK neg x ds)) M
    | none => False)
  | _ => False
theorem dop_in {neg : Bool} {x y : D} {u v : V} {M : Mem} {H : Hp} {R : DK} {Q : VK} (rx : Rp K H x u) (ry : Rp K H y v) (m : MR K H M) (h : fIn neg x y M R) (p : PostE K H R Q) : rIn K neg u v H Q := by
  unfold fIn at h
  have fin : ∀ {ds : List D} {vs : List V}, flatD x = true → ds.all flatD = true → RpL K H ds vs → R (.bl (inK neg x ds)) M → flatV u = true ∧ vs.all flatV = true ∧ Q (.bl (if neg then !inV u vs else inV u vs)) H := fun f1 f2 r hr => by
    obtain ⟨a1, a2⟩ := flat_rp f1 rx
    obtain ⟨b1, b2⟩ := flat_rpl f2 r
    refine ⟨a2, b2, ?_⟩
    rw [a1, b1]
    exact p _ _ _ _ hr m rfl .refl
  split at h
  · rename_i ds
    unfold Rp at ry
    obtain ⟨l, vs, rfl, sq, r⟩ := ry
    obtain ⟨f1, f2, hr⟩ := h
    obtain ⟨g1, g2, g3⟩ := fin f1 f2 r hr
    exact ⟨l, vs, rfl, .inr sq, g1, g2, g3⟩
  · rename_i ds
    unfold Rp at ry
    obtain ⟨l, vs, rfl, sq, r⟩ := ry
    obtain ⟨f1, f2, hr⟩ := h
    obtain ⟨g1, g2, g3⟩ := fin f1 f2 r hr
    exact ⟨l, vs, rfl, .inl sq.sq, g1, g2, g3⟩
  · rename_i l
    split at h
    · rename_i ds e1
      cases ry
      obtain ⟨vs, r, eh⟩ := m l ds e1
      obtain ⟨f1, f2, hr⟩ := h
      obtain ⟨g1, g2, g3⟩ := fin f1 f2 r hr
      exact ⟨l, vs, rfl, .inl (SqL.of eh), g1, g2, g3⟩
    · exact h.elim
  · exact h.elim
theorem E_fInT {neg : Bool} {x : D} {ds : List D} {M : Mem} {R : DK} : fIn neg x (.tup ds) M R = (flatD x = true ∧ ds.all flatD = true ∧ R (.bl (inK neg x ds)) M) := (rfl)
/-! ### the index of a text in a constant tuple of texts -/
def GlT (K : PySem.W.Frag) (mg : Str → Option Value) (x : Str) : Prop := ∃ a o, mg x = some (.ref a) ∧ K.lookup a = some o ∧ o.cls = .type "tuple" ∧ o.dict = none
def ixK (zs : List D) (R : DK) : DK := fun y M => match y with
  | .str z => ∃ j ys, zs = List.map D.str ys ∧ ys[j]? = some z ∧ (∀ m, m < j → ys[m]? ≠ some z) ∧ R (.int (j : Nat)) M
  | _ => False
def ix1 (zs : List D) (R : DK) : List D → Mem → Prop := fun ds M => match ds with
  | [y] => ixK zs R y M
  | _ => False
def wIdx (zs : List D) (w : WE) : WE := fun ρ M R => w ρ M (ixK zs R)
theorem E_wIdx {zs : List D} {ρ : Zq.Env} {M : Mem} {R : DK} : wIdx zs w ρ M R = w ρ M (ixK zs R) := (rfl)
theorem E_ixK {zs : List D} {z : Str} {M : Mem} {R : DK} : ixK zs R (.str z) M = ∃ j ys, zs = List.map D.str ys ∧ ys[j]? = some z ∧ (∀ m, m < j → ys[m]? ≠ some z) ∧ R (.int (j : Nat)) M := (rfl)
theorem rpl_strs {H : Hp} : ∀ {ys : List Str} {vs : List V}, RpL K H (ys.map D.str) vs → vs = ys.map V.str
  | [], vs, r => by
    unfold RpL at r
    exact r
  | y :: ys, vs, r => by
    have r' : RpL K H (.str y :: ys.map D.str) vs := r
    unfold RpL at r'
    obtain ⟨v, vs', rfl, r1, r2⟩ := r'
    cases r1
    rw [rpl_strs r2]
    rfl
theorem de_idx {x : Str} {zs : List D} (hG : Glb X.K X.mg x (.tup zs)) (hT : GlT X.K X.mg x) (he : DE X e w) (hg : Gl X x := by rfl) (hd : (x == ("__debug__" : Str)) = false := by decide)
    (hbase : attributeBase (.Name x p) "index" X.env (eval (.Name x p) X.env) = eval (.Name x p) X.env := by rfl)
    (hfew : ((backTo cpos (starEach [e] X.env)).all (fun x => !x.1) && (backToKw cpos (keywordEach [] X.env)).all (fun x => x.1.isSome)
      && decide ([e].length + ([] : List Keyword).length + (if ([] : List Keyword).isEmpty then 0 else 1) < 30)) = true := by rfl)
    (hline : (apos.endLine == cpos.line) = true := by rfl) (hs : starEach [e] X.env = (false, eval e X.env) :: starEach [] X.env := by rfl) (hplain : (backTo cpos (starEach [] X.env)).any (·.1) = false := by rfl) :
    DE X (.Call (.Attribute (.Name x p) "index" apos) [e] [] cpos) (wIdx zs w) := by
  obtain ⟨u, v, hm, r, rp⟩ := hG
  obtain ⟨a, ob, hm2, lk, hc, hdn⟩ := hT
  rw [hm] at hm2
  cases hm2
  exact pe_w (pe_bm PySem.F.plainAttrs_tuple PySem.F.slot_tuple_index PySem.F.type_tuple_index mt_tup_index (pe_glob hg hm r hd) (da_cons he da_nil hs) hbase hfew hline hs hplain) fun σ H Q ⟨ρ, M, R, er, mr, hw, pp⟩ => by
    have rH := rp H
    unfold Rp at rH
    obtain ⟨a', vs, rfl, sq, rl⟩ := rH
    cases r
    refine ⟨.inr (.inl ⟨rfl, ob, lk, hc, hdn⟩), ρ, M, ix1 zs R, er, mr, ?_, fun ds M2 us H2 h2 m2 r2 x2 => ?_⟩
    · show aCons w aNil ρ M (ix1 zs R)
      exact hw
    · unfold ix1 at h2
      split at h2
      · rename_i y
        unfold ixK at h2
        split at h2
        · rename_i z
          obtain ⟨j, ys, rfl, h3, h4, h5⟩ := h2
          obtain ⟨v', rfl, rv⟩ := rp1 r2
          cases rv
          refine ⟨a, ys, z, j, rfl, rfl, ?_, h3, h4, pp _ _ _ _ h5 m2 rfl x2⟩
          rw [← rpl_strs rl]
          exact x2.tu _ _ sq
        · exact h2.elim
      · exact h2.elim
/-! ### the head's -/
def tndB (K : PySem.W.Frag) (x : Str) : Bool := match K.lookup (He.ga K x) with
  | some ⟨.type c, none, _, _⟩ => decide (c = "tuple")
  | _ => false
theorem glT_of {h : Heap} {mg : Str → Option Value} (Y : K.In h) (G : h.Ns mainGlobals mg) {x : Str} (c : PySem.W.nsIn K mainGlobals x = some (some (.ref (He.ga K x)))) (ct : tndB K x = true) : GlT K mg x := by
  unfold tndB at ct
  split at ct
  · rename_i c0 _ _ q
    exact ⟨_, _, PySem.W.mg_of Y G c, q, by rw [of_decide_eq_true ct], rfl⟩
  · cases ct
end
end Zq


set_option Elab.async false
set_option linter.all false
set_option maxRecDepth 100000
namespace Zq
open PySem PySem.Spec PyProof.Rows L2
theorem dop_in2 {K : PySem.W.Frag} {neg : Bool} : DOp K (fIn neg) (rIn K neg) := by
  intro x y u v M H R Q rx ry m h p
  exact dop_in rx ry m h p
end Zq


set_option Elab.async false
set_option linter.all false
set_option maxRecDepth 100000
namespace Zq
open PySem PySem.Spec PyProof.Rows L2
section
variable {X : Cx} {a b c e o tg iter : Expr} {es : List Expr} {sts : List Stmt} {wa wb w wo wi : WE} {t : WA} {s1 : WS} {pos p apos cpos : Pos} {K : PySem.W.Frag}
/-! ### tuple(..) -/
def bTupOf : WB := fun ds M R => match ds with
  | [.lst l] => (match M l with
    | some xs => R (.tup xs) M
    | none => False)
  | [.tup xs] => R (.tup xs) M
  | _ => False
theorem db_tupOf : DB K bTupOf (fun xs H Q => ∃ p ys, xs = [.ref p] ∧ ((SqL K H p ys ∧ ∀ l, H l = none → Q (.ref l) (L2.upd H l (.tup ys))) ∨ (SqT K H p ys ∧ Q (.ref p) H))) := by
  intro ds vs M H R Q r m h p
  unfold bTupOf at h
  split at h
  · split at h
    · rename_i xs e
      obtain ⟨v, rfl, r1⟩ := rp1 r
      cases r1
      obtain ⟨us, q, eh⟩ := m _ xs e
      refine ⟨_, us, rfl, .inl ⟨SqL.of eh, fun l hl => ?_⟩⟩
      have x : Ext K H (L2.upd H l (.tup us)) := .upd (.inl hl)
      refine p _ _ _ _ h (m.new hl) ?_ x
      unfold Rp
      exact ⟨l, us, rfl, .inl (.inl upd_same), RpL.ext x _ q⟩
    · exact h.elim
  · rename_i xs
    obtain ⟨v, rfl, r1⟩ := rp1 r
    have r2 := r1
    unfold Rp at r1
    obtain ⟨l, us, rfl, sq, q⟩ := r1
    exact ⟨l, us, rfl, .inr ⟨sq, p _ _ _ _ h m r2 .refl⟩⟩
  · exact h.elim
/-! ### l.pop(i) -/
def popK (x y : D) (M : Mem) (R : DK) : Prop := match x, y with
  | .lst l, .int i => (match M l with
    | some ds => (0 ≤ i ∧ i < 2 ^ 62) ∧ (match ds[i.toNat]? with
      | some d => R d (M.put l (ds.eraseIdx i.toNat))
      | none => False)
    | none => False)
  | _, _ => False
def pop1 (x : D) (R : DK) : List D → Mem → Prop := fun ds M => match ds with
  | [y] => popK x y M R
  | _ => False
def wPop (wo w : WE) : WE := fun ρ M R => wo ρ M fun x M1 => isL x M1 ∧ w ρ M1 fun y M2 => popK x y M2 R
theorem RpL.erase {H : Hp} : ∀ {ds : List D} {vs : List V} (i : Nat), RpL K H ds vs → RpL K H (ds.eraseIdx i) (vs.eraseIdx i)
  | [], vs, i, r => by
    unfold RpL at r
    subst r
    simp only [List.eraseIdx_nil]
    exact rpl_nil
  | d :: ds, vs, 0, r => by
    unfold RpL at r
    obtain ⟨v, vs', rfl, _, r2⟩ := r
    exact r2
  | d :: ds, vs, i + 1, r => by
    unfold RpL at r
    obtain ⟨v, vs', rfl, r1, r2⟩ := r
    exact rpl_cons r1 (RpL.erase i r2)
theorem de_pop (ho : DE X o wo) (he : DE X e w)
    (hbase : attributeBase o "pop" X.env (eval o X.env) = eval o X.env := by rfl)
    (hfew : ((backTo cpos (starEach [e] X.env)).all (fun x => !x.1) && (backToKw cpos (keywordEach [] X.env)).all (fun x => x.1.isSome)
      && decide ([e].length + ([] : List Keyword).length + (if ([] : List Keyword).isEmpty then 0 else 1) < 30)) = true := by rfl)
    (hline : (apos.endLine == cpos.line) = true := by rfl) (hs : starEach [e] X.env = (false, eval e X.env) :: starEach [] X.env := by rfl) (hplain : (backTo cpos (starEach [] X.env)).any (·.1) = false := by rfl) :
    DE X (.Call (.Attribute o "pop" apos) [e] [] cpos) (wPop wo w) :=
  pe_w (pe_bm PySem.F.plainAttrs_list PySem.F.slot_list_pop PySem.F.type_list_pop mt_popAt ho (da_cons he da_nil hs) hbase hfew hline hs hplain) fun σ H Q ⟨ρ, M, R, er, mr, h, p⟩ => by
    refine ⟨ρ, M, _, er, mr, h, fun x M1 v H1 h1 m1 r1 x1 => ?_⟩
    obtain ⟨h0, h1⟩ := h1
    cases x with
    | lst l =>
      cases r1
      refine ⟨?_, ρ, M1, pop1 (.lst l) R, er.ext x1, m1, h1, fun ds M2 vs H2 h2 m2 r2 x2 => ?_⟩
      · cases e1 : M1 l with
        | none =>
          unfold isL at h0
          simp only [e1] at h0
          cases h0
        | some ds =>
          obtain ⟨us, _, eh⟩ := m1 l ds e1
          exact .inl ⟨rfl, us, SqL.of eh⟩
      · unfold pop1 at h2
        split at h2
        · rename_i y
          unfold popK at h2
          split at h2
          · rename_i i heq
            split at h2
            · rename_i ds e2
              obtain ⟨⟨i0, i1⟩, h2⟩ := h2
              split at h2
              · rename_i d e3
                obtain ⟨us, ru, eh⟩ := m2 _ ds e2
                obtain ⟨v, rfl, rv⟩ := rp1 r2
                cases rv
                obtain ⟨u, e4, ru4⟩ := ru.get e3
                cases heq
                have hl := (List.getElem?_eq_some_iff.mp e4).1
                refine ⟨_, us, i, i.toNat, u, rfl, rfl, eh, by omega, by omega, ?_, e4, ?_⟩
                · unfold seqIndex?
                  simp only
                  rw [if_neg (show ¬ i < 0 by omega), if_pos]
                  rw [Bool.and_eq_true, decide_eq_true_eq, decide_eq_true_eq]
                  omega
                · have xe : Ext X.K H2 (L2.upd H2 _ (.lst (us.eraseIdx i.toNat))) := .upd (.inr ⟨us, eh⟩)
                  exact p _ _ _ _ h2 (m2.put (RpL.erase _ ru) (.inr ⟨us, eh⟩)) (Rp.ext xe _ ru4) (x1.trans (x2.trans xe))
              · exact h2.elim
            · exact h2.elim
          · exact h2.elim
        · exact h2.elim
    | _ => exact h0.elim
/-! ### for over enumerate of a list -/
structure ItRel2 (K : PySem.W.Frag) (H0 : Hp) (J : It) (src : Option Addr) (all ds : List D) : Prop where
  go : ∀ i H M, Ext K H0 H → MR K H M → Stands src all M → i < ds.length → J.go i H
  yld : ∀ i x H H' M d, Ext K H0 H → MR K H M → Stands src all M → ds[i]? = some d → J.yld i H x H' → (MR K H' M ∧ Ext K H H') ∧ Rp K H' d x
  stop : ∀ i H M, Ext K H0 H → MR K H M → Stands src all M → ds.length ≤ i → J.stop i H
theorem itrel_enumL {H0 : Hp} {l : Addr} {ds : List D} : ItRel2 K H0 (Ite K l) (some l) ds (enD 0 ds) where
  go := fun i H M x m st hi => by
    obtain ⟨vs, r, eh⟩ := m l ds st
    rw [enD_len, r.length] at hi
    exact ⟨vs, vs[i], SqL.of eh, List.getElem?_eq_getElem hi⟩
  yld := fun i y H H' M d x m st q ⟨T, z, e1, e2, e3, e4⟩ => by
    obtain ⟨vs, r, eh⟩ := m l ds st
    obtain ⟨d0, g, rfl⟩ := enD_get ds 0 i q
    have x2 : Ext K H H' := by
      rw [e3]
      exact .upd (.inl e2)
    refine ⟨⟨by rw [e3]; exact m.new e2, x2⟩, ?_⟩
    have rz := get_rp r g (e4 vs (SqL.of eh))
    unfold Rp
    refine ⟨T, [.int (i : Nat), z], e1, .inl (.inl ?_), rpl_cons (by rw [Int.zero_add]; exact rfl) (rpl_cons (Rp.ext x2 _ rz) rpl_nil)⟩
    rw [e3]
    exact upd_same
  stop := fun i H M x m st hi => by
    obtain ⟨vs, r, eh⟩ := m l ds st
    rw [enD_len, r.length] at hi
    exact ⟨vs, SqL.of eh, hi⟩
def forE (g : WG) (b : WS) (R : WEnds) (ρ : Zq.Env) : List D → Mem → Prop := fun vs M1 => match vs with
  | [.lst l] => (match M1 l with
    | some ds => forGo (some l) ds g b R (enD 0 ds) ρ M1
    | none => False)
  | _ => False
def sForE (t : WA) (g : WG) (b : WS) : WS := fun R ρ M => t ρ M (forE g b R ρ)
theorem ds_forE {elts : List Expr} {kk : Nat} {tpos : Pos} {g : WG} (hp : PassesOwn (model X.prog X.w) X.A X.env X.xe) (hc : X.calm = true) (hge : Gl X "enumerate") (hm : X.mg "enumerate" = none) (ha : DA X [e] t) (hg : DG X (.Tuple elts kk tpos) g) (hb : DSs X sts s1)
    (hs0 : starEach [e] X.env = [(false, eval e X.env)] := by rfl) (hs : ∀ x, foldedSetIterable (.Call (.Name "enumerate" p) [e] [] pos) X.env x = pure x := by intro _; rfl) :
    DS X (.For (.Tuple elts kk tpos) (.Call (.Name "enumerate" p) [e] [] pos) sts [] cpos) (sForE t g s1) := ps_w (ps_for hp hc (pi_enum hge hm ha hs0) hg hb hs) fun Dn σ H ⟨ρ, M, R, er, mr, h, p⟩ => by
  refine ⟨ρ, M, _, er, mr, h, fun vs0 M1 us0 H1 h1 m1 r1 x1 => ?_⟩
  unfold forE at h1
  split at h1
  · rename_i l
    split at h1
    · rename_i ds0 e0
      obtain ⟨v, rfl, rv⟩ := rp1 r1
      cases rv
      obtain ⟨us, ru, eh⟩ := m1 l ds0 e0
      refine ⟨l, us, rfl, SqL.of eh, ?_⟩
      have jr : ItRel2 X.K H1 (Ite X.K l) (some l) ds0 (enD 0 ds0) := itrel_enumL
      generalize enD 0 ds0 = ds at *
      refine ⟨fun i m σ' H' => m = ds.length - i ∧ i ≤ ds.length ∧ ∃ ρ' M', ER X.K H' ρ' σ' ∧ MR X.K H' M' ∧ Ext X.K H1 H' ∧ forGo (some l) ds0 g s1 R (ds.drop i) ρ' M', ⟨ds.length, by simp, Nat.zero_le _, ρ, M1, er.ext x1, m1, .refl, h1⟩, ?_⟩
      rintro i m σ2 H2 ⟨rfl, hi, ρ2, M2, er2, mr2, x2, w2⟩
      by_cases hlt : i < ds.length
      · rw [List.drop_eq_getElem_cons hlt] at w2
        obtain ⟨st2, w2⟩ := w2
        refine .inr ⟨jr.go i H2 M2 x2 mr2 st2 hlt, fun σ' H' => ∃ ρ' M', ER X.K H' ρ' σ' ∧ MR X.K H' M' ∧ Ext X.K H1 H' ∧ forGo (some l) ds0 g s1 R (ds.drop (i + 1)) ρ' M', fun σ' H' q => ⟨ds.length - (i + 1), by omega, rfl, hlt, q⟩, fun x H3 y => ?_⟩
        obtain ⟨⟨mr3, x23⟩, rx⟩ := jr.yld i x H2 H3 M2 ds[i] x2 mr2 st2 (List.getElem?_eq_getElem hlt) y
        refine ⟨ds[i], ρ2, M2, _, rx, er2.ext x23, mr3, w2, fun ρ4 M4 σ4 H4 w4 er4 mr4 x34 => ?_⟩
        have x4 := x23.trans x34
        have again : PostN X.K H4 (forGo (some l) ds0 g s1 R (ds.drop (i + 1))) (fun σ' H' => ∃ ρ' M', ER X.K H' ρ' σ' ∧ MR X.K H' M' ∧ Ext X.K H1 H' ∧ forGo (some l) ds0 g s1 R (ds.drop (i + 1)) ρ' M') :=
          fun ρ' M' σ' H' w' er' mr' x' => ⟨ρ', M', er', mr', x2.trans (x4.trans x'), w'⟩
        have px := p.ext (x1.trans (x2.trans x4))
        exact ⟨ρ4, M4, _, er4, mr4, w4, ⟨again, px.rt, px.nx, again⟩⟩
      · have ee : i = ds.length := by omega
        subst ee
        rw [List.drop_length] at w2
        exact .inl ⟨jr.stop _ H2 M2 x2 mr2 w2.1 (Nat.le_refl _), p.nx _ _ _ _ w2.2 er2 mr2 (x1.trans x2)⟩
    · exact h1.elim
  · exact h1.elim
/-! ### targets of lists in comprehensions -/
theorem dgo_tupL {own : List Nat} {gs : WGs} {n k : Nat} (hc : X.calm = true) (h : PGs X es (liftGso X.K own gs)) (hn : (assignEach es X.env).length = n := by rfl) (hst : (assignEach es X.env).findIdx? (·.1) = none := by rfl) : PG X (.Tuple es k pos) (liftGo X.K own (gTL n gs)) :=
  pg_w (pg_or (pg_tup hc h hn hst) (pg_unl hc h hn hst)) fun v σ H Q ⟨d, ρ, M, R, r, er, mr, h, p⟩ => by
    cases d with
    | tup ds =>
      unfold Rp at r
      obtain ⟨a, vs, rfl, sq, r⟩ := r
      have h : ds.length = n ∧ gs ds ρ M R := h
      exact .inl ⟨a, vs, rfl, sq, by rw [← r.length]; exact h.1, _, ρ, M, R, r, er, mr, h.2, p⟩
    | lst l =>
      cases r
      have h : kTL n gs ρ M R (M l) := h
      cases e : M l with
      | none =>
        rw [e] at h
        exact h.elim
      | some ds =>
        rw [e] at h
        obtain ⟨vs, rr, eh⟩ := mr l ds e
        exact .inr ⟨l, vs, rfl, SqL.of eh, by rw [← rr.length]; exact h.1, _, ρ, M, R, rr, er, mr, h.2, p⟩
    | _ => exact h.elim
end
end Zq


set_option Elab.async false
set_option linter.all false
set_option maxRecDepth 100000
namespace Zq
open PySem PySem.Spec PyProof.Rows L2
section
variable {X : Cx} {a b c e o tg iter kx vx : Expr} {es : List Expr} {wa wb w wo wi : WE} {pos p apos cpos : Pos} {K : PySem.W.Frag}
/-! ### dicts with texts as keys -/
def dkOf (ks : List Str) (vs : List V) : List (Key × V) := (ks.zip vs).map fun p => (.inr p.1, p.2)
theorem valV_zip : ∀ {ks : List Str} {vs : List V} {i : Nat} {z : Str} {v : V}, ks[i]? = some z → (∀ m, m < i → ks[m]? ≠ some z) → vs[i]? = some v → valV (dkOf ks vs) (.inr z) = some v
  | [], _, _, _, _, h, _, _ => by simp at h
  | _ :: _, [], _, _, _, _, _, h => by simp at h
  | k :: ks, u :: vs, 0, z, v, h1, _, h3 => by
    simp at h1 h3
    subst h1 h3
    exact valV_pos rfl
  | k :: ks, u :: vs, i + 1, z, v, h1, h2, h3 => by
    have ne : ¬ ((.inr k : Key) = .inr z) := fun q => by
      have q2 : k = z := by injection q
      exact h2 0 (by omega) (by rw [q2]; rfl)
    show valV ((.inr k, u) :: dkOf ks vs) (.inr z) = some v
    rw [valV_neg ne]
    exact valV_zip (by simpa using h1) (fun m hm => by
      have := h2 (m + 1) (by omega)
      simpa using this) (by simpa using h3)
def dgK (x y : D) (R : DK) (M : Mem) : Prop := match x, y with
  | .dic ks ds, .str z => ∃ (i : Nat) (d : D), ks[i]? = some z ∧ (∀ m, m < i → ks[m]? ≠ some z) ∧ ds[i]? = some d ∧ R d M
  | _, _ => False
def wDGet (wo w : WE) : WE := fun ρ M R => wo ρ M fun x M1 => w ρ M1 fun y M2 => dgK x y R M2
theorem de_dget (hu : X.A.units + 64 < cLine) (ho : DE X o wo) (hi : DE X e w) (hs : NoSl e := by exact fun _ _ => rfl) : DE X (.Subscript o e pos) (wDGet wo w) :=
  pe_w (pe_dget (by omega) ho hi hs) fun σ H Q ⟨ρ, M, R, er, mr, h, p⟩ => by
    refine ⟨ρ, M, _, er, mr, h, fun x M1 v H1 h1 m1 r1 x1 => ⟨ρ, M1, _, er.ext x1, m1, h1, fun y M2 v2 H2 h2 m2 r2 x2 => ?_⟩⟩
    unfold dgK at h2
    split at h2
    · rename_i ks ds z
      have r1 := Rp.ext x2 _ r1
      unfold Rp at r1
      obtain ⟨a, vs, rfl, eh, hl, rr⟩ := r1
      cases r2
      obtain ⟨i, d, h3, h4, h5, h6⟩ := h2
      obtain ⟨u, e5, ru⟩ := rr.get h5
      exact ⟨a, u, rfl, .inl ⟨_, .inr z, .inl eh, rfl, (valV_zip h3 h4 e5).symm⟩, p _ _ _ _ h6 m2 ru (x1.trans x2)⟩
    · exact h2.elim
/-! ### {n: (x, y) for n, x, y in t} -/
def Keeps (H H' : Hp) : Prop := ∀ a o, H a = some o → H' a = some o
theorem Keeps.refl {H : Hp} : Keeps H H := fun _ _ h => h
theorem Keeps.new {H H' : Hp} (k : Keeps H H') {q : Addr} {u : HO} (h : H q = none) : Keeps H (L2.upd H' q u) := fun a o e => by
  rw [upd_ne]
  · exact k a o e
  · rintro rfl
    rw [h] at e
    cases e
theorem Keeps.free {H H' : Hp} (k : Keeps H H') {q : Addr} (h : H' q = none) : H q = none := by
  cases e : H q with
  | none => rfl
  | some o =>
    rw [k q o e] at h
    cases h
theorem Keeps.ext {H H' : Hp} (k : Keeps H H') : Ext K H H' := by
  refine ⟨fun a vs q => ?_, fun a vs q => ?_, fun a kvs q => k _ _ q, fun a o u q => k _ _ q⟩
  · rcases q with (q | ⟨u, q⟩) | q
    · exact .inl (.inl (k _ _ q))
    · exact .inl (.inr ⟨u, k _ _ q⟩)
    · exact .inr q
  · rcases q with ⟨u, q⟩ | q
    · exact .inl ⟨u, k _ _ q⟩
    · exact .inr q
theorem Keeps.mr {H H' : Hp} {M : Mem} (k : Keeps H H') (m : MR K H M) : MR K H' M := fun a ds e => by
  obtain ⟨vs, r, eh⟩ := m a ds e
  exact ⟨vs, RpL.ext k.ext _ r, k _ _ eh⟩
/-- the pairs made so far -/
def Pr (K : PySem.W.Frag) (H1 H : Hp) : List (D × D) → List V → Prop
  | [], vs => vs = []
  | t :: ts, vs => ∃ T vx vy vs', vs = .ref T :: vs' ∧ H T = some (.tup [vx, vy]) ∧ Rp K H1 t.1 vx ∧ Rp K H1 t.2 vy ∧ Pr K H1 H ts vs'
theorem Pr.keep {H1 H H' : Hp} (k : ∀ T u, H T = some (.tup u) → H' T = some (.tup u)) : ∀ {ts : List (D × D)} {vs : List V}, Pr K H1 H ts vs → Pr K H1 H' ts vs
  | [], _, h => h
  | t :: ts, vs, h => by
    obtain ⟨T, vx, vy, vs', e, h1, h2, h3, h4⟩ := h
    exact ⟨T, vx, vy, vs', e, k _ _ h1, h2, h3, Pr.keep k h4⟩
theorem Pr.snoc {H1 H : Hp} {T : Addr} {vx vy : V} {t : D × D} (h1 : H T = some (.tup [vx, vy])) (h2 : Rp K H1 t.1 vx) (h3 : Rp K H1 t.2 vy) : ∀ {ts : List (D × D)} {vs : List V}, Pr K H1 H ts vs → Pr K H1 H (ts ++ [t]) (vs ++ [.ref T])
  | [], _, h => by
    have e : _ = [] := h
    subst e
    exact ⟨T, vx, vy, [], rfl, h1, h2, h3, rfl⟩
  | u :: ts, vs, h => by
    obtain ⟨T', ux, uy, vs', rfl, g1, g2, g3, g4⟩ := h
    exact ⟨T', ux, uy, vs' ++ [.ref T], rfl, g1, g2, g3, Pr.snoc h1 h2 h3 g4⟩
theorem Pr.rpl {H1 H : Hp} (k : Keeps H1 H) : ∀ {ts : List (D × D)} {vs : List V}, Pr K H1 H ts vs → RpL K H (ts.map fun t => .tup [t.1, t.2]) vs
  | [], _, h => by
    have e : _ = [] := h
    subst e
    exact rpl_nil
  | t :: ts, vs, h => by
    obtain ⟨T, vx, vy, vs', rfl, h1, h2, h3, h4⟩ := h
    refine rpl_cons ?_ (Pr.rpl k h4)
    unfold Rp
    exact ⟨T, _, rfl, .inl (.inl h1), rpl_cons (Rp.ext k.ext _ h2) (rpl_cons (Rp.ext k.ext _ h3) rpl_nil)⟩
theorem Pr.len {H1 H : Hp} : ∀ {ts : List (D × D)} {vs : List V}, Pr K H1 H ts vs → vs.length = ts.length
  | [], _, h => by
    have e : _ = [] := h
    subst e
    rfl
  | t :: ts, vs, h => by
    obtain ⟨T, vx, vy, vs', rfl, h1, h2, h3, h4⟩ := h
    rw [List.length_cons, List.length_cons, Pr.len h4]
def dcK (i j k : Nat) (ρ : Zq.Env) (R : DK) : DK := fun d M1 => ∃ ts : List (Str × D × D), d = .tup (ts.map fun t => .tup [.str t.1, t.2.1, t.2.2]) ∧ (ts.map (·.1)).Nodup ∧ ts.length ≤ 1000 ∧ (i < ρ.length ∧ j < ρ.length ∧ k < ρ.length) ∧
  R (.dic (ts.map (·.1)) ((ts.map (·.2)).map fun t => .tup [t.1, t.2])) M1
def wDcP (i j k : Nat) (w : WE) : WE := fun ρ M R => w ρ M (dcK i j k ρ R)
theorem wipe_wipe (σ : L2.St) (own : List Nat) : wipe (wipe σ own) own = wipe σ own := by
  apply List.ext_getElem?
  intro j
  rw [wipe_get, wipe_length]
  split
  · rename_i hj
    rw [wipe_get, if_pos hj]
  · rfl
theorem put_new {kvs : List (Key × V)} {k : Key} {z : V} (h : ∀ p ∈ kvs, p.1 ≠ k) : putK kvs k z = kvs ++ [(k, z)] := by
  unfold putK
  rw [if_neg]
  intro q
  obtain ⟨p, hp, e⟩ := List.any_eq_true.mp q
  exact h p hp (of_decide_eq_true e)
theorem dk_snoc {ks : List Str} {vs : List V} {n : Str} {z : V} (h : ks.length = vs.length) : dkOf (ks ++ [n]) (vs ++ [z]) = dkOf ks vs ++ [(.inr n, z)] := by
  unfold dkOf
  rw [List.zip_append h, List.map_append]
  rfl
theorem dk_keys {ks : List Str} {vs : List V} {p : Key × V} (h : p ∈ dkOf ks vs) : ∃ n ∈ ks, p.1 = .inr n := by
  unfold dkOf at h
  obtain ⟨q, hq, rfl⟩ := List.mem_map.mp h
  exact ⟨q.1, (List.of_mem_zip hq).1, rfl⟩
theorem dcP_w {i j k : Nat} (hij : i ≠ j) (hik : i ≠ k) (hjk : j ≠ k) {σ : L2.St} {H : Hp} {Q : VK} (q0 : liftE K (wDcP i j k w) σ H Q) :
    tDc (iTup K (liftE K w)) (gTup K 3 (gCons (gName i) (gCons (gName j) (gCons (gName k) gNil)))) tYes (tVar i) (tTup (tCons (tVar j) (tCons (tVar k) tNil))) [i, j, k] σ H Q := by
  obtain ⟨ρ, M, R, er, mr, h, p⟩ := q0
  refine ⟨ρ, M, _, er, mr, h, fun d M1 v H1 h1 m1 r1 x1 => ?_⟩
  obtain ⟨ts, rfl, nd, hl, ⟨li, lj, lk⟩, hr⟩ := h1
  rw [er.len] at li lj lk
  unfold Rp at r1
  obtain ⟨a, xs, rfl, sq, rr⟩ := r1
  have hlen : xs.length = ts.length := by rw [← rr.length, List.length_map]
  refine ⟨a, rfl, ⟨xs, sq⟩, fun D hD => ?_⟩
  refine dc_tup (K := K) (a := a) (xs := xs) (fun n H' => Keeps H1 H' ∧ ∃ zs, H' D = some (.dK (dkOf ((ts.map (·.1)).take n) zs)) ∧ Pr K H1 H' ((ts.map (·.2)).take n) zs) ⟨Keeps.refl.new hD, [], upd_same, rfl⟩ (fun n H' hn ⟨kp, _⟩ => kp.ext.tu _ _ sq) ?hs ?hd
  case hs =>
    intro n x H' hx ⟨kp, zs, hDz, hp⟩
    have hn : n < ts.length := by
      rw [← hlen]
      exact (List.getElem?_eq_some_iff.mp hx).1
    have et : ts[n]? = some ts[n] := List.getElem?_eq_getElem hn
    obtain ⟨v, ev, rv⟩ := rr.get (i := n) (d := .tup [.str ts[n].1, ts[n].2.1, ts[n].2.2]) (by rw [List.getElem?_map, et]; rfl)
    rw [ev] at hx
    cases hx
    unfold Rp at rv
    obtain ⟨ax, us, rfl, sqx, ru⟩ := rv
    obtain ⟨vn, vx', vy, rfl, rn, rx, ry⟩ : ∃ vn vx' vy, us = [vn, vx', vy] ∧ Rp K H1 (.str ts[n].1) vn ∧ Rp K H1 ts[n].2.1 vx' ∧ Rp K H1 ts[n].2.2 vy := by
      unfold RpL at ru
      obtain ⟨vn, u1, rfl, rn, ru⟩ := ru
      obtain ⟨vx', vy, rfl, rx, ry⟩ := rp2 ru
      exact ⟨vn, vx', vy, rfl, rn, rx, ry⟩
    cases rn
    have wl : (wipe σ [i, j, k]).length = σ.length := wipe_length _ _
    refine ⟨ax, _, rfl, kp.ext.tu _ _ sqx, rfl, _, _, rfl, _, _, rfl, _, _, rfl, rfl, ?_, ?_⟩
    · rw [wipe_set (by simp), wipe_set (by simp), wipe_set (by simp), wipe_wipe]
    · unfold tYes
      simp only [if_true]
      have g1 : ((((wipe σ [i, j, k]).set i (some (V.str ts[n].1))).set j (some vx')).set k (some vy))[i]? = some (some (V.str ts[n].1)) := by
        rw [List.getElem?_set_ne (Ne.symm hik), List.getElem?_set_ne (Ne.symm hij), List.getElem?_set_self (by rw [wl]; exact li)]
      have g2 : ((((wipe σ [i, j, k]).set i (some (V.str ts[n].1))).set j (some vx')).set k (some vy))[j]? = some (some vx') := by
        rw [List.getElem?_set_ne (Ne.symm hjk), List.getElem?_set_self (by rw [List.length_set, wl]; exact lj)]
      have g3 : ((((wipe σ [i, j, k]).set i (some (V.str ts[n].1))).set j (some vx')).set k (some vy))[k]? = some (some vy) := by
        rw [List.getElem?_set_self (by rw [List.length_set, List.length_set, wl]; exact lk)]
      refine ⟨_, g1, _, g2, _, g3, by show 2 ≤ sizeLine; decide, fun T hT => ?_⟩
      have nTD : D ≠ T := by
        rintro rfl
        rw [hT] at hDz
        cases hDz
      have zl := hp.len
      rw [List.length_take, List.length_map, Nat.min_eq_left (Nat.le_of_lt hn)] at zl
      have kl : ((ts.map (·.1)).take n).length = zs.length := by rw [List.length_take, List.length_map, Nat.min_eq_left (Nat.le_of_lt hn), zl]
      have e1 : (ts.map (·.1)).take (n + 1) = (ts.map (·.1)).take n ++ [ts[n].1] := by rw [List.take_succ, List.getElem?_map, et]; rfl
      have e2 : (ts.map (·.2)).take (n + 1) = (ts.map (·.2)).take n ++ [ts[n].2] := by rw [List.take_succ, List.getElem?_map, et]; rfl
      have fresh : ∀ q ∈ dkOf ((ts.map (·.1)).take n) zs, q.1 ≠ .inr ts[n].1 := fun q hq e => by
        obtain ⟨m, hm, e3⟩ := dk_keys hq
        rw [e3] at e
        have e4 : m = ts[n].1 := by injection e
        have nd2 := nd
        rw [← List.take_append_drop (n + 1) (ts.map (·.1)), e1] at nd2
        have nd3 := (List.nodup_append.mp nd2).1
        exact (List.nodup_append.mp nd3).2.2 m hm ts[n].1 (by simp) e4
      refine ⟨dkOf ((ts.map (·.1)).take n) zs, .inr ts[n].1, rfl, by rw [upd_ne nTD]; exact hDz, ?_, ?_, zs ++ [.ref T], ?_, ?_⟩
      · unfold dkOf
        rw [List.length_map, List.length_zip, ← kl, Nat.min_self, kl, zl]
        exact Nat.lt_of_le_of_lt (Nat.le_of_lt (Nat.lt_of_lt_of_le hn hl)) (by decide)
      · exact (kp.new (kp.free hT)).new hD
      · rw [upd_same, put_new fresh, e1, dk_snoc kl]
      · rw [e2]
        have hTt : L2.upd (L2.upd H' T (.tup [vx', vy])) D (.dK (putK (dkOf ((ts.map (·.1)).take n) zs) (.inr ts[n].1) (.ref T))) T = some (.tup [vx', vy]) := by
          rw [upd_ne (Ne.symm nTD), upd_same]
        refine Pr.snoc (t := ts[n].2) hTt rx ry (Pr.keep (fun T' u e => ?_) hp)
        rw [upd_ne, upd_ne]
        · exact e
        · rintro rfl
          rw [hT] at e
          cases e
        · rintro rfl
          rw [hDz] at e
          cases e
  case hd =>
    rintro H' ⟨kp, zs, hDz, hp⟩
    have zl := hp.len
    rw [hlen, List.take_of_length_le (by rw [List.length_map]; exact Nat.le_refl _)] at hp
    rw [hlen, List.take_of_length_le (by rw [List.length_map]; exact Nat.le_refl _)] at hDz
    have zl := hp.len
    refine p _ M1 _ H' hr (kp.mr m1) ?_ (x1.trans kp.ext)
    unfold Rp
    exact ⟨D, zs, rfl, hDz, by rw [zl, List.length_map, List.length_map], Pr.rpl kp hp⟩
theorem de_dcP {i j k : Nat} {scope : Scope} {own : List (Str × Nat)} (ho : own.map (·.2) = [i, j, k]) (hij : i ≠ j) (hik : i ≠ k) (hjk : j ≠ k) (hc : X.calm = true) (hN : X.N.Nodup) (hw : DE X iter w) (ok : BlkOk X.N X.env.scope scope own)
    (hg : ∀ (s : Shared) (H : Hp) (C : Addr) (cl : List (Str × Addr)) (fp : List Addr), PG (X.blk s H scope (compEnvC scope cl C X.env) fp) tg (gTup X.K 3 (gCons (gName i) (gCons (gName j) (gCons (gName k) gNil)))))
    (hk : ∀ (s : Shared) (H : Hp) (C : Addr) (cl : List (Str × Addr)) (fp : List Addr), PE (X.blk s H scope (compEnvC scope cl C X.env) fp) kx (tVar i))
    (he : ∀ (s : Shared) (H : Hp) (C : Addr) (cl : List (Str × Addr)) (fp : List Addr), PE (X.blk s H scope (compEnvC scope cl C X.env) fp) vx (tTup (tCons (tVar j) (tCons (tVar k) tNil)))) (hs : ∀ x, foldedSetIterable iter X.env x = pure x := by intro _; rfl) :
    DE X (.DictComp kx vx [⟨tg, iter, [], 0⟩] scope pos) (wDcP i j k w) := pe_w (pe_dc hc hN (pi_tup hw) ok hg (fun _ _ _ _ _ => pts_nil) hk he hs) fun σ H Q q => by
  rw [ho]
  exact dcP_w hij hik hjk q
theorem sw_trueD {scope : Scope} {py : Pos} {y : Str} {l : Nat} {env : PySem.Env} {gs : List Comprehension} (hk : env.scope.kind = .function) (hy : env.scope.names.lookup y = some .local) (hl : (py.line == pos.line) = true)
    (ha : (scope.names.any fun (n, k) => n == y && (k == .local || k == .cell)) = false) : swapsWith (.DictComp kx vx gs scope pos) (some (.Name y py)) l env = pure true := by
  have ky : env.kindOf y = some .local := hy
  have hb : env.blockKind = .function := by unfold Env.blockKind; rw [hk]; rfl
  unfold swapsWith
  simp only [hb, ky, ha, Expr.pos, hl]
  rfl
/-- y = {..} -/
theorem ds_setDc {i j k n : Nat} {scope : Scope} {own : List (Str × Nat)} {y : Str} {py spos : Pos} (ho : own.map (·.2) = [i, j, k]) (hij : i ≠ j) (hik : i ≠ k) (hjk : j ≠ k) (hc : X.calm = true) (hN : X.N.Nodup) (hy : X.N[n]? = some y) (hyl : X.env.scope.names.lookup y = some .local)
    (hsw : swapsWith (.DictComp kx vx [⟨tg, iter, [], 0⟩] scope pos) (some (.Name y py)) spos.line X.env = pure true) (hw : DE X iter w) (ok : BlkOk X.N X.env.scope scope own)
    (hg : ∀ (s : Shared) (H : Hp) (C : Addr) (cl : List (Str × Addr)) (fp : List Addr), PG (X.blk s H scope (compEnvC scope cl C X.env) fp) tg (gTup X.K 3 (gCons (gName i) (gCons (gName j) (gCons (gName k) gNil)))))
    (hk : ∀ (s : Shared) (H : Hp) (C : Addr) (cl : List (Str × Addr)) (fp : List Addr), PE (X.blk s H scope (compEnvC scope cl C X.env) fp) kx (tVar i))
    (he : ∀ (s : Shared) (H : Hp) (C : Addr) (cl : List (Str × Addr)) (fp : List Addr), PE (X.blk s H scope (compEnvC scope cl C X.env) fp) vx (tTup (tCons (tVar j) (tCons (tVar k) tNil)))) (hs : ∀ x, foldedSetIterable iter X.env x = pure x := by intro _; rfl) :
    DS X (.Assign [.Name y py] (.DictComp kx vx [⟨tg, iter, [], 0⟩] scope pos) spos) (sSet n (wDcP i j k w)) := by
  refine ⟨fun pins s σ H D I h => ?_⟩
  rw [exec_Assign_Name_used _ _ _ _ hsw]
  refine wpAny_bind (wpAny_standAt (wpAny_bind ?_))
  show wpAny _ X.A (do let _ ← comprehension (.DictComp kx vx [⟨tg, iter, [], 0⟩] scope pos) scope X.env (firstIterPos [⟨tg, iter, [], 0⟩] pos) newDict false (eval iter X.env) (some (assign (.Name y py) X.env))) _ _ s
  obtain ⟨ρ, M, R, er, mr, h0, p⟩ := h
  have q1 := dcP_w hij hik hjk (Q := fun x H1 => gName n x σ H1 D.nx) (show liftE X.K (wDcP i j k w) σ H _ from ⟨ρ, M, _, er, mr, h0, fun d M1 v H1 h1 m1 r1 x1 => p.nx _ _ _ _ h1 ((er.ext x1).set n r1) m1 x1⟩)
  rw [← ho] at q1
  refine wpAny_bind (thn (dc_core (Qf := fun _ s' => SP X pins D .next s') hc hN I (pi_tup hw) ok hg (fun _ _ _ _ _ => pts_nil) hk he hs q1 fun L C s' m H' I' qq hn f => ?_) fun _ s' hq => wpAny_pure (wpAny_pure hq))
  show wpAny _ _ (assign (.Name y py) X.env (.ref L)) _ _ _
  refine wpAny_assign_Name (store_ok2 (v := V.ref L) I' hN hy (.inl hyl) rfl (fun s2 I2 ⟨a, sb, ha⟩ => ?_) (.inr hyl))
  obtain ⟨f0, f1, f2, f3, f4, f5⟩ := f
  have nCa : C ≠ a := by
    rcases ha with z | z
    · rw [z]
      exact f1
    · exact fun e => f4 y a z e.symm
  exact ⟨m, hn.sameBut sb nCa, fun h3 sb3 => ⟨_, H', I2.turned (t' := s2.toks) (fun b o hb e => (sb3.2 b hb).trans e) f0 f1 f3 f4 f5, qq⟩⟩
end
end Zq


set_option Elab.async false
set_option linter.all false
set_option maxRecDepth 100000
namespace Zq
open PySem PySem.Spec PyProof.Rows L2
section
variable {X : Cx} {a b : Expr} {wa wb : WE} {pos : Pos} {K : PySem.W.Frag}
/-- tuples, one behind the other, empty ones too -/
def fCat : WF2 := fun x y M R => match x, y with
  | .tup xs, .tup ys => xs.length + ys.length ≤ sizeLine ∧ R (.tup (xs ++ ys)) M
  | _, _ => False
theorem dop_cat : DOp K fCat (rCatA K) := by
  intro x y u v M H R Q rx ry m h p
  unfold fCat at h
  split at h
  · rename_i xs ys
    have rx0 := rx
    have ry0 := ry
    unfold Rp at rx ry
    obtain ⟨a, vs, rfl, sa, ra⟩ := rx
    obtain ⟨b, us, rfl, sb, rb⟩ := ry
    refine ⟨a, b, vs, us, rfl, rfl, sa, sb, by rw [← ra.length, ← rb.length]; exact h.1, fun e => ?_, fun _ e => ?_, fun _ _ l hl => ?_⟩
    · have e2 := ra.nil_of e
      subst e2
      exact p _ _ _ _ h.2 m ry0 .refl
    · have e2 := rb.nil_of e
      subst e2
      have h2 := h.2
      rw [List.append_nil] at h2
      exact p _ _ _ _ h2 m rx0 .refl
    · have x : Ext K H (L2.upd H l (.tup (vs ++ us))) := .upd (.inl hl)
      refine p _ _ _ _ h.2 (m.new hl) ?_ x
      unfold Rp
      exact ⟨l, _, rfl, .inl (.inl upd_same), (RpL.ext x _ ra).append (RpL.ext x _ rb)⟩
  · exact h.elim
theorem de_cat (ha : DE X a wa) (hb : DE X b wb) : DE X (.BinOp a .Add b pos) (wBin fCat wa wb) := de_op op_catA dop_cat ha hb
theorem E_cat {xs ys : List D} {M : Mem} {R : DK} : fCat (.tup xs) (.tup ys) M R = (xs.length + ys.length ≤ sizeLine ∧ R (.tup (xs ++ ys)) M) := (rfl)
theorem E_dget {w wo : WE} {ρ : Zq.Env} {M : Mem} {R : DK} : wDGet wo w ρ M R = wo ρ M fun x M1 => w ρ M1 fun y M2 => dgK x y R M2 := (rfl)
theorem E_dgK {ks : List Str} {ds : List D} {z : Str} {M : Mem} {R : DK} : dgK (.dic ks ds) (.str z) R M = ∃ (i : Nat) (d : D), ks[i]? = some z ∧ (∀ m, m < i → ks[m]? ≠ some z) ∧ ds[i]? = some d ∧ R d M := (rfl)
theorem E_dcP {i j k : Nat} {w : WE} {ρ : Zq.Env} {M : Mem} {R : DK} : wDcP i j k w ρ M R = w ρ M (dcK i j k ρ R) := (rfl)
theorem E_pop {wo w : WE} {ρ : Zq.Env} {M : Mem} {R : DK} : wPop wo w ρ M R = wo ρ M fun x M1 => isL x M1 ∧ w ρ M1 fun y M2 => popK x y M2 R := (rfl)
theorem E_forE {t : WA} {g : WG} {s : WS} {W : WEnds} {ρ : Zq.Env} {M : Mem} : sForE t g s W ρ M = t ρ M (forE g s W ρ) := (rfl)
def kForE (g : WG) (b : WS) (R : WEnds) (ρ : Zq.Env) (l : Addr) (M1 : Mem) (o : Option (List D)) : Prop := match o with
  | some ds => forGo (some l) ds g b R (enD 0 ds) ρ M1
  | none => False
theorem E_kforE {g : WG} {s : WS} {W : WEnds} {ρ : Zq.Env} {M : Mem} {l : Addr} : forE g s W ρ [.lst l] M = kForE g s W ρ l M (M l) := by
  unfold forE kForE
  simp only
  try (cases M l <;> rfl)
theorem E_kforE' {g : WG} {s : WS} {W : WEnds} {ρ : Zq.Env} {M : Mem} {l : Addr} {ds : List D} : kForE g s W ρ l M (some ds) = forGo (some l) ds g s W (enD 0 ds) ρ M := (rfl)
def kTupOf (M : Mem) (R : DK) (o : Option (List D)) : Prop := match o with
  | some xs => R (.tup xs) M
  | none => False
theorem E_tupOf {l : Addr} {M : Mem} {R : DK} : bTupOf [.lst l] M R = kTupOf M R (M l) := by
  unfold bTupOf kTupOf
  simp only
  try (cases M l <;> rfl)
theorem E_tupOf' {xs : List D} {M : Mem} {R : DK} : kTupOf M R (some xs) = R (.tup xs) M := (rfl)
end
end Zq


set_option Elab.async false
set_option linter.all false
set_option maxRecDepth 100000
namespace Zq
open PySem PySem.Spec PyProof.Rows L2
section
variable {X : Cx} {e e2 : Expr} {t : WA} {pos : Pos} {K : PySem.W.Frag} {p : Pos}
/-- two tuples, item beside item -/
def zpD : List D → List D → List D
  | a :: as, b :: bs => .tup [a, b] :: zpD as bs
  | _, _ => []
theorem E_zpS {a b : D} {as bs : List D} : zpD (a :: as) (b :: bs) = .tup [a, b] :: zpD as bs := (rfl)
theorem E_zp0 {bs : List D} : zpD [] bs = [] := (rfl)
theorem zpD_len : ∀ (as bs : List D), as.length = bs.length → (zpD as bs).length = as.length
  | [], [], _ => rfl
  | [], _ :: _, h => by cases h
  | _ :: _, [], h => by cases h
  | a :: as, b :: bs, h => by
    show (zpD as bs).length + 1 = as.length + 1
    rw [zpD_len as bs (Nat.succ.inj h)]
theorem zpD_get : ∀ (as bs : List D) (i : Nat) {y : D}, (zpD as bs)[i]? = some y → ∃ a b, as[i]? = some a ∧ bs[i]? = some b ∧ y = .tup [a, b]
  | [], _, _, _, h => by simp [zpD] at h
  | _ :: _, [], _, _, h => by simp [zpD] at h
  | a :: as, b :: bs, 0, y, h => by
    rw [E_zpS, List.getElem?_cons_zero] at h
    cases h
    exact ⟨a, b, rfl, rfl, rfl⟩
  | a :: as, b :: bs, i + 1, y, h => by
    rw [E_zpS, List.getElem?_cons_succ] at h
    obtain ⟨a', b', h1, h2, h3⟩ := zpD_get as bs i h
    exact ⟨a', b', h1, h2, h3⟩
def kZ (RI : Option Addr → List D → Mem → Prop) : List D → Mem → Prop := fun vs M1 => match vs with
  | [.tup ds, .tup es] => ds.length = es.length ∧ RI none (zpD ds es) M1
  | _ => False
def iZ (t : WA) : WI := fun ρ M R => t ρ M (kZ R)
theorem E_iZ {R : Option Addr → List D → Mem → Prop} {M : Mem} {ρ : Zq.Env} : iZ t ρ M R = t ρ M (kZ R) := (rfl)
theorem E_kZ {R : Option Addr → List D → Mem → Prop} {M : Mem} {ds es : List D} : kZ R [.tup ds, .tup es] M = (ds.length = es.length ∧ R none (zpD ds es) M) := (rfl)
theorem itrel_zip {H0 : Hp} {l1 l2 : Addr} {ds es : List D} {vs us : List V} (hl : ds.length = es.length) (h : SqT K H0 l1 vs) (r : RpL K H0 ds vs) (h2 : SqT K H0 l2 us) (r2 : RpL K H0 es us) : ItRel K H0 (RZ.ItzT K l1 l2) none (zpD ds es) where
  go := fun i H M x m st hi => by
    rw [zpD_len _ _ hl] at hi
    have i1 : i < vs.length := by rw [← r.length]; exact hi
    have i2 : i < us.length := by rw [← r2.length, ← hl]; exact hi
    exact ⟨vs, us, vs[i], us[i], x.tu _ _ h, x.tu _ _ h2, List.getElem?_eq_getElem i1, List.getElem?_eq_getElem i2⟩
  yld := fun i y H H' M d x m st q ⟨T, z, w, e1, e2, e3, e4, e5⟩ => by
    obtain ⟨d0, d1, g, g1, rfl⟩ := zpD_get ds es i q
    have x2 : Ext K H H' := by
      rw [e3]
      exact .upd (.inl e2)
    refine ⟨⟨by rw [e3]; exact m.new e2, x2⟩, ?_⟩
    have rz := get_rp (RpL.ext x _ r) g (e4 vs (x.tu _ _ h))
    have rw' := get_rp (RpL.ext x _ r2) g1 (e5 us (x.tu _ _ h2))
    unfold Rp
    refine ⟨T, [z, w], e1, .inl (.inl ?_), rpl_cons (Rp.ext x2 _ rz) (rpl_cons (Rp.ext x2 _ rw') rpl_nil)⟩
    rw [e3]
    exact upd_same
  stop := fun i H M x m st hi => ⟨vs, us, x.tu _ _ h, x.tu _ _ h2, .inl (by rw [← r.length, ← zpD_len ds es hl]; exact hi)⟩
theorem di_zip {elts : List Expr} {kk : Nat} {tpos : Pos} (hg : Gl X "zip") (hm : X.mg "zip" = none) (ha : DA X [e, e2] t)
    (hs : starEach [e, e2] X.env = (false, eval e X.env) :: starEach [e2] X.env := by rfl) (hpl : (backTo pos (starEach [e2] X.env)).any (·.1) = false := by rfl) :
    DI X (.Tuple elts kk tpos) (.Call (.Name "zip" p) [e, e2] [] pos) (iZ t) := pi_w (RZ.pi_zipA hg hm ha hs hpl) fun σ H Q ⟨ρ, M, R, er, mr, hw, pp⟩ => ⟨ρ, M, _, er, mr, hw, fun ds M1 vs H1 h1 m1 r1 x1 => by
  unfold kZ at h1
  split at h1
  · rename_i ds es
    obtain ⟨v, u, rfl, q1, q2⟩ := rp2 r1
    unfold Rp at q1 q2
    obtain ⟨l1, ys, rfl, s1, rr1⟩ := q1
    obtain ⟨l2, zs, rfl, s2, rr2⟩ := q2
    exact ⟨l1, l2, ys, zs, rfl, .inr ⟨s1, s2, pp none _ M1 H1 _ h1.2 m1 trivial x1 (itrel_zip h1.1 s1 rr1 s2 rr2)⟩⟩
  · exact h1.elim⟩
end
end Zq


set_option Elab.async false
set_option linter.all false
set_option maxRecDepth 100000
namespace Zq
open PySem PySem.Spec PyProof.Rows L2
section
variable {X : Cx} {a : Expr} {wa : WE} {pos p2 : Pos}
/-- a tuple's slice, the whole too -/
def fSlA (x : D) (lo hi : Option Int) (M : Mem) (R : DK) : Prop := match x with
  | .tup ds => ((HT.sIx ds.length 0 lo = 0 ∧ HT.sIx ds.length ds.length hi = ds.length) → R (.tup ds) M) ∧ (¬ (HT.sIx ds.length 0 lo = 0 ∧ HT.sIx ds.length ds.length hi = ds.length) → R (.tup (cutD ds lo hi)) M)
  | _ => False
def wSliceA (w : WE) (lo hi : WO) : WE := fun ρ M R => w ρ M fun x M1 => lo ρ M1 fun l M2 => hi ρ M2 fun u M3 => fSlA x l u M3 R
theorem E_wSlA {w : WE} {lo hi : WO} {ρ : Zq.Env} {M : Mem} {R : DK} : wSliceA w lo hi ρ M R = w ρ M fun x M1 => lo ρ M1 fun l M2 => hi ρ M2 fun u M3 => fSlA x l u M3 R := (rfl)
theorem de_sliceA {lo hi : Option Expr} {wl wh : WO} (ha : DE X a wa) (hl : DO X lo wl) (hh : DO X hi wh) : DE X (.Subscript a (.Slice lo hi none p2) pos) (wSliceA wa wl wh) := pe_w (pe_slice sl_tupA ha hl hh) fun σ H Q ⟨ρ, M, R, er, mr, h, p⟩ => by
  refine ⟨ρ, M, _, er, mr, h, fun d M1 v H1 h1 m1 r1 x1 => ⟨ρ, M1, _, er.ext x1, m1, h1, fun l M2 H2 h2 m2 x2 => ⟨ρ, M2, _, (er.ext x1).ext x2, m2, h2, fun u M3 H3 h3 m3 x3 => ?_⟩⟩⟩
  have r3 := Rp.ext (x2.trans x3) _ r1
  have p3 := p.ext (x1.trans (x2.trans x3))
  unfold fSlA at h3
  split at h3
  · rename_i ds
    have r4 := r3
    unfold Rp at r3
    obtain ⟨q, vs, rfl, sq, r⟩ := r3
    refine ⟨q, vs, rfl, sq, fun hw => ?_, fun hw l' hl' => ?_⟩
    · exact p3 _ _ _ _ (h3.1 (by rw [r.length]; exact hw)) m3 r4 .refl
    · have x : Ext X.K H3 (L2.upd H3 l' (.tup (cutV vs l u))) := .upd (.inl hl')
      refine p3 _ _ _ _ (h3.2 (by rw [r.length]; exact hw)) (m3.new hl') ?_ x
      unfold Rp
      exact ⟨l', _, rfl, .inl (.inl upd_same), RpL.ext x _ (cut_rp r)⟩
  · exact h3.elim
end
end Zq


set_option Elab.async false
set_option linter.all false
set_option maxRecDepth 100000
namespace Zq
open PySem PySem.Spec PyProof.Rows L2
section
variable {X : Cx} {a b c e o : Expr} {es : List Expr} {wa wb w wo : WE} {t : WA} {pos p p1 p2 p3 apos cpos : Pos} {K : PySem.W.Frag}
/-! ### tuple(..) of a list, that has no dict -/
def rTupX (K : PySem.W.Frag) : List V → Hp → VK → Prop := fun xs H Q => ∃ p ys, xs = [.ref p] ∧ SqL K H p ys ∧ ∀ l ob, H l = none → (ob.cls = .type "tuple" ∧ ob.dict = none) → Q (.ref l) (L2.upd H l (.frz ob (.tup ys)))
theorem call_tupX : CallR X (.type "tuple") (rTupX X.K) := by
  intro pins s σ H xs us Q I r h
  obtain ⟨p, ys, rfl, hq, q⟩ := h
  obtain ⟨u, rfl, rx⟩ := L2.vals1 r
  cases rx
  obtain ⟨its, r', pl, hz⟩ := I.list hq
  have hlen := Vals.length r'
  refine call_tuple_list (PlainL.isList pl) (fun h' kp => ?_) (by rw [List.size_toArray]; omega)
  have I1 : Inv X pins σ H { s with heap := h' } := I.kept (t' := s.toks) kp
  have I2 : Inv X pins σ (L2.upd H h'.objs.size (.frz { cls := .type "tuple", data := .seq its.toArray } (.tup ys))) { s with heap := h'.push { cls := .type "tuple", data := .seq its.toArray } } := by
    refine I1.laid (t' := s.toks) (fun b o e => Heap.get?_push_of_some _ e) (Nat.le_refl _) ⟨Heap.get?_push_size _ rfl, hz, its, r', ?_⟩
    exact IsTup.new h' its.toArray
  exact ⟨.ref h'.objs.size, _, I2, rfl, q _ _ (I1.hok.fresh (Nat.le_refl _)) ⟨rfl, rfl⟩⟩
def kTupX (M : Mem) (R : DK) (o : Option (List D)) : Prop := match o with
  | some xs => R (.tpx xs) M
  | none => False
def bTupX : WB := fun ds M R => match ds with
  | [.lst l] => kTupX M R (M l)
  | _ => False
theorem db_tupX : DB K bTupX (rTupX K) := by
  intro ds vs M H R Q r m h p
  unfold bTupX at h
  split at h
  · rename_i l
    obtain ⟨v, rfl, r1⟩ := rp1 r
    cases r1
    unfold kTupX at h
    split at h
    · rename_i xs e
      obtain ⟨us, q, eh⟩ := m _ xs e
      refine ⟨l, us, rfl, SqL.of eh, fun l hl ob => fun ho => ?_⟩
      have x : Ext K H (L2.upd H l (.frz hl (.tup us))) := .upd (.inl ob)
      refine p _ _ _ _ h (m.new ob) ?_ x
      unfold Rp
      exact ⟨l, us, hl, rfl, upd_same, ho, RpL.ext x _ q⟩
    · exact h.elim
  · exact h.elim
theorem E_tupX {l : Addr} {M : Mem} {R : DK} : bTupX [.lst l] M R = kTupX M R (M l) := (rfl)
theorem E_tupX' {M : Mem} {R : DK} {xs : List D} : kTupX M R (some xs) = R (.tpx xs) M := (rfl)
/-! ### methods, by a word of one's own for what the object is -/
theorem pe_bmQ {T id : String} {name : Str} {to : TE} {t : TA} {r : V → List V → Hp → VK → Prop} (ty : V → Hp → Prop)
    (hty0 : ∀ {pins : List (Addr × Obj)} {σ : L2.St} {H : Hp} {s : Shared} {x : V} {v : Value}, Inv X pins σ H s → RelV x v → ty x H → s.TypeIs v T ∧ ∀ a, v = .ref a → ∃ ob, s.heap.get? a = some ob ∧ ob.dict = none)
    (pa : PlainAttrs T) (slot : Slot T name id) (hty : typeOf (.builtin id) = pure (.type "method_descriptor")) (hm : MtR X id r) (ho : PE X o to) (ha : PA X (e :: es) t)
    (hbase : attributeBase o name X.env (eval o X.env) = eval o X.env := by rfl)
    (hfew : ((backTo cpos (starEach (e :: es) X.env)).all (fun x => !x.1) && (backToKw cpos (keywordEach [] X.env)).all (fun x => x.1.isSome)
      && decide ((e :: es).length + ([] : List Keyword).length + (if ([] : List Keyword).isEmpty then 0 else 1) < 30)) = true := by rfl)
    (hline : (apos.endLine == cpos.line) = true := by rfl) (hs : starEach (e :: es) X.env = (false, eval e X.env) :: starEach es X.env := by rfl) (hplain : (backTo cpos (starEach es X.env)).any (·.1) = false := by rfl) :
    PE X (.Call (.Attribute o name apos) (e :: es) [] cpos) (fun σ H Q => to σ H fun x H1 => ty x H1 ∧ t σ H1 fun xs H2 => r x xs H2 Q) := by
  refine ⟨fun pins s σ H Q I h => ?_⟩
  refine wpAny_Call_method_late hbase hfew hline rfl (thn (ho.run pins s σ H (fun x H1 => ty x H1 ∧ t σ H1 fun xs H2 => r x xs H2 Q) I h) fun v s1 hx => ?_)
  obtain ⟨x, H1, I1, r1, ty1, q1⟩ := hx
  obtain ⟨h1, h2⟩ := hty0 I1 r1 ty1
  refine ⟨T, id, pa, slot, hty, h1, h2, ?_⟩
  have hA := ha.run cpos pins s1 σ H1 (fun xs H2 => r x xs H2 Q) I1 q1
  rw [hs] at hA ⊢
  refine Calls.callWith_builtin ?_ (Calls.evalArgs_plain (thn hA fun us s2 hx2 => ?_))
  · show (false || (backTo cpos (starEach es X.env)).any (·.1)) = false
    rw [hplain]
    rfl
  · obtain ⟨vs, H2, I2, r2, q2⟩ := hx2
    exact hm pins s2 σ H2 x vs v us Q I2 r1 r2 q2
/-! ### the index of data in a tuple -/
def rTIdx (K : PySem.W.Frag) : V → List V → Hp → VK → Prop := fun x xs H Q => ∃ (a : Addr) (vs : List V) (ds : List PyData) (y : V) (d : PyData) (j : Nat) (z : PyData), x = .ref a ∧ xs = [y] ∧ SqT K H a vs ∧ DpAll K H vs ds ∧ Dp K H y d ∧ SeqAt.shaped (.tuple ds) = true ∧ SeqAt.shaped d = true ∧
  ds[j]? = some z ∧ PyData.eqv z d = true ∧ (∀ (m : Nat) (z' : PyData), m < j → ds[m]? = some z' → PyData.eqv z' d = false) ∧ Q (.int (j : Nat)) H
theorem mt_tidx (hu : X.A.units + 65 < cLine) : MtR X "tuple.index" (rTIdx X.K) := by
  intro pins s σ H x xs v us Q I rx rxs h
  obtain ⟨a, vs, ds, y, d, j, z, rfl, rfl, hsq, ha, hy, sl, sd, hz, hzj, hno, q⟩ := h
  cases rx
  obtain ⟨b, rfl, ry⟩ := L2.vals1 rxs
  obtain ⟨bs, r1⟩ := Dp.reads I d y b hy ry
  have hxs : PyData.canLayAll0 ds = true := SeqAt.canLay_of_shaped sl
  have hroom := room_in_shaped (xs := ds) sd hu
  obtain ⟨its, rv, pt, hlen⟩ := I.tuple hsq
  obtain ⟨ob, ho, hc, n, hdt⟩ := pt
  obtain ⟨cls, dd, dt, sls⟩ := ob
  change cls = _ at hc
  change dt = _ at hdt
  subst hc hdt
  obtain ⟨as, h4⟩ := Dp.readsAll I ds vs its ha rv
  have hn := SeqAt.ReadsAll.length ds its as h4
  have hmap := SeqAt.readsAll_map ds its as hxs h4
  obtain ⟨hjd, ejd⟩ := List.getElem?_eq_some_iff.mp hz
  have hjl : j < its.length := by omega
  have hj : j < its.toArray.size := by rw [List.size_toArray]; exact hjl
  have at_ : ∀ (m : Nat) (hm : m < its.toArray.size) (z' : PyData), ds[m]? = some z' → SeqAt.readOf s.heap its.toArray[m] = z' := fun m hm z' hz' => by
    have hml : m < its.length := by rw [List.size_toArray] at hm; exact hm
    rw [← hmap, List.getElem?_map, List.getElem?_eq_getElem hml] at hz'
    have e1 := Option.some.inj hz'
    simpa using e1
  refine call_meets F.slot_tuple_index ⟨_, ho, rfl⟩ F.entry_tuple_index (F.args_tuple_index_2 (.ref a) b) (TI.tuple_indexAt a its.toArray n dd sls b (fun u => (SeqAt.readOf s.heap u).eqv d) j hj ?_ ?_) ⟨ho, SeqAt.items_eqAt h4 r1 hxs (SeqAt.canLay_of_shaped sd) hroom, .int (j : Nat), H, I.tok _, ⟨_, rfl⟩, q⟩
  · show (SeqAt.readOf s.heap its.toArray[j]).eqv d = true
    rw [at_ j hj z hz]
    exact hzj
  · intro m hm hmj
    have hmd : m < ds.length := by omega
    have hz' := List.getElem?_eq_getElem hmd
    show (SeqAt.readOf s.heap its.toArray[m]).eqv d = false
    rw [at_ m hm _ hz']
    exact hno m _ hmj hz'
def ixD (ps : List PyData) (q : PyData) (R : DK) (M : Mem) : Prop := SeqAt.shaped (.tuple ps) = true ∧ SeqAt.shaped q = true ∧ ∃ (j : Nat) (z : PyData), ps[j]? = some z ∧ PyData.eqv z q = true ∧ (∀ (m : Nat) (z' : PyData), m < j → ps[m]? = some z' → PyData.eqv z' q = false) ∧ R (.int (j : Nat)) M
def ixX (x y : D) (M : Mem) (R : DK) : Prop := match x with
  | .tpx xs => ∃ ps q, pyDs M 199 xs = some ps ∧ pyD M 200 y = some q ∧ ixD ps q R M
  | _ => False
def isX (x : D) : Prop := match x with
  | .tpx _ => True
  | _ => False
def ixX1 (x : D) (R : DK) : List D → Mem → Prop := fun ds M => match ds with
  | [y] => ixX x y M R
  | _ => False
def wIdxX (wo w : WE) : WE := fun ρ M R => wo ρ M fun x M1 => isX x ∧ w ρ M1 fun y M2 => ixX x y M2 R
theorem de_idxX (hu : X.A.units + 65 < cLine) (ho : DE X o wo) (he : DE X e w)
    (hbase : attributeBase o "index" X.env (eval o X.env) = eval o X.env := by rfl)
    (hfew : ((backTo cpos (starEach [e] X.env)).all (fun x => !x.1) && (backToKw cpos (keywordEach [] X.env)).all (fun x => x.1.isSome)
      && decide ([e].length + ([] : List Keyword).length + (if ([] : List Keyword).isEmpty then 0 else 1) < 30)) = true := by rfl)
    (hline : (apos.endLine == cpos.line) = true := by rfl) (hs : starEach [e] X.env = (false, eval e X.env) :: starEach [] X.env := by rfl) (hplain : (backTo cpos (starEach [] X.env)).any (·.1) = false := by rfl) :
    DE X (.Call (.Attribute o "index" apos) [e] [] cpos) (wIdxX wo w) :=
  pe_w (pe_bmQ (T := "tuple") (fun x H => ∃ a ob vs, x = V.ref a ∧ H a = some (.frz ob (.tup vs)) ∧ ob.cls = .type "tuple" ∧ ob.dict = none) (fun {pins σ H s x v} I r hx => by
      obtain ⟨a, ob, vs, rfl, h1, h2, h3⟩ := hx
      cases r
      obtain ⟨g, _⟩ := I.hok a _ h1
      exact ⟨⟨_, g, h2⟩, fun a' e => by cases e; exact ⟨ob, g, h3⟩⟩) PySem.F.plainAttrs_tuple PySem.F.slot_tuple_index PySem.F.type_tuple_index (mt_tidx hu) ho (da_cons he da_nil hs) hbase hfew hline hs hplain) fun σ H Q ⟨ρ, M, R, er, mr, h, p⟩ => by
    refine ⟨ρ, M, _, er, mr, h, fun x M1 v H1 h1 m1 r1 x1 => ?_⟩
    obtain ⟨h0, h1⟩ := h1
    cases x with
    | tpx xs =>
      have r1' := r1
      unfold Rp at r1
      obtain ⟨a, vs, ob, rfl, e1, ⟨e2, e3⟩, rl⟩ := r1
      refine ⟨⟨a, ob, vs, rfl, e1, e2, e3⟩, ρ, M1, ixX1 (.tpx xs) R, er.ext x1, m1, h1, fun ds M2 us H2 h2 m2 r2 x2 => ?_⟩
      unfold ixX1 at h2
      split at h2
      · rename_i y
        unfold ixX at h2
        obtain ⟨ps, q, k1, k2, s1, s2, j, z, k3, k4, k5, k6⟩ := h2
        obtain ⟨v', rfl, rv⟩ := rp1 r2
        refine ⟨a, vs, ps, v', q, j, z, rfl, rfl, .inl (.inr ⟨ob, x2.fz _ _ _ e1⟩), pyDs_dp m2 _ xs (RpL.ext x2 _ rl) k1, pyD_dp m2 _ y rv k2, s1, s2, k3, k4, k5, p _ _ _ _ k6 m2 rfl (x1.trans x2)⟩
      · exact h2.elim
    | _ => exact h0.elim
theorem E_idxX {ρ : Zq.Env} {M : Mem} {R : DK} : wIdxX wo w ρ M R = wo ρ M fun x M1 => isX x ∧ w ρ M1 fun y M2 => ixX x y M2 R := (rfl)
theorem E_isX {xs : List D} : isX (.tpx xs) = True := (rfl)
/-! ### is True, is not True -/
def fIsB (neg : Bool) : WF2 := fun x y M R => match x, y with
  | .bl a, .bl b => R (.bl (if neg then !decide (a = b) else decide (a = b))) M
  | _, _ => False
theorem dop_isB : DOp K (fIsB false) (fun x y H Q => ∃ a b : Bool, x = .bl a ∧ y = .bl b ∧ Q (.bl (decide (a = b))) H) := by
  intro x y u v M H R Q rx ry m h p
  unfold fIsB at h
  split at h
  · cases rx; cases ry
    exact ⟨_, _, rfl, rfl, p _ _ _ _ h m rfl .refl⟩
  · exact h.elim
theorem dop_notB : DOp K (fIsB true) (fun x y H Q => ∃ a b : Bool, x = .bl a ∧ y = .bl b ∧ Q (.bl (!decide (a = b))) H) := by
  intro x y u v M H R Q rx ry m h p
  unfold fIsB at h
  split at h
  · cases rx; cases ry
    exact ⟨_, _, rfl, rfl, p _ _ _ _ h m rfl .refl⟩
  · exact h.elim
theorem E_isB {neg a b : Bool} {M : Mem} {R : DK} : fIsB neg (.bl a) (.bl b) M R = R (.bl (if neg then !decide (a = b) else decide (a = b))) M := (rfl)
/-! ### {} -/
def wDic0 : WE := fun _ M R => R (.dic [] []) M
theorem de_dic0 : DE X (.Dict [] [] pos) wDic0 := pe_w pe_dnewK fun σ H Q ⟨ρ, M, R, er, mr, h, p⟩ => fun q hq => by
  refine p (.dic [] []) M _ _ h (mr.new hq) ?_ (.upd (.inl hq))
  unfold Rp
  exact ⟨q, [], rfl, upd_same, rfl, rpl_nil⟩
theorem E_dic0 {ρ : Zq.Env} {M : Mem} {R : DK} : wDic0 ρ M R = R (.dic [] []) M := (rfl)
/-! ### list(..) -/
def kLstOf (M : Mem) (R : DK) (o : Option (List D)) : Prop := match o with
  | some xs => ∀ q, M q = none → R (.lst q) (M.put q xs)
  | none => False
def bLstOf : WB := fun ds M R => match ds with
  | [.lst l] => kLstOf M R (M l)
  | [.tup xs] => ∀ q, M q = none → R (.lst q) (M.put q xs)
  | _ => False
theorem db_lstOf : DB K bLstOf (fun xs H Q => ∃ p ys, xs = [.ref p] ∧ (SqL K H p ys ∨ SqT K H p ys) ∧ ∀ l, H l = none → Q (.ref l) (L2.upd H l (.lst ys))) := by
  intro ds vs M H R Q r m h p
  unfold bLstOf at h
  split at h
  · rename_i l
    unfold kLstOf at h
    split at h
    · rename_i xs e
      obtain ⟨v, rfl, r1⟩ := rp1 r
      cases r1
      obtain ⟨us, q, eh⟩ := m _ xs e
      exact ⟨_, us, rfl, .inl (SqL.of eh), fun l hl => p _ _ _ _ (h l (m.free hl)) (m.put q (.inl hl)) rfl (.upd (.inl hl))⟩
    · exact h.elim
  · rename_i xs
    obtain ⟨v, rfl, r1⟩ := rp1 r
    unfold Rp at r1
    obtain ⟨l, us, rfl, sq, q⟩ := r1
    exact ⟨l, us, rfl, .inr sq, fun l hl => p _ _ _ _ (h l (m.free hl)) (m.put q (.inl hl)) rfl (.upd (.inl hl))⟩
  · exact h.elim
theorem E_lstOfT {xs : List D} {M : Mem} {R : DK} : bLstOf [.tup xs] M R = ∀ q, M q = none → R (.lst q) (M.put q xs) := (rfl)
theorem E_lstOfL {l : Addr} {M : Mem} {R : DK} : bLstOf [.lst l] M R = kLstOf M R (M l) := (rfl)
theorem E_lstOfL' {xs : List D} {M : Mem} {R : DK} : kLstOf M R (some xs) = ∀ q, M q = none → R (.lst q) (M.put q xs) := (rfl)
/-! ### a list turned round -/
theorem RpL.rev {H : Hp} : ∀ {ds : List D} {vs : List V}, RpL K H ds vs → RpL K H ds.reverse vs.reverse
  | [], vs, r => by
    unfold RpL at r
    subst r
    exact rpl_nil
  | d :: ds, vs, r => by
    unfold RpL at r
    obtain ⟨v, vs', rfl, r1, r2⟩ := r
    rw [List.reverse_cons, List.reverse_cons]
    exact (RpL.rev r2).append (rpl_cons r1 rpl_nil)
def kRev (R : DK) : DK := fun d M => match d with
  | .lst l => kLstOf M R ((M l).map List.reverse)
  | _ => False
def wRev (w : WE) : WE := fun ρ M R => w ρ M (kRev R)
theorem de_rev {k : Nat} (h : DE X e w) : DE X (.Subscript e (.Slice none none (some (.UnaryOp .USub (.Constant (.int 1) k p1) p2)) p3) pos) (wRev w) := pe_w (pe_revL h) fun σ H Q ⟨ρ, M, R, er, mr, h, p⟩ => by
  refine ⟨ρ, M, _, er, mr, h, fun d M1 v H1 h1 m1 r1 x1 => ?_⟩
  unfold kRev at h1
  split at h1
  · rename_i l
    unfold kLstOf at h1
    split at h1
    · rename_i xs e
      simp only [Option.map_eq_some_iff] at e
      obtain ⟨ys, e, rfl⟩ := e
      cases r1
      obtain ⟨us, q, eh⟩ := m1 _ ys e
      exact ⟨_, us, rfl, SqL.of eh, fun l hl => p _ _ _ _ (h1 l (m1.free hl)) (m1.put q.rev (.inl hl)) rfl (x1.trans (.upd (.inl hl)))⟩
    · exact h1.elim
  · exact h1.elim
theorem E_rev {ρ : Zq.Env} {M : Mem} {R : DK} : wRev w ρ M R = w ρ M (kRev R) := (rfl)
theorem E_kRev {l : Addr} {M : Mem} {R : DK} : kRev R (.lst l) M = kLstOf M R ((M l).map List.reverse) := (rfl)
/-! ### == () -/
def eE (neg : Bool) (xs : List D) : Bool := if neg then !xs.isEmpty else xs.isEmpty
def fEqE (neg : Bool) : WF2 := fun x y M R => match x, y with
  | .tup xs, .tup [] => R (.bl (eE neg xs)) M
  | _, _ => False
def rEqE (K : PySem.W.Frag) (neg : Bool) : R2 := fun x y H Q => ∃ a b vs, x = .ref a ∧ y = .ref b ∧ SqT K H a vs ∧ SqT K H b [] ∧ Q (.bl (if neg then !vs.isEmpty else vs.isEmpty)) H
theorem op_eqE (hu : X.A.units < cLine) : OpR X (compareOp .Eq) (rEqE X.K false) := by
  intro pins s σ H x y v u Q I rx ry h
  obtain ⟨a, b, vs, rfl, rfl, ha, hb, q⟩ := h
  cases rx
  cases ry
  obtain ⟨its, rv, pt, _⟩ := I.tuple ha
  obtain ⟨its2, rv2, pt2, _⟩ := I.tuple hb
  have e2 : its2 = [] := by
    have := rv2.length
    exact List.length_eq_zero_iff.mp this.symm
  subst e2
  refine SeqAt.eq_tupleAt (e := fun _ => true) (show s.heap.IsTuple a its.toArray from pt) (show s.heap.IsTuple b [].toArray from pt2) hu (fun j _ h2 => absurd h2 (by simp)) ⟨.bl vs.isEmpty, H, I, ?_, q⟩
  have e3 := rv.length
  cases vs with
  | nil =>
    have : its = [] := List.length_eq_zero_iff.mp e3.symm
    subst this
    rfl
  | cons v vs =>
    cases its with
    | nil => simp at e3
    | cons i its =>
      have e : ((List.range (min (i :: its).toArray.size ([] : List Value).toArray.size)).all (fun _ => true) && (i :: its).toArray.size == ([] : List Value).toArray.size) = false := by simp
      rw [e]
      exact rfl
theorem op_neE (hu : X.A.units < cLine) : OpR X (compareOp .NotEq) (rEqE X.K true) := by
  intro pins s σ H x y v u Q I rx ry h
  obtain ⟨a, b, vs, rfl, rfl, ha, hb, q⟩ := h
  cases rx
  cases ry
  obtain ⟨its, rv, pt, _⟩ := I.tuple ha
  obtain ⟨its2, rv2, pt2, _⟩ := I.tuple hb
  have e2 : its2 = [] := by
    have := rv2.length
    exact List.length_eq_zero_iff.mp this.symm
  subst e2
  refine SeqAt.RcNeAt.tuples (e := fun _ => true) (show s.heap.IsTuple a its.toArray from pt) (show s.heap.IsTuple b [].toArray from pt2) hu (fun j _ h2 => absurd h2 (by simp)) X.prog X.w _ _ ⟨.bl (!vs.isEmpty), H, I, ?_, q⟩
  have e3 := rv.length
  cases vs with
  | nil =>
    have : its = [] := List.length_eq_zero_iff.mp e3.symm
    subst this
    rfl
  | cons v vs =>
    cases its with
    | nil => simp at e3
    | cons i its =>
      have e : (!((List.range (min (i :: its).toArray.size ([] : List Value).toArray.size)).all (fun _ => true) && (i :: its).toArray.size == ([] : List Value).toArray.size)) = true := by simp
      rw [e]
      exact rfl
theorem dop_eqE {neg : Bool} : DOp K (fEqE neg) (rEqE K neg) := by
  intro x y u v M H R Q rx ry m h p
  unfold fEqE at h
  split at h
  · rename_i xs
    unfold Rp at rx ry
    obtain ⟨a, vs, rfl, sa, ra⟩ := rx
    obtain ⟨b, us, rfl, sb, rb⟩ := ry
    have e : us = [] := by
      unfold RpL at rb
      exact rb
    subst e
    refine ⟨a, b, vs, rfl, rfl, sa, sb, ?_⟩
    have e2 : vs.isEmpty = xs.isEmpty := by
      have := ra.length
      cases xs <;> cases vs <;> simp_all
    rw [e2]
    exact p _ _ _ _ h m rfl .refl
  · exact h.elim
theorem E_eqE {neg : Bool} {xs : List D} {M : Mem} {R : DK} : fEqE neg (.tup xs) (.tup []) M R = R (.bl (eE neg xs)) M := (rfl)
/-! ### tuples, some times -/
def fRepT : WF2 := fun x y M R => match x, y with
  | .tup xs, .int k => xs ≠ [] ∧ 2 ≤ k ∧ k ≤ 1000 ∧ xs.length ≤ 1000 ∧ R (.tup (List.replicate k.toNat xs).flatten) M
  | _, _ => False
theorem RpL.rep {H : Hp} {ds : List D} {vs : List V} (r : RpL K H ds vs) : ∀ k : Nat, RpL K H (List.replicate k ds).flatten (List.replicate k vs).flatten
  | 0 => rpl_nil
  | k + 1 => by
    rw [List.replicate_succ, List.replicate_succ, List.flatten_cons, List.flatten_cons]
    exact r.append (RpL.rep r k)
theorem dop_repT : DOp K fRepT (rRepT K) := by
  intro x y u v M H R Q rx ry m h p
  unfold fRepT at h
  split at h
  · rename_i xs k
    unfold Rp at rx
    obtain ⟨a, vs, rfl, sa, ra⟩ := rx
    cases ry
    obtain ⟨h1, h2, h3, h4, h5⟩ := h
    refine ⟨a, k, vs, rfl, rfl, sa, ra.ne_nil h1, h2, h3, by rw [← ra.length]; exact h4, fun l hl => ?_⟩
    have x : Ext K H (L2.upd H l (.tup (List.replicate k.toNat vs).flatten)) := .upd (.inl hl)
    refine p _ _ _ _ h5 (m.new hl) ?_ x
    unfold Rp
    exact ⟨l, _, rfl, .inl (.inl upd_same), (RpL.ext x _ ra).rep _⟩
  · exact h.elim
theorem de_repT (ha : DE X a wa) (hb : DE X b wb) : DE X (.BinOp a .Mult b pos) (wBin fRepT wa wb) := de_op op_repT dop_repT ha hb
theorem E_repT {xs : List D} {k : Int} {M : Mem} {R : DK} : fRepT (.tup xs) (.int k) M R = (xs ≠ [] ∧ 2 ≤ k ∧ k ≤ 1000 ∧ xs.length ≤ 1000 ∧ R (.tup (List.replicate k.toNat xs).flatten) M) := (rfl)
/-! ### a sign in a text -/
def fInSg (neg : Bool) : WF2 := fun x y M R => match x, y with
  | .str s, .str z => ∃ c, s = ⟨#[c]⟩ ∧ R (.bl (if neg then !decide (c ∈ z.cps.toList) else decide (c ∈ z.cps.toList))) M
  | _, _ => False
theorem dop_inSg : DOp K (fInSg false) (fun x y H Q => ∃ (c : Nat) (z : Str), x = .str ⟨#[c]⟩ ∧ y = .str z ∧ Q (.bl (decide (c ∈ z.cps.toList))) H) := by
  intro x y u v M H R Q rx ry m h p
  unfold fInSg at h
  split at h
  · obtain ⟨c, rfl, h⟩ := h
    cases rx; cases ry
    exact ⟨c, _, rfl, rfl, p _ _ _ _ h m rfl .refl⟩
  · exact h.elim
theorem dop_notInSg : DOp K (fInSg true) (fun x y H Q => ∃ (c : Nat) (z : Str), x = .str ⟨#[c]⟩ ∧ y = .str z ∧ Q (.bl (!decide (c ∈ z.cps.toList))) H) := by
  intro x y u v M H R Q rx ry m h p
  unfold fInSg at h
  split at h
  · obtain ⟨c, rfl, h⟩ := h
    cases rx; cases ry
    exact ⟨c, _, rfl, rfl, p _ _ _ _ h m rfl .refl⟩
  · exact h.elim
theorem E_inSg {neg : Bool} {c : Nat} {z : Str} {M : Mem} {R : DK} : fInSg neg (.str ⟨#[c]⟩) (.str z) M R = ∃ c', (⟨#[c]⟩ : Str) = ⟨#[c']⟩ ∧ R (.bl (if neg then !decide (c' ∈ z.cps.toList) else decide (c' ∈ z.cps.toList))) M := (rfl)
/-! ### the index of a flat thing in a list -/
def kIdxL (y : D) (M : Mem) (R : DK) (o : Option (List D)) : Prop := match o with
  | some xs => flatD y = true ∧ xs.all flatD = true ∧ ∃ (j : Nat) (z : D), xs[j]? = some z ∧ eqV (toV z) (toV y) = true ∧ (∀ (m : Nat) (z' : D), m < j → xs[m]? = some z' → eqV (toV z') (toV y) = false) ∧ R (.int (j : Nat)) M
  | none => False
def idxL (x y : D) (M : Mem) (R : DK) : Prop := match x with
  | .lst l => kIdxL y M R (M l)
  | _ => False
def idxL1 (x : D) (R : DK) : List D → Mem → Prop := fun ds M => match ds with
  | [y] => idxL x y M R
  | _ => False
def wIdxL (wo w : WE) : WE := fun ρ M R => wo ρ M fun x M1 => isL x M1 ∧ w ρ M1 fun y M2 => idxL x y M2 R
theorem de_idxL (ho : DE X o wo) (he : DE X e w)
    (hbase : attributeBase o "index" X.env (eval o X.env) = eval o X.env := by rfl)
    (hfew : ((backTo cpos (starEach [e] X.env)).all (fun x => !x.1) && (backToKw cpos (keywordEach [] X.env)).all (fun x => x.1.isSome)
      && decide ([e].length + ([] : List Keyword).length + (if ([] : List Keyword).isEmpty then 0 else 1) < 30)) = true := by rfl)
    (hline : (apos.endLine == cpos.line) = true := by rfl) (hs : starEach [e] X.env = (false, eval e X.env) :: starEach [] X.env := by rfl) (hplain : (backTo cpos (starEach [] X.env)).any (·.1) = false := by rfl) :
    DE X (.Call (.Attribute o "index" apos) [e] [] cpos) (wIdxL wo w) :=
  pe_w (pe_bm PySem.F.plainAttrs_list PySem.F.slot_list_index PySem.F.type_list_index mt_index ho (da_cons he da_nil hs) hbase hfew hline hs hplain) fun σ H Q ⟨ρ, M, R, er, mr, h, p⟩ => by
    refine ⟨ρ, M, _, er, mr, h, fun x M1 v H1 h1 m1 r1 x1 => ?_⟩
    obtain ⟨h0, h1⟩ := h1
    cases x with
    | lst l =>
      cases r1
      refine ⟨?_, ρ, M1, idxL1 (.lst l) R, er.ext x1, m1, h1, fun ds M2 vs H2 h2 m2 r2 x2 => ?_⟩
      · cases e1 : M1 l with
        | none =>
          unfold isL at h0
          simp only [e1] at h0
          cases h0
        | some ds =>
          obtain ⟨us, _, eh⟩ := m1 l ds e1
          exact .inl ⟨rfl, us, SqL.of eh⟩
      · unfold idxL1 at h2
        split at h2
        · rename_i y
          have h2 : kIdxL y M2 R (M2 l) := h2
          cases e2 : M2 l with
          | some xs =>
            rw [e2] at h2
            unfold kIdxL at h2
            simp only at h2
            obtain ⟨f1, f2, j, z, k1, k2, k3, k4⟩ := h2
            obtain ⟨us, ru, eh⟩ := m2 _ xs e2
            obtain ⟨v, rfl, rv⟩ := rp1 r2
            obtain ⟨a1, a2⟩ := flat_rp f1 rv
            obtain ⟨b1, b2⟩ := flat_rpl f2 ru
            refine ⟨l, us, v, j, toV z, rfl, rfl, SqL.of eh, a2, b2, ?_, ?_, fun m z' hm hz' => ?_, p _ _ _ _ k4 m2 rfl (x1.trans x2)⟩
            · rw [b1, List.getElem?_map, k1]
              rfl
            · rw [a1]
              exact k2
            · rw [b1, List.getElem?_map] at hz'
              cases q : xs[m]? with
              | none =>
                rw [q] at hz'
                cases hz'
              | some z2 =>
                rw [q] at hz'
                cases hz'
                rw [a1]
                exact k3 m z2 hm q
          | none =>
            rw [e2] at h2
            exact h2.elim
        · exact h2.elim
    | _ => exact h0.elim
theorem E_idxL {ρ : Zq.Env} {M : Mem} {R : DK} : wIdxL wo w ρ M R = wo ρ M fun x M1 => isL x M1 ∧ w ρ M1 fun y M2 => idxL x y M2 R := (rfl)
theorem E_idxL1 {l : Addr} {y : D} {M : Mem} {R : DK} : idxL (.lst l) y M R = kIdxL y M R (M l) := (rfl)
end
end Zq


set_option Elab.async false
set_option linter.all false
namespace K1
open PySem PySem.Spec PyProof.Rows L2 Zq
def W_is_whole : WFn := wBody 1 0 (sCons (sRet (wAnd (wB bIsi (aCons (wVar 0) (aCons (wC (.ty "int")) aNil))) (wNot (wB bIsi (aCons (wVar 0) (aCons (wC (.ty "bool")) aNil))))))
    sNil)
def W_is_tuple_of : WFn := wBody 3 0 (sCons (sRet (wAnd (wB bIsi (aCons (wVar 0) (aCons (wC (.ty "tuple")) aNil))) (wChain fLe fLe (wVar 1) (wB bLen (aCons (wVar 0) aNil)) (wVar 2))))
    sNil)
def W_sign_of_whole : WFn := wBody 1 0 (sCons (sIf (wTest (wBin fGt (wVar 0) (wC (.int 0)))) (sCons (sRet (wC (.int 1)))
    sNil) sNil)
    (sCons (sIf (wTest (wBin fLt (wVar 0) (wC (.int 0)))) (sCons (sRet (wNeg (wC (.int 1))))
    sNil) sNil)
    (sCons (sRet (wC (.int 0)))
    sNil)))
def W_sign_with_root : WFn := wBody 3 2 (sCons (sPar 3 4 (aCons (wCall K1.W_sign_of_whole (aCons (wVar 0) aNil)) (aCons (wCall K1.W_sign_of_whole (aCons (wBin fMul (wVar 1) (wVar 2)) aNil)) aNil)))
    (sCons (sIf (wTest (wBin (fEq true) (wBin fAdd (wVar 3) (wVar 4)) (wC (.int 0)))) (sCons (sRet (wCall K1.W_sign_of_whole (aCons (wBin fAdd (wVar 3) (wVar 4)) aNil)))
    sNil) sNil)
    (sCons (sRet (wBin fMul (wVar 3) (wCall K1.W_sign_of_whole (aCons (wBin fSub (wBin fMul (wVar 0) (wVar 0)) (wBin fMul (wBin fMul (wVar 1) (wVar 1)) (wVar 2))) aNil))))
    sNil)))
def W_sign_with_two_roots : WFn := wBody 5 3 (sCons (sSet 5 (wCall K1.W_sign_with_root (aCons (wVar 0) (aCons (wVar 1) (aCons (wVar 2) aNil)))))
    (sCons (sSet 6 (wCall K1.W_sign_of_whole (aCons (wBin fMul (wVar 3) (wVar 4)) aNil)))
    (sCons (sIf (wTest (wBin (fEq true) (wBin fAdd (wVar 5) (wVar 6)) (wC (.int 0)))) (sCons (sRet (wCall K1.W_sign_of_whole (aCons (wBin fAdd (wVar 5) (wVar 6)) aNil)))
    sNil) sNil)
    (sCons (sSet 7 (wBin fSub (wBin fAdd (wBin fMul (wVar 0) (wVar 0)) (wBin fMul (wBin fMul (wVar 1) (wVar 1)) (wVar 2))) (wBin fMul (wBin fMul (wVar 3) (wVar 3)) (wVar 4))))
    (sCons (sRet (wBin fMul (wVar 5) (wCall K1.W_sign_with_root (aCons (wVar 7) (aCons (wBin fMul (wBin fMul (wC (.int 2)) (wVar 0)) (wVar 1)) (aCons (wVar 2) aNil))))))
    sNil)))))
def W_with_one_root : WFn := wBody 2 10 (sCons (sAsg (wVar 1) (gT 2 (gNC (gN 2) (gNC (gN 3) gN0))))
    (sCons (sSet 4 (wC (.int 1)))
    (sCons (sFor (iQ (wVar 0)) (gT 2 (gNC (gN 5) (gNC (gN 6) gN0))) (sCons (sSet 4 (wB bLcm (aCons (wVar 4) (aCons (wBin fIx (wVar 5) (wC (.int 1))) (aCons (wBin fMul (wBin fIx (wVar 6) (wC (.int 1))) (wVar 3)) aNil)))))
    sNil))
    (sCons (sSet 7 (wLc (iQ (wVar 0)) (gT 2 (gNC (gT 2 (gNC (gN 8) (gNC (gN 9) gN0))) (gNC (gT 2 (gNC (gN 10) (gNC (gN 11) gN0))) gN0))) tYes' (wTup (aCons (wBin fMul (wVar 8) (wBin fDiv (wVar 4) (wVar 9))) (aCons (wBin fMul (wVar 10) (wBin fDiv (wVar 4) (wBin fMul (wVar 11) (wVar 3)))) aNil))) [8, 9, 10, 11]))
    (sCons (sRet (wTup (aCons (wVar 7) (aCons (wBin fMul (wVar 2) (wVar 3)) (aCons (wVar 4) aNil)))))
    sNil)))))
def W_is_fraction : WFn := wBody 1 2 (sCons (sIf (tNot' (wTest (wCall K1.W_is_tuple_of (aCons (wVar 0) (aCons (wC (.int 2)) (aCons (wC (.int 2)) aNil)))))) (sCons (sRet (wC (.bl false)))
    sNil) sNil)
    (sCons (sAsg (wVar 0) (gT 2 (gNC (gN 1) (gNC (gN 2) gN0))))
    (sCons (sRet (wAnd (wCall K1.W_is_whole (aCons (wVar 1) aNil)) (wAnd (wCall K1.W_is_whole (aCons (wVar 2) aNil)) (wAnd (wBin fGt (wVar 2) (wC (.int 0))) (wBin (fEq false) (wB bGcd (aCons (wVar 1) (aCons (wVar 2) aNil))) (wC (.int 1)))))))
    sNil)))
def W_is_number : WFn := wBody 1 1 (sCons (sIf (tNot' (wTest (wCall K1.W_is_tuple_of (aCons (wVar 0) (aCons (wC (.int 3)) (aCons (wC (.int 3)) aNil)))))) (sCons (sRet (wC (.bl false)))
    sNil) sNil)
    (sCons (sRet (wAnd (wB (bAll false) (aCons (wLc (iQ (wVar 0)) (gN 1) tYes' (wCall K1.W_is_fraction (aCons (wVar 1) aNil)) [1]) aNil)) (wBin fGe (wBin fIx (wBin fIx (wVar 0) (wC (.int 2))) (wC (.int 0))) (wC (.int 0)))))
    sNil))
def W_need_number : WFn := wBody 1 0 (sCons (sIf (tNot' (wTest (wCall K1.W_is_number (aCons (wVar 0) aNil)))) (sCons sNever
    sNil) sNil)
    sNil)
def W_in_wholes : WFn := wBody 1 6 (sCons (sAsg (wVar 0) (gT 3 (gNC (gN 1) (gNC (gN 2) (gNC (gN 3) gN0)))))
    (sCons (sAsg (wCall K1.W_with_one_root (aCons (wLst (aCons (wTup (aCons (wVar 1) (aCons (wVar 2) aNil))) aNil)) (aCons (wVar 3) aNil))) (gT 3 (gNC (gN 4) (gNC (gN 5) (gNC (gN 6) gN0)))))
    (sCons (sRet (wTup (aCons (wBin fIx (wBin fIx (wVar 4) (wC (.int 0))) (wC (.int 0))) (aCons (wBin fIx (wBin fIx (wVar 4) (wC (.int 0))) (wC (.int 1))) (aCons (wVar 5) (aCons (wVar 6) aNil))))))
    sNil)))
def W_order_of : WFn := wBody 2 9 (sCons (sAsg (wCall K1.W_in_wholes (aCons (wVar 0) aNil)) (gT 4 (gNC (gN 2) (gNC (gN 3) (gNC (gN 4) (gNC (gN 5) gN0))))))
    (sCons (sAsg (wCall K1.W_in_wholes (aCons (wVar 1) aNil)) (gT 4 (gNC (gN 6) (gNC (gN 7) (gNC (gN 8) (gNC (gN 9) gN0))))))
    (sCons (sSet 10 (wBin fSub (wBin fMul (wVar 2) (wVar 9)) (wBin fMul (wVar 6) (wVar 5))))
    (sCons (sRet (wCall K1.W_sign_with_two_roots (aCons (wVar 10) (aCons (wBin fMul (wVar 3) (wVar 9)) (aCons (wVar 4) (aCons (wBin fMul (wNeg (wVar 7)) (wVar 5)) (aCons (wVar 8) aNil)))))))
    sNil))))
def W_sign_of : WFn := wBody 1 4 (sCons (sExpr (wCall K1.W_need_number (aCons (wVar 0) aNil)))
    (sCons (sAsg (wCall K1.W_in_wholes (aCons (wVar 0) aNil)) (gT 4 (gNC (gN 1) (gNC (gN 2) (gNC (gN 3) (gNC (gN 4) gN0))))))
    (sCons (sRet (wCall K1.W_sign_with_root (aCons (wVar 1) (aCons (wVar 2) (aCons (wVar 3) aNil)))))
    sNil)))
def W_compared : WFn := wBody 2 0 (sCons (sExpr (wCall K1.W_need_number (aCons (wVar 0) aNil)))
    (sCons (sExpr (wCall K1.W_need_number (aCons (wVar 1) aNil)))
    (sCons (sRet (wCall K1.W_order_of (aCons (wVar 0) (aCons (wVar 1) aNil))))
    sNil)))
def W_law_jar : WFn := wBody 2 3 (sCons (sSet 2 (wBin fAdd (wC (.int 6101)) (wBin fMul (wC (.int 8111)) (wVar 1))))
    (sCons (sFor (iQ (wSlice (wVar 0) oNone (oSome (wC (.int 10))))) (gN 3) (sCons (sSet 2 (wBin fMod (wB bInt (aCons (wBin fAdd (wBin fAdd (wBin fMul (wVar 2) (wC (.int 52361))) (wBin fMul (wBin fMod (wB bInt (aCons (wVar 3) aNil)) (wC (.int 2147483399))) (wC (.int 11)))) (wC (.int 3))) aNil)) (wC (.int 2147483399))))
    sNil))
    (sCons (sSet 4 (wIf (wTest (wBin fLt (wVar 1) (wB bLen (aCons (wVar 0) aNil)))) (wB bInt (aCons (wBin fIx (wVar 0) (wVar 1)) aNil)) (wC (.int 0))))
    (sCons (sRet (wLst (aCons (wIf (tOr' (wTest (wBin fLt (wVar 4) (wC (.int 0)))) (wTest (wBin fGe (wVar 4) (wBin fPow (wC (.int 10)) (wC (.int 15)))))) (wB bAbs (aCons (wVar 4) aNil)) (wC (.int 0))) (aCons (wVar 2) (aCons (wC (.int 0)) aNil)))))
    sNil))))
def W_law_dip : WFn := wBody 2 2 (sCons (sIf (wTest (wBin fGt (wBin fIx (wVar 0) (wC (.int 0))) (wC (.int 0)))) (sCons (sAsg (wB bDivmod (aCons (wBin fIx (wVar 0) (wC (.int 0))) (aCons (wVar 1) aNil))) (gT 2 (gNC (gS (wVar 0) (wC (.int 0))) (gNC (gN 2) gN0))))
    (sCons (sRet (wVar 2))
    sNil)) sNil)
    (sCons (sAsg (wBin fAdd (wBin fIx (wVar 0) (wC (.int 2))) (wC (.int 1))) (gS (wVar 0) (wC (.int 2))))
    (sCons (sSet 3 (wBin fMod (wB bInt (aCons (wBin fAdd (wBin fIx (wVar 0) (wC (.int 1))) (wBin fMul (wC (.int 28657)) (wBin fIx (wVar 0) (wC (.int 2))))) aNil)) (wC (.int 2147483399))))
    (sCons (sAsg (wBin fMod (wB bInt (aCons (wBin fAdd (wBin fMul (wVar 3) (wBin fAdd (wBin fMod (wB bInt (aCons (wVar 3) aNil)) (wC (.int 5003))) (wC (.int 48271)))) (wBin fMul (wC (.int 17)) (wBin fIx (wVar 0) (wC (.int 2))))) aNil)) (wC (.int 2147483399))) (gS (wVar 0) (wC (.int 1))))
    (sCons (sRet (wBin fMod (wB bInt (aCons (wBin fDiv (wBin fIx (wVar 0) (wC (.int 1))) (wC (.int 613))) aNil)) (wVar 1)))
    sNil)))))
def W_law_one_of : WFn := wBody 2 0 (sCons (sRet (wBin fIx (wVar 1) (wCall K1.W_law_dip (aCons (wVar 0) (aCons (wB bLen (aCons (wVar 1) aNil)) aNil)))))
    sNil)
def W_law_same : WFn := wBody 2 0 (sCons (sRet (wBin (fEq false) (wB bRepr (aCons (wVar 0) aNil)) (wB bRepr (aCons (wVar 1) aNil))))
    sNil)
def W_law_frac : WFn := wBody 2 2 (sCons (sAsg (wIf (wTest (wBin fLt (wVar 1) (wC (.int 0)))) (wTup (aCons (wBin fSub (wC (.int 0)) (wVar 0)) (aCons (wBin fSub (wC (.int 0)) (wVar 1)) aNil))) (wTup (aCons (wVar 0) (aCons (wVar 1) aNil)))) (gT 2 (gNC (gN 0) (gNC (gN 1) gN0))))
    (sCons (sPar 2 3 (aCons (wB bAbs (aCons (wVar 0) aNil)) (aCons (wVar 1) aNil)))
    (sCons (sWhile (wTest (wBin fGt (wVar 3) (wC (.int 0)))) (sCons (sPar 2 3 (aCons (wVar 3) (aCons (wBin fMod (wB bInt (aCons (wVar 2) aNil)) (wVar 3)) aNil)))
    sNil))
    (sCons (sRet (wTup (aCons (wBin fDiv (wVar 0) (wVar 2)) (aCons (wBin fDiv (wVar 1) (wVar 2)) aNil))))
    sNil))))
def W_law_plus : WFn := wBody 2 0 (sCons (sRet (wCall K1.W_law_frac (aCons (wBin fAdd (wBin fMul (wBin fIx (wVar 0) (wC (.int 0))) (wBin fIx (wVar 1) (wC (.int 1)))) (wBin fMul (wBin fIx (wVar 1) (wC (.int 0))) (wBin fIx (wVar 0) (wC (.int 1))))) (aCons (wBin fMul (wBin fIx (wVar 0) (wC (.int 1))) (wBin fIx (wVar 1) (wC (.int 1)))) aNil))))
    sNil)
def W_law_less : WFn := wBody 2 0 (sCons (sRet (wCall K1.W_law_frac (aCons (wBin fSub (wBin fMul (wBin fIx (wVar 0) (wC (.int 0))) (wBin fIx (wVar 1) (wC (.int 1)))) (wBin fMul (wBin fIx (wVar 1) (wC (.int 0))) (wBin fIx (wVar 0) (wC (.int 1))))) (aCons (wBin fMul (wBin fIx (wVar 0) (wC (.int 1))) (wBin fIx (wVar 1) (wC (.int 1)))) aNil))))
    sNil)
def W_law_by : WFn := wBody 2 0 (sCons (sRet (wCall K1.W_law_frac (aCons (wBin fMul (wBin fIx (wVar 0) (wC (.int 0))) (wBin fIx (wVar 1) (wC (.int 0)))) (aCons (wBin fMul (wBin fIx (wVar 0) (wC (.int 1))) (wBin fIx (wVar 1) (wC (.int 1)))) aNil))))
    sNil)
def W_law_over : WFn := wBody 2 0 (sCons (sRet (wCall K1.W_law_frac (aCons (wBin fMul (wBin fIx (wVar 0) (wC (.int 0))) (wBin fIx (wVar 1) (wC (.int 1)))) (aCons (wBin fMul (wBin fIx (wVar 0) (wC (.int 1))) (wBin fIx (wVar 1) (wC (.int 0)))) aNil))))
    sNil)
def W_law_back : WFn := wBody 1 0 (sCons (sRet (wTup (aCons (wBin fSub (wC (.int 0)) (wBin fIx (wVar 0) (wC (.int 0)))) (aCons (wBin fIx (wVar 0) (wC (.int 1))) aNil))))
    sNil)
def W_law_sgn : WFn := wBody 1 0 (sCons (sRet (wBin fSub (wB bInt (aCons (wBin fGt (wBin fIx (wVar 0) (wC (.int 0))) (wC (.int 0))) aNil)) (wB bInt (aCons (wBin fLt (wBin fIx (wVar 0) (wC (.int 0))) (wC (.int 0))) aNil))))
    sNil)
def W_law_root_sign : WFn := wBody 3 3 (sCons (sPar 3 4 (aCons (wCall K1.W_law_sgn (aCons (wVar 0) aNil)) (aCons (wIf (wTest (wBin fGt (wBin fIx (wVar 2) (wC (.int 0))) (wC (.int 0)))) (wCall K1.W_law_sgn (aCons (wVar 1) aNil)) (wC (.int 0))) aNil)))
    (sCons (sIf (tOr' (wTest (wBin (fEq false) (wVar 3) (wC (.int 0)))) (tOr' (wTest (wBin (fEq false) (wVar 4) (wC (.int 0)))) (wTest (wBin (fEq false) (wVar 3) (wVar 4))))) (sCons (sRet (wIf (wTest (wBin (fEq false) (wVar 4) (wC (.int 0)))) (wVar 3) (wVar 4)))
    sNil) sNil)
    (sCons (sSet 5 (wCall K1.W_law_sgn (aCons (wCall K1.W_law_less (aCons (wCall K1.W_law_by (aCons (wVar 0) (aCons (wVar 0) aNil))) (aCons (wCall K1.W_law_by (aCons (wCall K1.W_law_by (aCons (wVar 1) (aCons (wVar 1) aNil))) (aCons (wVar 2) aNil))) aNil))) aNil)))
    (sCons (sRet (wBin fAdd (wBin fMul (wVar 3) (wB bInt (aCons (wBin fGt (wVar 5) (wC (.int 0))) aNil))) (wBin fMul (wVar 4) (wB bInt (aCons (wBin fLt (wVar 5) (wC (.int 0))) aNil)))))
    sNil))))
def W_law_two_sign : WFn := wBody 5 4 (sCons (sPar 5 6 (aCons (wCall K1.W_law_root_sign (aCons (wVar 0) (aCons (wVar 1) (aCons (wVar 2) aNil)))) (aCons (wIf (wTest (wBin fGt (wBin fIx (wVar 4) (wC (.int 0))) (wC (.int 0)))) (wCall K1.W_law_sgn (aCons (wVar 3) aNil)) (wC (.int 0))) aNil)))
    (sCons (sIf (tOr' (wTest (wBin (fEq false) (wVar 5) (wC (.int 0)))) (tOr' (wTest (wBin (fEq false) (wVar 6) (wC (.int 0)))) (wTest (wBin (fEq false) (wVar 5) (wVar 6))))) (sCons (sRet (wIf (wTest (wBin (fEq false) (wVar 6) (wC (.int 0)))) (wVar 5) (wVar 6)))
    sNil) sNil)
    (sCons (sSet 7 (wCall K1.W_law_less (aCons (wCall K1.W_law_plus (aCons (wCall K1.W_law_by (aCons (wVar 0) (aCons (wVar 0) aNil))) (aCons (wCall K1.W_law_by (aCons (wCall K1.W_law_by (aCons (wVar 1) (aCons (wVar 1) aNil))) (aCons (wVar 2) aNil))) aNil))) (aCons (wCall K1.W_law_by (aCons (wCall K1.W_law_by (aCons (wVar 3) (aCons (wVar 3) aNil))) (aCons (wVar 4) aNil))) aNil))))
    (sCons (sSet 8 (wCall K1.W_law_root_sign (aCons (wVar 7) (aCons (wCall K1.W_law_by (aCons (wCall K1.W_law_by (aCons (wVar 0) (aCons (wVar 1) aNil))) (aCons (wTup (aCons (wC (.int 2)) (aCons (wC (.int 1)) aNil))) aNil))) (aCons (wVar 2) aNil)))))
    (sCons (sRet (wBin fAdd (wBin fMul (wVar 5) (wB bInt (aCons (wBin fGt (wVar 8) (wC (.int 0))) aNil))) (wBin fMul (wVar 6) (wB bInt (aCons (wBin fLt (wVar 8) (wC (.int 0))) aNil)))))
    sNil)))))
def W_law_order : WFn := wBody 2 0 (sCons (sRet (wCall K1.W_law_two_sign (aCons (wCall K1.W_law_less (aCons (wBin fIx (wVar 0) (wC (.int 0))) (aCons (wBin fIx (wVar 1) (wC (.int 0))) aNil))) (aCons (wBin fIx (wVar 0) (wC (.int 1))) (aCons (wBin fIx (wVar 0) (wC (.int 2))) (aCons (wCall K1.W_law_back (aCons (wBin fIx (wVar 1) (wC (.int 1))) aNil)) (aCons (wBin fIx (wVar 1) (wC (.int 2))) aNil)))))))
    sNil)
def W_law_floor_root : WFn := wBody 1 3 (sCons (sSet 1 (wC (.int 1)))
    (sCons (sWhile (wTest (wBin fLe (wBin fMul (wVar 1) (wVar 1)) (wVar 0))) (sCons (sSet 1 (wBin fMul (wC (.int 2)) (wVar 1)))
    sNil))
    (sCons (sSet 2 (wBin fDiv (wVar 1) (wC (.int 2))))
    (sCons (sWhile (wTest (wBin fGt (wBin fSub (wVar 1) (wVar 2)) (wC (.int 1)))) (sCons (sSet 3 (wBin fDiv (wBin fAdd (wVar 2) (wVar 1)) (wC (.int 2))))
    (sCons (sAsg (wIf (wTest (wBin fLe (wBin fMul (wVar 3) (wVar 3)) (wVar 0))) (wTup (aCons (wVar 3) (aCons (wVar 1) aNil))) (wTup (aCons (wVar 2) (aCons (wVar 3) aNil)))) (gT 2 (gNC (gN 2) (gNC (gN 1) gN0))))
    sNil)))
    (sCons (sRet (wVar 2))
    sNil)))))
def W_law_great : WFn := wBody 1 2 (sCons (sSet 1 (wC (.int 1)))
    (sCons (sFor (iR1 (aCons (wC (.int 6)) aNil)) (gN 2) (sCons (sSet 1 (wBin fAdd (wBin fMul (wVar 1) (wC (.int 1000003))) (wCall K1.W_law_dip (aCons (wVar 0) (aCons (wC (.int 1000003)) aNil)))))
    sNil))
    (sCons (sRet (wVar 1))
    sNil)))
def W_law_some : WFn := wBody 1 1 (sCons (sSet 1 (wCall K1.W_law_dip (aCons (wVar 0) (aCons (wC (.int 16)) aNil))))
    (sCons (sIf (wTest (wBin fLt (wVar 1) (wC (.int 8)))) (sCons (sRet (wTup (aCons (wBin fSub (wCall K1.W_law_dip (aCons (wVar 0) (aCons (wC (.int 13)) aNil))) (wC (.int 4))) (aCons (wC (.int 1)) aNil))))
    sNil) sNil)
    (sCons (sIf (wTest (wBin fLt (wVar 1) (wC (.int 13)))) (sCons (sRet (wCall K1.W_law_frac (aCons (wBin fSub (wCall K1.W_law_dip (aCons (wVar 0) (aCons (wC (.int 41)) aNil))) (wC (.int 20))) (aCons (wCall K1.W_law_one_of (aCons (wVar 0) (aCons (wLst (aCons (wC (.int 2)) (aCons (wC (.int 2)) (aCons (wC (.int 3)) (aCons (wC (.int 4)) (aCons (wC (.int 5)) (aCons (wC (.int 6)) aNil))))))) aNil))) aNil))))
    sNil) sNil)
    (sCons (sIf (wTest (wBin (fEq false) (wVar 1) (wC (.int 13)))) (sCons (sRet (wCall K1.W_law_frac (aCons (wBin fSub (wCall K1.W_law_dip (aCons (wVar 0) (aCons (wC (.int 200003)) aNil))) (wC (.int 100001))) (aCons (wBin fAdd (wC (.int 1)) (wCall K1.W_law_dip (aCons (wVar 0) (aCons (wC (.int 1000)) aNil)))) aNil))))
    sNil) sNil)
    (sCons (sRet (wIf (wTest (wBin (fEq false) (wVar 1) (wC (.int 14)))) (wTup (aCons (wC (.int 0)) (aCons (wC (.int 1)) aNil))) (wCall K1.W_law_frac (aCons (wBin fMul (wCall K1.W_law_great (aCons (wVar 0) aNil)) (wCall K1.W_law_one_of (aCons (wVar 0) (aCons (wLst (aCons (wC (.int 1)) (aCons (wNeg (wC (.int 1))) aNil))) aNil)))) (aCons (wBin fAdd (wC (.int 1)) (wCall K1.W_law_dip (aCons (wVar 0) (aCons (wC (.int 100000)) aNil)))) aNil)))))
    sNil)))))
def W_law_rootable : WFn := wBody 1 1 (sCons (sSet 1 (wCall K1.W_law_some (aCons (wVar 0) aNil)))
    (sCons (sIf (wTest (wBin (fEq false) (wCall K1.W_law_dip (aCons (wVar 0) (aCons (wC (.int 4)) aNil))) (wC (.int 0)))) (sCons (sRet (wCall K1.W_law_by (aCons (wVar 1) (aCons (wVar 1) aNil))))
    sNil) sNil)
    (sCons (sRet (wIf (wTest (wBin fGt (wCall K1.W_law_dip (aCons (wVar 0) (aCons (wC (.int 3)) aNil))) (wC (.int 0)))) (wTup (aCons (wB bAbs (aCons (wBin fIx (wVar 1) (wC (.int 0))) aNil)) (aCons (wBin fIx (wVar 1) (wC (.int 1))) aNil))) (wTup (aCons (wCall K1.W_law_one_of (aCons (wVar 0) (aCons (wLst (aCons (wC (.int 0)) (aCons (wC (.int 2)) (aCons (wC (.int 3)) (aCons (wC (.int 5)) (aCons (wC (.int 8)) (aCons (wC (.int 12)) (aCons (wC (.int 52)) aNil)))))))) aNil))) (aCons (wC (.int 1)) aNil)))))
    sNil)))
def W_law_number : WFn := wBody 1 5 (sCons (sPar 1 2 (aCons (wCall K1.W_law_some (aCons (wVar 0) aNil)) (aCons (wCall K1.W_law_rootable (aCons (wVar 0) aNil)) aNil)))
    (sCons (sIf (wTest (wBin fGt (wCall K1.W_law_dip (aCons (wVar 0) (aCons (wC (.int 3)) aNil))) (wC (.int 0)))) (sCons (sRet (wTup (aCons (wCall K1.W_law_some (aCons (wVar 0) aNil)) (aCons (wVar 1) (aCons (wVar 2) aNil)))))
    sNil) sNil)
    (sCons (sSet 3 (wCall K1.W_law_one_of (aCons (wVar 0) (aCons (wLst (aCons (wC (.int 1)) (aCons (wC (.int 10)) (aCons (wC (.int 1000)) (aCons (wBin fPow (wC (.int 10)) (wC (.int 9))) aNil))))) aNil))))
    (sCons (sSet 4 (wCall K1.W_law_by (aCons (wCall K1.W_law_by (aCons (wVar 1) (aCons (wVar 1) aNil))) (aCons (wVar 2) aNil))))
    (sCons (sSet 5 (wCall K1.W_law_frac (aCons (wBin fAdd (wCall K1.W_law_floor_root (aCons (wBin fDiv (wBin fMul (wBin fMul (wBin fIx (wVar 4) (wC (.int 0))) (wVar 3)) (wVar 3)) (wBin fIx (wVar 4) (wC (.int 1)))) aNil)) (wCall K1.W_law_dip (aCons (wVar 0) (aCons (wC (.int 2)) aNil)))) (aCons (wVar 3) aNil))))
    (sCons (sRet (wTup (aCons (wIf (wTest (wBin fLt (wBin fIx (wVar 1) (wC (.int 0))) (wC (.int 0)))) (wVar 5) (wCall K1.W_law_back (aCons (wVar 5) aNil))) (aCons (wVar 1) (aCons (wVar 2) aNil)))))
    sNil))))))
def W_law_twin : WFn := wBody 2 5 (sCons (sAsg (wVar 1) (gT 3 (gNC (gN 2) (gNC (gN 3) (gNC (gN 4) gN0)))))
    (sCons (sPar 5 6 (aCons (wCall K1.W_law_dip (aCons (wVar 0) (aCons (wC (.int 4)) aNil))) (aCons (wCall K1.W_law_one_of (aCons (wVar 0) (aCons (wLst (aCons (wTup (aCons (wC (.int 2)) (aCons (wC (.int 1)) aNil))) (aCons (wTup (aCons (wC (.int 3)) (aCons (wC (.int 1)) aNil))) (aCons (wTup (aCons (wC (.int 1)) (aCons (wC (.int 2)) aNil))) (aCons (wTup (aCons (wC (.int 5)) (aCons (wC (.int 3)) aNil))) aNil))))) aNil))) aNil)))
    (sCons (sIf (tOr' (wTest (wBin (fEq false) (wBin fIx (wVar 3) (wC (.int 0))) (wC (.int 0)))) (wTest (wBin (fEq false) (wBin fIx (wVar 4) (wC (.int 0))) (wC (.int 0))))) (sCons (sRet (wIf (wTest (wBin fLt (wVar 5) (wC (.int 2)))) (wTup (aCons (wVar 2) (aCons (wTup (aCons (wC (.int 0)) (aCons (wC (.int 1)) aNil))) (aCons (wCall K1.W_law_rootable (aCons (wVar 0) aNil)) aNil)))) (wTup (aCons (wVar 2) (aCons (wCall K1.W_law_some (aCons (wVar 0) aNil)) (aCons (wTup (aCons (wC (.int 0)) (aCons (wC (.int 1)) aNil))) aNil))))))
    sNil) sNil)
    (sCons (sIf (wTest (wBin (fEq false) (wVar 5) (wC (.int 0)))) (sCons (sRet (wVar 1))
    sNil) sNil)
    (sCons (sRet (wTup (aCons (wVar 2) (aCons (wCall K1.W_law_over (aCons (wVar 3) (aCons (wVar 6) aNil))) (aCons (wCall K1.W_law_by (aCons (wVar 4) (aCons (wCall K1.W_law_by (aCons (wVar 6) (aCons (wVar 6) aNil))) aNil))) aNil)))))
    sNil)))))
def W_law_floor : WFn := wBody 2 8 (sCons (sSet 2 (wTup (aCons (wVar 1) (aCons (wC (.int 1)) aNil))))
    (sCons (sPar3 3 4 5 (aCons (wCall K1.W_law_by (aCons (wBin fIx (wVar 0) (wC (.int 0))) (aCons (wVar 2) aNil))) (aCons (wCall K1.W_law_by (aCons (wBin fIx (wVar 0) (wC (.int 1))) (aCons (wVar 2) aNil))) (aCons (wBin fIx (wVar 0) (wC (.int 2))) aNil))))
    (sCons (sSet 6 (wCall K1.W_law_by (aCons (wCall K1.W_law_by (aCons (wVar 4) (aCons (wVar 4) aNil))) (aCons (wVar 5) aNil))))
    (sCons (sSet 7 (wCall K1.W_law_floor_root (aCons (wBin fDiv (wBin fIx (wVar 6) (wC (.int 0))) (wBin fIx (wVar 6) (wC (.int 1)))) aNil)))
    (sCons (sSet 8 (wBin fSub (wBin fAdd (wBin fDiv (wBin fIx (wVar 3) (wC (.int 0))) (wBin fIx (wVar 3) (wC (.int 1)))) (wIf (wTest (wBin fGt (wBin fIx (wVar 4) (wC (.int 0))) (wC (.int 0)))) (wVar 7) (wBin fSub (wBin fSub (wC (.int 0)) (wVar 7)) (wC (.int 1))))) (wC (.int 1))))
    (sCons (sFor (iR1 (aCons (wC (.int 6)) aNil)) (gN 9) (sCons (sIf (wTest (wBin fGe (wCall K1.W_law_root_sign (aCons (wCall K1.W_law_less (aCons (wVar 3) (aCons (wTup (aCons (wBin fAdd (wVar 8) (wC (.int 1))) (aCons (wC (.int 1)) aNil))) aNil))) (aCons (wVar 4) (aCons (wVar 5) aNil)))) (wC (.int 0)))) (sCons (sSet 8 (wBin fAdd (wVar 8) (wC (.int 1))))
    sNil) sNil)
    sNil))
    (sCons (sRet (wVar 8))
    sNil)))))))
def W_law_pair : WFn := wBody 1 3 (sCons (sSet 1 (wCall K1.W_law_number (aCons (wVar 0) aNil)))
    (sCons (sSet 2 (wCall K1.W_law_dip (aCons (wVar 0) (aCons (wC (.int 4)) aNil))))
    (sCons (sIf (wTest (wBin (fEq false) (wVar 2) (wC (.int 0)))) (sCons (sRet (wTup (aCons (wVar 1) (aCons (wCall K1.W_law_twin (aCons (wVar 0) (aCons (wVar 1) aNil))) aNil))))
    sNil) sNil)
    (sCons (sIf (wTest (wBin (fEq false) (wVar 2) (wC (.int 1)))) (sCons (sSet 3 (wCall K1.W_law_one_of (aCons (wVar 0) (aCons (wLst (aCons (wC (.int 1)) (aCons (wC (.int 10)) (aCons (wC (.int 1000)) (aCons (wBin fPow (wC (.int 10)) (wC (.int 9))) aNil))))) aNil))))
    (sCons (sRet (wTup (aCons (wVar 1) (aCons (wTup (aCons (wCall K1.W_law_frac (aCons (wBin fAdd (wCall K1.W_law_floor (aCons (wVar 1) (aCons (wVar 3) aNil))) (wCall K1.W_law_dip (aCons (wVar 0) (aCons (wC (.int 2)) aNil)))) (aCons (wVar 3) aNil))) (aCons (wTup (aCons (wC (.int 0)) (aCons (wC (.int 1)) aNil))) (aCons (wTup (aCons (wC (.int 0)) (aCons (wC (.int 1)) aNil))) aNil)))) aNil))))
    sNil)) sNil)
    (sCons (sRet (wTup (aCons (wVar 1) (aCons (wCall K1.W_law_number (aCons (wVar 0) aNil)) aNil))))
    sNil)))))
def W_law_right : WFn := wBody 1 5 (sCons (sFor (iR1 (aCons (wC (.int 6)) aNil)) (gN 1) (sCons (sAsg (wCall K1.W_law_pair (aCons (wVar 0) aNil)) (gT 2 (gNC (gN 2) (gNC (gN 3) gN0))))
    (sCons (sSet 4 (wLst (aCons (wCall K1.W_law_root_sign (aCons (wBin fIx (wVar 2) (wC (.int 0))) (aCons (wBin fIx (wVar 2) (wC (.int 1))) (aCons (wBin fIx (wVar 2) (wC (.int 2))) aNil)))) (aCons (wCall K1.W_law_order (aCons (wVar 2) (aCons (wVar 3) aNil))) (aCons (wBin fSub (wC (.int 0)) (wCall K1.W_law_order (aCons (wVar 2) (aCons (wVar 3) aNil)))) (aCons (wC (.int 0)) aNil))))))
    (sCons (sSet 5 (wLst (aCons (wCall K1.W_sign_of (aCons (wVar 2) aNil)) (aCons (wCall K1.W_compared (aCons (wVar 2) (aCons (wVar 3) aNil))) (aCons (wCallK 2 [1, 0] K1.W_compared (aCons (wVar 2) (aCons (wVar 3) aNil))) (aCons (wCall K1.W_compared (aCons (wVar 2) (aCons (wCall K1.W_law_twin (aCons (wVar 0) (aCons (wVar 2) aNil))) aNil))) aNil))))))
    (sCons (sIf (tOr' (tNot' (wTest (wCall K1.W_law_same (aCons (wVar 5) (aCons (wVar 4) aNil))))) (tNot' (wTest (wCall K1.W_law_same (aCons (wCallK 1 [0] K1.W_sign_of (aCons (wVar 2) aNil)) (aCons (wBin fIx (wVar 4) (wC (.int 0))) aNil)))))) (sCons (sRet (wC (.bl false)))
    sNil) sNil)
    sNil)))))
    (sCons (sRet (wC (.bl true)))
    sNil))
def W_law : WFn := wBody 1 1 (sCons (sRet (wB (bAll false) (aCons (wLc (iR1 (aCons (wB bMax (aCons (wC (.int 2)) (aCons (wB bMin (aCons (wB bLen (aCons (wVar 0) aNil)) (aCons (wC (.int 4)) aNil))) aNil))) aNil)) (gN 1) tYes' (wCall K1.W_law_right (aCons (wCall K1.W_law_jar (aCons (wVar 0) (aCons (wVar 1) aNil))) aNil)) [1]) aNil)))
    sNil)
end K1


set_option Elab.async false
set_option linter.all false
namespace K2
open PySem PySem.Spec PyProof.Rows L2 Zq
def W_law_jar : WFn := wBody 2 3 (sCons (sSet 2 (wBin fAdd (wC (.int 6113)) (wBin fMul (wC (.int 8111)) (wVar 1))))
    (sCons (sFor (iQ (wSlice (wVar 0) oNone (oSome (wC (.int 10))))) (gN 3) (sCons (sSet 2 (wBin fMod (wB bInt (aCons (wBin fAdd (wBin fAdd (wBin fMul (wVar 2) (wC (.int 52361))) (wBin fMul (wBin fMod (wB bInt (aCons (wVar 3) aNil)) (wC (.int 2147483399))) (wC (.int 11)))) (wC (.int 3))) aNil)) (wC (.int 2147483399))))
    sNil))
    (sCons (sSet 4 (wIf (wTest (wBin fLt (wVar 1) (wB bLen (aCons (wVar 0) aNil)))) (wB bInt (aCons (wBin fIx (wVar 0) (wVar 1)) aNil)) (wC (.int 0))))
    (sCons (sRet (wLst (aCons (wIf (tOr' (wTest (wBin fLt (wVar 4) (wC (.int 0)))) (wTest (wBin fGe (wVar 4) (wBin fPow (wC (.int 10)) (wC (.int 15)))))) (wB bAbs (aCons (wVar 4) aNil)) (wC (.int 0))) (aCons (wVar 2) (aCons (wC (.int 0)) aNil)))))
    sNil))))
def W_law_put_in : WFn := wBody 2 1 (sCons (sSet 2 (wC (.int 0)))
    (sCons (sWhile (tAnd' (wTest (wBin fLt (wVar 2) (wB bLen (aCons (wVar 0) aNil)))) (wTest (wBin fLe (wCall K1.W_compared (aCons (wBin fIx (wVar 0) (wVar 2)) (aCons (wVar 1) aNil))) (wC (.int 0))))) (sCons (sSet 2 (wBin fAdd (wVar 2) (wC (.int 1))))
    sNil))
    (sCons (sRet (wBin fAdd (wBin fAdd (wSlice (wVar 0) oNone (oSome (wVar 2))) (wLst (aCons (wVar 1) aNil))) (wSlice (wVar 0) (oSome (wVar 2)) oNone)))
    sNil)))
def W_law_numbers : WFn := wBody 1 2 (sCons (sSet 1 (wLst aNil))
    (sCons (sFor (iR1 (aCons (wC (.int 4)) aNil)) (gN 2) (sCons (sExpr (wApp (wVar 1) (wCall K1.W_law_number (aCons (wVar 0) aNil))))
    sNil))
    (sCons (sExpr (wApp (wVar 1) (wCall K1.W_law_twin (aCons (wVar 0) (aCons (wBin fIx (wVar 1) (wCall K1.W_law_dip (aCons (wVar 0) (aCons (wC (.int 4)) aNil)))) aNil)))))
    (sCons (sExpr (wApp (wVar 1) (wTup (aCons (wTup (aCons (wCall K1.W_law_floor (aCons (wBin fIx (wVar 1) (wC (.int 0))) (aCons (wC (.int 1)) aNil))) (aCons (wC (.int 1)) aNil))) (aCons (wTup (aCons (wC (.int 0)) (aCons (wC (.int 1)) aNil))) (aCons (wTup (aCons (wC (.int 0)) (aCons (wC (.int 1)) aNil))) aNil))))))
    (sCons (sRet (wBin fAdd (wVar 1) (wLst (aCons (wTup (aCons (wTup (aCons (wBin fAdd (wCall K1.W_law_floor (aCons (wBin fIx (wVar 1) (wC (.int 1))) (aCons (wC (.int 1)) aNil))) (wC (.int 1))) (aCons (wC (.int 1)) aNil))) (aCons (wTup (aCons (wC (.int 0)) (aCons (wC (.int 1)) aNil))) (aCons (wTup (aCons (wC (.int 0)) (aCons (wC (.int 1)) aNil))) aNil)))) aNil))))
    sNil)))))
def W_law_right : WFn := wBody 1 6 (sCons (sPar 1 2 (aCons (wLst aNil) (aCons (wCall K2.W_law_numbers (aCons (wVar 0) aNil)) aNil)))
    (sCons (sFor (iQ (wVar 2)) (gN 3) (sCons (sSet 1 (wCall K2.W_law_put_in (aCons (wVar 1) (aCons (wVar 3) aNil))))
    sNil))
    (sCons (sFor (iR1 (aCons (wB bLen (aCons (wVar 1) aNil)) aNil)) (gN 4) (sCons (sFor (iR1 (aCons (wB bLen (aCons (wVar 1) aNil)) aNil)) (gN 5) (sCons (sSet 6 (wCall K1.W_compared (aCons (wBin fIx (wVar 1) (wVar 4)) (aCons (wBin fIx (wVar 1) (wVar 5)) aNil))))
    (sCons (sIf (tOr' (tNot' (wTest (wCall K1.W_law_same (aCons (wVar 6) (aCons (wCall K1.W_law_order (aCons (wBin fIx (wVar 1) (wVar 4)) (aCons (wBin fIx (wVar 1) (wVar 5)) aNil))) aNil))))) (wTest (wBin (fEq true) (wCall K1.W_compared (aCons (wBin fIx (wVar 1) (wVar 5)) (aCons (wBin fIx (wVar 1) (wVar 4)) aNil))) (wBin fSub (wC (.int 0)) (wVar 6))))) (sCons (sRet (wC (.bl false)))
    sNil) sNil)
    (sCons (sIf (tOr' (tAnd' (wTest (wBin fLt (wVar 4) (wVar 5))) (wTest (wBin fGt (wVar 6) (wC (.int 0))))) (tAnd' (wTest (wBin (fEq false) (wVar 4) (wVar 5))) (wTest (wBin (fEq true) (wVar 6) (wC (.int 0)))))) (sCons (sRet (wC (.bl false)))
    sNil) sNil)
    sNil))))
    sNil))
    (sCons (sRet (wAnd (wBin fLe (wCall K1.W_compared (aCons (wBin fIx (wVar 2) (wC (.int 5))) (aCons (wBin fIx (wVar 2) (wC (.int 0))) aNil))) (wC (.int 0))) (wBin fGt (wCall K1.W_compared (aCons (wBin fIx (wVar 2) (wC (.int 6))) (aCons (wBin fIx (wVar 2) (wC (.int 1))) aNil))) (wC (.int 0)))))
    sNil))))
def W_law : WFn := wBody 1 1 (sCons (sRet (wB (bAll false) (aCons (wLc (iR1 (aCons (wB bMax (aCons (wC (.int 2)) (aCons (wB bMin (aCons (wB bLen (aCons (wVar 0) aNil)) (aCons (wC (.int 4)) aNil))) aNil))) aNil)) (gN 1) tYes' (wCall K2.W_law_right (aCons (wCall K2.W_law_jar (aCons (wVar 0) (aCons (wVar 1) aNil))) aNil)) [1]) aNil)))
    sNil)
end K2


set_option Elab.async false
set_option linter.all false
namespace K3
open PySem PySem.Spec PyProof.Rows L2 Zq
def W_reduced : WFn := wBody 2 1 (sCons (sSet 2 (wB bGcd (aCons (wVar 0) (aCons (wVar 1) aNil))))
    (sCons (sRet (wTup (aCons (wBin fDiv (wVar 0) (wVar 2)) (aCons (wBin fDiv (wVar 1) (wVar 2)) aNil))))
    sNil))
def W_added : WFn := wBody 2 0 (sCons (sRet (wCall K3.W_reduced (aCons (wBin fAdd (wBin fMul (wBin fIx (wVar 0) (wC (.int 0))) (wBin fIx (wVar 1) (wC (.int 1)))) (wBin fMul (wBin fIx (wVar 1) (wC (.int 0))) (wBin fIx (wVar 0) (wC (.int 1))))) (aCons (wBin fMul (wBin fIx (wVar 0) (wC (.int 1))) (wBin fIx (wVar 1) (wC (.int 1)))) aNil))))
    sNil)
def W_multiplied : WFn := wBody 2 0 (sCons (sRet (wCall K3.W_reduced (aCons (wBin fMul (wBin fIx (wVar 0) (wC (.int 0))) (wBin fIx (wVar 1) (wC (.int 0)))) (aCons (wBin fMul (wBin fIx (wVar 0) (wC (.int 1))) (wBin fIx (wVar 1) (wC (.int 1)))) aNil))))
    sNil)
def W_need_fraction : WFn := wBody 1 0 (sCons (sIf (tNot' (wTest (wCall K1.W_is_fraction (aCons (wVar 0) aNil)))) (sCons sNever
    sNil) sNil)
    sNil)
def W_plus : WFn := wBody 2 3 (sCons (sExpr (wCall K1.W_need_number (aCons (wVar 0) aNil)))
    (sCons (sExpr (wCall K3.W_need_fraction (aCons (wVar 1) aNil)))
    (sCons (sAsg (wVar 0) (gT 3 (gNC (gN 2) (gNC (gN 3) (gNC (gN 4) gN0)))))
    (sCons (sRet (wTup (aCons (wCall K3.W_added (aCons (wVar 2) (aCons (wVar 1) aNil))) (aCons (wVar 3) (aCons (wVar 4) aNil)))))
    sNil))))
def W_times : WFn := wBody 2 3 (sCons (sExpr (wCall K1.W_need_number (aCons (wVar 0) aNil)))
    (sCons (sExpr (wCall K3.W_need_fraction (aCons (wVar 1) aNil)))
    (sCons (sAsg (wVar 0) (gT 3 (gNC (gN 2) (gNC (gN 3) (gNC (gN 4) gN0)))))
    (sCons (sRet (wTup (aCons (wCall K3.W_multiplied (aCons (wVar 2) (aCons (wVar 1) aNil))) (aCons (wCall K3.W_multiplied (aCons (wVar 3) (aCons (wVar 1) aNil))) (aCons (wVar 4) aNil)))))
    sNil))))
def W_square_of : WFn := wBody 1 4 (sCons (sExpr (wCall K1.W_need_number (aCons (wVar 0) aNil)))
    (sCons (sAsg (wVar 0) (gT 3 (gNC (gN 1) (gNC (gN 2) (gNC (gN 3) gN0)))))
    (sCons (sSet 4 (wCall K3.W_multiplied (aCons (wCall K3.W_multiplied (aCons (wVar 2) (aCons (wVar 2) aNil))) (aCons (wVar 3) aNil))))
    (sCons (sRet (wTup (aCons (wCall K3.W_added (aCons (wCall K3.W_multiplied (aCons (wVar 1) (aCons (wVar 1) aNil))) (aCons (wVar 4) aNil))) (aCons (wCall K3.W_multiplied (aCons (wTup (aCons (wC (.int 2)) (aCons (wC (.int 1)) aNil))) (aCons (wCall K3.W_multiplied (aCons (wVar 1) (aCons (wVar 2) aNil))) aNil))) (aCons (wVar 3) aNil)))))
    sNil))))
def W_law_jar : WFn := wBody 2 3 (sCons (sSet 2 (wBin fAdd (wC (.int 6121)) (wBin fMul (wC (.int 8111)) (wVar 1))))
    (sCons (sFor (iQ (wSlice (wVar 0) oNone (oSome (wC (.int 10))))) (gN 3) (sCons (sSet 2 (wBin fMod (wB bInt (aCons (wBin fAdd (wBin fAdd (wBin fMul (wVar 2) (wC (.int 52361))) (wBin fMul (wBin fMod (wB bInt (aCons (wVar 3) aNil)) (wC (.int 2147483399))) (wC (.int 11)))) (wC (.int 3))) aNil)) (wC (.int 2147483399))))
    sNil))
    (sCons (sSet 4 (wIf (wTest (wBin fLt (wVar 1) (wB bLen (aCons (wVar 0) aNil)))) (wB bInt (aCons (wBin fIx (wVar 0) (wVar 1)) aNil)) (wC (.int 0))))
    (sCons (sRet (wLst (aCons (wIf (tOr' (wTest (wBin fLt (wVar 4) (wC (.int 0)))) (wTest (wBin fGe (wVar 4) (wBin fPow (wC (.int 10)) (wC (.int 15)))))) (wB bAbs (aCons (wVar 4) aNil)) (wC (.int 0))) (aCons (wVar 2) (aCons (wC (.int 0)) aNil)))))
    sNil))))
def W_law_is_frac : WFn := wBody 1 0 (sCons (sIf (tOr' (tNot' (wTest (wB bIsi (aCons (wVar 0) (aCons (wC (.ty "tuple")) aNil))))) (tOr' (wTest (wBin (fEq true) (wB bLen (aCons (wVar 0) aNil)) (wC (.int 2)))) (tOr' (tNot' (wTest (wCall K1.W_is_whole (aCons (wBin fIx (wVar 0) (wC (.int 0))) aNil)))) (tNot' (wTest (wCall K1.W_is_whole (aCons (wBin fIx (wVar 0) (wC (.int 1))) aNil))))))) (sCons (sRet (wC (.bl false)))
    sNil) sNil)
    (sCons (sRet (wAnd (wBin fGt (wBin fIx (wVar 0) (wC (.int 1))) (wC (.int 0))) (wBin (fEq false) (wCall K1.W_law_frac (aCons (wBin fIx (wVar 0) (wC (.int 0))) (aCons (wBin fIx (wVar 0) (wC (.int 1))) aNil))) (wVar 0))))
    sNil))
def W_law_are_fracs : WFn := wBody 2 1 (sCons (sRet (wAnd (wB bIsi (aCons (wVar 0) (aCons (wC (.ty "tuple")) aNil))) (wAnd (wBin (fEq false) (wB bLen (aCons (wVar 0) aNil)) (wVar 1)) (wB (bAll false) (aCons (wLc (iQ (wVar 0)) (gN 2) tYes' (wCall K3.W_law_is_frac (aCons (wVar 2) aNil)) [2]) aNil)))))
    sNil)
def W_law_is_number : WFn := wBody 1 0 (sCons (sRet (wAnd (wCall K3.W_law_are_fracs (aCons (wVar 0) (aCons (wC (.int 3)) aNil))) (wBin fGe (wBin fIx (wBin fIx (wVar 0) (wC (.int 2))) (wC (.int 0))) (wC (.int 0)))))
    sNil)
def W_law_pair_times : WFn := wBody 3 1 (sCons (sSet 3 (wCall K1.W_law_plus (aCons (wCall K1.W_law_by (aCons (wBin fIx (wVar 0) (wC (.int 0))) (aCons (wBin fIx (wVar 1) (wC (.int 0))) aNil))) (aCons (wCall K1.W_law_by (aCons (wCall K1.W_law_by (aCons (wBin fIx (wVar 0) (wC (.int 1))) (aCons (wBin fIx (wVar 1) (wC (.int 1))) aNil))) (aCons (wVar 2) aNil))) aNil))))
    (sCons (sRet (wTup (aCons (wVar 3) (aCons (wCall K1.W_law_plus (aCons (wCall K1.W_law_by (aCons (wBin fIx (wVar 0) (wC (.int 0))) (aCons (wBin fIx (wVar 1) (wC (.int 1))) aNil))) (aCons (wCall K1.W_law_by (aCons (wBin fIx (wVar 0) (wC (.int 1))) (aCons (wBin fIx (wVar 1) (wC (.int 0))) aNil))) aNil))) aNil))))
    sNil))
def W_law_is_it : WFn := wBody 2 0 (sCons (sRet (wAnd (wCall K3.W_law_is_number (aCons (wVar 0) aNil)) (wBin (fEq false) (wCall K1.W_law_order (aCons (wVar 0) (aCons (wVar 1) aNil))) (wC (.int 0)))))
    sNil)
def W_law_right : WFn := wBody 1 11 (sCons (sFor (iR1 (aCons (wC (.int 5)) aNil)) (gN 1) (sCons (sPar 2 3 (aCons (wCall K1.W_law_number (aCons (wVar 0) aNil)) (aCons (wCall K1.W_law_some (aCons (wVar 0) aNil)) aNil)))
    (sCons (sAsg (wVar 2) (gT 3 (gNC (gN 4) (gNC (gN 5) (gNC (gN 6) gN0)))))
    (sCons (sPar 7 8 (aCons (wCall K3.W_law_pair_times (aCons (wTup (aCons (wVar 4) (aCons (wVar 5) aNil))) (aCons (wTup (aCons (wVar 4) (aCons (wVar 5) aNil))) (aCons (wVar 6) aNil)))) (aCons (wCall K1.W_law_twin (aCons (wVar 0) (aCons (wVar 2) aNil))) aNil)))
    (sCons (sPar 9 10 (aCons (wTup (aCons (wCall K1.W_law_plus (aCons (wVar 4) (aCons (wVar 3) aNil))) (aCons (wVar 5) (aCons (wVar 6) aNil)))) (aCons (wTup (aCons (wCall K1.W_law_by (aCons (wVar 4) (aCons (wVar 3) aNil))) (aCons (wCall K1.W_law_by (aCons (wVar 5) (aCons (wVar 3) aNil))) (aCons (wVar 6) aNil)))) aNil)))
    (sCons (sFor (iQ (wTup (aCons (wVar 2) (aCons (wVar 8) aNil)))) (gN 11) (sCons (sIf (tNot' (wTest (wCall K3.W_law_is_it (aCons (wCall K3.W_plus (aCons (wVar 11) (aCons (wVar 3) aNil))) (aCons (wVar 9) aNil))))) (sCons (sRet (wC (.bl false)))
    sNil) sNil)
    (sCons (sIf (tNot' (wTest (wCall K3.W_law_is_it (aCons (wCallK 2 [1, 0] K3.W_plus (aCons (wVar 3) (aCons (wVar 11) aNil))) (aCons (wVar 9) aNil))))) (sCons (sRet (wC (.bl false)))
    sNil) sNil)
    (sCons (sIf (tOr' (tNot' (wTest (wCall K3.W_law_is_it (aCons (wCall K3.W_times (aCons (wVar 11) (aCons (wVar 3) aNil))) (aCons (wVar 10) aNil))))) (tNot' (wTest (wCall K3.W_law_is_it (aCons (wCall K3.W_square_of (aCons (wVar 11) aNil)) (aCons (wBin fAdd (wVar 7) (wTup (aCons (wVar 6) aNil))) aNil)))))) (sCons (sRet (wC (.bl false)))
    sNil) sNil)
    sNil))))
    (sCons (sIf (tNot' (wTest (wCall K3.W_law_is_it (aCons (wCallK 2 [1, 0] K3.W_times (aCons (wVar 3) (aCons (wVar 8) aNil))) (aCons (wVar 10) aNil))))) (sCons (sRet (wC (.bl false)))
    sNil) sNil)
    (sCons (sIf (tNot' (wTest (wCall K3.W_law_is_it (aCons (wCallK 1 [0] K3.W_square_of (aCons (wVar 8) aNil)) (aCons (wBin fAdd (wVar 7) (wTup (aCons (wVar 6) aNil))) aNil))))) (sCons (sRet (wC (.bl false)))
    sNil) sNil)
    sNil))))))))
    (sCons (sRet (wC (.bl true)))
    sNil))
def W_law : WFn := wBody 1 1 (sCons (sRet (wB (bAll false) (aCons (wLc (iR1 (aCons (wB bMax (aCons (wC (.int 2)) (aCons (wB bMin (aCons (wB bLen (aCons (wVar 0) aNil)) (aCons (wC (.int 4)) aNil))) aNil))) aNil)) (gN 1) tYes' (wCall K3.W_law_right (aCons (wCall K3.W_law_jar (aCons (wVar 0) (aCons (wVar 1) aNil))) aNil)) [1]) aNil)))
    sNil)
end K3


set_option Elab.async false
set_option linter.all false
namespace K4
open PySem PySem.Spec PyProof.Rows L2 Zq
def W_need_many : WFn := wBody 1 0 (sCons (sIf (tOr' (tNot' (wTest (wCall K1.W_is_whole (aCons (wVar 0) aNil)))) (wTest (wBin fLt (wVar 0) (wC (.int 1))))) (sCons sNever
    sNil) sNil)
    sNil)
def W_need_places : WFn := wBody 1 0 (sCons (sIf (tOr' (tNot' (wTest (wCall K1.W_is_whole (aCons (wVar 0) aNil)))) (tOr' (wTest (wBin fLt (wVar 0) (wC (.int 0)))) (wTest (wBin fGt (wVar 0) (wC (.int 40)))))) (sCons sNever
    sNil) sNil)
    sNil)
def W_ten_to : WFn := wBody 1 2 (sCons (sSet 1 (wC (.int 1)))
    (sCons (sFor (iR1 (aCons (wVar 0) aNil)) (gN 2) (sCons (sAug 1 fMul (wC (.int 10)))
    sNil))
    (sCons (sRet (wVar 1))
    sNil)))
def W_with_point : WFn := wBody 2 1 (sCons (sSet 2 (wZf (wB bStr (aCons (wB bAbs (aCons (wVar 0) aNil)) aNil)) (wBin fAdd (wVar 1) (wC (.int 1)))))
    (sCons (sIf (wTest (wBin fGt (wVar 1) (wC (.int 0)))) (sCons (sSet 2 (wBin fAdd (wBin fAdd (wSlice (wVar 2) oNone (oSome (wNeg (wVar 1)))) (wC (.str "."))) (wSlice (wVar 2) (oSome (wNeg (wVar 1))) oNone)))
    sNil) sNil)
    (sCons (sRet (wIf (wTest (wBin fLt (wVar 0) (wC (.int 0)))) (wBin fAdd (wC (.str "-")) (wVar 2)) (wVar 2)))
    sNil)))
def W_floor_with_root : WFn := wBody 4 2 (sCons (sSet 4 (wBin fMul (wBin fMul (wVar 1) (wVar 1)) (wVar 2)))
    (sCons (sSet 5 (wB bIsqrt (aCons (wVar 4) aNil)))
    (sCons (sIf (wTest (wBin fLt (wVar 1) (wC (.int 0)))) (sCons (sSet 5 (wIf (wTest (wBin (fEq false) (wBin fMul (wVar 5) (wVar 5)) (wVar 4))) (wNeg (wVar 5)) (wBin fSub (wNeg (wVar 5)) (wC (.int 1)))))
    sNil) sNil)
    (sCons (sRet (wBin fDiv (wBin fAdd (wVar 0) (wVar 5)) (wVar 3)))
    sNil))))
def W_floor_of : WFn := wBody 2 4 (sCons (sAsg (wCall K1.W_in_wholes (aCons (wVar 0) aNil)) (gT 4 (gNC (gN 2) (gNC (gN 3) (gNC (gN 4) (gNC (gN 5) gN0))))))
    (sCons (sRet (wCall K4.W_floor_with_root (aCons (wBin fMul (wVar 2) (wVar 1)) (aCons (wBin fMul (wVar 3) (wVar 1)) (aCons (wVar 4) (aCons (wVar 5) aNil))))))
    sNil))
def W_floor_at : WFn := wBody 2 0 (sCons (sExpr (wCall K1.W_need_number (aCons (wVar 0) aNil)))
    (sCons (sExpr (wCall K4.W_need_many (aCons (wVar 1) aNil)))
    (sCons (sRet (wCall K4.W_floor_of (aCons (wVar 0) (aCons (wVar 1) aNil))))
    sNil)))
def W_figures : WFn := wBody 2 0 (sCons (sExpr (wCall K1.W_need_number (aCons (wVar 0) aNil)))
    (sCons (sExpr (wCall K4.W_need_places (aCons (wVar 1) aNil)))
    (sCons (sRet (wCall K4.W_with_point (aCons (wCall K4.W_floor_of (aCons (wVar 0) (aCons (wCall K4.W_ten_to (aCons (wVar 1) aNil)) aNil))) (aCons (wVar 1) aNil))))
    sNil)))
def W_law_jar : WFn := wBody 2 3 (sCons (sSet 2 (wBin fAdd (wC (.int 6131)) (wBin fMul (wC (.int 8111)) (wVar 1))))
    (sCons (sFor (iQ (wSlice (wVar 0) oNone (oSome (wC (.int 10))))) (gN 3) (sCons (sSet 2 (wBin fMod (wB bInt (aCons (wBin fAdd (wBin fAdd (wBin fMul (wVar 2) (wC (.int 52361))) (wBin fMul (wBin fMod (wB bInt (aCons (wVar 3) aNil)) (wC (.int 2147483399))) (wC (.int 11)))) (wC (.int 3))) aNil)) (wC (.int 2147483399))))
    sNil))
    (sCons (sSet 4 (wIf (wTest (wBin fLt (wVar 1) (wB bLen (aCons (wVar 0) aNil)))) (wB bInt (aCons (wBin fIx (wVar 0) (wVar 1)) aNil)) (wC (.int 0))))
    (sCons (sRet (wLst (aCons (wIf (tOr' (wTest (wBin fLt (wVar 4) (wC (.int 0)))) (wTest (wBin fGe (wVar 4) (wBin fPow (wC (.int 10)) (wC (.int 15)))))) (wB bAbs (aCons (wVar 4) aNil)) (wC (.int 0))) (aCons (wVar 2) (aCons (wC (.int 0)) aNil)))))
    sNil))))
def W_law_figures : WFn := wBody 2 1 (sCons (sSet 2 (wB bStr (aCons (wB bAbs (aCons (wVar 0) aNil)) aNil)))
    (sCons (sIf (wTest (wBin fGt (wVar 1) (wC (.int 0)))) (sCons (sSet 2 (wBin fAdd (wBin fMulS (wC (.str "0")) (wBin fSub (wBin fAdd (wVar 1) (wC (.int 1))) (wB bLen (aCons (wVar 2) aNil)))) (wVar 2)))
    (sCons (sSet 2 (wBin fAdd (wBin fAdd (wSlice (wVar 2) oNone (oSome (wBin fSub (wB bLen (aCons (wVar 2) aNil)) (wVar 1)))) (wC (.str "."))) (wSlice (wVar 2) (oSome (wBin fSub (wB bLen (aCons (wVar 2) aNil)) (wVar 1))) oNone)))
    sNil)) sNil)
    (sCons (sRet (wBin fAdd (wIf (wTest (wBin fLt (wVar 0) (wC (.int 0)))) (wC (.str "-")) (wC (.str ""))) (wVar 2)))
    sNil)))
def W_law_ten : WFn := wBody 1 2 (sCons (sSet 1 (wC (.int 1)))
    (sCons (sFor (iR1 (aCons (wVar 0) aNil)) (gN 2) (sCons (sSet 1 (wBin fMul (wC (.int 10)) (wVar 1)))
    sNil))
    (sCons (sRet (wVar 1))
    sNil)))
def W_law_right : WFn := wBody 1 6 (sCons (sFor (iR1 (aCons (wC (.int 5)) aNil)) (gN 1) (sCons (sSet 2 (wIf (wTest (wBin fGt (wCall K1.W_law_dip (aCons (wVar 0) (aCons (wC (.int 4)) aNil))) (wC (.int 0)))) (wCall K1.W_law_number (aCons (wVar 0) aNil)) (wTup (aCons (wCall K1.W_law_some (aCons (wVar 0) aNil)) (aCons (wTup (aCons (wC (.int 0)) (aCons (wC (.int 1)) aNil))) (aCons (wCall K1.W_law_rootable (aCons (wVar 0) aNil)) aNil))))))
    (sCons (sSet 3 (wCall K1.W_law_one_of (aCons (wVar 0) (aCons (wLst (aCons (wC (.int 1)) (aCons (wC (.int 1)) (aCons (wC (.int 2)) (aCons (wC (.int 3)) (aCons (wC (.int 7)) (aCons (wC (.int 10)) (aCons (wC (.int 1000)) (aCons (wBin fPow (wC (.int 10)) (wC (.int 12))) (aCons (wBin fAdd (wC (.int 1)) (wCall K1.W_law_dip (aCons (wVar 0) (aCons (wBin fPow (wC (.int 10)) (wC (.int 6))) aNil)))) (aCons (wBin fPow (wC (.int 10)) (wC (.int 60))) aNil))))))))))) aNil))))
    (sCons (sSet 4 (wCall K1.W_law_one_of (aCons (wVar 0) (aCons (wLst (aCons (wC (.int 0)) (aCons (wC (.int 0)) (aCons (wC (.int 1)) (aCons (wC (.int 2)) (aCons (wC (.int 3)) (aCons (wC (.int 6)) (aCons (wC (.int 17)) (aCons (wC (.int 40)) aNil))))))))) aNil))))
    (sCons (sSet 5 (wCall K1.W_law_floor (aCons (wVar 2) (aCons (wVar 3) aNil))))
    (sCons (sIf (tNot' (wTest (wCall K1.W_law_same (aCons (wLst (aCons (wCall K4.W_floor_at (aCons (wVar 2) (aCons (wVar 3) aNil))) (aCons (wCallK 2 [1, 0] K4.W_floor_at (aCons (wVar 3) (aCons (wCall K1.W_law_twin (aCons (wVar 0) (aCons (wVar 2) aNil))) aNil))) aNil))) (aCons (wLst (aCons (wVar 5) (aCons (wVar 5) aNil))) aNil))))) (sCons (sRet (wC (.bl false)))
    sNil) sNil)
    (sCons (sSet 6 (wCall K4.W_law_figures (aCons (wCall K1.W_law_floor (aCons (wVar 2) (aCons (wCall K4.W_law_ten (aCons (wVar 4) aNil)) aNil))) (aCons (wVar 4) aNil))))
    (sCons (sIf (tNot' (wTest (wCall K1.W_law_same (aCons (wLst (aCons (wCall K4.W_figures (aCons (wVar 2) (aCons (wVar 4) aNil))) (aCons (wCallK 2 [1, 0] K4.W_figures (aCons (wVar 4) (aCons (wVar 2) aNil))) aNil))) (aCons (wLst (aCons (wVar 6) (aCons (wVar 6) aNil))) aNil))))) (sCons (sRet (wC (.bl false)))
    sNil) sNil)
    sNil))))))))
    (sCons (sRet (wC (.bl true)))
    sNil))
def W_law : WFn := wBody 1 1 (sCons (sRet (wB (bAll false) (aCons (wLc (iR1 (aCons (wB bMax (aCons (wC (.int 2)) (aCons (wB bMin (aCons (wB bLen (aCons (wVar 0) aNil)) (aCons (wC (.int 4)) aNil))) aNil))) aNil)) (gN 1) tYes' (wCall K4.W_law_right (aCons (wCall K4.W_law_jar (aCons (wVar 0) (aCons (wVar 1) aNil))) aNil)) [1]) aNil)))
    sNil)
end K4


set_option Elab.async false
set_option linter.all false
namespace K5
open PySem PySem.Spec PyProof.Rows L2 Zq
def W_root_of : WFn := wBody 1 2 (sCons (sPar 1 2 (aCons (wB bIsqrt (aCons (wBin fIx (wVar 0) (wC (.int 0))) aNil)) (aCons (wB bIsqrt (aCons (wBin fIx (wVar 0) (wC (.int 1))) aNil)) aNil)))
    (sCons (sIf (tAnd' (wTest (wBin (fEq false) (wBin fMul (wVar 1) (wVar 1)) (wBin fIx (wVar 0) (wC (.int 0))))) (wTest (wBin (fEq false) (wBin fMul (wVar 2) (wVar 2)) (wBin fIx (wVar 0) (wC (.int 1)))))) (sCons (sRet (wTup (aCons (wVar 1) (aCons (wVar 2) aNil))))
    sNil) sNil)
    (sCons (sRet (wC .non))
    sNil)))
def W_plain_of : WFn := wBody 1 4 (sCons (sExpr (wCall K1.W_need_number (aCons (wVar 0) aNil)))
    (sCons (sAsg (wVar 0) (gT 3 (gNC (gN 1) (gNC (gN 2) (gNC (gN 3) gN0)))))
    (sCons (sIf (wTest (wBin (fEq false) (wVar 2) (wC (.tup [(.int 0), (.int 1)])))) (sCons (sRet (wTup (aCons (wVar 1) (aCons (wC (.tup [(.int 0), (.int 1)])) (aCons (wC (.tup [(.int 0), (.int 1)])) aNil)))))
    sNil) sNil)
    (sCons (sSet 4 (wCall K5.W_root_of (aCons (wVar 3) aNil)))
    (sCons (sIf (wTest (wIsN false (wVar 4))) (sCons (sRet (wVar 0))
    sNil) sNil)
    (sCons (sRet (wTup (aCons (wCall K3.W_added (aCons (wVar 1) (aCons (wCall K3.W_multiplied (aCons (wVar 2) (aCons (wVar 4) aNil))) aNil))) (aCons (wC (.tup [(.int 0), (.int 1)])) (aCons (wC (.tup [(.int 0), (.int 1)])) aNil)))))
    sNil))))))
def W_law_jar : WFn := wBody 2 3 (sCons (sSet 2 (wBin fAdd (wC (.int 6133)) (wBin fMul (wC (.int 8111)) (wVar 1))))
    (sCons (sFor (iQ (wSlice (wVar 0) oNone (oSome (wC (.int 10))))) (gN 3) (sCons (sSet 2 (wBin fMod (wB bInt (aCons (wBin fAdd (wBin fAdd (wBin fMul (wVar 2) (wC (.int 52361))) (wBin fMul (wBin fMod (wB bInt (aCons (wVar 3) aNil)) (wC (.int 2147483399))) (wC (.int 11)))) (wC (.int 3))) aNil)) (wC (.int 2147483399))))
    sNil))
    (sCons (sSet 4 (wIf (wTest (wBin fLt (wVar 1) (wB bLen (aCons (wVar 0) aNil)))) (wB bInt (aCons (wBin fIx (wVar 0) (wVar 1)) aNil)) (wC (.int 0))))
    (sCons (sRet (wLst (aCons (wIf (tOr' (wTest (wBin fLt (wVar 4) (wC (.int 0)))) (wTest (wBin fGe (wVar 4) (wBin fPow (wC (.int 10)) (wC (.int 15)))))) (wB bAbs (aCons (wVar 4) aNil)) (wC (.int 0))) (aCons (wVar 2) (aCons (wC (.int 0)) aNil)))))
    sNil))))
def W_law_is_square : WFn := wBody 1 2 (sCons (sPar 1 2 (aCons (wCall K1.W_law_floor_root (aCons (wB bAbs (aCons (wBin fIx (wVar 0) (wC (.int 0))) aNil)) aNil)) (aCons (wCall K1.W_law_floor_root (aCons (wBin fIx (wVar 0) (wC (.int 1))) aNil)) aNil)))
    (sCons (sRet (wAnd (wBin fGe (wBin fIx (wVar 0) (wC (.int 0))) (wC (.int 0))) (wAnd (wBin (fEq false) (wBin fMul (wVar 1) (wVar 1)) (wBin fIx (wVar 0) (wC (.int 0)))) (wBin (fEq false) (wBin fMul (wVar 2) (wVar 2)) (wBin fIx (wVar 0) (wC (.int 1)))))))
    sNil))
def W_law_is_plain : WFn := wBody 1 0 (sCons (sIf (tOr' (wTest (wBin (fEq false) (wBin fIx (wBin fIx (wVar 0) (wC (.int 1))) (wC (.int 0))) (wC (.int 0)))) (wTest (wBin (fEq false) (wBin fIx (wBin fIx (wVar 0) (wC (.int 2))) (wC (.int 0))) (wC (.int 0))))) (sCons (sRet (wAnd (wBin (fEq false) (wBin fIx (wBin fIx (wVar 0) (wC (.int 1))) (wC (.int 0))) (wC (.int 0))) (wBin (fEq false) (wBin fIx (wBin fIx (wVar 0) (wC (.int 2))) (wC (.int 0))) (wC (.int 0)))))
    sNil) sNil)
    (sCons (sRet (wNot (wCall K5.W_law_is_square (aCons (wBin fIx (wVar 0) (wC (.int 2))) aNil))))
    sNil))
def W_law_fraction_in : WFn := wBody 1 4 (sCons (sAsg (wVar 0) (gT 3 (gNC (gN 1) (gNC (gN 2) (gNC (gN 3) gN0)))))
    (sCons (sIf (tOr' (wTest (wBin (fEq false) (wBin fIx (wVar 2) (wC (.int 0))) (wC (.int 0)))) (wTest (wBin (fEq false) (wBin fIx (wVar 3) (wC (.int 0))) (wC (.int 0))))) (sCons (sRet (wLst (aCons (wVar 1) aNil)))
    sNil) sNil)
    (sCons (sIf (tNot' (wTest (wCall K5.W_law_is_square (aCons (wVar 3) aNil)))) (sCons (sRet (wLst aNil))
    sNil) sNil)
    (sCons (sSet 4 (wTup (aCons (wCall K1.W_law_floor_root (aCons (wBin fIx (wVar 3) (wC (.int 0))) aNil)) (aCons (wCall K1.W_law_floor_root (aCons (wBin fIx (wVar 3) (wC (.int 1))) aNil)) aNil))))
    (sCons (sRet (wLst (aCons (wCall K1.W_law_plus (aCons (wVar 1) (aCons (wCall K1.W_law_by (aCons (wVar 2) (aCons (wVar 4) aNil))) aNil))) aNil)))
    sNil)))))
def W_law_right : WFn := wBody 1 6 (sCons (sFor (iR1 (aCons (wC (.int 6)) aNil)) (gN 1) (sCons (sSet 2 (wCall K1.W_law_number (aCons (wVar 0) aNil)))
    (sCons (sSet 3 (wCall K5.W_law_fraction_in (aCons (wVar 2) aNil)))
    (sCons (sFor (iQ (wTup (aCons (wVar 2) (aCons (wCall K1.W_law_twin (aCons (wVar 0) (aCons (wVar 2) aNil))) aNil)))) (gN 4) (sCons (sSet 5 (wCall K5.W_plain_of (aCons (wVar 4) aNil)))
    (sCons (sIf (tOr' (tNot' (wTest (wCall K3.W_law_is_number (aCons (wVar 5) aNil)))) (tOr' (tNot' (wTest (wCall K5.W_law_is_plain (aCons (wVar 5) aNil)))) (wTest (wBin (fEq true) (wCall K1.W_law_order (aCons (wVar 5) (aCons (wVar 2) aNil))) (wC (.int 0)))))) (sCons (sRet (wC (.bl false)))
    sNil) sNil)
    (sCons (sIf (tNot' (wTest (wCall K1.W_law_same (aCons (wCallK 1 [0] K5.W_plain_of (aCons (wVar 4) aNil)) (aCons (wVar 5) aNil))))) (sCons (sRet (wC (.bl false)))
    sNil) sNil)
    (sCons (sIf (tAnd' (wTest (wBin (fEq true) (wVar 3) (wLst aNil))) (tNot' (wTest (wCall K1.W_law_same (aCons (wVar 5) (aCons (wTup (aCons (wBin fIx (wVar 3) (wC (.int 0))) (aCons (wTup (aCons (wC (.int 0)) (aCons (wC (.int 1)) aNil))) (aCons (wTup (aCons (wC (.int 0)) (aCons (wC (.int 1)) aNil))) aNil)))) aNil)))))) (sCons (sRet (wC (.bl false)))
    sNil) sNil)
    (sCons (sIf (tAnd' (wTest (wBin (fEq false) (wVar 3) (wLst aNil))) (tOr' (wTest (wBin (fEq true) (wBin fIx (wVar 5) (wC (.int 0))) (wBin fIx (wVar 2) (wC (.int 0))))) (wTest (wBin (fEq true) (wCall K1.W_law_sgn (aCons (wBin fIx (wVar 5) (wC (.int 1))) aNil)) (wCall K1.W_law_sgn (aCons (wBin fIx (wVar 2) (wC (.int 1))) aNil)))))) (sCons (sRet (wC (.bl false)))
    sNil) sNil)
    (sCons (sSet 6 (wCall K1.W_law_by (aCons (wCall K1.W_law_by (aCons (wBin fIx (wVar 2) (wC (.int 1))) (aCons (wBin fIx (wVar 2) (wC (.int 1))) aNil))) (aCons (wBin fIx (wVar 2) (wC (.int 2))) aNil))))
    (sCons (sIf (tAnd' (wTest (wBin (fEq false) (wVar 3) (wLst aNil))) (wTest (wBin (fEq true) (wCall K1.W_law_by (aCons (wCall K1.W_law_by (aCons (wBin fIx (wVar 5) (wC (.int 1))) (aCons (wBin fIx (wVar 5) (wC (.int 1))) aNil))) (aCons (wBin fIx (wVar 5) (wC (.int 2))) aNil))) (wVar 6)))) (sCons (sRet (wC (.bl false)))
    sNil) sNil)
    sNil))))))))
    sNil))))
    (sCons (sRet (wC (.bl true)))
    sNil))
def W_law : WFn := wBody 1 1 (sCons (sRet (wB (bAll false) (aCons (wLc (iR1 (aCons (wB bMax (aCons (wC (.int 2)) (aCons (wB bMin (aCons (wB bLen (aCons (wVar 0) aNil)) (aCons (wC (.int 4)) aNil))) aNil))) aNil)) (gN 1) tYes' (wCall K5.W_law_right (aCons (wCall K5.W_law_jar (aCons (wVar 0) (aCons (wVar 1) aNil))) aNil)) [1]) aNil)))
    sNil)
end K5


set_option Elab.async false
set_option linter.all false
namespace K6
open PySem PySem.Spec PyProof.Rows L2 Zq
def W_on_one_bottom : WFn := wBody 1 4 (sCons (sSet 1 (wC (.int 1)))
    (sCons (sFor (iQ (wVar 0)) (gN 2) (sCons (sSet 1 (wB bLcm (aCons (wVar 1) (aCons (wBin fIx (wVar 2) (wC (.int 1))) aNil))))
    sNil))
    (sCons (sRet (wTup (aCons (wLc (iQ (wVar 0)) (gT 2 (gNC (gN 3) (gNC (gN 4) gN0))) tYes' (wBin fMul (wVar 3) (wBin fDiv (wVar 1) (wVar 4))) [3, 4]) (aCons (wVar 1) aNil))))
    sNil)))
def W_spot_of : WFn := wBody 1 0 (sCons (sRet (wCall K1.W_with_one_root (aCons (wSlice (wVar 0) oNone (oSome (wC (.int 3)))) (aCons (wBin fIx (wVar 0) (wC (.int 3))) aNil))))
    sNil)
def W_sign_heard_at : WFn := wBody 3 15 (sCons (sAsg (wVar 0) (gTL 3 (gNC (gN 3) (gNC (gN 4) (gNC (gN 5) gN0)))))
    (sCons (sAsg (wVar 1) (gTL 3 (gNC (gN 6) (gNC (gN 7) (gNC (gN 8) gN0)))))
    (sCons (sAsg (wLc (iQ (wVar 3)) (gT 2 (gNC (gN 15) (gNC (gN 16) gN0))) tYes' (wTup (aCons (wBin fMul (wVar 15) (wVar 2)) (aCons (wBin fMul (wVar 16) (wVar 2)) aNil))) [15, 16]) (gTL 3 (gNC (gTL 2 (gNC (gN 9) (gNC (gN 10) gN0))) (gNC (gTL 2 (gNC (gN 11) (gNC (gN 12) gN0))) (gNC (gTL 2 (gNC (gN 13) (gNC (gN 14) gN0))) gN0)))))
    (sCons (sPar3 9 11 13 (aCons (wBin fSub (wVar 9) (wBin fMul (wVar 6) (wVar 5))) (aCons (wBin fSub (wVar 11) (wBin fMul (wVar 7) (wVar 5))) (aCons (wBin fSub (wVar 13) (wBin fMul (wVar 8) (wVar 5))) aNil))))
    (sCons (sIf (wTest (wBin fGt (wCall K1.W_sign_with_root (aCons (wVar 13) (aCons (wVar 14) (aCons (wVar 4) aNil)))) (wC (.int 0)))) (sCons (sRet (wC (.int 1)))
    sNil) sNil)
    (sCons (sSet 17 (wBin fAdd (wBin fSub (wBin fAdd (wBin fMul (wVar 9) (wVar 9)) (wBin fMul (wVar 11) (wVar 11))) (wBin fMul (wVar 13) (wVar 13))) (wBin fMul (wBin fSub (wBin fAdd (wBin fMul (wVar 10) (wVar 10)) (wBin fMul (wVar 12) (wVar 12))) (wBin fMul (wVar 14) (wVar 14))) (wVar 4))))
    (sCons (sRet (wCall K1.W_sign_with_root (aCons (wVar 17) (aCons (wBin fMul (wC (.int 2)) (wBin fSub (wBin fAdd (wBin fMul (wVar 9) (wVar 10)) (wBin fMul (wVar 11) (wVar 12))) (wBin fMul (wVar 13) (wVar 14)))) (aCons (wVar 4) aNil)))))
    sNil)))))))
def W_sign_heard : WFn := wBody 3 2 (sCons (sAsg (wCall K6.W_on_one_bottom (aCons (wLst (aStar (wVar 1) (aCons (wVar 2) aNil))) aNil)) (gTL 2 (gNC (gN 3) (gNC (gN 4) gN0))))
    (sCons (sRet (wCall K6.W_sign_heard_at (aCons (wCall K6.W_spot_of (aCons (wVar 0) aNil)) (aCons (wVar 3) (aCons (wVar 4) aNil)))))
    sNil))
def W_is_pair : WFn := wBody 1 0 (sCons (sIf (tNot' (wTest (wCall K1.W_is_tuple_of (aCons (wVar 0) (aCons (wC (.int 2)) (aCons (wC (.int 2)) aNil)))))) (sCons (sRet (wC (.bl false)))
    sNil) sNil)
    (sCons (sRet (wAnd (wCall K1.W_is_fraction (aCons (wBin fIx (wVar 0) (wC (.int 0))) aNil)) (wCall K1.W_is_fraction (aCons (wBin fIx (wVar 0) (wC (.int 1))) aNil))))
    sNil))
def W_is_point : WFn := wBody 1 1 (sCons (sIf (tNot' (wTest (wCall K1.W_is_tuple_of (aCons (wVar 0) (aCons (wC (.int 4)) (aCons (wC (.int 4)) aNil)))))) (sCons (sRet (wC (.bl false)))
    sNil) sNil)
    (sCons (sIf (tNot' (wTest (wB (bAll false) (aCons (wLc (iQ (wSlice (wVar 0) oNone (oSome (wC (.int 3))))) (gN 1) tYes' (wCall K6.W_is_pair (aCons (wVar 1) aNil)) [1]) aNil)))) (sCons (sRet (wC (.bl false)))
    sNil) sNil)
    (sCons (sRet (wAnd (wCall K1.W_is_fraction (aCons (wBin fIx (wVar 0) (wC (.int 3))) aNil)) (wBin fGe (wBin fIx (wBin fIx (wVar 0) (wC (.int 3))) (wC (.int 0))) (wC (.int 0)))))
    sNil)))
def W_need_point : WFn := wBody 1 0 (sCons (sIf (tNot' (wTest (wCall K6.W_is_point (aCons (wVar 0) aNil)))) (sCons sNever
    sNil) sNil)
    sNil)
def W_heard_sign : WFn := wBody 4 0 (sCons (sExpr (wCall K6.W_need_point (aCons (wVar 0) aNil)))
    (sCons (sExpr (wCall K3.W_need_fraction (aCons (wVar 1) aNil)))
    (sCons (sExpr (wCall K3.W_need_fraction (aCons (wVar 2) aNil)))
    (sCons (sExpr (wCall K3.W_need_fraction (aCons (wVar 3) aNil)))
    (sCons (sRet (wCall K6.W_sign_heard (aCons (wVar 0) (aCons (wTup (aCons (wVar 1) (aCons (wVar 2) aNil))) (aCons (wVar 3) aNil)))))
    sNil)))))
def W_law_jar : WFn := wBody 2 3 (sCons (sSet 2 (wBin fAdd (wC (.int 6143)) (wBin fMul (wC (.int 8111)) (wVar 1))))
    (sCons (sFor (iQ (wSlice (wVar 0) oNone (oSome (wC (.int 10))))) (gN 3) (sCons (sSet 2 (wBin fMod (wB bInt (aCons (wBin fAdd (wBin fAdd (wBin fMul (wVar 2) (wC (.int 52361))) (wBin fMul (wBin fMod (wB bInt (aCons (wVar 3) aNil)) (wC (.int 2147483399))) (wC (.int 11)))) (wC (.int 3))) aNil)) (wC (.int 2147483399))))
    sNil))
    (sCons (sSet 4 (wIf (wTest (wBin fLt (wVar 1) (wB bLen (aCons (wVar 0) aNil)))) (wB bInt (aCons (wBin fIx (wVar 0) (wVar 1)) aNil)) (wC (.int 0))))
    (sCons (sRet (wLst (aCons (wIf (tOr' (wTest (wBin fLt (wVar 4) (wC (.int 0)))) (wTest (wBin fGe (wVar 4) (wBin fPow (wC (.int 10)) (wC (.int 15)))))) (wB bAbs (aCons (wVar 4) aNil)) (wC (.int 0))) (aCons (wVar 2) (aCons (wC (.int 0)) aNil)))))
    sNil))))
def W_law_heard : WFn := wBody 4 11 (sCons (sAsg (wVar 0) (gT 4 (gNC (gN 4) (gNC (gN 5) (gNC (gN 6) (gNC (gN 7) gN0))))))
    (sCons (sSet 8 (wTup (aCons (wCall K1.W_law_less (aCons (wBin fIx (wVar 6) (wC (.int 0))) (aCons (wVar 3) aNil))) (aCons (wBin fIx (wVar 6) (wC (.int 1))) aNil))))
    (sCons (sIf (wTest (wBin fGt (wCall K1.W_law_root_sign (aCons (wBin fIx (wVar 8) (wC (.int 0))) (aCons (wBin fIx (wVar 8) (wC (.int 1))) (aCons (wVar 7) aNil)))) (wC (.int 0)))) (sCons (sRet (wC (.int 1)))
    sNil) sNil)
    (sCons (sPar 9 10 (aCons (wTup (aCons (wCall K1.W_law_less (aCons (wBin fIx (wVar 4) (wC (.int 0))) (aCons (wVar 1) aNil))) (aCons (wBin fIx (wVar 4) (wC (.int 1))) aNil))) (aCons (wTup (aCons (wCall K1.W_law_less (aCons (wBin fIx (wVar 5) (wC (.int 0))) (aCons (wVar 2) aNil))) (aCons (wBin fIx (wVar 5) (wC (.int 1))) aNil))) aNil)))
    (sCons (sPar3 11 12 13 (aCons (wCall K3.W_law_pair_times (aCons (wVar 9) (aCons (wVar 9) (aCons (wVar 7) aNil)))) (aCons (wCall K3.W_law_pair_times (aCons (wVar 10) (aCons (wVar 10) (aCons (wVar 7) aNil)))) (aCons (wCall K3.W_law_pair_times (aCons (wVar 8) (aCons (wVar 8) (aCons (wVar 7) aNil)))) aNil))))
    (sCons (sSet 14 (wCall K1.W_law_less (aCons (wCall K1.W_law_plus (aCons (wBin fIx (wVar 11) (wC (.int 0))) (aCons (wBin fIx (wVar 12) (wC (.int 0))) aNil))) (aCons (wBin fIx (wVar 13) (wC (.int 0))) aNil))))
    (sCons (sRet (wCall K1.W_law_root_sign (aCons (wVar 14) (aCons (wCall K1.W_law_less (aCons (wCall K1.W_law_plus (aCons (wBin fIx (wVar 11) (wC (.int 1))) (aCons (wBin fIx (wVar 12) (wC (.int 1))) aNil))) (aCons (wBin fIx (wVar 13) (wC (.int 1))) aNil))) (aCons (wVar 7) aNil)))))
    sNil)))))))
def W_law_point : WFn := wBody 1 3 (sCons (sSet 1 (wCall K1.W_law_rootable (aCons (wVar 0) aNil)))
    (sCons (sPar 2 3 (aCons (wTup (aCons (wCall K1.W_law_some (aCons (wVar 0) aNil)) (aCons (wCall K1.W_law_some (aCons (wVar 0) aNil)) aNil))) (aCons (wTup (aCons (wCall K1.W_law_some (aCons (wVar 0) aNil)) (aCons (wCall K1.W_law_some (aCons (wVar 0) aNil)) aNil))) aNil)))
    (sCons (sIf (wTest (wBin (fEq false) (wCall K1.W_law_dip (aCons (wVar 0) (aCons (wC (.int 2)) aNil))) (wC (.int 0)))) (sCons (sPar 2 3 (aCons (wTup (aCons (wBin fIx (wVar 2) (wC (.int 0))) (aCons (wTup (aCons (wC (.int 0)) (aCons (wC (.int 1)) aNil))) aNil))) (aCons (wTup (aCons (wBin fIx (wVar 3) (wC (.int 0))) (aCons (wTup (aCons (wC (.int 0)) (aCons (wC (.int 1)) aNil))) aNil))) aNil)))
    sNil) sNil)
    (sCons (sRet (wTup (aCons (wVar 2) (aCons (wVar 3) (aCons (wTup (aCons (wCall K1.W_law_some (aCons (wVar 0) aNil)) (aCons (wCall K1.W_law_one_of (aCons (wVar 0) (aCons (wLst (aCons (wTup (aCons (wC (.int 0)) (aCons (wC (.int 1)) aNil))) (aCons (wTup (aCons (wC (.int 1)) (aCons (wC (.int 1)) aNil))) (aCons (wTup (aCons (wNeg (wC (.int 1))) (aCons (wC (.int 1)) aNil))) (aCons (wTup (aCons (wC (.int 1)) (aCons (wC (.int 2)) aNil))) (aCons (wCall K1.W_law_some (aCons (wVar 0) aNil)) aNil)))))) aNil))) aNil))) (aCons (wVar 1) aNil))))))
    sNil))))
def W_law_heard_floor : WFn := wBody 4 11 (sCons (sAsg (wVar 0) (gT 4 (gNC (gN 4) (gNC (gN 5) (gNC (gN 6) (gNC (gN 7) gN0))))))
    (sCons (sPar 8 9 (aCons (wTup (aCons (wCall K1.W_law_less (aCons (wBin fIx (wVar 4) (wC (.int 0))) (aCons (wVar 1) aNil))) (aCons (wBin fIx (wVar 4) (wC (.int 1))) aNil))) (aCons (wTup (aCons (wCall K1.W_law_less (aCons (wBin fIx (wVar 5) (wC (.int 0))) (aCons (wVar 2) aNil))) (aCons (wBin fIx (wVar 5) (wC (.int 1))) aNil))) aNil)))
    (sCons (sPar 10 11 (aCons (wCall K3.W_law_pair_times (aCons (wVar 8) (aCons (wVar 8) (aCons (wVar 7) aNil)))) (aCons (wCall K3.W_law_pair_times (aCons (wVar 9) (aCons (wVar 9) (aCons (wVar 7) aNil)))) aNil)))
    (sCons (sSet 12 (wCall K1.W_law_floor (aCons (wTup (aCons (wCall K1.W_law_plus (aCons (wBin fIx (wVar 10) (wC (.int 0))) (aCons (wBin fIx (wVar 11) (wC (.int 0))) aNil))) (aCons (wCall K1.W_law_plus (aCons (wBin fIx (wVar 10) (wC (.int 1))) (aCons (wBin fIx (wVar 11) (wC (.int 1))) aNil))) (aCons (wVar 7) aNil)))) (aCons (wBin fMul (wVar 3) (wVar 3)) aNil))))
    (sCons (sSet 13 (wBin fSub (wBin fAdd (wCall K1.W_law_floor (aCons (wTup (aCons (wBin fIx (wVar 6) (wC (.int 0))) (aCons (wBin fIx (wVar 6) (wC (.int 1))) (aCons (wVar 7) aNil)))) (aCons (wVar 3) aNil))) (wCall K1.W_law_floor_root (aCons (wB bMax (aCons (wC (.int 0)) (aCons (wVar 12) aNil))) aNil))) (wC (.int 1))))
    (sCons (sFor (iR1 (aCons (wC (.int 4)) aNil)) (gN 14) (sCons (sIf (wTest (wBin fGe (wCall K6.W_law_heard (aCons (wVar 0) (aCons (wVar 1) (aCons (wVar 2) (aCons (wCall K1.W_law_frac (aCons (wBin fAdd (wVar 13) (wC (.int 1))) (aCons (wVar 3) aNil))) aNil))))) (wC (.int 0)))) (sCons (sSet 13 (wBin fAdd (wVar 13) (wC (.int 1))))
    sNil) sNil)
    sNil))
    (sCons (sRet (wVar 13))
    sNil)))))))
def W_law_tight_point : WFn := wBody 4 5 (sCons (sPar 4 5 (aCons (wCall K1.W_law_some (aCons (wVar 0) aNil)) (aCons (wCall K1.W_law_some (aCons (wVar 0) aNil)) aNil)))
    (sCons (sPar 6 7 (aCons (wCall K1.W_law_less (aCons (wVar 4) (aCons (wVar 1) aNil))) (aCons (wCall K1.W_law_less (aCons (wVar 5) (aCons (wVar 2) aNil))) aNil)))
    (sCons (sSet 8 (wCall K1.W_law_plus (aCons (wCall K1.W_law_by (aCons (wVar 6) (aCons (wVar 6) aNil))) (aCons (wCall K1.W_law_by (aCons (wVar 7) (aCons (wVar 7) aNil))) aNil))))
    (sCons (sRet (wTup (aCons (wTup (aCons (wVar 4) (aCons (wTup (aCons (wC (.int 0)) (aCons (wC (.int 1)) aNil))) aNil))) (aCons (wTup (aCons (wVar 5) (aCons (wTup (aCons (wC (.int 0)) (aCons (wC (.int 1)) aNil))) aNil))) (aCons (wTup (aCons (wVar 3) (aCons (wTup (aCons (wNeg (wC (.int 1))) (aCons (wC (.int 1)) aNil))) aNil))) (aCons (wVar 8) aNil))))))
    sNil))))
def W_law_pythagoras : WFn := wBody 1 8 (sCons (sSet 1 (wBin fAdd (wC (.int 1)) (wCall K1.W_law_dip (aCons (wVar 0) (aCons (wC (.int 4)) aNil)))))
    (sCons (sSet 2 (wCall K1.W_law_dip (aCons (wVar 0) (aCons (wBin fAdd (wVar 1) (wC (.int 1))) aNil))))
    (sCons (sPar3 3 4 5 (aCons (wBin fSub (wBin fMul (wVar 1) (wVar 1)) (wBin fMul (wVar 2) (wVar 2))) (aCons (wBin fMul (wBin fMul (wC (.int 2)) (wVar 1)) (wVar 2)) (aCons (wBin fAdd (wBin fMul (wVar 1) (wVar 1)) (wBin fMul (wVar 2) (wVar 2))) aNil))))
    (sCons (sAsg (wIf (wTest (wBin (fEq false) (wCall K1.W_law_dip (aCons (wVar 0) (aCons (wC (.int 2)) aNil))) (wC (.int 0)))) (wTup (aCons (wVar 3) (aCons (wVar 4) aNil))) (wTup (aCons (wVar 4) (aCons (wVar 3) aNil)))) (gT 2 (gNC (gN 3) (gNC (gN 4) gN0))))
    (sCons (sSet 6 (wCall K1.W_law_frac (aCons (wBin fAdd (wC (.int 1)) (wCall K1.W_law_dip (aCons (wVar 0) (aCons (wC (.int 4)) aNil)))) (aCons (wCall K1.W_law_one_of (aCons (wVar 0) (aCons (wLst (aCons (wC (.int 1)) (aCons (wC (.int 1)) (aCons (wC (.int 2)) (aCons (wC (.int 3)) aNil))))) aNil))) aNil))))
    (sCons (sPar 7 8 (aCons (wTup (aCons (wBin fMul (wVar 3) (wCall K1.W_law_one_of (aCons (wVar 0) (aCons (wLst (aCons (wC (.int 1)) (aCons (wNeg (wC (.int 1))) aNil))) aNil)))) (aCons (wC (.int 1)) aNil))) (aCons (wTup (aCons (wBin fMul (wVar 4) (wCall K1.W_law_one_of (aCons (wVar 0) (aCons (wLst (aCons (wC (.int 1)) (aCons (wNeg (wC (.int 1))) aNil))) aNil)))) (aCons (wC (.int 1)) aNil))) aNil)))
    (sCons (sRet (wTup (aCons (wCall K1.W_law_by (aCons (wVar 7) (aCons (wVar 6) aNil))) (aCons (wCall K1.W_law_by (aCons (wVar 8) (aCons (wVar 6) aNil))) (aCons (wCall K1.W_law_by (aCons (wTup (aCons (wVar 5) (aCons (wC (.int 1)) aNil))) (aCons (wVar 6) aNil))) aNil)))))
    sNil)))))))
def W_law_is_told : WFn := wBody 4 2 (sCons (sSet 4 (wCall K6.W_law_heard (aCons (wVar 0) (aCons (wVar 1) (aCons (wVar 2) (aCons (wVar 3) aNil))))))
    (sCons (sSet 5 (wLst (aCons (wCall K6.W_heard_sign (aCons (wVar 0) (aCons (wVar 1) (aCons (wVar 2) (aCons (wVar 3) aNil))))) (aCons (wCallK 4 [3, 2, 1, 0] K6.W_heard_sign (aCons (wVar 3) (aCons (wVar 2) (aCons (wVar 1) (aCons (wVar 0) aNil))))) aNil))))
    (sCons (sRet (wCall K1.W_law_same (aCons (wVar 5) (aCons (wLst (aCons (wVar 4) (aCons (wVar 4) aNil))) aNil))))
    sNil)))
def W_law_right : WFn := wBody 1 15 (sCons (sFor (iR1 (aCons (wC (.int 5)) aNil)) (gN 1) (sCons (sAsg (wTup (aCons (wCall K6.W_law_point (aCons (wVar 0) aNil)) (aCons (wCall K1.W_law_some (aCons (wVar 0) aNil)) (aCons (wCall K1.W_law_some (aCons (wVar 0) aNil)) (aCons (wCall K1.W_law_some (aCons (wVar 0) aNil)) aNil))))) (gT 4 (gNC (gN 2) (gNC (gN 3) (gNC (gN 4) (gNC (gN 5) gN0))))))
    (sCons (sIf (tNot' (wTest (wCall K6.W_law_is_told (aCons (wVar 2) (aCons (wVar 3) (aCons (wVar 4) (aCons (wVar 5) aNil))))))) (sCons (sRet (wC (.bl false)))
    sNil) sNil)
    (sCons (sSet 6 (wCall K1.W_law_frac (aCons (wBin fAdd (wCall K6.W_law_heard_floor (aCons (wVar 2) (aCons (wVar 3) (aCons (wVar 4) (aCons (wC (.int 10)) aNil))))) (wCall K1.W_law_dip (aCons (wVar 0) (aCons (wC (.int 2)) aNil)))) (aCons (wC (.int 10)) aNil))))
    (sCons (sSet 7 (wCall K6.W_law_tight_point (aCons (wVar 0) (aCons (wVar 3) (aCons (wVar 4) (aCons (wVar 5) aNil))))))
    (sCons (sIf (tOr' (tNot' (wTest (wCall K6.W_law_is_told (aCons (wVar 2) (aCons (wVar 3) (aCons (wVar 4) (aCons (wVar 6) aNil))))))) (tNot' (wTest (wCall K1.W_law_same (aCons (wCall K6.W_heard_sign (aCons (wVar 7) (aCons (wVar 3) (aCons (wVar 4) (aCons (wVar 5) aNil))))) (aCons (wC (.int 0)) aNil)))))) (sCons (sRet (wC (.bl false)))
    sNil) sNil)
    (sCons (sSet 8 (wCall K1.W_law_plus (aCons (wVar 5) (aCons (wCall K1.W_law_one_of (aCons (wVar 0) (aCons (wLst (aCons (wTup (aCons (wC (.int 1)) (aCons (wBin fPow (wC (.int 10)) (wC (.int 9))) aNil))) (aCons (wTup (aCons (wNeg (wC (.int 1))) (aCons (wBin fPow (wC (.int 10)) (wC (.int 9))) aNil))) (aCons (wTup (aCons (wC (.int 1)) (aCons (wC (.int 2)) aNil))) (aCons (wTup (aCons (wNeg (wC (.int 3))) (aCons (wC (.int 1)) aNil))) aNil))))) aNil))) aNil))))
    (sCons (sIf (tNot' (wTest (wCall K1.W_law_same (aCons (wCall K6.W_heard_sign (aCons (wVar 7) (aCons (wVar 3) (aCons (wVar 4) (aCons (wVar 8) aNil))))) (aCons (wBin fSub (wC (.int 0)) (wCall K1.W_law_sgn (aCons (wCall K1.W_law_less (aCons (wVar 8) (aCons (wVar 5) aNil))) aNil))) aNil))))) (sCons (sRet (wC (.bl false)))
    sNil) sNil)
    (sCons (sAsg (wCall K6.W_law_pythagoras (aCons (wVar 0) aNil)) (gT 3 (gNC (gN 9) (gNC (gN 10) (gNC (gN 11) gN0)))))
    (sCons (sSet 12 (wCall K1.W_law_plus (aCons (wVar 5) (aCons (wVar 11) aNil))))
    (sCons (sSet 13 (wTup (aCons (wC (.int 0)) (aCons (wC (.int 1)) aNil))))
    (sCons (sSet 14 (wTup (aCons (wTup (aCons (wCall K1.W_law_plus (aCons (wVar 3) (aCons (wVar 9) aNil))) (aCons (wVar 13) aNil))) (aCons (wTup (aCons (wCall K1.W_law_plus (aCons (wVar 4) (aCons (wVar 10) aNil))) (aCons (wVar 13) aNil))) (aCons (wTup (aCons (wVar 5) (aCons (wVar 13) aNil))) (aCons (wCall K1.W_law_rootable (aCons (wVar 0) aNil)) aNil))))))
    (sCons (sSet 15 (wLst (aCons (wCall K6.W_heard_sign (aCons (wVar 14) (aCons (wVar 3) (aCons (wVar 4) (aCons (wVar 12) aNil))))) (aCons (wCall K6.W_heard_sign (aCons (wVar 14) (aCons (wVar 3) (aCons (wVar 4) (aCons (wVar 5) aNil))))) aNil))))
    (sCons (sIf (tNot' (wTest (wCall K1.W_law_same (aCons (wVar 15) (aCons (wLst (aCons (wC (.int 0)) (aCons (wC (.int 1)) aNil))) aNil))))) (sCons (sRet (wC (.bl false)))
    sNil) sNil)
    sNil))))))))))))))
    (sCons (sRet (wC (.bl true)))
    sNil))
def W_law : WFn := wBody 1 1 (sCons (sRet (wB (bAll false) (aCons (wLc (iR1 (aCons (wB bMax (aCons (wC (.int 2)) (aCons (wB bMin (aCons (wB bLen (aCons (wVar 0) aNil)) (aCons (wC (.int 4)) aNil))) aNil))) aNil)) (gN 1) tYes' (wCall K6.W_law_right (aCons (wCall K6.W_law_jar (aCons (wVar 0) (aCons (wVar 1) aNil))) aNil)) [1]) aNil)))
    sNil)
end K6


set_option Elab.async false
set_option linter.all false
namespace K7
open PySem PySem.Spec PyProof.Rows L2 Zq
def W_floor_heard : WFn := wBody 3 17 (sCons (sAsg (wCall K6.W_spot_of (aCons (wVar 0) aNil)) (gTL 3 (gNC (gN 3) (gNC (gN 4) (gNC (gN 5) gN0)))))
    (sCons (sAsg (wCall K6.W_on_one_bottom (aCons (wVar 1) aNil)) (gTL 2 (gNC (gTL 2 (gNC (gN 6) (gNC (gN 7) gN0))) (gNC (gN 8) gN0))))
    (sCons (sAsg (wVar 3) (gTL 3 (gNC (gTL 2 (gNC (gN 9) (gNC (gN 10) gN0))) (gNC (gTL 2 (gNC (gN 11) (gNC (gN 12) gN0))) (gNC (gTL 2 (gNC (gN 13) (gNC (gN 14) gN0))) gN0)))))
    (sCons (sAsg (wTup (aCons (wBin fMul (wVar 9) (wVar 8)) (aCons (wBin fMul (wVar 10) (wVar 8)) (aCons (wBin fMul (wVar 11) (wVar 8)) (aCons (wBin fMul (wVar 12) (wVar 8)) aNil))))) (gTL 4 (gNC (gN 9) (gNC (gN 10) (gNC (gN 11) (gNC (gN 12) gN0))))))
    (sCons (sPar 9 11 (aCons (wBin fSub (wVar 9) (wBin fMul (wVar 6) (wVar 5))) (aCons (wBin fSub (wVar 11) (wBin fMul (wVar 7) (wVar 5))) aNil)))
    (sCons (sSet 15 (wBin fAdd (wBin fAdd (wBin fMul (wVar 9) (wVar 9)) (wBin fMul (wVar 11) (wVar 11))) (wBin fMul (wBin fAdd (wBin fMul (wVar 10) (wVar 10)) (wBin fMul (wVar 12) (wVar 12))) (wVar 4))))
    (sCons (sSet 16 (wBin fMul (wC (.int 2)) (wBin fAdd (wBin fMul (wVar 9) (wVar 10)) (wBin fMul (wVar 11) (wVar 12)))))
    (sCons (sSet 17 (wBin fMul (wVar 2) (wVar 2)))
    (sCons (sSet 18 (wB bIsqrt (aCons (wCall K4.W_floor_with_root (aCons (wBin fMul (wVar 15) (wVar 17)) (aCons (wBin fMul (wVar 16) (wVar 17)) (aCons (wVar 4) (aCons (wBin fMul (wBin fMul (wBin fMul (wVar 5) (wVar 5)) (wVar 8)) (wVar 8)) aNil))))) aNil)))
    (sCons (sSet 19 (wBin fAdd (wCall K4.W_floor_with_root (aCons (wBin fMul (wVar 13) (wVar 2)) (aCons (wBin fMul (wVar 14) (wVar 2)) (aCons (wVar 4) (aCons (wVar 5) aNil))))) (wVar 18)))
    (sCons (sIf (wTest (wBin fGe (wCall K6.W_sign_heard (aCons (wVar 0) (aCons (wVar 1) (aCons (wTup (aCons (wBin fAdd (wVar 19) (wC (.int 1))) (aCons (wVar 2) aNil))) aNil)))) (wC (.int 0)))) (sCons (sRet (wBin fAdd (wVar 19) (wC (.int 1))))
    sNil) sNil)
    (sCons (sRet (wVar 19))
    sNil))))))))))))
def W_heard_floor : WFn := wBody 4 0 (sCons (sExpr (wCall K6.W_need_point (aCons (wVar 0) aNil)))
    (sCons (sExpr (wCall K3.W_need_fraction (aCons (wVar 1) aNil)))
    (sCons (sExpr (wCall K3.W_need_fraction (aCons (wVar 2) aNil)))
    (sCons (sExpr (wCall K4.W_need_many (aCons (wVar 3) aNil)))
    (sCons (sRet (wCall K7.W_floor_heard (aCons (wVar 0) (aCons (wTup (aCons (wVar 1) (aCons (wVar 2) aNil))) (aCons (wVar 3) aNil)))))
    sNil)))))
def W_heard_figures : WFn := wBody 4 0 (sCons (sExpr (wCall K6.W_need_point (aCons (wVar 0) aNil)))
    (sCons (sExpr (wCall K3.W_need_fraction (aCons (wVar 1) aNil)))
    (sCons (sExpr (wCall K3.W_need_fraction (aCons (wVar 2) aNil)))
    (sCons (sExpr (wCall K4.W_need_places (aCons (wVar 3) aNil)))
    (sCons (sRet (wCall K4.W_with_point (aCons (wCall K7.W_floor_heard (aCons (wVar 0) (aCons (wTup (aCons (wVar 1) (aCons (wVar 2) aNil))) (aCons (wCall K4.W_ten_to (aCons (wVar 3) aNil)) aNil)))) (aCons (wVar 3) aNil))))
    sNil)))))
def W_law_jar : WFn := wBody 2 3 (sCons (sSet 2 (wBin fAdd (wC (.int 6151)) (wBin fMul (wC (.int 8111)) (wVar 1))))
    (sCons (sFor (iQ (wSlice (wVar 0) oNone (oSome (wC (.int 10))))) (gN 3) (sCons (sSet 2 (wBin fMod (wB bInt (aCons (wBin fAdd (wBin fAdd (wBin fMul (wVar 2) (wC (.int 52361))) (wBin fMul (wBin fMod (wB bInt (aCons (wVar 3) aNil)) (wC (.int 2147483399))) (wC (.int 11)))) (wC (.int 3))) aNil)) (wC (.int 2147483399))))
    sNil))
    (sCons (sSet 4 (wIf (wTest (wBin fLt (wVar 1) (wB bLen (aCons (wVar 0) aNil)))) (wB bInt (aCons (wBin fIx (wVar 0) (wVar 1)) aNil)) (wC (.int 0))))
    (sCons (sRet (wLst (aCons (wIf (tOr' (wTest (wBin fLt (wVar 4) (wC (.int 0)))) (wTest (wBin fGe (wVar 4) (wBin fPow (wC (.int 10)) (wC (.int 15)))))) (wB bAbs (aCons (wVar 4) aNil)) (wC (.int 0))) (aCons (wVar 2) (aCons (wC (.int 0)) aNil)))))
    sNil))))
def W_law_right : WFn := wBody 1 16 (sCons (sFor (iR1 (aCons (wC (.int 3)) aNil)) (gN 1) (sCons (sPar3 2 3 4 (aCons (wCall K6.W_law_point (aCons (wVar 0) aNil)) (aCons (wCall K1.W_law_some (aCons (wVar 0) aNil)) (aCons (wCall K1.W_law_some (aCons (wVar 0) aNil)) aNil))))
    (sCons (sIf (wTest (wBin (fEq false) (wCall K1.W_law_dip (aCons (wVar 0) (aCons (wC (.int 4)) aNil))) (wC (.int 0)))) (sCons (sPar 3 4 (aCons (wBin fIx (wBin fIx (wVar 2) (wC (.int 0))) (wC (.int 0))) (aCons (wBin fIx (wBin fIx (wVar 2) (wC (.int 1))) (wC (.int 0))) aNil)))
    sNil) sNil)
    (sCons (sPar 5 6 (aCons (wCall K1.W_law_one_of (aCons (wVar 0) (aCons (wLst (aCons (wC (.int 1)) (aCons (wC (.int 2)) (aCons (wC (.int 7)) (aCons (wC (.int 10)) (aCons (wC (.int 100)) (aCons (wBin fPow (wC (.int 10)) (wC (.int 9))) (aCons (wBin fPow (wC (.int 10)) (wC (.int 30))) aNil)))))))) aNil))) (aCons (wCall K1.W_law_one_of (aCons (wVar 0) (aCons (wLst (aCons (wC (.int 0)) (aCons (wC (.int 1)) (aCons (wC (.int 2)) (aCons (wC (.int 5)) (aCons (wC (.int 20)) (aCons (wC (.int 40)) aNil))))))) aNil))) aNil)))
    (sCons (sSet 7 (wCall K6.W_law_heard_floor (aCons (wVar 2) (aCons (wVar 3) (aCons (wVar 4) (aCons (wVar 5) aNil))))))
    (sCons (sSet 8 (wLst (aCons (wCall K7.W_heard_floor (aCons (wVar 2) (aCons (wVar 3) (aCons (wVar 4) (aCons (wVar 5) aNil))))) (aCons (wCallK 4 [3, 2, 1, 0] K7.W_heard_floor (aCons (wVar 5) (aCons (wVar 4) (aCons (wVar 3) (aCons (wVar 2) aNil))))) aNil))))
    (sCons (sIf (tNot' (wTest (wCall K1.W_law_same (aCons (wVar 8) (aCons (wLst (aCons (wVar 7) (aCons (wVar 7) aNil))) aNil))))) (sCons (sRet (wC (.bl false)))
    sNil) sNil)
    (sCons (sSet 9 (wCall K4.W_law_figures (aCons (wCall K6.W_law_heard_floor (aCons (wVar 2) (aCons (wVar 3) (aCons (wVar 4) (aCons (wCall K4.W_law_ten (aCons (wVar 6) aNil)) aNil))))) (aCons (wVar 6) aNil))))
    (sCons (sSet 8 (wLst (aCons (wCall K7.W_heard_figures (aCons (wVar 2) (aCons (wVar 3) (aCons (wVar 4) (aCons (wVar 6) aNil))))) aNil)))
    (sCons (sExpr (wApp (wVar 8) (wCallK 4 [3, 2, 1, 0] K7.W_heard_figures (aCons (wVar 6) (aCons (wVar 4) (aCons (wVar 3) (aCons (wVar 2) aNil)))))))
    (sCons (sIf (tNot' (wTest (wCall K1.W_law_same (aCons (wVar 8) (aCons (wLst (aCons (wVar 9) (aCons (wVar 9) aNil))) aNil))))) (sCons (sRet (wC (.bl false)))
    sNil) sNil)
    (sCons (sAsg (wCall K6.W_law_pythagoras (aCons (wVar 0) aNil)) (gT 3 (gNC (gN 10) (gNC (gN 11) (gNC (gN 12) gN0)))))
    (sCons (sPar 13 14 (aCons (wCall K1.W_law_some (aCons (wVar 0) aNil)) (aCons (wTup (aCons (wC (.int 0)) (aCons (wC (.int 1)) aNil))) aNil)))
    (sCons (sSet 15 (wTup (aCons (wTup (aCons (wCall K1.W_law_plus (aCons (wVar 3) (aCons (wVar 10) aNil))) (aCons (wVar 14) aNil))) (aCons (wTup (aCons (wCall K1.W_law_plus (aCons (wVar 4) (aCons (wVar 11) aNil))) (aCons (wVar 14) aNil))) (aCons (wTup (aCons (wVar 13) (aCons (wVar 14) aNil))) (aCons (wVar 14) aNil))))))
    (sCons (sSet 16 (wCall K1.W_law_plus (aCons (wVar 13) (aCons (wVar 12) aNil))))
    (sCons (sIf (tNot' (wTest (wCall K1.W_law_same (aCons (wCall K7.W_heard_floor (aCons (wVar 15) (aCons (wVar 3) (aCons (wVar 4) (aCons (wVar 5) aNil))))) (aCons (wBin fDiv (wBin fMul (wBin fIx (wVar 16) (wC (.int 0))) (wVar 5)) (wBin fIx (wVar 16) (wC (.int 1)))) aNil))))) (sCons (sRet (wC (.bl false)))
    sNil) sNil)
    sNil))))))))))))))))
    (sCons (sRet (wC (.bl true)))
    sNil))
def W_law : WFn := wBody 1 1 (sCons (sRet (wB (bAll false) (aCons (wLc (iR1 (aCons (wB bMax (aCons (wC (.int 2)) (aCons (wB bMin (aCons (wB bLen (aCons (wVar 0) aNil)) (aCons (wC (.int 3)) aNil))) aNil))) aNil)) (gN 1) tYes' (wCall K7.W_law_right (aCons (wCall K7.W_law_jar (aCons (wVar 0) (aCons (wVar 1) aNil))) aNil)) [1]) aNil)))
    sNil)
end K7


set_option Elab.async false
set_option linter.all false
namespace K8
open PySem PySem.Spec PyProof.Rows L2 Zq
def W_sign_beyond_at : WFn := wBody 2 11 (sCons (sAsg (wVar 0) (gTL 3 (gNC (gTL 3 (gNC (gTL 2 (gNC (gN 2) (gNC (gN 3) gN0))) (gNC (gTL 2 (gNC (gN 4) (gNC (gN 5) gN0))) (gNC (gN 6) gN0)))) (gNC (gN 7) (gNC (gN 8) gN0)))))
    (sCons (sAsg (wVar 1) (gTL 3 (gNC (gN 9) (gNC (gN 10) (gNC (gN 11) gN0)))))
    (sCons (sSet 12 (wBin fSub (wBin fAdd (wBin fMul (wVar 9) (wVar 2)) (wBin fMul (wVar 10) (wVar 4))) (wBin fMul (wVar 11) (wVar 8))))
    (sCons (sRet (wCall K1.W_sign_with_root (aCons (wVar 12) (aCons (wBin fAdd (wBin fMul (wVar 9) (wVar 3)) (wBin fMul (wVar 10) (wVar 5))) (aCons (wVar 7) aNil)))))
    sNil))))
def W_sign_beyond : WFn := wBody 2 2 (sCons (sAsg (wCall K6.W_on_one_bottom (aCons (wVar 1) aNil)) (gTL 2 (gNC (gN 2) (gNC (gN 3) gN0))))
    (sCons (sRet (wCall K8.W_sign_beyond_at (aCons (wCall K6.W_spot_of (aCons (wVar 0) aNil)) (aCons (wVar 2) aNil))))
    sNil))
def W_wrong_in_side : WFn := wBody 1 2 (sCons (sIf (tNot' (wTest (wCall K1.W_is_tuple_of (aCons (wVar 0) (aCons (wC (.int 3)) (aCons (wC (.int 3)) aNil)))))) (sCons (sRet (wTup aNil))
    sNil) sNil)
    (sCons (sFor (iE (aCons (wVar 0) aNil)) (gT 2 (gNC (gN 1) (gNC (gN 2) gN0))) (sCons (sIf (tNot' (wTest (wCall K1.W_is_fraction (aCons (wVar 2) aNil)))) (sCons (sRet (wTup (aCons (wVar 1) aNil)))
    sNil) sNil)
    sNil))
    (sCons (sIf (tAnd' (wTest (wBin (fEq false) (wBin fIx (wBin fIx (wVar 0) (wC (.int 0))) (wC (.int 0))) (wC (.int 0)))) (wTest (wBin (fEq false) (wBin fIx (wBin fIx (wVar 0) (wC (.int 1))) (wC (.int 0))) (wC (.int 0))))) (sCons (sRet (wTup aNil))
    sNil) sNil)
    (sCons (sRet (wC .non))
    sNil))))
def W_is_side : WFn := wBody 1 0 (sCons (sRet (wIsN false (wCall K8.W_wrong_in_side (aCons (wVar 0) aNil))))
    sNil)
def W_need_side : WFn := wBody 1 0 (sCons (sIf (tNot' (wTest (wCall K8.W_is_side (aCons (wVar 0) aNil)))) (sCons sNever
    sNil) sNil)
    sNil)
def W_number_at : WFn := wBody 2 2 (sCons (sAsg (wBin fIx (wVar 0) (wVar 1)) (gT 2 (gNC (gN 2) (gNC (gN 3) gN0))))
    (sCons (sRet (wTup (aCons (wVar 2) (aCons (wVar 3) (aCons (wBin fIx (wVar 0) (wC (.int 3))) aNil)))))
    sNil))
def W_number_of : WFn := wBody 2 0 (sCons (sExpr (wCall K6.W_need_point (aCons (wVar 0) aNil)))
    (sCons (sIf (tOr' (tNot' (wTest (wB bIsi (aCons (wVar 1) (aCons (wC (.ty "str")) aNil))))) (wTest (wBin (fIn true) (wVar 1) (wC (.tup [(.str "x"), (.str "y"), (.str "t")]))))) (sCons sNever
    sNil) sNil)
    (sCons (sRet (wCall K8.W_number_at (aCons (wVar 0) (aCons (wIdx [(.str "x"), (.str "y"), (.str "t")] (wVar 1)) aNil))))
    sNil)))
def W_ordered : WFn := wBody 2 2 (sCons (sExpr (wCall K6.W_need_point (aCons (wVar 0) aNil)))
    (sCons (sExpr (wCall K6.W_need_point (aCons (wVar 1) aNil)))
    (sCons (sFor (iQ (wC (.tup [(.int 2), (.int 0), (.int 1)]))) (gN 2) (sCons (sSet 3 (wCall K1.W_order_of (aCons (wCall K8.W_number_at (aCons (wVar 0) (aCons (wVar 2) aNil))) (aCons (wCall K8.W_number_at (aCons (wVar 1) (aCons (wVar 2) aNil))) aNil))))
    (sCons (sIf (wTest (wBin (fEq true) (wVar 3) (wC (.int 0)))) (sCons (sRet (wVar 3))
    sNil) sNil)
    sNil)))
    (sCons (sRet (wC (.int 0)))
    sNil))))
def W_beyond : WFn := wBody 2 0 (sCons (sExpr (wCall K6.W_need_point (aCons (wVar 0) aNil)))
    (sCons (sExpr (wCall K8.W_need_side (aCons (wVar 1) aNil)))
    (sCons (sRet (wCall K8.W_sign_beyond (aCons (wVar 0) (aCons (wVar 1) aNil))))
    sNil)))
def W_law_jar : WFn := wBody 2 3 (sCons (sSet 2 (wBin fAdd (wC (.int 6163)) (wBin fMul (wC (.int 8111)) (wVar 1))))
    (sCons (sFor (iQ (wSlice (wVar 0) oNone (oSome (wC (.int 10))))) (gN 3) (sCons (sSet 2 (wBin fMod (wB bInt (aCons (wBin fAdd (wBin fAdd (wBin fMul (wVar 2) (wC (.int 52361))) (wBin fMul (wBin fMod (wB bInt (aCons (wVar 3) aNil)) (wC (.int 2147483399))) (wC (.int 11)))) (wC (.int 3))) aNil)) (wC (.int 2147483399))))
    sNil))
    (sCons (sSet 4 (wIf (wTest (wBin fLt (wVar 1) (wB bLen (aCons (wVar 0) aNil)))) (wB bInt (aCons (wBin fIx (wVar 0) (wVar 1)) aNil)) (wC (.int 0))))
    (sCons (sRet (wLst (aCons (wIf (tOr' (wTest (wBin fLt (wVar 4) (wC (.int 0)))) (wTest (wBin fGe (wVar 4) (wBin fPow (wC (.int 10)) (wC (.int 15)))))) (wB bAbs (aCons (wVar 4) aNil)) (wC (.int 0))) (aCons (wVar 2) (aCons (wC (.int 0)) aNil)))))
    sNil))))
def W_law_beyond : WFn := wBody 2 5 (sCons (sAsg (wVar 0) (gT 4 (gNC (gN 2) (gNC (gN 3) (gNC (gN 4) (gNC (gN 5) gN0))))))
    (sCons (sSet 6 (wCall K1.W_law_less (aCons (wCall K1.W_law_plus (aCons (wCall K1.W_law_by (aCons (wBin fIx (wVar 1) (wC (.int 0))) (aCons (wBin fIx (wVar 2) (wC (.int 0))) aNil))) (aCons (wCall K1.W_law_by (aCons (wBin fIx (wVar 1) (wC (.int 1))) (aCons (wBin fIx (wVar 3) (wC (.int 0))) aNil))) aNil))) (aCons (wBin fIx (wVar 1) (wC (.int 2))) aNil))))
    (sCons (sRet (wCall K1.W_law_root_sign (aCons (wVar 6) (aCons (wCall K1.W_law_plus (aCons (wCall K1.W_law_by (aCons (wBin fIx (wVar 1) (wC (.int 0))) (aCons (wBin fIx (wVar 2) (wC (.int 1))) aNil))) (aCons (wCall K1.W_law_by (aCons (wBin fIx (wVar 1) (wC (.int 1))) (aCons (wBin fIx (wVar 3) (wC (.int 1))) aNil))) aNil))) (aCons (wVar 5) aNil)))))
    sNil)))
def W_law_side : WFn := wBody 1 2 (sCons (sPar 1 2 (aCons (wCall K1.W_law_some (aCons (wVar 0) aNil)) (aCons (wCall K1.W_law_some (aCons (wVar 0) aNil)) aNil)))
    (sCons (sRet (wTup (aCons (wIf (tAnd' (wTest (wBin (fEq false) (wBin fIx (wVar 1) (wC (.int 0))) (wC (.int 0)))) (wTest (wBin (fEq false) (wBin fIx (wVar 2) (wC (.int 0))) (wC (.int 0))))) (wTup (aCons (wC (.int 1)) (aCons (wC (.int 1)) aNil))) (wVar 1)) (aCons (wVar 2) (aCons (wCall K1.W_law_some (aCons (wVar 0) aNil)) aNil)))))
    sNil))
def W_law_beside : WFn := wBody 2 10 (sCons (sAsg (wVar 1) (gT 4 (gNC (gN 2) (gNC (gN 3) (gNC (gN 4) (gNC (gN 5) gN0))))))
    (sCons (sSet 6 (wCall K1.W_law_one_of (aCons (wVar 0) (aCons (wLst (aCons (wTup (aCons (wC (.int 2)) (aCons (wC (.int 1)) aNil))) (aCons (wTup (aCons (wC (.int 1)) (aCons (wC (.int 3)) aNil))) (aCons (wTup (aCons (wC (.int 1)) (aCons (wC (.int 1)) aNil))) aNil)))) aNil))))
    (sCons (sPar 7 8 (aCons (wLst aNil) (aCons (wCall K1.W_law_dip (aCons (wVar 0) (aCons (wC (.int 5)) aNil))) aNil)))
    (sCons (sFor (iE (aCons (wTup (aCons (wVar 2) (aCons (wVar 3) (aCons (wVar 4) aNil)))) aNil)) (gT 2 (gNC (gN 9) (gNC (gN 10) gN0))) (sCons (sSet 11 (wIf (wTest (wBin (fEq false) (wVar 9) (wVar 8))) (wCall K1.W_law_plus (aCons (wBin fIx (wVar 10) (wC (.int 0))) (aCons (wCall K1.W_law_one_of (aCons (wVar 0) (aCons (wLst (aCons (wTup (aCons (wC (.int 0)) (aCons (wC (.int 1)) aNil))) (aCons (wTup (aCons (wC (.int 1)) (aCons (wBin fPow (wC (.int 10)) (wC (.int 6))) aNil))) (aCons (wTup (aCons (wNeg (wC (.int 1))) (aCons (wC (.int 2)) aNil))) aNil)))) aNil))) aNil))) (wBin fIx (wVar 10) (wC (.int 0)))))
    (sCons (sExpr (wApp (wVar 7) (wTup (aCons (wVar 11) (aCons (wCall K1.W_law_over (aCons (wBin fIx (wVar 10) (wC (.int 1))) (aCons (wVar 6) aNil))) aNil)))))
    sNil)))
    (sCons (sRet (wTup (aCons (wBin fIx (wVar 7) (wC (.int 0))) (aCons (wBin fIx (wVar 7) (wC (.int 1))) (aCons (wBin fIx (wVar 7) (wC (.int 2))) (aCons (wCall K1.W_law_by (aCons (wVar 5) (aCons (wCall K1.W_law_by (aCons (wVar 6) (aCons (wVar 6) aNil))) aNil))) aNil))))))
    sNil)))))
def W_law_places : WFn := wBody 2 2 (sCons (sFor (iQ (wTup (aCons (wC (.int 2)) (aCons (wC (.int 0)) (aCons (wC (.int 1)) aNil))))) (gN 2) (sCons (sSet 3 (wCall K1.W_law_order (aCons (wBin fAdd (wBin fIx (wVar 0) (wVar 2)) (wTup (aCons (wBin fIx (wVar 0) (wC (.int 3))) aNil))) (aCons (wBin fAdd (wBin fIx (wVar 1) (wVar 2)) (wTup (aCons (wBin fIx (wVar 1) (wC (.int 3))) aNil))) aNil))))
    (sCons (sIf (wTest (wBin (fEq true) (wVar 3) (wC (.int 0)))) (sCons (sRet (wVar 3))
    sNil) sNil)
    sNil)))
    (sCons (sRet (wC (.int 0)))
    sNil))
def W_law_side_through : WFn := wBody 2 1 (sCons (sSet 2 (wCall K8.W_law_side (aCons (wVar 0) aNil)))
    (sCons (sIf (wTest (wBin (fEq false) (wCall K1.W_law_dip (aCons (wVar 0) (aCons (wC (.int 2)) aNil))) (wC (.int 0)))) (sCons (sRet (wVar 2))
    sNil) sNil)
    (sCons (sRet (wBin fAdd (wSlice (wVar 2) oNone (oSome (wC (.int 2)))) (wTup (aCons (wCall K1.W_law_plus (aCons (wCall K1.W_law_by (aCons (wBin fIx (wVar 2) (wC (.int 0))) (aCons (wBin fIx (wBin fIx (wVar 1) (wC (.int 0))) (wC (.int 0))) aNil))) (aCons (wCall K1.W_law_by (aCons (wBin fIx (wVar 2) (wC (.int 1))) (aCons (wBin fIx (wBin fIx (wVar 1) (wC (.int 1))) (wC (.int 0))) aNil))) aNil))) aNil))))
    sNil)))
def W_law_right : WFn := wBody 1 7 (sCons (sFor (iR1 (aCons (wC (.int 5)) aNil)) (gN 1) (sCons (sSet 2 (wCall K6.W_law_point (aCons (wVar 0) aNil)))
    (sCons (sSet 3 (wIf (wTest (wBin fGt (wCall K1.W_law_dip (aCons (wVar 0) (aCons (wC (.int 3)) aNil))) (wC (.int 0)))) (wCall K8.W_law_beside (aCons (wVar 0) (aCons (wVar 2) aNil))) (wCall K6.W_law_point (aCons (wVar 0) aNil))))
    (sCons (sPar 4 5 (aCons (wCall K8.W_law_places (aCons (wVar 2) (aCons (wVar 3) aNil))) (aCons (wCall K8.W_law_side_through (aCons (wVar 0) (aCons (wVar 2) aNil))) aNil)))
    (sCons (sSet 6 (wLst (aCons (wCall K8.W_ordered (aCons (wVar 2) (aCons (wVar 3) aNil))) (aCons (wCallK 2 [1, 0] K8.W_ordered (aCons (wVar 3) (aCons (wVar 2) aNil))) (aCons (wCall K8.W_ordered (aCons (wVar 3) (aCons (wVar 2) aNil))) (aCons (wCall K8.W_ordered (aCons (wVar 2) (aCons (wVar 2) aNil))) aNil))))))
    (sCons (sIf (tNot' (wTest (wCall K1.W_law_same (aCons (wVar 6) (aCons (wLst (aCons (wVar 4) (aCons (wVar 4) (aCons (wBin fSub (wC (.int 0)) (wVar 4)) (aCons (wC (.int 0)) aNil))))) aNil))))) (sCons (sRet (wC (.bl false)))
    sNil) sNil)
    (sCons (sSet 4 (wCall K8.W_law_beyond (aCons (wVar 2) (aCons (wVar 5) aNil))))
    (sCons (sIf (tNot' (wTest (wCall K1.W_law_same (aCons (wLst (aCons (wCall K8.W_beyond (aCons (wVar 2) (aCons (wVar 5) aNil))) (aCons (wCallK 2 [1, 0] K8.W_beyond (aCons (wVar 5) (aCons (wVar 2) aNil))) aNil))) (aCons (wLst (aCons (wVar 4) (aCons (wVar 4) aNil))) aNil))))) (sCons (sRet (wC (.bl false)))
    sNil) sNil)
    (sCons (sSet 6 (wLst (aCons (wCall K8.W_number_of (aCons (wVar 2) (aCons (wC (.str "x")) aNil))) (aCons (wCall K8.W_number_of (aCons (wVar 2) (aCons (wC (.str "y")) aNil))) (aCons (wCallK 2 [1, 0] K8.W_number_of (aCons (wC (.str "t")) (aCons (wVar 2) aNil))) aNil)))))
    (sCons (sIf (tNot' (wTest (wCall K1.W_law_same (aCons (wVar 6) (aCons (wLc (iR1 (aCons (wC (.int 3)) aNil)) (gN 7) tYes' (wBin fAdd (wBin fIx (wVar 2) (wVar 7)) (wTup (aCons (wBin fIx (wVar 2) (wC (.int 3))) aNil))) [7]) aNil))))) (sCons (sRet (wC (.bl false)))
    sNil) sNil)
    sNil))))))))))
    (sCons (sRet (wC (.bl true)))
    sNil))
def W_law : WFn := wBody 1 1 (sCons (sRet (wB (bAll false) (aCons (wLc (iR1 (aCons (wB bMax (aCons (wC (.int 2)) (aCons (wB bMin (aCons (wB bLen (aCons (wVar 0) aNil)) (aCons (wC (.int 4)) aNil))) aNil))) aNil)) (gN 1) tYes' (wCall K8.W_law_right (aCons (wCall K8.W_law_jar (aCons (wVar 0) (aCons (wVar 1) aNil))) aNil)) [1]) aNil)))
    sNil)
end K8


set_option Elab.async false
set_option linter.all false
namespace K4n
open PySem PySem.Spec PyProof.Rows L2 Zq
def W_is_count : WFn := wBody 3 0 (sCons (sRet (wAnd (wCall K1.W_is_whole (aCons (wVar 0) aNil)) (wChain fLe fLe (wVar 1) (wVar 0) (wVar 2))))
    sNil)
def W_need_places : WFn := wBody 1 0 (sCons (sIf (tNot' (wTest (wCall K4n.W_is_count (aCons (wVar 0) (aCons (wC (.int 0)) (aCons (wC (.int 40)) aNil)))))) (sCons sNever
    sNil) sNil)
    sNil)
def W_in_figures : WFn := wBody 1 3 (sCons (sPar 1 2 (aCons (wC (.str "")) (aCons (wCall K4.W_ten_to (aCons (wC (.int 1000)) aNil)) aNil)))
    (sCons (sWhile (wTest (wBin fGe (wVar 0) (wVar 2))) (sCons (sAsg (wB bDivmod (aCons (wVar 0) (aCons (wVar 2) aNil))) (gT 2 (gNC (gN 0) (gNC (gN 3) gN0))))
    (sCons (sSet 1 (wBin fAdd (wZf (wB bStr (aCons (wVar 3) aNil)) (wC (.int 1000))) (wVar 1)))
    sNil)))
    (sCons (sRet (wBin fAdd (wB bStr (aCons (wVar 0) aNil)) (wVar 1)))
    sNil)))
def W_with_point : WFn := wBody 2 1 (sCons (sSet 2 (wZf (wCall K4n.W_in_figures (aCons (wB bAbs (aCons (wVar 0) aNil)) aNil)) (wBin fAdd (wVar 1) (wC (.int 1)))))
    (sCons (sIf (wTest (wBin fGt (wVar 1) (wC (.int 0)))) (sCons (sSet 2 (wBin fAdd (wBin fAdd (wSlice (wVar 2) oNone (oSome (wNeg (wVar 1)))) (wC (.str "."))) (wSlice (wVar 2) (oSome (wNeg (wVar 1))) oNone)))
    sNil) sNil)
    (sCons (sRet (wIf (wTest (wBin fLt (wVar 0) (wC (.int 0)))) (wBin fAdd (wC (.str "-")) (wVar 2)) (wVar 2)))
    sNil)))
def W_figures : WFn := wBody 2 0 (sCons (sExpr (wCall K1.W_need_number (aCons (wVar 0) aNil)))
    (sCons (sExpr (wCall K4n.W_need_places (aCons (wVar 1) aNil)))
    (sCons (sRet (wCall K4n.W_with_point (aCons (wCall K4.W_floor_of (aCons (wVar 0) (aCons (wCall K4.W_ten_to (aCons (wVar 1) aNil)) aNil))) (aCons (wVar 1) aNil))))
    sNil)))
def W_law_right : WFn := wBody 1 6 (sCons (sFor (iR1 (aCons (wC (.int 5)) aNil)) (gN 1) (sCons (sSet 2 (wIf (wTest (wBin fGt (wCall K1.W_law_dip (aCons (wVar 0) (aCons (wC (.int 4)) aNil))) (wC (.int 0)))) (wCall K1.W_law_number (aCons (wVar 0) aNil)) (wTup (aCons (wCall K1.W_law_some (aCons (wVar 0) aNil)) (aCons (wTup (aCons (wC (.int 0)) (aCons (wC (.int 1)) aNil))) (aCons (wCall K1.W_law_rootable (aCons (wVar 0) aNil)) aNil))))))
    (sCons (sSet 3 (wCall K1.W_law_one_of (aCons (wVar 0) (aCons (wLst (aCons (wC (.int 1)) (aCons (wC (.int 1)) (aCons (wC (.int 2)) (aCons (wC (.int 3)) (aCons (wC (.int 7)) (aCons (wC (.int 10)) (aCons (wC (.int 1000)) (aCons (wBin fPow (wC (.int 10)) (wC (.int 12))) (aCons (wBin fAdd (wC (.int 1)) (wCall K1.W_law_dip (aCons (wVar 0) (aCons (wBin fPow (wC (.int 10)) (wC (.int 6))) aNil)))) (aCons (wBin fPow (wC (.int 10)) (wC (.int 60))) aNil))))))))))) aNil))))
    (sCons (sSet 4 (wCall K1.W_law_one_of (aCons (wVar 0) (aCons (wLst (aCons (wC (.int 0)) (aCons (wC (.int 0)) (aCons (wC (.int 1)) (aCons (wC (.int 2)) (aCons (wC (.int 3)) (aCons (wC (.int 6)) (aCons (wC (.int 17)) (aCons (wC (.int 40)) aNil))))))))) aNil))))
    (sCons (sSet 5 (wCall K1.W_law_floor (aCons (wVar 2) (aCons (wVar 3) aNil))))
    (sCons (sIf (tNot' (wTest (wCall K1.W_law_same (aCons (wLst (aCons (wCall K4.W_floor_at (aCons (wVar 2) (aCons (wVar 3) aNil))) (aCons (wCallK 2 [1, 0] K4.W_floor_at (aCons (wVar 3) (aCons (wCall K1.W_law_twin (aCons (wVar 0) (aCons (wVar 2) aNil))) aNil))) aNil))) (aCons (wLst (aCons (wVar 5) (aCons (wVar 5) aNil))) aNil))))) (sCons (sRet (wC (.bl false)))
    sNil) sNil)
    (sCons (sSet 6 (wCall K4.W_law_figures (aCons (wCall K1.W_law_floor (aCons (wVar 2) (aCons (wCall K4.W_law_ten (aCons (wVar 4) aNil)) aNil))) (aCons (wVar 4) aNil))))
    (sCons (sIf (tNot' (wTest (wCall K1.W_law_same (aCons (wLst (aCons (wCall K4n.W_figures (aCons (wVar 2) (aCons (wVar 4) aNil))) (aCons (wCallK 2 [1, 0] K4n.W_figures (aCons (wVar 4) (aCons (wVar 2) aNil))) aNil))) (aCons (wLst (aCons (wVar 6) (aCons (wVar 6) aNil))) aNil))))) (sCons (sRet (wC (.bl false)))
    sNil) sNil)
    sNil))))))))
    (sCons (sRet (wC (.bl true)))
    sNil))
def W_law : WFn := wBody 1 1 (sCons (sRet (wB (bAll false) (aCons (wLc (iR1 (aCons (wB bMax (aCons (wC (.int 2)) (aCons (wB bMin (aCons (wB bLen (aCons (wVar 0) aNil)) (aCons (wC (.int 4)) aNil))) aNil))) aNil)) (gN 1) tYes' (wCall K4n.W_law_right (aCons (wCall K4.W_law_jar (aCons (wVar 0) (aCons (wVar 1) aNil))) aNil)) [1]) aNil)))
    sNil)
end K4n


set_option Elab.async false
set_option linter.all false
namespace K7n
open PySem PySem.Spec PyProof.Rows L2 Zq
def W_heard_figures : WFn := wBody 4 0 (sCons (sExpr (wCall K6.W_need_point (aCons (wVar 0) aNil)))
    (sCons (sExpr (wCall K3.W_need_fraction (aCons (wVar 1) aNil)))
    (sCons (sExpr (wCall K3.W_need_fraction (aCons (wVar 2) aNil)))
    (sCons (sExpr (wCall K4n.W_need_places (aCons (wVar 3) aNil)))
    (sCons (sRet (wCall K4n.W_with_point (aCons (wCall K7.W_floor_heard (aCons (wVar 0) (aCons (wTup (aCons (wVar 1) (aCons (wVar 2) aNil))) (aCons (wCall K4.W_ten_to (aCons (wVar 3) aNil)) aNil)))) (aCons (wVar 3) aNil))))
    sNil)))))
def W_law_right : WFn := wBody 1 16 (sCons (sFor (iR1 (aCons (wC (.int 3)) aNil)) (gN 1) (sCons (sPar3 2 3 4 (aCons (wCall K6.W_law_point (aCons (wVar 0) aNil)) (aCons (wCall K1.W_law_some (aCons (wVar 0) aNil)) (aCons (wCall K1.W_law_some (aCons (wVar 0) aNil)) aNil))))
    (sCons (sIf (wTest (wBin (fEq false) (wCall K1.W_law_dip (aCons (wVar 0) (aCons (wC (.int 4)) aNil))) (wC (.int 0)))) (sCons (sPar 3 4 (aCons (wBin fIx (wBin fIx (wVar 2) (wC (.int 0))) (wC (.int 0))) (aCons (wBin fIx (wBin fIx (wVar 2) (wC (.int 1))) (wC (.int 0))) aNil)))
    sNil) sNil)
    (sCons (sPar 5 6 (aCons (wCall K1.W_law_one_of (aCons (wVar 0) (aCons (wLst (aCons (wC (.int 1)) (aCons (wC (.int 2)) (aCons (wC (.int 7)) (aCons (wC (.int 10)) (aCons (wC (.int 100)) (aCons (wBin fPow (wC (.int 10)) (wC (.int 9))) (aCons (wBin fPow (wC (.int 10)) (wC (.int 30))) aNil)))))))) aNil))) (aCons (wCall K1.W_law_one_of (aCons (wVar 0) (aCons (wLst (aCons (wC (.int 0)) (aCons (wC (.int 1)) (aCons (wC (.int 2)) (aCons (wC (.int 5)) (aCons (wC (.int 20)) (aCons (wC (.int 40)) aNil))))))) aNil))) aNil)))
    (sCons (sSet 7 (wCall K6.W_law_heard_floor (aCons (wVar 2) (aCons (wVar 3) (aCons (wVar 4) (aCons (wVar 5) aNil))))))
    (sCons (sSet 8 (wLst (aCons (wCall K7.W_heard_floor (aCons (wVar 2) (aCons (wVar 3) (aCons (wVar 4) (aCons (wVar 5) aNil))))) (aCons (wCallK 4 [3, 2, 1, 0] K7.W_heard_floor (aCons (wVar 5) (aCons (wVar 4) (aCons (wVar 3) (aCons (wVar 2) aNil))))) aNil))))
    (sCons (sIf (tNot' (wTest (wCall K1.W_law_same (aCons (wVar 8) (aCons (wLst (aCons (wVar 7) (aCons (wVar 7) aNil))) aNil))))) (sCons (sRet (wC (.bl false)))
    sNil) sNil)
    (sCons (sSet 9 (wCall K4.W_law_figures (aCons (wCall K6.W_law_heard_floor (aCons (wVar 2) (aCons (wVar 3) (aCons (wVar 4) (aCons (wCall K4.W_law_ten (aCons (wVar 6) aNil)) aNil))))) (aCons (wVar 6) aNil))))
    (sCons (sSet 8 (wLst (aCons (wCall K7n.W_heard_figures (aCons (wVar 2) (aCons (wVar 3) (aCons (wVar 4) (aCons (wVar 6) aNil))))) aNil)))
    (sCons (sExpr (wApp (wVar 8) (wCallK 4 [3, 2, 1, 0] K7n.W_heard_figures (aCons (wVar 6) (aCons (wVar 4) (aCons (wVar 3) (aCons (wVar 2) aNil)))))))
    (sCons (sIf (tNot' (wTest (wCall K1.W_law_same (aCons (wVar 8) (aCons (wLst (aCons (wVar 9) (aCons (wVar 9) aNil))) aNil))))) (sCons (sRet (wC (.bl false)))
    sNil) sNil)
    (sCons (sAsg (wCall K6.W_law_pythagoras (aCons (wVar 0) aNil)) (gT 3 (gNC (gN 10) (gNC (gN 11) (gNC (gN 12) gN0)))))
    (sCons (sPar 13 14 (aCons (wCall K1.W_law_some (aCons (wVar 0) aNil)) (aCons (wTup (aCons (wC (.int 0)) (aCons (wC (.int 1)) aNil))) aNil)))
    (sCons (sSet 15 (wTup (aCons (wTup (aCons (wCall K1.W_law_plus (aCons (wVar 3) (aCons (wVar 10) aNil))) (aCons (wVar 14) aNil))) (aCons (wTup (aCons (wCall K1.W_law_plus (aCons (wVar 4) (aCons (wVar 11) aNil))) (aCons (wVar 14) aNil))) (aCons (wTup (aCons (wVar 13) (aCons (wVar 14) aNil))) (aCons (wVar 14) aNil))))))
    (sCons (sSet 16 (wCall K1.W_law_plus (aCons (wVar 13) (aCons (wVar 12) aNil))))
    (sCons (sIf (tNot' (wTest (wCall K1.W_law_same (aCons (wCall K7.W_heard_floor (aCons (wVar 15) (aCons (wVar 3) (aCons (wVar 4) (aCons (wVar 5) aNil))))) (aCons (wBin fDiv (wBin fMul (wBin fIx (wVar 16) (wC (.int 0))) (wVar 5)) (wBin fIx (wVar 16) (wC (.int 1)))) aNil))))) (sCons (sRet (wC (.bl false)))
    sNil) sNil)
    sNil))))))))))))))))
    (sCons (sRet (wC (.bl true)))
    sNil))
def W_law : WFn := wBody 1 1 (sCons (sRet (wB (bAll false) (aCons (wLc (iR1 (aCons (wB bMax (aCons (wC (.int 2)) (aCons (wB bMin (aCons (wB bLen (aCons (wVar 0) aNil)) (aCons (wC (.int 3)) aNil))) aNil))) aNil)) (gN 1) tYes' (wCall K7n.W_law_right (aCons (wCall K7.W_law_jar (aCons (wVar 0) (aCons (wVar 1) aNil))) aNil)) [1]) aNil)))
    sNil)
end K7n


set_option Elab.async false
set_option linter.all false
set_option maxRecDepth 100000
set_option maxHeartbeats 4000000
namespace K7n
open PySem PySem.Spec PyProof.Rows L2 Zq
structure Facts (K : PySem.W.Frag) (mg : Str → Option Value) : Prop where
  m_abs : mg "abs" = none
  m_all : mg "all" = none
  m_bool : mg "bool" = none
  m_divmod : mg "divmod" = none
  m_int : mg "int" = none
  m_isinstance : mg "isinstance" = none
  m_len : mg "len" = none
  m_max : mg "max" = none
  m_min : mg "min" = none
  m_range : mg "range" = none
  m_repr : mg "repr" = none
  m_str : mg "str" = none
  m_tuple : mg "tuple" = none
  m_gcd : mg "gcd" = some (.builtin "math.gcd")
  m_isqrt : mg "isqrt" = some (.builtin "math.isqrt")
  m_lcm : mg "lcm" = some (.builtin "math.lcm")
  c_AT_ONCE : Glb K mg "AT_ONCE" (.int 1000)
  c_MOST_PLACES : Glb K mg "MOST_PLACES" (.int 40)
  f_is_whole : ∃ ff fd, FunD K "is_whole" "is_whole" (defArgs (topS 7)) (defBody (topS 7)) (defScope (topS 7)) [] [] ff fd ∧ mg "is_whole" = some (.ref ff)
  f_is_tuple_of : ∃ ff fd, FunD K "is_tuple_of" "is_tuple_of" (defArgs (topS 8)) (defBody (topS 8)) (defScope (topS 8)) [] [] ff fd ∧ mg "is_tuple_of" = some (.ref ff)
  f_is_count : ∃ ff fd, FunD K "is_count" "is_count" (defArgs (topS 11)) (defBody (topS 11)) (defScope (topS 11)) [] [] ff fd ∧ mg "is_count" = some (.ref ff)
  f_need_many : ∃ ff fd, FunD K "need_many" "need_many" (defArgs (topS 12)) (defBody (topS 12)) (defScope (topS 12)) [] [] ff fd ∧ mg "need_many" = some (.ref ff)
  f_need_places : ∃ ff fd, FunD K "need_places" "need_places" (defArgs (topS 13)) (defBody (topS 13)) (defScope (topS 13)) [] [] ff fd ∧ mg "need_places" = some (.ref ff)
  f_ten_to : ∃ ff fd, FunD K "ten_to" "ten_to" (defArgs (topS 16)) (defBody (topS 16)) (defScope (topS 16)) [] [] ff fd ∧ mg "ten_to" = some (.ref ff)
  f_in_figures : ∃ ff fd, FunD K "in_figures" "in_figures" (defArgs (topS 17)) (defBody (topS 17)) (defScope (topS 17)) [] [] ff fd ∧ mg "in_figures" = some (.ref ff)
  f_with_point : ∃ ff fd, FunD K "with_point" "with_point" (defArgs (topS 18)) (defBody (topS 18)) (defScope (topS 18)) [] [] ff fd ∧ mg "with_point" = some (.ref ff)
  f_sign_of_whole : ∃ ff fd, FunD K "sign_of_whole" "sign_of_whole" (defArgs (topS 20)) (defBody (topS 20)) (defScope (topS 20)) [] [] ff fd ∧ mg "sign_of_whole" = some (.ref ff)
  f_sign_with_root : ∃ ff fd, FunD K "sign_with_root" "sign_with_root" (defArgs (topS 21)) (defBody (topS 21)) (defScope (topS 21)) [] [] ff fd ∧ mg "sign_with_root" = some (.ref ff)
  f_floor_with_root : ∃ ff fd, FunD K "floor_with_root" "floor_with_root" (defArgs (topS 22)) (defBody (topS 22)) (defScope (topS 22)) [] [] ff fd ∧ mg "floor_with_root" = some (.ref ff)
  f_on_one_bottom : ∃ ff fd, FunD K "on_one_bottom" "on_one_bottom" (defArgs (topS 23)) (defBody (topS 23)) (defScope (topS 23)) [] [] ff fd ∧ mg "on_one_bottom" = some (.ref ff)
  f_with_one_root : ∃ ff fd, FunD K "with_one_root" "with_one_root" (defArgs (topS 24)) (defBody (topS 24)) (defScope (topS 24)) [] [] ff fd ∧ mg "with_one_root" = some (.ref ff)
  f_spot_of : ∃ ff fd, FunD K "spot_of" "spot_of" (defArgs (topS 26)) (defBody (topS 26)) (defScope (topS 26)) [] [] ff fd ∧ mg "spot_of" = some (.ref ff)
  f_sign_heard_at : ∃ ff fd, FunD K "sign_heard_at" "sign_heard_at" (defArgs (topS 27)) (defBody (topS 27)) (defScope (topS 27)) [] [] ff fd ∧ mg "sign_heard_at" = some (.ref ff)
  f_sign_heard : ∃ ff fd, FunD K "sign_heard" "sign_heard" (defArgs (topS 28)) (defBody (topS 28)) (defScope (topS 28)) [] [] ff fd ∧ mg "sign_heard" = some (.ref ff)
  f_floor_heard : ∃ ff fd, FunD K "floor_heard" "floor_heard" (defArgs (topS 29)) (defBody (topS 29)) (defScope (topS 29)) [] [] ff fd ∧ mg "floor_heard" = some (.ref ff)
  f_is_fraction : ∃ ff fd, FunD K "is_fraction" "is_fraction" (defArgs (topS 31)) (defBody (topS 31)) (defScope (topS 31)) [] [] ff fd ∧ mg "is_fraction" = some (.ref ff)
  f_need_fraction : ∃ ff fd, FunD K "need_fraction" "need_fraction" (defArgs (topS 32)) (defBody (topS 32)) (defScope (topS 32)) [] [] ff fd ∧ mg "need_fraction" = some (.ref ff)
  f_is_pair : ∃ ff fd, FunD K "is_pair" "is_pair" (defArgs (topS 34)) (defBody (topS 34)) (defScope (topS 34)) [] [] ff fd ∧ mg "is_pair" = some (.ref ff)
  f_is_point : ∃ ff fd, FunD K "is_point" "is_point" (defArgs (topS 35)) (defBody (topS 35)) (defScope (topS 35)) [] [] ff fd ∧ mg "is_point" = some (.ref ff)
  f_need_point : ∃ ff fd, FunD K "need_point" "need_point" (defArgs (topS 36)) (defBody (topS 36)) (defScope (topS 36)) [] [] ff fd ∧ mg "need_point" = some (.ref ff)
  f_heard_floor : ∃ ff fd, FunD K "heard_floor" "heard_floor" (defArgs (topS 37)) (defBody (topS 37)) (defScope (topS 37)) [] [] ff fd ∧ mg "heard_floor" = some (.ref ff)
  f_heard_figures : ∃ ff fd, FunD K "heard_figures" "heard_figures" (defArgs (topS 38)) (defBody (topS 38)) (defScope (topS 38)) [] [] ff fd ∧ mg "heard_figures" = some (.ref ff)
  f_law_jar : ∃ ff fd, FunD K "_law_jar" "_law_jar" (defArgs (topS 40)) (defBody (topS 40)) (defScope (topS 40)) [] [] ff fd ∧ mg "_law_jar" = some (.ref ff)
  f_law_dip : ∃ ff fd, FunD K "_law_dip" "_law_dip" (defArgs (topS 41)) (defBody (topS 41)) (defScope (topS 41)) [] [] ff fd ∧ mg "_law_dip" = some (.ref ff)
  f_law_one_of : ∃ ff fd, FunD K "_law_one_of" "_law_one_of" (defArgs (topS 42)) (defBody (topS 42)) (defScope (topS 42)) [] [] ff fd ∧ mg "_law_one_of" = some (.ref ff)
  f_law_same : ∃ ff fd, FunD K "_law_same" "_law_same" (defArgs (topS 43)) (defBody (topS 43)) (defScope (topS 43)) [] [] ff fd ∧ mg "_law_same" = some (.ref ff)
  f_law_frac : ∃ ff fd, FunD K "_law_frac" "_law_frac" (defArgs (topS 44)) (defBody (topS 44)) (defScope (topS 44)) [] [] ff fd ∧ mg "_law_frac" = some (.ref ff)
  f_law_plus : ∃ ff fd, FunD K "_law_plus" "_law_plus" (defArgs (topS 45)) (defBody (topS 45)) (defScope (topS 45)) [] [] ff fd ∧ mg "_law_plus" = some (.ref ff)
  f_law_less : ∃ ff fd, FunD K "_law_less" "_law_less" (defArgs (topS 46)) (defBody (topS 46)) (defScope (topS 46)) [] [] ff fd ∧ mg "_law_less" = some (.ref ff)
  f_law_by : ∃ ff fd, FunD K "_law_by" "_law_by" (defArgs (topS 47)) (defBody (topS 47)) (defScope (topS 47)) [] [] ff fd ∧ mg "_law_by" = some (.ref ff)
  f_law_sgn : ∃ ff fd, FunD K "_law_sgn" "_law_sgn" (defArgs (topS 48)) (defBody (topS 48)) (defScope (topS 48)) [] [] ff fd ∧ mg "_law_sgn" = some (.ref ff)
  f_law_root_sign : ∃ ff fd, FunD K "_law_root_sign" "_law_root_sign" (defArgs (topS 49)) (defBody (topS 49)) (defScope (topS 49)) [] [] ff fd ∧ mg "_law_root_sign" = some (.ref ff)
  f_law_floor_root : ∃ ff fd, FunD K "_law_floor_root" "_law_floor_root" (defArgs (topS 50)) (defBody (topS 50)) (defScope (topS 50)) [] [] ff fd ∧ mg "_law_floor_root" = some (.ref ff)
  f_law_great : ∃ ff fd, FunD K "_law_great" "_law_great" (defArgs (topS 51)) (defBody (topS 51)) (defScope (topS 51)) [] [] ff fd ∧ mg "_law_great" = some (.ref ff)
  f_law_some : ∃ ff fd, FunD K "_law_some" "_law_some" (defArgs (topS 52)) (defBody (topS 52)) (defScope (topS 52)) [] [] ff fd ∧ mg "_law_some" = some (.ref ff)
  f_law_rootable : ∃ ff fd, FunD K "_law_rootable" "_law_rootable" (defArgs (topS 53)) (defBody (topS 53)) (defScope (topS 53)) [] [] ff fd ∧ mg "_law_rootable" = some (.ref ff)
  f_law_pair_times : ∃ ff fd, FunD K "_law_pair_times" "_law_pair_times" (defArgs (topS 54)) (defBody (topS 54)) (defScope (topS 54)) [] [] ff fd ∧ mg "_law_pair_times" = some (.ref ff)
  f_law_heard : ∃ ff fd, FunD K "_law_heard" "_law_heard" (defArgs (topS 55)) (defBody (topS 55)) (defScope (topS 55)) [] [] ff fd ∧ mg "_law_heard" = some (.ref ff)
  f_law_point : ∃ ff fd, FunD K "_law_point" "_law_point" (defArgs (topS 56)) (defBody (topS 56)) (defScope (topS 56)) [] [] ff fd ∧ mg "_law_point" = some (.ref ff)
  f_law_floor : ∃ ff fd, FunD K "_law_floor" "_law_floor" (defArgs (topS 57)) (defBody (topS 57)) (defScope (topS 57)) [] [] ff fd ∧ mg "_law_floor" = some (.ref ff)
  f_law_figures : ∃ ff fd, FunD K "_law_figures" "_law_figures" (defArgs (topS 58)) (defBody (topS 58)) (defScope (topS 58)) [] [] ff fd ∧ mg "_law_figures" = some (.ref ff)
  f_law_heard_floor : ∃ ff fd, FunD K "_law_heard_floor" "_law_heard_floor" (defArgs (topS 59)) (defBody (topS 59)) (defScope (topS 59)) [] [] ff fd ∧ mg "_law_heard_floor" = some (.ref ff)
  f_law_pythagoras : ∃ ff fd, FunD K "_law_pythagoras" "_law_pythagoras" (defArgs (topS 60)) (defBody (topS 60)) (defScope (topS 60)) [] [] ff fd ∧ mg "_law_pythagoras" = some (.ref ff)
  f_law_ten : ∃ ff fd, FunD K "_law_ten" "_law_ten" (defArgs (topS 61)) (defBody (topS 61)) (defScope (topS 61)) [] [] ff fd ∧ mg "_law_ten" = some (.ref ff)
  f_law_right : ∃ ff fd, FunD K "_law_right" "_law_right" (defArgs (topS 62)) (defBody (topS 62)) (defScope (topS 62)) [] [] ff fd ∧ mg "_law_right" = some (.ref ff)
  f_law : ∃ ff fd, FunD K "law" "law" (defArgs (topS 63)) (defBody (topS 63)) (defScope (topS 63)) [] [] ff fd ∧ mg "law" = some (.ref ff)
/-! is_whole -/
def N_is_whole : List Str := ["value"]
theorem sc_is_whole : FnScope N_is_whole ["value"] (defScope (topS 7)) := ⟨rfl, rfl, rfl, by decide +kernel, rfl, by decide +kernel, by decide +kernel⟩
theorem pos_is_whole : Pos0 "is_whole" (topS 7) ["value"] := fun _ _ _ _ _ _ us hl => match us, hl with | [_], _ => rfl
theorem k_is_whole {P : Program} {w : World} {K : PySem.W.Frag} {mg : Str → Option Value} {base : Heap} (C : Facts K mg) : Kn P w K mg base "is_whole" (topS 7) 1 1 ["value"] K1.W_is_whole := by
  obtain ⟨ff, fd, F, hm⟩ := C.f_is_whole
  refine kn_of (n := 1) (extra := 0) F hm sc_is_whole pos_is_whole rfl rfl fun f cdv A out s H E hr gd => ?_
  exact (dss_cons (ds_ret (de_and (de_b call_isi db_isi rfl C.m_isinstance (by decide +kernel) (da_cons (de_var 0) (da_cons (de_bltn rfl C.m_int (by decide +kernel)) da_nil))) (de_one (de_not (de_b call_isi db_isi rfl C.m_isinstance (by decide +kernel) (da_cons (de_var 0) (da_cons (de_bltn rfl C.m_bool (by decide +kernel)) da_nil)))))))
    dss_nil)
/-! is_tuple_of -/
def N_is_tuple_of : List Str := ["value", "least", "most"]
theorem sc_is_tuple_of : FnScope N_is_tuple_of ["value", "least", "most"] (defScope (topS 8)) := ⟨rfl, rfl, rfl, by decide +kernel, rfl, by decide +kernel, by decide +kernel⟩
theorem pos_is_tuple_of : Pos0 "is_tuple_of" (topS 8) ["value", "least", "most"] := fun _ _ _ _ _ _ us hl => match us, hl with | [_, _, _], _ => rfl
theorem k_is_tuple_of {P : Program} {w : World} {K : PySem.W.Frag} {mg : Str → Option Value} {base : Heap} (C : Facts K mg) : Kn P w K mg base "is_tuple_of" (topS 8) 1 3 ["value", "least", "most"] K1.W_is_tuple_of := by
  obtain ⟨ff, fd, F, hm⟩ := C.f_is_tuple_of
  refine kn_of (n := 3) (extra := 0) F hm sc_is_tuple_of pos_is_tuple_of rfl rfl fun f cdv A out s H E hr gd => ?_
  exact (dss_cons (ds_ret (de_and (de_b call_isi db_isi rfl C.m_isinstance (by decide +kernel) (da_cons (de_var 0) (da_cons (de_bltn rfl C.m_tuple (by decide +kernel)) da_nil))) (de_one (de_chain op_leAll op_leAll dop_Le dop_Le (de_var 1) (de_b call_len db_len rfl C.m_len (by decide +kernel) (da_cons (de_var 0) da_nil)) (de_var 2)))))
    dss_nil)
/-! is_count -/
def N_is_count : List Str := ["value", "least", "most"]
theorem sc_is_count : FnScope N_is_count ["value", "least", "most"] (defScope (topS 11)) := ⟨rfl, rfl, rfl, by decide +kernel, rfl, by decide +kernel, by decide +kernel⟩
theorem pos_is_count : Pos0 "is_count" (topS 11) ["value", "least", "most"] := fun _ _ _ _ _ _ us hl => match us, hl with | [_, _, _], _ => rfl
theorem k_is_count {P : Program} {w : World} {K : PySem.W.Frag} {mg : Str → Option Value} {base : Heap} (C : Facts K mg) : Kn P w K mg base "is_count" (topS 11) 2 3 ["value", "least", "most"] K4n.W_is_count := by
  obtain ⟨ff, fd, F, hm⟩ := C.f_is_count
  refine kn_of (n := 3) (extra := 0) F hm sc_is_count pos_is_count rfl rfl fun f cdv A out s H E hr gd => ?_
  exact (dss_cons (ds_ret (de_and (de_kn (k_is_whole C) wBody_arity (hr.mono (by decide)) gd (by rfl) (by rfl) (da_cons (de_var 0) da_nil)) (de_one (de_chain op_leAll op_leAll dop_Le dop_Le (de_var 1) (de_var 0) (de_var 2)))))
    dss_nil)
/-! need_many -/
def N_need_many : List Str := ["many"]
theorem sc_need_many : FnScope N_need_many ["many"] (defScope (topS 12)) := ⟨rfl, rfl, rfl, by decide +kernel, rfl, by decide +kernel, by decide +kernel⟩
theorem pos_need_many : Pos0 "need_many" (topS 12) ["many"] := fun _ _ _ _ _ _ us hl => match us, hl with | [_], _ => rfl
theorem k_need_many {P : Program} {w : World} {K : PySem.W.Frag} {mg : Str → Option Value} {base : Heap} (C : Facts K mg) : Kn P w K mg base "need_many" (topS 12) 2 1 ["many"] K4.W_need_many := by
  obtain ⟨ff, fd, F, hm⟩ := C.f_need_many
  refine kn_of (n := 1) (extra := 0) F hm sc_need_many pos_need_many rfl rfl fun f cdv A out s H E hr gd => ?_
  exact (dss_cons (ds_if (dt_w (dw_or (dt_not (dt_val (de_kn (k_is_whole C) wBody_arity (hr.mono (by decide)) gd (by rfl) (by rfl) (da_cons (de_var 0) da_nil)))) (dw_or1 (dt_cmp op_lt dop_Lt (de_var 0) de_int (nomark _))))) (dss_cons ds_never
    dss_nil) dss_nil)
    dss_nil)
/-! need_places -/
def N_need_places : List Str := ["places"]
theorem sc_need_places : FnScope N_need_places ["places"] (defScope (topS 13)) := ⟨rfl, rfl, rfl, by decide +kernel, rfl, by decide +kernel, by decide +kernel⟩
theorem pos_need_places : Pos0 "need_places" (topS 13) ["places"] := fun _ _ _ _ _ _ us hl => match us, hl with | [_], _ => rfl
theorem k_need_places {P : Program} {w : World} {K : PySem.W.Frag} {mg : Str → Option Value} {base : Heap} (C : Facts K mg) : Kn P w K mg base "need_places" (topS 13) 3 1 ["places"] K4n.W_need_places := by
  obtain ⟨ff, fd, F, hm⟩ := C.f_need_places
  refine kn_of (n := 1) (extra := 0) F hm sc_need_places pos_need_places rfl rfl fun f cdv A out s H E hr gd => ?_
  exact (dss_cons (ds_if (dt_not (dt_val (de_kn (k_is_count C) wBody_arity (hr.mono (by decide)) gd (by rfl) (by rfl) (da_cons (de_var 0) (da_cons de_int (da_cons (de_glob C.c_MOST_PLACES) da_nil)))))) (dss_cons ds_never
    dss_nil) dss_nil)
    dss_nil)
/-! ten_to -/
def N_ten_to : List Str := ["places", "power", "_"]
theorem sc_ten_to : FnScope N_ten_to ["places"] (defScope (topS 16)) := ⟨rfl, rfl, rfl, by decide +kernel, rfl, by decide +kernel, by decide +kernel⟩
theorem pos_ten_to : Pos0 "ten_to" (topS 16) ["places"] := fun _ _ _ _ _ _ us hl => match us, hl with | [_], _ => rfl
theorem k_ten_to {P : Program} {w : World} {K : PySem.W.Frag} {mg : Str → Option Value} {base : Heap} (C : Facts K mg) : Kn P w K mg base "ten_to" (topS 16) 1 1 ["places"] K4.W_ten_to := by
  obtain ⟨ff, fd, F, hm⟩ := C.f_ten_to
  refine kn_of (n := 1) (extra := 2) F hm sc_ten_to pos_ten_to rfl rfl fun f cdv A out s H E hr gd => ?_
  exact (dss_cons (ds_set (i := 1) sc_ten_to.nd rfl (by first | exact Or.inl rfl | exact Or.inr rfl) de_int)
    (dss_cons (ds_for PassesOwn.never rfl (di_range1 rfl C.m_range (da_cons (de_var 0) da_nil)) (dg_name (i := 2) sc_ten_to.nd rfl (by first | exact Or.inl rfl | exact Or.inr rfl)) (dss_cons (ds_aug (i := 1) sc_ten_to.nd rfl (by first | exact Or.inl rfl | exact Or.inr rfl) de_int ip_mulW dop_ipMul)
    dss_nil))
    (dss_cons (ds_ret (de_var 1))
    dss_nil)))
/-! in_figures -/
def N_in_figures : List Str := ["whole", "written", "by", "piece"]
theorem sc_in_figures : FnScope N_in_figures ["whole"] (defScope (topS 17)) := ⟨rfl, rfl, rfl, by decide +kernel, rfl, by decide +kernel, by decide +kernel⟩
theorem pos_in_figures : Pos0 "in_figures" (topS 17) ["whole"] := fun _ _ _ _ _ _ us hl => match us, hl with | [_], _ => rfl
theorem k_in_figures {P : Program} {w : World} {K : PySem.W.Frag} {mg : Str → Option Value} {base : Heap} (C : Facts K mg) : Kn P w K mg base "in_figures" (topS 17) 2 1 ["whole"] K4n.W_in_figures := by
  obtain ⟨ff, fd, F, hm⟩ := C.f_in_figures
  refine kn_of (n := 1) (extra := 3) F hm sc_in_figures pos_in_figures rfl rfl fun f cdv A out s H E hr gd => ?_
  exact (dss_cons (ds_par (i := 1) (j := 2) rfl sc_in_figures.nd rfl rfl (by decide) rfl rfl (da_cons de_str (da_cons (de_kn (k_ten_to C) wBody_arity (hr.mono (by decide)) gd (by rfl) (by rfl) (da_cons (de_glob C.c_AT_ONCE) da_nil)) da_nil)) (by rfl))
    (dss_cons (ds_while PassesOwn.never (dt_cmp op_ge dop_Ge (de_var 0) (de_var 2) (nomark _)) (dss_cons (ds_asg (de_b call_divmod db_divmod rfl C.m_divmod (by decide +kernel) (da_cons (de_var 0) (da_cons (de_var 2) da_nil))) (dg_tup rfl (dgs_cons (dg_name (i := 0) sc_in_figures.nd rfl (by first | exact Or.inl rfl | exact Or.inr rfl)) (dgs_cons (dg_name (i := 3) sc_in_figures.nd rfl (by first | exact Or.inl rfl | exact Or.inr rfl)) dgs_nil))))
    (dss_cons (ds_set (i := 1) sc_in_figures.nd rfl (by first | exact Or.inl rfl | exact Or.inr rfl) (de_add (de_zf (de_bt call_str_int db_str rfl C.m_str (by decide +kernel) (da_cons (de_var 3) da_nil)) (de_glob C.c_AT_ONCE)) (de_var 1)))
    dss_nil)))
    (dss_cons (ds_ret (de_add (de_bt call_str_int db_str rfl C.m_str (by decide +kernel) (da_cons (de_var 0) da_nil)) (de_var 1)))
    dss_nil)))
/-! with_point -/
def N_with_point : List Str := ["floor", "places", "written"]
theorem sc_with_point : FnScope N_with_point ["floor", "places"] (defScope (topS 18)) := ⟨rfl, rfl, rfl, by decide +kernel, rfl, by decide +kernel, by decide +kernel⟩
theorem pos_with_point : Pos0 "with_point" (topS 18) ["floor", "places"] := fun _ _ _ _ _ _ us hl => match us, hl with | [_, _], _ => rfl
theorem k_with_point {P : Program} {w : World} {K : PySem.W.Frag} {mg : Str → Option Value} {base : Heap} (C : Facts K mg) : Kn P w K mg base "with_point" (topS 18) 3 2 ["floor", "places"] K4n.W_with_point := by
  obtain ⟨ff, fd, F, hm⟩ := C.f_with_point
  refine kn_of (n := 2) (extra := 1) F hm sc_with_point pos_with_point rfl rfl fun f cdv A out s H E hr gd => ?_
  exact (dss_cons (ds_set (i := 2) sc_with_point.nd rfl (by first | exact Or.inl rfl | exact Or.inr rfl) (de_zf (de_kn (k_in_figures C) wBody_arity (hr.mono (by decide)) gd (by rfl) (by rfl) (da_cons (de_b call_abs db_abs rfl C.m_abs (by decide +kernel) (da_cons (de_var 0) da_nil)) da_nil)) (de_add (de_var 1) de_int)))
    (dss_cons (ds_if (dt_cmp op_gt dop_Gt (de_var 1) de_int (nomark _)) (dss_cons (ds_set (i := 2) sc_with_point.nd rfl (by first | exact Or.inl rfl | exact Or.inr rfl) (de_add (de_add (de_slice (de_var 2) do_none (do_some (de_neg (de_var 1)))) de_str) (de_slice (de_var 2) (do_some (de_neg (de_var 1))) do_none)))
    dss_nil) dss_nil)
    (dss_cons (ds_ret (de_if (dt_cmp op_lt dop_Lt (de_var 0) de_int (nomark _)) (de_add de_str (de_var 2)) (de_var 2)))
    dss_nil)))
/-! sign_of_whole -/
def N_sign_of_whole : List Str := ["whole"]
theorem sc_sign_of_whole : FnScope N_sign_of_whole ["whole"] (defScope (topS 20)) := ⟨rfl, rfl, rfl, by decide +kernel, rfl, by decide +kernel, by decide +kernel⟩
theorem pos_sign_of_whole : Pos0 "sign_of_whole" (topS 20) ["whole"] := fun _ _ _ _ _ _ us hl => match us, hl with | [_], _ => rfl
theorem k_sign_of_whole {P : Program} {w : World} {K : PySem.W.Frag} {mg : Str → Option Value} {base : Heap} (C : Facts K mg) : Kn P w K mg base "sign_of_whole" (topS 20) 1 1 ["whole"] K1.W_sign_of_whole := by
  obtain ⟨ff, fd, F, hm⟩ := C.f_sign_of_whole
  refine kn_of (n := 1) (extra := 0) F hm sc_sign_of_whole pos_sign_of_whole rfl rfl fun f cdv A out s H E hr gd => ?_
  exact (dss_cons (ds_if (dt_cmp op_gt dop_Gt (de_var 0) de_int (nomark _)) (dss_cons (ds_ret de_int)
    dss_nil) dss_nil)
    (dss_cons (ds_if (dt_cmp op_lt dop_Lt (de_var 0) de_int (nomark _)) (dss_cons (ds_ret (de_neg de_int))
    dss_nil) dss_nil)
    (dss_cons (ds_ret de_int)
    dss_nil)))
/-! sign_with_root -/
def N_sign_with_root : List Str := ["part", "factor", "square", "straight", "rooted"]
theorem sc_sign_with_root : FnScope N_sign_with_root ["part", "factor", "square"] (defScope (topS 21)) := ⟨rfl, rfl, rfl, by decide +kernel, rfl, by decide +kernel, by decide +kernel⟩
theorem pos_sign_with_root : Pos0 "sign_with_root" (topS 21) ["part", "factor", "square"] := fun _ _ _ _ _ _ us hl => match us, hl with | [_, _, _], _ => rfl
theorem k_sign_with_root {P : Program} {w : World} {K : PySem.W.Frag} {mg : Str → Option Value} {base : Heap} (C : Facts K mg) : Kn P w K mg base "sign_with_root" (topS 21) 2 3 ["part", "factor", "square"] K1.W_sign_with_root := by
  obtain ⟨ff, fd, F, hm⟩ := C.f_sign_with_root
  refine kn_of (n := 3) (extra := 2) F hm sc_sign_with_root pos_sign_with_root rfl rfl fun f cdv A out s H E hr gd => ?_
  exact (dss_cons (ds_par (i := 3) (j := 4) rfl sc_sign_with_root.nd rfl rfl (by decide) rfl rfl (da_cons (de_kn (k_sign_of_whole C) wBody_arity (hr.mono (by decide)) gd (by rfl) (by rfl) (da_cons (de_var 0) da_nil)) (da_cons (de_kn (k_sign_of_whole C) wBody_arity (hr.mono (by decide)) gd (by rfl) (by rfl) (da_cons (de_mul (de_var 1) (de_var 2)) da_nil)) da_nil)) (by rfl))
    (dss_cons (ds_if (dt_cmp (op_neAll hr.units) dop_eq (de_add (de_var 3) (de_var 4)) de_int (nomark _)) (dss_cons (ds_ret (de_kn (k_sign_of_whole C) wBody_arity (hr.mono (by decide)) gd (by rfl) (by rfl) (da_cons (de_add (de_var 3) (de_var 4)) da_nil)))
    dss_nil) dss_nil)
    (dss_cons (ds_ret (de_mul (de_var 3) (de_kn (k_sign_of_whole C) wBody_arity (hr.mono (by decide)) gd (by rfl) (by rfl) (da_cons (de_sub (de_mul (de_var 0) (de_var 0)) (de_mul (de_mul (de_var 1) (de_var 1)) (de_var 2))) da_nil))))
    dss_nil)))
/-! floor_with_root -/
def N_floor_with_root : List Str := ["part", "factor", "square", "bottom", "rooted", "whole"]
theorem sc_floor_with_root : FnScope N_floor_with_root ["part", "factor", "square", "bottom"] (defScope (topS 22)) := ⟨rfl, rfl, rfl, by decide +kernel, rfl, by decide +kernel, by decide +kernel⟩
theorem pos_floor_with_root : Pos0 "floor_with_root" (topS 22) ["part", "factor", "square", "bottom"] := fun _ _ _ _ _ _ us hl => match us, hl with | [_, _, _, _], _ => rfl
theorem k_floor_with_root {P : Program} {w : World} {K : PySem.W.Frag} {mg : Str → Option Value} {base : Heap} (C : Facts K mg) : Kn P w K mg base "floor_with_root" (topS 22) 1 4 ["part", "factor", "square", "bottom"] K4.W_floor_with_root := by
  obtain ⟨ff, fd, F, hm⟩ := C.f_floor_with_root
  refine kn_of (n := 4) (extra := 2) F hm sc_floor_with_root pos_floor_with_root rfl rfl fun f cdv A out s H E hr gd => ?_
  exact (dss_cons (ds_set (i := 4) sc_floor_with_root.nd rfl (by first | exact Or.inl rfl | exact Or.inr rfl) (de_mul (de_mul (de_var 1) (de_var 1)) (de_var 2)))
    (dss_cons (ds_set (i := 5) sc_floor_with_root.nd rfl (by first | exact Or.inl rfl | exact Or.inr rfl) (de_bm cr_isqrt db_isqrt rfl C.m_isqrt (da_cons (de_var 4) da_nil)))
    (dss_cons (ds_if (dt_cmp op_lt dop_Lt (de_var 1) de_int (nomark _)) (dss_cons (ds_set (i := 5) sc_floor_with_root.nd rfl (by first | exact Or.inl rfl | exact Or.inr rfl) (de_if (dt_cmp (op_eqAll hr.units) dop_eq (de_mul (de_var 5) (de_var 5)) (de_var 4) (nomark _)) (de_neg (de_var 5)) (de_sub (de_neg (de_var 5)) de_int)))
    dss_nil) dss_nil)
    (dss_cons (ds_ret (de_div (de_add (de_var 0) (de_var 5)) (de_var 3)))
    dss_nil))))
/-! on_one_bottom -/
def N_on_one_bottom : List Str := ["fractions", "bottom", "fraction", "top", "under"]
theorem sc_on_one_bottom : FnScope N_on_one_bottom ["fractions"] (defScope (topS 23)) := ⟨rfl, rfl, rfl, by decide +kernel, rfl, by decide +kernel, by decide +kernel⟩
theorem pos_on_one_bottom : Pos0 "on_one_bottom" (topS 23) ["fractions"] := fun _ _ _ _ _ _ us hl => match us, hl with | [_], _ => rfl
theorem k_on_one_bottom {P : Program} {w : World} {K : PySem.W.Frag} {mg : Str → Option Value} {base : Heap} (C : Facts K mg) : Kn P w K mg base "on_one_bottom" (topS 23) 1 1 ["fractions"] K6.W_on_one_bottom := by
  obtain ⟨ff, fd, F, hm⟩ := C.f_on_one_bottom
  refine kn_of (n := 1) (extra := 4) F hm sc_on_one_bottom pos_on_one_bottom rfl rfl fun f cdv A out s H E hr gd => ?_
  exact (dss_cons (ds_set (i := 1) sc_on_one_bottom.nd rfl (by first | exact Or.inl rfl | exact Or.inr rfl) de_int)
    (dss_cons (ds_for PassesOwn.never rfl (di_seq (de_var 0)) (dg_name (i := 2) sc_on_one_bottom.nd rfl (by first | exact Or.inl rfl | exact Or.inr rfl)) (dss_cons (ds_set (i := 1) sc_on_one_bottom.nd rfl (by first | exact Or.inl rfl | exact Or.inr rfl) (de_bm cr_lcm db_lcm rfl C.m_lcm (da_cons (de_var 1) (da_cons (de_ix (de_var 2) de_int) da_nil))))
    dss_nil))
    (dss_cons (ds_ret (de_tup (da_cons (de_lc (own := [("top", 3), ("under", 4)]) rfl sc_on_one_bottom.nd (di_seq (de_var 0)) (blkOk_by (N := N_on_one_bottom) (sc := defScope (topS 23)) (own := [("top", 3), ("under", 4)]) (by decide +kernel)) (fun _ _ _ _ _ => (dgo_tup rfl (dgso_cons (dgo_name (i := 3) (by decide) sc_on_one_bottom.nd rfl (by first | exact Or.inl rfl | exact Or.inr rfl)) (dgso_cons (dgo_name (i := 4) (by decide) sc_on_one_bottom.nd rfl (by first | exact Or.inl rfl | exact Or.inr rfl)) dgso_nil)))) (fun _ _ _ _ _ => dts_nil) (fun _ _ _ _ _ => (de_mul (de_var 3) (de_div (de_var 1) (de_var 4))))) (da_cons (de_var 1) da_nil))))
    dss_nil)))
/-! with_one_root -/
def N_with_one_root : List Str := ["pairs", "root", "top", "under", "bottom", "part", "factor", "wholes", "p", "m", "q", "k"]
theorem sc_with_one_root : FnScope N_with_one_root ["pairs", "root"] (defScope (topS 24)) := ⟨rfl, rfl, rfl, by decide +kernel, rfl, by decide +kernel, by decide +kernel⟩
theorem pos_with_one_root : Pos0 "with_one_root" (topS 24) ["pairs", "root"] := fun _ _ _ _ _ _ us hl => match us, hl with | [_, _], _ => rfl
theorem k_with_one_root {P : Program} {w : World} {K : PySem.W.Frag} {mg : Str → Option Value} {base : Heap} (C : Facts K mg) : Kn P w K mg base "with_one_root" (topS 24) 1 2 ["pairs", "root"] K1.W_with_one_root := by
  obtain ⟨ff, fd, F, hm⟩ := C.f_with_one_root
  refine kn_of (n := 2) (extra := 10) F hm sc_with_one_root pos_with_one_root rfl rfl fun f cdv A out s H E hr gd => ?_
  exact (dss_cons (ds_asg (de_var 1) (dg_tup rfl (dgs_cons (dg_name (i := 2) sc_with_one_root.nd rfl (by first | exact Or.inl rfl | exact Or.inr rfl)) (dgs_cons (dg_name (i := 3) sc_with_one_root.nd rfl (by first | exact Or.inl rfl | exact Or.inr rfl)) dgs_nil))))
    (dss_cons (ds_set (i := 4) sc_with_one_root.nd rfl (by first | exact Or.inl rfl | exact Or.inr rfl) de_int)
    (dss_cons (ds_for PassesOwn.never rfl (di_seq (de_var 0)) (dg_tup rfl (dgs_cons (dg_name (i := 5) sc_with_one_root.nd rfl (by first | exact Or.inl rfl | exact Or.inr rfl)) (dgs_cons (dg_name (i := 6) sc_with_one_root.nd rfl (by first | exact Or.inl rfl | exact Or.inr rfl)) dgs_nil))) (dss_cons (ds_set (i := 4) sc_with_one_root.nd rfl (by first | exact Or.inl rfl | exact Or.inr rfl) (de_bm cr_lcm db_lcm rfl C.m_lcm (da_cons (de_var 4) (da_cons (de_ix (de_var 5) de_int) (da_cons (de_mul (de_ix (de_var 6) de_int) (de_var 3)) da_nil)))))
    dss_nil))
    (dss_cons (ds_setLc (i := 7) (own := [("p", 8), ("m", 9), ("q", 10), ("k", 11)]) rfl sc_with_one_root.nd rfl rfl (sw_true rfl rfl rfl (by decide +kernel)) (di_seq (de_var 0)) (blkOk_by (N := N_with_one_root) (sc := defScope (topS 24)) (own := [("p", 8), ("m", 9), ("q", 10), ("k", 11)]) (by decide +kernel)) (fun _ _ _ _ _ => (dgo_tup rfl (dgso_cons (dgo_tup rfl (dgso_cons (dgo_name (i := 8) (by decide) sc_with_one_root.nd rfl (by first | exact Or.inl rfl | exact Or.inr rfl)) (dgso_cons (dgo_name (i := 9) (by decide) sc_with_one_root.nd rfl (by first | exact Or.inl rfl | exact Or.inr rfl)) dgso_nil))) (dgso_cons (dgo_tup rfl (dgso_cons (dgo_name (i := 10) (by decide) sc_with_one_root.nd rfl (by first | exact Or.inl rfl | exact Or.inr rfl)) (dgso_cons (dgo_name (i := 11) (by decide) sc_with_one_root.nd rfl (by first | exact Or.inl rfl | exact Or.inr rfl)) dgso_nil))) dgso_nil)))) (fun _ _ _ _ _ => dts_nil) (fun _ _ _ _ _ => (de_tup (da_cons (de_mul (de_var 8) (de_div (de_var 4) (de_var 9))) (da_cons (de_mul (de_var 10) (de_div (de_var 4) (de_mul (de_var 11) (de_var 3)))) da_nil)))))
    (dss_cons (ds_ret (de_tup (da_cons (de_var 7) (da_cons (de_mul (de_var 2) (de_var 3)) (da_cons (de_var 4) da_nil)))))
    dss_nil)))))
/-! spot_of -/
def N_spot_of : List Str := ["point"]
theorem sc_spot_of : FnScope N_spot_of ["point"] (defScope (topS 26)) := ⟨rfl, rfl, rfl, by decide +kernel, rfl, by decide +kernel, by decide +kernel⟩
theorem pos_spot_of : Pos0 "spot_of" (topS 26) ["point"] := fun _ _ _ _ _ _ us hl => match us, hl with | [_], _ => rfl
theorem k_spot_of {P : Program} {w : World} {K : PySem.W.Frag} {mg : Str → Option Value} {base : Heap} (C : Facts K mg) : Kn P w K mg base "spot_of" (topS 26) 2 1 ["point"] K6.W_spot_of := by
  obtain ⟨ff, fd, F, hm⟩ := C.f_spot_of
  refine kn_of (n := 1) (extra := 0) F hm sc_spot_of pos_spot_of rfl rfl fun f cdv A out s H E hr gd => ?_
  exact (dss_cons (ds_ret (de_kn (k_with_one_root C) wBody_arity (hr.mono (by decide)) gd (by rfl) (by rfl) (da_cons (de_slice (de_var 0) do_none (do_some de_int)) (da_cons (de_ix (de_var 0) de_int) da_nil))))
    dss_nil)
/-! sign_heard_at -/
def N_sign_heard_at : List Str := ["spot", "tops", "scale", "wholes", "square", "bottom", "east", "north", "late", "x", "x_factor", "y", "y_factor", "t", "t_factor", "p", "q", "part"]
theorem sc_sign_heard_at : FnScope N_sign_heard_at ["spot", "tops", "scale"] (defScope (topS 27)) := ⟨rfl, rfl, rfl, by decide +kernel, rfl, by decide +kernel, by decide +kernel⟩
theorem pos_sign_heard_at : Pos0 "sign_heard_at" (topS 27) ["spot", "tops", "scale"] := fun _ _ _ _ _ _ us hl => match us, hl with | [_, _, _], _ => rfl
theorem k_sign_heard_at {P : Program} {w : World} {K : PySem.W.Frag} {mg : Str → Option Value} {base : Heap} (C : Facts K mg) : Kn P w K mg base "sign_heard_at" (topS 27) 3 3 ["spot", "tops", "scale"] K6.W_sign_heard_at := by
  obtain ⟨ff, fd, F, hm⟩ := C.f_sign_heard_at
  refine kn_of (n := 3) (extra := 15) F hm sc_sign_heard_at pos_sign_heard_at rfl rfl fun f cdv A out s H E hr gd => ?_
  exact (dss_cons (ds_asg (de_var 0) (dg_tupL rfl (dgs_cons (dg_name (i := 3) sc_sign_heard_at.nd rfl (by first | exact Or.inl rfl | exact Or.inr rfl)) (dgs_cons (dg_name (i := 4) sc_sign_heard_at.nd rfl (by first | exact Or.inl rfl | exact Or.inr rfl)) (dgs_cons (dg_name (i := 5) sc_sign_heard_at.nd rfl (by first | exact Or.inl rfl | exact Or.inr rfl)) dgs_nil)))))
    (dss_cons (ds_asg (de_var 1) (dg_tupL rfl (dgs_cons (dg_name (i := 6) sc_sign_heard_at.nd rfl (by first | exact Or.inl rfl | exact Or.inr rfl)) (dgs_cons (dg_name (i := 7) sc_sign_heard_at.nd rfl (by first | exact Or.inl rfl | exact Or.inr rfl)) (dgs_cons (dg_name (i := 8) sc_sign_heard_at.nd rfl (by first | exact Or.inl rfl | exact Or.inr rfl)) dgs_nil)))))
    (dss_cons (ds_asg (de_lc (own := [("p", 15), ("q", 16)]) rfl sc_sign_heard_at.nd (di_seq (de_var 3)) (blkOk_by (N := N_sign_heard_at) (sc := defScope (topS 27)) (own := [("p", 15), ("q", 16)]) (by decide +kernel)) (fun _ _ _ _ _ => (dgo_tup rfl (dgso_cons (dgo_name (i := 15) (by decide) sc_sign_heard_at.nd rfl (by first | exact Or.inl rfl | exact Or.inr rfl)) (dgso_cons (dgo_name (i := 16) (by decide) sc_sign_heard_at.nd rfl (by first | exact Or.inl rfl | exact Or.inr rfl)) dgso_nil)))) (fun _ _ _ _ _ => dts_nil) (fun _ _ _ _ _ => (de_tup (da_cons (de_mul (de_var 15) (de_var 2)) (da_cons (de_mul (de_var 16) (de_var 2)) da_nil))))) (dg_tupL rfl (dgs_cons (dg_tupL rfl (dgs_cons (dg_name (i := 9) sc_sign_heard_at.nd rfl (by first | exact Or.inl rfl | exact Or.inr rfl)) (dgs_cons (dg_name (i := 10) sc_sign_heard_at.nd rfl (by first | exact Or.inl rfl | exact Or.inr rfl)) dgs_nil))) (dgs_cons (dg_tupL rfl (dgs_cons (dg_name (i := 11) sc_sign_heard_at.nd rfl (by first | exact Or.inl rfl | exact Or.inr rfl)) (dgs_cons (dg_name (i := 12) sc_sign_heard_at.nd rfl (by first | exact Or.inl rfl | exact Or.inr rfl)) dgs_nil))) (dgs_cons (dg_tupL rfl (dgs_cons (dg_name (i := 13) sc_sign_heard_at.nd rfl (by first | exact Or.inl rfl | exact Or.inr rfl)) (dgs_cons (dg_name (i := 14) sc_sign_heard_at.nd rfl (by first | exact Or.inl rfl | exact Or.inr rfl)) dgs_nil))) dgs_nil)))))
    (dss_cons (ds_par3 (i := 9) (j := 11) (l := 13) rfl sc_sign_heard_at.nd rfl rfl rfl (by decide) (by decide) (by decide) rfl rfl rfl (da_cons (de_sub (de_var 9) (de_mul (de_var 6) (de_var 5))) (da_cons (de_sub (de_var 11) (de_mul (de_var 7) (de_var 5))) (da_cons (de_sub (de_var 13) (de_mul (de_var 8) (de_var 5))) da_nil))) (by rfl))
    (dss_cons (ds_if (dt_cmp op_gt dop_Gt (de_kn (k_sign_with_root C) wBody_arity (hr.mono (by decide)) gd (by rfl) (by rfl) (da_cons (de_var 13) (da_cons (de_var 14) (da_cons (de_var 4) da_nil)))) de_int (nomark _)) (dss_cons (ds_ret de_int)
    dss_nil) dss_nil)
    (dss_cons (ds_set (i := 17) sc_sign_heard_at.nd rfl (by first | exact Or.inl rfl | exact Or.inr rfl) (de_add (de_sub (de_add (de_mul (de_var 9) (de_var 9)) (de_mul (de_var 11) (de_var 11))) (de_mul (de_var 13) (de_var 13))) (de_mul (de_sub (de_add (de_mul (de_var 10) (de_var 10)) (de_mul (de_var 12) (de_var 12))) (de_mul (de_var 14) (de_var 14))) (de_var 4))))
    (dss_cons (ds_ret (de_kn (k_sign_with_root C) wBody_arity (hr.mono (by decide)) gd (by rfl) (by rfl) (da_cons (de_var 17) (da_cons (de_mul de_int (de_sub (de_add (de_mul (de_var 9) (de_var 10)) (de_mul (de_var 11) (de_var 12))) (de_mul (de_var 13) (de_var 14)))) (da_cons (de_var 4) da_nil)))))
    dss_nil)))))))
/-! sign_heard -/
def N_sign_heard : List Str := ["point", "place", "moment", "tops", "scale"]
theorem sc_sign_heard : FnScope N_sign_heard ["point", "place", "moment"] (defScope (topS 28)) := ⟨rfl, rfl, rfl, by decide +kernel, rfl, by decide +kernel, by decide +kernel⟩
theorem pos_sign_heard : Pos0 "sign_heard" (topS 28) ["point", "place", "moment"] := fun _ _ _ _ _ _ us hl => match us, hl with | [_, _, _], _ => rfl
theorem k_sign_heard {P : Program} {w : World} {K : PySem.W.Frag} {mg : Str → Option Value} {base : Heap} (C : Facts K mg) : Kn P w K mg base "sign_heard" (topS 28) 4 3 ["point", "place", "moment"] K6.W_sign_heard := by
  obtain ⟨ff, fd, F, hm⟩ := C.f_sign_heard
  refine kn_of (n := 3) (extra := 2) F hm sc_sign_heard pos_sign_heard rfl rfl fun f cdv A out s H E hr gd => ?_
  exact (dss_cons (ds_asg (de_kn (k_on_one_bottom C) wBody_arity (hr.mono (by decide)) gd (by rfl) (by rfl) (da_cons (de_lst (da_star (de_var 1) (da_cons (de_var 2) da_nil))) da_nil)) (dg_tupL rfl (dgs_cons (dg_name (i := 3) sc_sign_heard.nd rfl (by first | exact Or.inl rfl | exact Or.inr rfl)) (dgs_cons (dg_name (i := 4) sc_sign_heard.nd rfl (by first | exact Or.inl rfl | exact Or.inr rfl)) dgs_nil))))
    (dss_cons (ds_ret (de_kn (k_sign_heard_at C) wBody_arity (hr.mono (by decide)) gd (by rfl) (by rfl) (da_cons (de_kn (k_spot_of C) wBody_arity (hr.mono (by decide)) gd (by rfl) (by rfl) (da_cons (de_var 0) da_nil)) (da_cons (de_var 3) (da_cons (de_var 4) da_nil)))))
    dss_nil))
/-! floor_heard -/
def N_floor_heard : List Str := ["point", "place", "many", "wholes", "square", "bottom", "east", "north", "scale", "x", "x_factor", "y", "y_factor", "t", "t_factor", "part", "factor", "near", "distance", "low"]
theorem sc_floor_heard : FnScope N_floor_heard ["point", "place", "many"] (defScope (topS 29)) := ⟨rfl, rfl, rfl, by decide +kernel, rfl, by decide +kernel, by decide +kernel⟩
theorem pos_floor_heard : Pos0 "floor_heard" (topS 29) ["point", "place", "many"] := fun _ _ _ _ _ _ us hl => match us, hl with | [_, _, _], _ => rfl
theorem k_floor_heard {P : Program} {w : World} {K : PySem.W.Frag} {mg : Str → Option Value} {base : Heap} (C : Facts K mg) : Kn P w K mg base "floor_heard" (topS 29) 5 3 ["point", "place", "many"] K7.W_floor_heard := by
  obtain ⟨ff, fd, F, hm⟩ := C.f_floor_heard
  refine kn_of (n := 3) (extra := 17) F hm sc_floor_heard pos_floor_heard rfl rfl fun f cdv A out s H E hr gd => ?_
  exact (dss_cons (ds_asg (de_kn (k_spot_of C) wBody_arity (hr.mono (by decide)) gd (by rfl) (by rfl) (da_cons (de_var 0) da_nil)) (dg_tupL rfl (dgs_cons (dg_name (i := 3) sc_floor_heard.nd rfl (by first | exact Or.inl rfl | exact Or.inr rfl)) (dgs_cons (dg_name (i := 4) sc_floor_heard.nd rfl (by first | exact Or.inl rfl | exact Or.inr rfl)) (dgs_cons (dg_name (i := 5) sc_floor_heard.nd rfl (by first | exact Or.inl rfl | exact Or.inr rfl)) dgs_nil)))))
    (dss_cons (ds_asg (de_kn (k_on_one_bottom C) wBody_arity (hr.mono (by decide)) gd (by rfl) (by rfl) (da_cons (de_var 1) da_nil)) (dg_tupL rfl (dgs_cons (dg_tupL rfl (dgs_cons (dg_name (i := 6) sc_floor_heard.nd rfl (by first | exact Or.inl rfl | exact Or.inr rfl)) (dgs_cons (dg_name (i := 7) sc_floor_heard.nd rfl (by first | exact Or.inl rfl | exact Or.inr rfl)) dgs_nil))) (dgs_cons (dg_name (i := 8) sc_floor_heard.nd rfl (by first | exact Or.inl rfl | exact Or.inr rfl)) dgs_nil))))
    (dss_cons (ds_asg (de_var 3) (dg_tupL rfl (dgs_cons (dg_tupL rfl (dgs_cons (dg_name (i := 9) sc_floor_heard.nd rfl (by first | exact Or.inl rfl | exact Or.inr rfl)) (dgs_cons (dg_name (i := 10) sc_floor_heard.nd rfl (by first | exact Or.inl rfl | exact Or.inr rfl)) dgs_nil))) (dgs_cons (dg_tupL rfl (dgs_cons (dg_name (i := 11) sc_floor_heard.nd rfl (by first | exact Or.inl rfl | exact Or.inr rfl)) (dgs_cons (dg_name (i := 12) sc_floor_heard.nd rfl (by first | exact Or.inl rfl | exact Or.inr rfl)) dgs_nil))) (dgs_cons (dg_tupL rfl (dgs_cons (dg_name (i := 13) sc_floor_heard.nd rfl (by first | exact Or.inl rfl | exact Or.inr rfl)) (dgs_cons (dg_name (i := 14) sc_floor_heard.nd rfl (by first | exact Or.inl rfl | exact Or.inr rfl)) dgs_nil))) dgs_nil)))))
    (dss_cons (ds_asg (de_tup (da_cons (de_mul (de_var 9) (de_var 8)) (da_cons (de_mul (de_var 10) (de_var 8)) (da_cons (de_mul (de_var 11) (de_var 8)) (da_cons (de_mul (de_var 12) (de_var 8)) da_nil))))) (dg_tupL rfl (dgs_cons (dg_name (i := 9) sc_floor_heard.nd rfl (by first | exact Or.inl rfl | exact Or.inr rfl)) (dgs_cons (dg_name (i := 10) sc_floor_heard.nd rfl (by first | exact Or.inl rfl | exact Or.inr rfl)) (dgs_cons (dg_name (i := 11) sc_floor_heard.nd rfl (by first | exact Or.inl rfl | exact Or.inr rfl)) (dgs_cons (dg_name (i := 12) sc_floor_heard.nd rfl (by first | exact Or.inl rfl | exact Or.inr rfl)) dgs_nil))))))
    (dss_cons (ds_par (i := 9) (j := 11) rfl sc_floor_heard.nd rfl rfl (by decide) rfl rfl (da_cons (de_sub (de_var 9) (de_mul (de_var 6) (de_var 5))) (da_cons (de_sub (de_var 11) (de_mul (de_var 7) (de_var 5))) da_nil)) (by rfl))
    (dss_cons (ds_set (i := 15) sc_floor_heard.nd rfl (by first | exact Or.inl rfl | exact Or.inr rfl) (de_add (de_add (de_mul (de_var 9) (de_var 9)) (de_mul (de_var 11) (de_var 11))) (de_mul (de_add (de_mul (de_var 10) (de_var 10)) (de_mul (de_var 12) (de_var 12))) (de_var 4))))
    (dss_cons (ds_set (i := 16) sc_floor_heard.nd rfl (by first | exact Or.inl rfl | exact Or.inr rfl) (de_mul de_int (de_add (de_mul (de_var 9) (de_var 10)) (de_mul (de_var 11) (de_var 12)))))
    (dss_cons (ds_set (i := 17) sc_floor_heard.nd rfl (by first | exact Or.inl rfl | exact Or.inr rfl) (de_mul (de_var 2) (de_var 2)))
    (dss_cons (ds_set (i := 18) sc_floor_heard.nd rfl (by first | exact Or.inl rfl | exact Or.inr rfl) (de_bm cr_isqrt db_isqrt rfl C.m_isqrt (da_cons (de_kn (k_floor_with_root C) wBody_arity (hr.mono (by decide)) gd (by rfl) (by rfl) (da_cons (de_mul (de_var 15) (de_var 17)) (da_cons (de_mul (de_var 16) (de_var 17)) (da_cons (de_var 4) (da_cons (de_mul (de_mul (de_mul (de_var 5) (de_var 5)) (de_var 8)) (de_var 8)) da_nil))))) da_nil)))
    (dss_cons (ds_set (i := 19) sc_floor_heard.nd rfl (by first | exact Or.inl rfl | exact Or.inr rfl) (de_add (de_kn (k_floor_with_root C) wBody_arity (hr.mono (by decide)) gd (by rfl) (by rfl) (da_cons (de_mul (de_var 13) (de_var 2)) (da_cons (de_mul (de_var 14) (de_var 2)) (da_cons (de_var 4) (da_cons (de_var 5) da_nil))))) (de_var 18)))
    (dss_cons (ds_if (dt_cmp op_ge dop_Ge (de_kn (k_sign_heard C) wBody_arity (hr.mono (by decide)) gd (by rfl) (by rfl) (da_cons (de_var 0) (da_cons (de_var 1) (da_cons (de_tup (da_cons (de_add (de_var 19) de_int) (da_cons (de_var 2) da_nil))) da_nil)))) de_int (nomark _)) (dss_cons (ds_ret (de_add (de_var 19) de_int))
    dss_nil) dss_nil)
    (dss_cons (ds_ret (de_var 19))
    dss_nil))))))))))))
/-! is_fraction -/
def N_is_fraction : List Str := ["value", "top", "bottom"]
theorem sc_is_fraction : FnScope N_is_fraction ["value"] (defScope (topS 31)) := ⟨rfl, rfl, rfl, by decide +kernel, rfl, by decide +kernel, by decide +kernel⟩
theorem pos_is_fraction : Pos0 "is_fraction" (topS 31) ["value"] := fun _ _ _ _ _ _ us hl => match us, hl with | [_], _ => rfl
theorem k_is_fraction {P : Program} {w : World} {K : PySem.W.Frag} {mg : Str → Option Value} {base : Heap} (C : Facts K mg) : Kn P w K mg base "is_fraction" (topS 31) 2 1 ["value"] K1.W_is_fraction := by
  obtain ⟨ff, fd, F, hm⟩ := C.f_is_fraction
  refine kn_of (n := 1) (extra := 2) F hm sc_is_fraction pos_is_fraction rfl rfl fun f cdv A out s H E hr gd => ?_
  exact (dss_cons (ds_if (dt_not (dt_val (de_kn (k_is_tuple_of C) wBody_arity (hr.mono (by decide)) gd (by rfl) (by rfl) (da_cons (de_var 0) (da_cons de_int (da_cons de_int da_nil)))))) (dss_cons (ds_ret de_bl)
    dss_nil) dss_nil)
    (dss_cons (ds_asg (de_var 0) (dg_tup rfl (dgs_cons (dg_name (i := 1) sc_is_fraction.nd rfl (by first | exact Or.inl rfl | exact Or.inr rfl)) (dgs_cons (dg_name (i := 2) sc_is_fraction.nd rfl (by first | exact Or.inl rfl | exact Or.inr rfl)) dgs_nil))))
    (dss_cons (ds_ret (de_and (de_kn (k_is_whole C) wBody_arity (hr.mono (by decide)) gd (by rfl) (by rfl) (da_cons (de_var 1) da_nil)) (de_and (de_kn (k_is_whole C) wBody_arity (hr.mono (by decide)) gd (by rfl) (by rfl) (da_cons (de_var 2) da_nil)) (de_and (de_cmp op_gt dop_Gt (de_var 2) de_int (nomark _)) (de_one (de_cmp (op_eqAll hr.units) dop_eq (de_bm cr_gcd db_gcd rfl C.m_gcd (da_cons (de_var 1) (da_cons (de_var 2) da_nil))) de_int (nomark _)))))))
    dss_nil)))
/-! need_fraction -/
def N_need_fraction : List Str := ["fraction"]
theorem sc_need_fraction : FnScope N_need_fraction ["fraction"] (defScope (topS 32)) := ⟨rfl, rfl, rfl, by decide +kernel, rfl, by decide +kernel, by decide +kernel⟩
theorem pos_need_fraction : Pos0 "need_fraction" (topS 32) ["fraction"] := fun _ _ _ _ _ _ us hl => match us, hl with | [_], _ => rfl
theorem k_need_fraction {P : Program} {w : World} {K : PySem.W.Frag} {mg : Str → Option Value} {base : Heap} (C : Facts K mg) : Kn P w K mg base "need_fraction" (topS 32) 3 1 ["fraction"] K3.W_need_fraction := by
  obtain ⟨ff, fd, F, hm⟩ := C.f_need_fraction
  refine kn_of (n := 1) (extra := 0) F hm sc_need_fraction pos_need_fraction rfl rfl fun f cdv A out s H E hr gd => ?_
  exact (dss_cons (ds_if (dt_not (dt_val (de_kn (k_is_fraction C) wBody_arity (hr.mono (by decide)) gd (by rfl) (by rfl) (da_cons (de_var 0) da_nil)))) (dss_cons ds_never
    dss_nil) dss_nil)
    dss_nil)
/-! is_pair -/
def N_is_pair : List Str := ["value"]
theorem sc_is_pair : FnScope N_is_pair ["value"] (defScope (topS 34)) := ⟨rfl, rfl, rfl, by decide +kernel, rfl, by decide +kernel, by decide +kernel⟩
theorem pos_is_pair : Pos0 "is_pair" (topS 34) ["value"] := fun _ _ _ _ _ _ us hl => match us, hl with | [_], _ => rfl
theorem k_is_pair {P : Program} {w : World} {K : PySem.W.Frag} {mg : Str → Option Value} {base : Heap} (C : Facts K mg) : Kn P w K mg base "is_pair" (topS 34) 3 1 ["value"] K6.W_is_pair := by
  obtain ⟨ff, fd, F, hm⟩ := C.f_is_pair
  refine kn_of (n := 1) (extra := 0) F hm sc_is_pair pos_is_pair rfl rfl fun f cdv A out s H E hr gd => ?_
  exact (dss_cons (ds_if (dt_not (dt_val (de_kn (k_is_tuple_of C) wBody_arity (hr.mono (by decide)) gd (by rfl) (by rfl) (da_cons (de_var 0) (da_cons de_int (da_cons de_int da_nil)))))) (dss_cons (ds_ret de_bl)
    dss_nil) dss_nil)
    (dss_cons (ds_ret (de_and (de_kn (k_is_fraction C) wBody_arity (hr.mono (by decide)) gd (by rfl) (by rfl) (da_cons (de_ix (de_var 0) de_int) da_nil)) (de_one (de_kn (k_is_fraction C) wBody_arity (hr.mono (by decide)) gd (by rfl) (by rfl) (da_cons (de_ix (de_var 0) de_int) da_nil)))))
    dss_nil))
/-! is_point -/
def N_is_point : List Str := ["value", "pair"]
theorem sc_is_point : FnScope N_is_point ["value"] (defScope (topS 35)) := ⟨rfl, rfl, rfl, by decide +kernel, rfl, by decide +kernel, by decide +kernel⟩
theorem pos_is_point : Pos0 "is_point" (topS 35) ["value"] := fun _ _ _ _ _ _ us hl => match us, hl with | [_], _ => rfl
theorem k_is_point {P : Program} {w : World} {K : PySem.W.Frag} {mg : Str → Option Value} {base : Heap} (C : Facts K mg) : Kn P w K mg base "is_point" (topS 35) 4 1 ["value"] K6.W_is_point := by
  obtain ⟨ff, fd, F, hm⟩ := C.f_is_point
  refine kn_of (n := 1) (extra := 1) F hm sc_is_point pos_is_point rfl rfl fun f cdv A out s H E hr gd => ?_
  exact (dss_cons (ds_if (dt_not (dt_val (de_kn (k_is_tuple_of C) wBody_arity (hr.mono (by decide)) gd (by rfl) (by rfl) (da_cons (de_var 0) (da_cons de_int (da_cons de_int da_nil)))))) (dss_cons (ds_ret de_bl)
    dss_nil) dss_nil)
    (dss_cons (ds_if (dt_not (dt_val (de_b (cr_all rfl) db_all rfl C.m_all (by decide +kernel) (da_cons (de_lc (own := [("pair", 1)]) rfl sc_is_point.nd (di_seq (de_slice (de_var 0) do_none (do_some de_int))) (blkOk_by (N := N_is_point) (sc := defScope (topS 35)) (own := [("pair", 1)]) (by decide +kernel)) (fun _ _ _ _ _ => (dgo_name (i := 1) (by decide) sc_is_point.nd rfl (by first | exact Or.inl rfl | exact Or.inr rfl))) (fun _ _ _ _ _ => dts_nil) (fun _ _ _ _ _ => (de_kn (k_is_pair C) wBody_arity (hr.mono (by decide)) gd (by rfl) (by rfl) (da_cons (de_var 1) da_nil)))) da_nil)))) (dss_cons (ds_ret de_bl)
    dss_nil) dss_nil)
    (dss_cons (ds_ret (de_and (de_kn (k_is_fraction C) wBody_arity (hr.mono (by decide)) gd (by rfl) (by rfl) (da_cons (de_ix (de_var 0) de_int) da_nil)) (de_one (de_cmp op_ge dop_Ge (de_ix (de_ix (de_var 0) de_int) de_int) de_int (nomark _)))))
    dss_nil)))
/-! need_point -/
def N_need_point : List Str := ["point"]
theorem sc_need_point : FnScope N_need_point ["point"] (defScope (topS 36)) := ⟨rfl, rfl, rfl, by decide +kernel, rfl, by decide +kernel, by decide +kernel⟩
theorem pos_need_point : Pos0 "need_point" (topS 36) ["point"] := fun _ _ _ _ _ _ us hl => match us, hl with | [_], _ => rfl
theorem k_need_point {P : Program} {w : World} {K : PySem.W.Frag} {mg : Str → Option Value} {base : Heap} (C : Facts K mg) : Kn P w K mg base "need_point" (topS 36) 5 1 ["point"] K6.W_need_point := by
  obtain ⟨ff, fd, F, hm⟩ := C.f_need_point
  refine kn_of (n := 1) (extra := 0) F hm sc_need_point pos_need_point rfl rfl fun f cdv A out s H E hr gd => ?_
  exact (dss_cons (ds_if (dt_not (dt_val (de_kn (k_is_point C) wBody_arity (hr.mono (by decide)) gd (by rfl) (by rfl) (da_cons (de_var 0) da_nil)))) (dss_cons ds_never
    dss_nil) dss_nil)
    dss_nil)
/-! heard_floor -/
def N_heard_floor : List Str := ["point", "east", "north", "many"]
theorem sc_heard_floor : FnScope N_heard_floor ["point", "east", "north", "many"] (defScope (topS 37)) := ⟨rfl, rfl, rfl, by decide +kernel, rfl, by decide +kernel, by decide +kernel⟩
theorem pos_heard_floor : Pos0 "heard_floor" (topS 37) ["point", "east", "north", "many"] := fun _ _ _ _ _ _ us hl => match us, hl with | [_, _, _, _], _ => rfl
theorem kw_heard_floor_0 : Kw0 "heard_floor" (topS 37) ["point", "east", "north", "many"] ["many", "north", "east", "point"] [3, 2, 1, 0] := fun _ _ _ _ _ _ ws hl => match ws, hl with | [_, _, _, _], _ => rfl
theorem k_heard_floor {P : Program} {w : World} {K : PySem.W.Frag} {mg : Str → Option Value} {base : Heap} (C : Facts K mg) : Kn P w K mg base "heard_floor" (topS 37) 6 4 ["point", "east", "north", "many"] K7.W_heard_floor := by
  obtain ⟨ff, fd, F, hm⟩ := C.f_heard_floor
  refine kn_of (n := 4) (extra := 0) F hm sc_heard_floor pos_heard_floor rfl rfl fun f cdv A out s H E hr gd => ?_
  exact (dss_cons (ds_expr (de_kn (k_need_point C) wBody_arity (hr.mono (by decide)) gd (by rfl) (by rfl) (da_cons (de_var 0) da_nil)))
    (dss_cons (ds_expr (de_kn (k_need_fraction C) wBody_arity (hr.mono (by decide)) gd (by rfl) (by rfl) (da_cons (de_var 1) da_nil)))
    (dss_cons (ds_expr (de_kn (k_need_fraction C) wBody_arity (hr.mono (by decide)) gd (by rfl) (by rfl) (da_cons (de_var 2) da_nil)))
    (dss_cons (ds_expr (de_kn (k_need_many C) wBody_arity (hr.mono (by decide)) gd (by rfl) (by rfl) (da_cons (de_var 3) da_nil)))
    (dss_cons (ds_ret (de_kn (k_floor_heard C) wBody_arity (hr.mono (by decide)) gd (by rfl) (by rfl) (da_cons (de_var 0) (da_cons (de_tup (da_cons (de_var 1) (da_cons (de_var 2) da_nil))) (da_cons (de_var 3) da_nil)))))
    dss_nil)))))
/-! heard_figures -/
def N_heard_figures : List Str := ["point", "east", "north", "places"]
theorem sc_heard_figures : FnScope N_heard_figures ["point", "east", "north", "places"] (defScope (topS 38)) := ⟨rfl, rfl, rfl, by decide +kernel, rfl, by decide +kernel, by decide +kernel⟩
theorem pos_heard_figures : Pos0 "heard_figures" (topS 38) ["point", "east", "north", "places"] := fun _ _ _ _ _ _ us hl => match us, hl with | [_, _, _, _], _ => rfl
theorem kw_heard_figures_0 : Kw0 "heard_figures" (topS 38) ["point", "east", "north", "places"] ["places", "north", "east", "point"] [3, 2, 1, 0] := fun _ _ _ _ _ _ ws hl => match ws, hl with | [_, _, _, _], _ => rfl
theorem k_heard_figures {P : Program} {w : World} {K : PySem.W.Frag} {mg : Str → Option Value} {base : Heap} (C : Facts K mg) : Kn P w K mg base "heard_figures" (topS 38) 6 4 ["point", "east", "north", "places"] K7n.W_heard_figures := by
  obtain ⟨ff, fd, F, hm⟩ := C.f_heard_figures
  refine kn_of (n := 4) (extra := 0) F hm sc_heard_figures pos_heard_figures rfl rfl fun f cdv A out s H E hr gd => ?_
  exact (dss_cons (ds_expr (de_kn (k_need_point C) wBody_arity (hr.mono (by decide)) gd (by rfl) (by rfl) (da_cons (de_var 0) da_nil)))
    (dss_cons (ds_expr (de_kn (k_need_fraction C) wBody_arity (hr.mono (by decide)) gd (by rfl) (by rfl) (da_cons (de_var 1) da_nil)))
    (dss_cons (ds_expr (de_kn (k_need_fraction C) wBody_arity (hr.mono (by decide)) gd (by rfl) (by rfl) (da_cons (de_var 2) da_nil)))
    (dss_cons (ds_expr (de_kn (k_need_places C) wBody_arity (hr.mono (by decide)) gd (by rfl) (by rfl) (da_cons (de_var 3) da_nil)))
    (dss_cons (ds_ret (de_kn (k_with_point C) wBody_arity (hr.mono (by decide)) gd (by rfl) (by rfl) (da_cons (de_kn (k_floor_heard C) wBody_arity (hr.mono (by decide)) gd (by rfl) (by rfl) (da_cons (de_var 0) (da_cons (de_tup (da_cons (de_var 1) (da_cons (de_var 2) da_nil))) (da_cons (de_kn (k_ten_to C) wBody_arity (hr.mono (by decide)) gd (by rfl) (by rfl) (da_cons (de_var 3) da_nil)) da_nil)))) (da_cons (de_var 3) da_nil))))
    dss_nil)))))
/-! law_jar -/
def N_law_jar : List Str := ["script", "turn", "mixed", "cell", "own"]
theorem sc_law_jar : FnScope N_law_jar ["script", "turn"] (defScope (topS 40)) := ⟨rfl, rfl, rfl, by decide +kernel, rfl, by decide +kernel, by decide +kernel⟩
theorem pos_law_jar : Pos0 "_law_jar" (topS 40) ["script", "turn"] := fun _ _ _ _ _ _ us hl => match us, hl with | [_, _], _ => rfl
theorem k_law_jar {P : Program} {w : World} {K : PySem.W.Frag} {mg : Str → Option Value} {base : Heap} (C : Facts K mg) : Kn P w K mg base "_law_jar" (topS 40) 1 2 ["script", "turn"] K7.W_law_jar := by
  obtain ⟨ff, fd, F, hm⟩ := C.f_law_jar
  refine kn_of (n := 2) (extra := 3) F hm sc_law_jar pos_law_jar rfl rfl fun f cdv A out s H E hr gd => ?_
  exact (dss_cons (ds_set (i := 2) sc_law_jar.nd rfl (by first | exact Or.inl rfl | exact Or.inr rfl) (de_add de_int (de_mul de_int (de_var 1))))
    (dss_cons (ds_for PassesOwn.never rfl (di_seq (de_slice (de_var 0) do_none (do_some de_int))) (dg_name (i := 3) sc_law_jar.nd rfl (by first | exact Or.inl rfl | exact Or.inr rfl)) (dss_cons (ds_set (i := 2) sc_law_jar.nd rfl (by first | exact Or.inl rfl | exact Or.inr rfl) (de_mod (de_bt call_int1 db_int rfl C.m_int (by decide +kernel) (da_cons (de_add (de_add (de_mul (de_var 2) de_int) (de_mul (de_mod (de_bt call_int1 db_int rfl C.m_int (by decide +kernel) (da_cons (de_var 3) da_nil)) de_int) de_int)) de_int) da_nil)) de_int))
    dss_nil))
    (dss_cons (ds_set (i := 4) sc_law_jar.nd rfl (by first | exact Or.inl rfl | exact Or.inr rfl) (de_if (dt_cmp op_lt dop_Lt (de_var 1) (de_b call_len db_len rfl C.m_len (by decide +kernel) (da_cons (de_var 0) da_nil)) (nomark _)) (de_bt call_int1 db_int rfl C.m_int (by decide +kernel) (da_cons (de_ix (de_var 0) (de_var 1)) da_nil)) de_int))
    (dss_cons (ds_ret (de_lst (da_cons (de_if (dt_w (dw_or (dt_cmp op_lt dop_Lt (de_var 4) de_int (nomark _)) (dw_or1 (dt_cmp op_ge dop_Ge (de_var 4) (de_pow de_int de_int) (nomark _))))) (de_b call_abs db_abs rfl C.m_abs (by decide +kernel) (da_cons (de_var 4) da_nil)) de_int) (da_cons (de_var 2) (da_cons de_int da_nil)))))
    dss_nil))))
/-! law_dip -/
def N_law_dip : List Str := ["jar", "top", "figure", "stirred"]
theorem sc_law_dip : FnScope N_law_dip ["jar", "top"] (defScope (topS 41)) := ⟨rfl, rfl, rfl, by decide +kernel, rfl, by decide +kernel, by decide +kernel⟩
theorem pos_law_dip : Pos0 "_law_dip" (topS 41) ["jar", "top"] := fun _ _ _ _ _ _ us hl => match us, hl with | [_, _], _ => rfl
theorem k_law_dip {P : Program} {w : World} {K : PySem.W.Frag} {mg : Str → Option Value} {base : Heap} (C : Facts K mg) : Kn P w K mg base "_law_dip" (topS 41) 1 2 ["jar", "top"] K1.W_law_dip := by
  obtain ⟨ff, fd, F, hm⟩ := C.f_law_dip
  refine kn_of (n := 2) (extra := 2) F hm sc_law_dip pos_law_dip rfl rfl fun f cdv A out s H E hr gd => ?_
  exact (dss_cons (ds_if (dt_cmp op_gt dop_Gt (de_ix (de_var 0) de_int) de_int (nomark _)) (dss_cons (ds_asg (de_b call_divmod db_divmod rfl C.m_divmod (by decide +kernel) (da_cons (de_ix (de_var 0) de_int) (da_cons (de_var 1) da_nil))) (dg_tup rfl (dgs_cons (dg_sub (de_var 0) de_int) (dgs_cons (dg_name (i := 2) sc_law_dip.nd rfl (by first | exact Or.inl rfl | exact Or.inr rfl)) dgs_nil))))
    (dss_cons (ds_ret (de_var 2))
    dss_nil)) dss_nil)
    (dss_cons (ds_asg (de_add (de_ix (de_var 0) de_int) de_int) (dg_sub (de_var 0) de_int))
    (dss_cons (ds_set (i := 3) sc_law_dip.nd rfl (by first | exact Or.inl rfl | exact Or.inr rfl) (de_mod (de_bt call_int1 db_int rfl C.m_int (by decide +kernel) (da_cons (de_add (de_ix (de_var 0) de_int) (de_mul de_int (de_ix (de_var 0) de_int))) da_nil)) de_int))
    (dss_cons (ds_asg (de_mod (de_bt call_int1 db_int rfl C.m_int (by decide +kernel) (da_cons (de_add (de_mul (de_var 3) (de_add (de_mod (de_bt call_int1 db_int rfl C.m_int (by decide +kernel) (da_cons (de_var 3) da_nil)) de_int) de_int)) (de_mul de_int (de_ix (de_var 0) de_int))) da_nil)) de_int) (dg_sub (de_var 0) de_int))
    (dss_cons (ds_ret (de_mod (de_bt call_int1 db_int rfl C.m_int (by decide +kernel) (da_cons (de_div (de_ix (de_var 0) de_int) de_int) da_nil)) (de_var 1)))
    dss_nil)))))
/-! law_one_of -/
def N_law_one_of : List Str := ["jar", "some"]
theorem sc_law_one_of : FnScope N_law_one_of ["jar", "some"] (defScope (topS 42)) := ⟨rfl, rfl, rfl, by decide +kernel, rfl, by decide +kernel, by decide +kernel⟩
theorem pos_law_one_of : Pos0 "_law_one_of" (topS 42) ["jar", "some"] := fun _ _ _ _ _ _ us hl => match us, hl with | [_, _], _ => rfl
theorem k_law_one_of {P : Program} {w : World} {K : PySem.W.Frag} {mg : Str → Option Value} {base : Heap} (C : Facts K mg) : Kn P w K mg base "_law_one_of" (topS 42) 2 2 ["jar", "some"] K1.W_law_one_of := by
  obtain ⟨ff, fd, F, hm⟩ := C.f_law_one_of
  refine kn_of (n := 2) (extra := 0) F hm sc_law_one_of pos_law_one_of rfl rfl fun f cdv A out s H E hr gd => ?_
  exact (dss_cons (ds_ret (de_ix (de_var 1) (de_kn (k_law_dip C) wBody_arity (hr.mono (by decide)) gd (by rfl) (by rfl) (da_cons (de_var 0) (da_cons (de_b call_len db_len rfl C.m_len (by decide +kernel) (da_cons (de_var 1) da_nil)) da_nil)))))
    dss_nil)
/-! law_same -/
def N_law_same : List Str := ["told", "due"]
theorem sc_law_same : FnScope N_law_same ["told", "due"] (defScope (topS 43)) := ⟨rfl, rfl, rfl, by decide +kernel, rfl, by decide +kernel, by decide +kernel⟩
theorem pos_law_same : Pos0 "_law_same" (topS 43) ["told", "due"] := fun _ _ _ _ _ _ us hl => match us, hl with | [_, _], _ => rfl
theorem k_law_same {P : Program} {w : World} {K : PySem.W.Frag} {mg : Str → Option Value} {base : Heap} (C : Facts K mg) : Kn P w K mg base "_law_same" (topS 43) 1 2 ["told", "due"] K1.W_law_same := by
  obtain ⟨ff, fd, F, hm⟩ := C.f_law_same
  refine kn_of (n := 2) (extra := 0) F hm sc_law_same pos_law_same rfl rfl fun f cdv A out s H E hr gd => ?_
  exact (dss_cons (ds_ret (de_cmp (op_eqAll hr.units) dop_eq (de_b (cr_repr gd (room100 hr)) db_repr rfl C.m_repr (by decide +kernel) (da_cons (de_var 0) da_nil)) (de_b (cr_repr gd (room100 hr)) db_repr rfl C.m_repr (by decide +kernel) (da_cons (de_var 1) da_nil)) (nomark _)))
    dss_nil)
/-! law_frac -/
def N_law_frac : List Str := ["top", "low", "one", "two"]
theorem sc_law_frac : FnScope N_law_frac ["top", "low"] (defScope (topS 44)) := ⟨rfl, rfl, rfl, by decide +kernel, rfl, by decide +kernel, by decide +kernel⟩
theorem pos_law_frac : Pos0 "_law_frac" (topS 44) ["top", "low"] := fun _ _ _ _ _ _ us hl => match us, hl with | [_, _], _ => rfl
theorem k_law_frac {P : Program} {w : World} {K : PySem.W.Frag} {mg : Str → Option Value} {base : Heap} (C : Facts K mg) : Kn P w K mg base "_law_frac" (topS 44) 1 2 ["top", "low"] K1.W_law_frac := by
  obtain ⟨ff, fd, F, hm⟩ := C.f_law_frac
  refine kn_of (n := 2) (extra := 2) F hm sc_law_frac pos_law_frac rfl rfl fun f cdv A out s H E hr gd => ?_
  exact (dss_cons (ds_asg (de_if (dt_cmp op_lt dop_Lt (de_var 1) de_int (nomark _)) (de_tup (da_cons (de_sub de_int (de_var 0)) (da_cons (de_sub de_int (de_var 1)) da_nil))) (de_tup (da_cons (de_var 0) (da_cons (de_var 1) da_nil)))) (dg_tup rfl (dgs_cons (dg_name (i := 0) sc_law_frac.nd rfl (by first | exact Or.inl rfl | exact Or.inr rfl)) (dgs_cons (dg_name (i := 1) sc_law_frac.nd rfl (by first | exact Or.inl rfl | exact Or.inr rfl)) dgs_nil))))
    (dss_cons (ds_par (i := 2) (j := 3) rfl sc_law_frac.nd rfl rfl (by decide) rfl rfl (da_cons (de_b call_abs db_abs rfl C.m_abs (by decide +kernel) (da_cons (de_var 0) da_nil)) (da_cons (de_var 1) da_nil)) (by rfl))
    (dss_cons (ds_while PassesOwn.never (dt_cmp op_gt dop_Gt (de_var 3) de_int (nomark _)) (dss_cons (ds_par (i := 2) (j := 3) rfl sc_law_frac.nd rfl rfl (by decide) rfl rfl (da_cons (de_var 3) (da_cons (de_mod (de_bt call_int1 db_int rfl C.m_int (by decide +kernel) (da_cons (de_var 2) da_nil)) (de_var 3)) da_nil)) (by rfl))
    dss_nil))
    (dss_cons (ds_ret (de_tup (da_cons (de_div (de_var 0) (de_var 2)) (da_cons (de_div (de_var 1) (de_var 2)) da_nil))))
    dss_nil))))
/-! law_plus -/
def N_law_plus : List Str := ["one", "two"]
theorem sc_law_plus : FnScope N_law_plus ["one", "two"] (defScope (topS 45)) := ⟨rfl, rfl, rfl, by decide +kernel, rfl, by decide +kernel, by decide +kernel⟩
theorem pos_law_plus : Pos0 "_law_plus" (topS 45) ["one", "two"] := fun _ _ _ _ _ _ us hl => match us, hl with | [_, _], _ => rfl
theorem k_law_plus {P : Program} {w : World} {K : PySem.W.Frag} {mg : Str → Option Value} {base : Heap} (C : Facts K mg) : Kn P w K mg base "_law_plus" (topS 45) 2 2 ["one", "two"] K1.W_law_plus := by
  obtain ⟨ff, fd, F, hm⟩ := C.f_law_plus
  refine kn_of (n := 2) (extra := 0) F hm sc_law_plus pos_law_plus rfl rfl fun f cdv A out s H E hr gd => ?_
  exact (dss_cons (ds_ret (de_kn (k_law_frac C) wBody_arity (hr.mono (by decide)) gd (by rfl) (by rfl) (da_cons (de_add (de_mul (de_ix (de_var 0) de_int) (de_ix (de_var 1) de_int)) (de_mul (de_ix (de_var 1) de_int) (de_ix (de_var 0) de_int))) (da_cons (de_mul (de_ix (de_var 0) de_int) (de_ix (de_var 1) de_int)) da_nil))))
    dss_nil)
/-! law_less -/
def N_law_less : List Str := ["one", "two"]
theorem sc_law_less : FnScope N_law_less ["one", "two"] (defScope (topS 46)) := ⟨rfl, rfl, rfl, by decide +kernel, rfl, by decide +kernel, by decide +kernel⟩
theorem pos_law_less : Pos0 "_law_less" (topS 46) ["one", "two"] := fun _ _ _ _ _ _ us hl => match us, hl with | [_, _], _ => rfl
theorem k_law_less {P : Program} {w : World} {K : PySem.W.Frag} {mg : Str → Option Value} {base : Heap} (C : Facts K mg) : Kn P w K mg base "_law_less" (topS 46) 2 2 ["one", "two"] K1.W_law_less := by
  obtain ⟨ff, fd, F, hm⟩ := C.f_law_less
  refine kn_of (n := 2) (extra := 0) F hm sc_law_less pos_law_less rfl rfl fun f cdv A out s H E hr gd => ?_
  exact (dss_cons (ds_ret (de_kn (k_law_frac C) wBody_arity (hr.mono (by decide)) gd (by rfl) (by rfl) (da_cons (de_sub (de_mul (de_ix (de_var 0) de_int) (de_ix (de_var 1) de_int)) (de_mul (de_ix (de_var 1) de_int) (de_ix (de_var 0) de_int))) (da_cons (de_mul (de_ix (de_var 0) de_int) (de_ix (de_var 1) de_int)) da_nil))))
    dss_nil)
/-! law_by -/
def N_law_by : List Str := ["one", "two"]
theorem sc_law_by : FnScope N_law_by ["one", "two"] (defScope (topS 47)) := ⟨rfl, rfl, rfl, by decide +kernel, rfl, by decide +kernel, by decide +kernel⟩
theorem pos_law_by : Pos0 "_law_by" (topS 47) ["one", "two"] := fun _ _ _ _ _ _ us hl => match us, hl with | [_, _], _ => rfl
theorem k_law_by {P : Program} {w : World} {K : PySem.W.Frag} {mg : Str → Option Value} {base : Heap} (C : Facts K mg) : Kn P w K mg base "_law_by" (topS 47) 2 2 ["one", "two"] K1.W_law_by := by
  obtain ⟨ff, fd, F, hm⟩ := C.f_law_by
  refine kn_of (n := 2) (extra := 0) F hm sc_law_by pos_law_by rfl rfl fun f cdv A out s H E hr gd => ?_
  exact (dss_cons (ds_ret (de_kn (k_law_frac C) wBody_arity (hr.mono (by decide)) gd (by rfl) (by rfl) (da_cons (de_mul (de_ix (de_var 0) de_int) (de_ix (de_var 1) de_int)) (da_cons (de_mul (de_ix (de_var 0) de_int) (de_ix (de_var 1) de_int)) da_nil))))
    dss_nil)
/-! law_sgn -/
def N_law_sgn : List Str := ["one"]
theorem sc_law_sgn : FnScope N_law_sgn ["one"] (defScope (topS 48)) := ⟨rfl, rfl, rfl, by decide +kernel, rfl, by decide +kernel, by decide +kernel⟩
theorem pos_law_sgn : Pos0 "_law_sgn" (topS 48) ["one"] := fun _ _ _ _ _ _ us hl => match us, hl with | [_], _ => rfl
theorem k_law_sgn {P : Program} {w : World} {K : PySem.W.Frag} {mg : Str → Option Value} {base : Heap} (C : Facts K mg) : Kn P w K mg base "_law_sgn" (topS 48) 1 1 ["one"] K1.W_law_sgn := by
  obtain ⟨ff, fd, F, hm⟩ := C.f_law_sgn
  refine kn_of (n := 1) (extra := 0) F hm sc_law_sgn pos_law_sgn rfl rfl fun f cdv A out s H E hr gd => ?_
  exact (dss_cons (ds_ret (de_sub (de_bt call_int1 db_int rfl C.m_int (by decide +kernel) (da_cons (de_cmp op_gt dop_Gt (de_ix (de_var 0) de_int) de_int (nomark _)) da_nil)) (de_bt call_int1 db_int rfl C.m_int (by decide +kernel) (da_cons (de_cmp op_lt dop_Lt (de_ix (de_var 0) de_int) de_int (nomark _)) da_nil))))
    dss_nil)
/-! law_root_sign -/
def N_law_root_sign : List Str := ["p", "q", "r", "left", "right", "more"]
theorem sc_law_root_sign : FnScope N_law_root_sign ["p", "q", "r"] (defScope (topS 49)) := ⟨rfl, rfl, rfl, by decide +kernel, rfl, by decide +kernel, by decide +kernel⟩
theorem pos_law_root_sign : Pos0 "_law_root_sign" (topS 49) ["p", "q", "r"] := fun _ _ _ _ _ _ us hl => match us, hl with | [_, _, _], _ => rfl
theorem k_law_root_sign {P : Program} {w : World} {K : PySem.W.Frag} {mg : Str → Option Value} {base : Heap} (C : Facts K mg) : Kn P w K mg base "_law_root_sign" (topS 49) 3 3 ["p", "q", "r"] K1.W_law_root_sign := by
  obtain ⟨ff, fd, F, hm⟩ := C.f_law_root_sign
  refine kn_of (n := 3) (extra := 3) F hm sc_law_root_sign pos_law_root_sign rfl rfl fun f cdv A out s H E hr gd => ?_
  exact (dss_cons (ds_par (i := 3) (j := 4) rfl sc_law_root_sign.nd rfl rfl (by decide) rfl rfl (da_cons (de_kn (k_law_sgn C) wBody_arity (hr.mono (by decide)) gd (by rfl) (by rfl) (da_cons (de_var 0) da_nil)) (da_cons (de_if (dt_cmp op_gt dop_Gt (de_ix (de_var 2) de_int) de_int (nomark _)) (de_kn (k_law_sgn C) wBody_arity (hr.mono (by decide)) gd (by rfl) (by rfl) (da_cons (de_var 1) da_nil)) de_int) da_nil)) (by rfl))
    (dss_cons (ds_if (dt_w (dw_or (dt_cmp (op_eqAll hr.units) dop_eq (de_var 3) de_int (nomark _)) (dw_or (dt_cmp (op_eqAll hr.units) dop_eq (de_var 4) de_int (nomark _)) (dw_or1 (dt_cmp (op_eqAll hr.units) dop_eq (de_var 3) (de_var 4) (nomark _)))))) (dss_cons (ds_ret (de_if (dt_cmp (op_eqAll hr.units) dop_eq (de_var 4) de_int (nomark _)) (de_var 3) (de_var 4)))
    dss_nil) dss_nil)
    (dss_cons (ds_set (i := 5) sc_law_root_sign.nd rfl (by first | exact Or.inl rfl | exact Or.inr rfl) (de_kn (k_law_sgn C) wBody_arity (hr.mono (by decide)) gd (by rfl) (by rfl) (da_cons (de_kn (k_law_less C) wBody_arity (hr.mono (by decide)) gd (by rfl) (by rfl) (da_cons (de_kn (k_law_by C) wBody_arity (hr.mono (by decide)) gd (by rfl) (by rfl) (da_cons (de_var 0) (da_cons (de_var 0) da_nil))) (da_cons (de_kn (k_law_by C) wBody_arity (hr.mono (by decide)) gd (by rfl) (by rfl) (da_cons (de_kn (k_law_by C) wBody_arity (hr.mono (by decide)) gd (by rfl) (by rfl) (da_cons (de_var 1) (da_cons (de_var 1) da_nil))) (da_cons (de_var 2) da_nil))) da_nil))) da_nil)))
    (dss_cons (ds_ret (de_add (de_mul (de_var 3) (de_bt call_int1 db_int rfl C.m_int (by decide +kernel) (da_cons (de_cmp op_gt dop_Gt (de_var 5) de_int (nomark _)) da_nil))) (de_mul (de_var 4) (de_bt call_int1 db_int rfl C.m_int (by decide +kernel) (da_cons (de_cmp op_lt dop_Lt (de_var 5) de_int (nomark _)) da_nil)))))
    dss_nil))))
/-! law_floor_root -/
def N_law_floor_root : List Str := ["number", "here", "low", "middle"]
theorem sc_law_floor_root : FnScope N_law_floor_root ["number"] (defScope (topS 50)) := ⟨rfl, rfl, rfl, by decide +kernel, rfl, by decide +kernel, by decide +kernel⟩
theorem pos_law_floor_root : Pos0 "_law_floor_root" (topS 50) ["number"] := fun _ _ _ _ _ _ us hl => match us, hl with | [_], _ => rfl
theorem k_law_floor_root {P : Program} {w : World} {K : PySem.W.Frag} {mg : Str → Option Value} {base : Heap} (C : Facts K mg) : Kn P w K mg base "_law_floor_root" (topS 50) 1 1 ["number"] K1.W_law_floor_root := by
  obtain ⟨ff, fd, F, hm⟩ := C.f_law_floor_root
  refine kn_of (n := 1) (extra := 3) F hm sc_law_floor_root pos_law_floor_root rfl rfl fun f cdv A out s H E hr gd => ?_
  exact (dss_cons (ds_set (i := 1) sc_law_floor_root.nd rfl (by first | exact Or.inl rfl | exact Or.inr rfl) de_int)
    (dss_cons (ds_while PassesOwn.never (dt_cmp op_leAll dop_Le (de_mul (de_var 1) (de_var 1)) (de_var 0) (nomark _)) (dss_cons (ds_set (i := 1) sc_law_floor_root.nd rfl (by first | exact Or.inl rfl | exact Or.inr rfl) (de_mul de_int (de_var 1)))
    dss_nil))
    (dss_cons (ds_set (i := 2) sc_law_floor_root.nd rfl (by first | exact Or.inl rfl | exact Or.inr rfl) (de_div (de_var 1) de_int))
    (dss_cons (ds_while PassesOwn.never (dt_cmp op_gt dop_Gt (de_sub (de_var 1) (de_var 2)) de_int (nomark _)) (dss_cons (ds_set (i := 3) sc_law_floor_root.nd rfl (by first | exact Or.inl rfl | exact Or.inr rfl) (de_div (de_add (de_var 2) (de_var 1)) de_int))
    (dss_cons (ds_asg (de_if (dt_cmp op_leAll dop_Le (de_mul (de_var 3) (de_var 3)) (de_var 0) (nomark _)) (de_tup (da_cons (de_var 3) (da_cons (de_var 1) da_nil))) (de_tup (da_cons (de_var 2) (da_cons (de_var 3) da_nil)))) (dg_tup rfl (dgs_cons (dg_name (i := 2) sc_law_floor_root.nd rfl (by first | exact Or.inl rfl | exact Or.inr rfl)) (dgs_cons (dg_name (i := 1) sc_law_floor_root.nd rfl (by first | exact Or.inl rfl | exact Or.inr rfl)) dgs_nil))))
    dss_nil)))
    (dss_cons (ds_ret (de_var 2))
    dss_nil)))))
/-! law_great -/
def N_law_great : List Str := ["jar", "found", "turn"]
theorem sc_law_great : FnScope N_law_great ["jar"] (defScope (topS 51)) := ⟨rfl, rfl, rfl, by decide +kernel, rfl, by decide +kernel, by decide +kernel⟩
theorem pos_law_great : Pos0 "_law_great" (topS 51) ["jar"] := fun _ _ _ _ _ _ us hl => match us, hl with | [_], _ => rfl
theorem k_law_great {P : Program} {w : World} {K : PySem.W.Frag} {mg : Str → Option Value} {base : Heap} (C : Facts K mg) : Kn P w K mg base "_law_great" (topS 51) 2 1 ["jar"] K1.W_law_great := by
  obtain ⟨ff, fd, F, hm⟩ := C.f_law_great
  refine kn_of (n := 1) (extra := 2) F hm sc_law_great pos_law_great rfl rfl fun f cdv A out s H E hr gd => ?_
  exact (dss_cons (ds_set (i := 1) sc_law_great.nd rfl (by first | exact Or.inl rfl | exact Or.inr rfl) de_int)
    (dss_cons (ds_for PassesOwn.never rfl (di_range1 rfl C.m_range (da_cons de_int da_nil)) (dg_name (i := 2) sc_law_great.nd rfl (by first | exact Or.inl rfl | exact Or.inr rfl)) (dss_cons (ds_set (i := 1) sc_law_great.nd rfl (by first | exact Or.inl rfl | exact Or.inr rfl) (de_add (de_mul (de_var 1) de_int) (de_kn (k_law_dip C) wBody_arity (hr.mono (by decide)) gd (by rfl) (by rfl) (da_cons (de_var 0) (da_cons de_int da_nil)))))
    dss_nil))
    (dss_cons (ds_ret (de_var 1))
    dss_nil)))
/-! law_some -/
def N_law_some : List Str := ["jar", "way"]
theorem sc_law_some : FnScope N_law_some ["jar"] (defScope (topS 52)) := ⟨rfl, rfl, rfl, by decide +kernel, rfl, by decide +kernel, by decide +kernel⟩
theorem pos_law_some : Pos0 "_law_some" (topS 52) ["jar"] := fun _ _ _ _ _ _ us hl => match us, hl with | [_], _ => rfl
theorem k_law_some {P : Program} {w : World} {K : PySem.W.Frag} {mg : Str → Option Value} {base : Heap} (C : Facts K mg) : Kn P w K mg base "_law_some" (topS 52) 3 1 ["jar"] K1.W_law_some := by
  obtain ⟨ff, fd, F, hm⟩ := C.f_law_some
  refine kn_of (n := 1) (extra := 1) F hm sc_law_some pos_law_some rfl rfl fun f cdv A out s H E hr gd => ?_
  exact (dss_cons (ds_set (i := 1) sc_law_some.nd rfl (by first | exact Or.inl rfl | exact Or.inr rfl) (de_kn (k_law_dip C) wBody_arity (hr.mono (by decide)) gd (by rfl) (by rfl) (da_cons (de_var 0) (da_cons de_int da_nil))))
    (dss_cons (ds_if (dt_cmp op_lt dop_Lt (de_var 1) de_int (nomark _)) (dss_cons (ds_ret (de_tup (da_cons (de_sub (de_kn (k_law_dip C) wBody_arity (hr.mono (by decide)) gd (by rfl) (by rfl) (da_cons (de_var 0) (da_cons de_int da_nil))) de_int) (da_cons de_int da_nil))))
    dss_nil) dss_nil)
    (dss_cons (ds_if (dt_cmp op_lt dop_Lt (de_var 1) de_int (nomark _)) (dss_cons (ds_ret (de_kn (k_law_frac C) wBody_arity (hr.mono (by decide)) gd (by rfl) (by rfl) (da_cons (de_sub (de_kn (k_law_dip C) wBody_arity (hr.mono (by decide)) gd (by rfl) (by rfl) (da_cons (de_var 0) (da_cons de_int da_nil))) de_int) (da_cons (de_kn (k_law_one_of C) wBody_arity (hr.mono (by decide)) gd (by rfl) (by rfl) (da_cons (de_var 0) (da_cons (de_lst (da_cons de_int (da_cons de_int (da_cons de_int (da_cons de_int (da_cons de_int (da_cons de_int da_nil))))))) da_nil))) da_nil))))
    dss_nil) dss_nil)
    (dss_cons (ds_if (dt_cmp (op_eqAll hr.units) dop_eq (de_var 1) de_int (nomark _)) (dss_cons (ds_ret (de_kn (k_law_frac C) wBody_arity (hr.mono (by decide)) gd (by rfl) (by rfl) (da_cons (de_sub (de_kn (k_law_dip C) wBody_arity (hr.mono (by decide)) gd (by rfl) (by rfl) (da_cons (de_var 0) (da_cons de_int da_nil))) de_int) (da_cons (de_add de_int (de_kn (k_law_dip C) wBody_arity (hr.mono (by decide)) gd (by rfl) (by rfl) (da_cons (de_var 0) (da_cons de_int da_nil)))) da_nil))))
    dss_nil) dss_nil)
    (dss_cons (ds_ret (de_if (dt_cmp (op_eqAll hr.units) dop_eq (de_var 1) de_int (nomark _)) (de_tup (da_cons de_int (da_cons de_int da_nil))) (de_kn (k_law_frac C) wBody_arity (hr.mono (by decide)) gd (by rfl) (by rfl) (da_cons (de_mul (de_kn (k_law_great C) wBody_arity (hr.mono (by decide)) gd (by rfl) (by rfl) (da_cons (de_var 0) da_nil)) (de_kn (k_law_one_of C) wBody_arity (hr.mono (by decide)) gd (by rfl) (by rfl) (da_cons (de_var 0) (da_cons (de_lst (da_cons de_int (da_cons (de_neg de_int) da_nil))) da_nil)))) (da_cons (de_add de_int (de_kn (k_law_dip C) wBody_arity (hr.mono (by decide)) gd (by rfl) (by rfl) (da_cons (de_var 0) (da_cons de_int da_nil)))) da_nil)))))
    dss_nil)))))
/-! law_rootable -/
def N_law_rootable : List Str := ["jar", "one"]
theorem sc_law_rootable : FnScope N_law_rootable ["jar"] (defScope (topS 53)) := ⟨rfl, rfl, rfl, by decide +kernel, rfl, by decide +kernel, by decide +kernel⟩
theorem pos_law_rootable : Pos0 "_law_rootable" (topS 53) ["jar"] := fun _ _ _ _ _ _ us hl => match us, hl with | [_], _ => rfl
theorem k_law_rootable {P : Program} {w : World} {K : PySem.W.Frag} {mg : Str → Option Value} {base : Heap} (C : Facts K mg) : Kn P w K mg base "_law_rootable" (topS 53) 4 1 ["jar"] K1.W_law_rootable := by
  obtain ⟨ff, fd, F, hm⟩ := C.f_law_rootable
  refine kn_of (n := 1) (extra := 1) F hm sc_law_rootable pos_law_rootable rfl rfl fun f cdv A out s H E hr gd => ?_
  exact (dss_cons (ds_set (i := 1) sc_law_rootable.nd rfl (by first | exact Or.inl rfl | exact Or.inr rfl) (de_kn (k_law_some C) wBody_arity (hr.mono (by decide)) gd (by rfl) (by rfl) (da_cons (de_var 0) da_nil)))
    (dss_cons (ds_if (dt_cmp (op_eqAll hr.units) dop_eq (de_kn (k_law_dip C) wBody_arity (hr.mono (by decide)) gd (by rfl) (by rfl) (da_cons (de_var 0) (da_cons de_int da_nil))) de_int (nomark _)) (dss_cons (ds_ret (de_kn (k_law_by C) wBody_arity (hr.mono (by decide)) gd (by rfl) (by rfl) (da_cons (de_var 1) (da_cons (de_var 1) da_nil))))
    dss_nil) dss_nil)
    (dss_cons (ds_ret (de_if (dt_cmp op_gt dop_Gt (de_kn (k_law_dip C) wBody_arity (hr.mono (by decide)) gd (by rfl) (by rfl) (da_cons (de_var 0) (da_cons de_int da_nil))) de_int (nomark _)) (de_tup (da_cons (de_b call_abs db_abs rfl C.m_abs (by decide +kernel) (da_cons (de_ix (de_var 1) de_int) da_nil)) (da_cons (de_ix (de_var 1) de_int) da_nil))) (de_tup (da_cons (de_kn (k_law_one_of C) wBody_arity (hr.mono (by decide)) gd (by rfl) (by rfl) (da_cons (de_var 0) (da_cons (de_lst (da_cons de_int (da_cons de_int (da_cons de_int (da_cons de_int (da_cons de_int (da_cons de_int (da_cons de_int da_nil)))))))) da_nil))) (da_cons de_int da_nil)))))
    dss_nil)))
/-! law_pair_times -/
def N_law_pair_times : List Str := ["one", "two", "r", "plain"]
theorem sc_law_pair_times : FnScope N_law_pair_times ["one", "two", "r"] (defScope (topS 54)) := ⟨rfl, rfl, rfl, by decide +kernel, rfl, by decide +kernel, by decide +kernel⟩
theorem pos_law_pair_times : Pos0 "_law_pair_times" (topS 54) ["one", "two", "r"] := fun _ _ _ _ _ _ us hl => match us, hl with | [_, _, _], _ => rfl
theorem k_law_pair_times {P : Program} {w : World} {K : PySem.W.Frag} {mg : Str → Option Value} {base : Heap} (C : Facts K mg) : Kn P w K mg base "_law_pair_times" (topS 54) 3 3 ["one", "two", "r"] K3.W_law_pair_times := by
  obtain ⟨ff, fd, F, hm⟩ := C.f_law_pair_times
  refine kn_of (n := 3) (extra := 1) F hm sc_law_pair_times pos_law_pair_times rfl rfl fun f cdv A out s H E hr gd => ?_
  exact (dss_cons (ds_set (i := 3) sc_law_pair_times.nd rfl (by first | exact Or.inl rfl | exact Or.inr rfl) (de_kn (k_law_plus C) wBody_arity (hr.mono (by decide)) gd (by rfl) (by rfl) (da_cons (de_kn (k_law_by C) wBody_arity (hr.mono (by decide)) gd (by rfl) (by rfl) (da_cons (de_ix (de_var 0) de_int) (da_cons (de_ix (de_var 1) de_int) da_nil))) (da_cons (de_kn (k_law_by C) wBody_arity (hr.mono (by decide)) gd (by rfl) (by rfl) (da_cons (de_kn (k_law_by C) wBody_arity (hr.mono (by decide)) gd (by rfl) (by rfl) (da_cons (de_ix (de_var 0) de_int) (da_cons (de_ix (de_var 1) de_int) da_nil))) (da_cons (de_var 2) da_nil))) da_nil))))
    (dss_cons (ds_ret (de_tup (da_cons (de_var 3) (da_cons (de_kn (k_law_plus C) wBody_arity (hr.mono (by decide)) gd (by rfl) (by rfl) (da_cons (de_kn (k_law_by C) wBody_arity (hr.mono (by decide)) gd (by rfl) (by rfl) (da_cons (de_ix (de_var 0) de_int) (da_cons (de_ix (de_var 1) de_int) da_nil))) (da_cons (de_kn (k_law_by C) wBody_arity (hr.mono (by decide)) gd (by rfl) (by rfl) (da_cons (de_ix (de_var 0) de_int) (da_cons (de_ix (de_var 1) de_int) da_nil))) da_nil))) da_nil))))
    dss_nil))
/-! law_heard -/
def N_law_heard : List Str := ["point", "east", "north", "moment", "x", "y", "t", "r", "late", "off", "up", "one", "two", "three", "plain"]
theorem sc_law_heard : FnScope N_law_heard ["point", "east", "north", "moment"] (defScope (topS 55)) := ⟨rfl, rfl, rfl, by decide +kernel, rfl, by decide +kernel, by decide +kernel⟩
theorem pos_law_heard : Pos0 "_law_heard" (topS 55) ["point", "east", "north", "moment"] := fun _ _ _ _ _ _ us hl => match us, hl with | [_, _, _, _], _ => rfl
theorem k_law_heard {P : Program} {w : World} {K : PySem.W.Frag} {mg : Str → Option Value} {base : Heap} (C : Facts K mg) : Kn P w K mg base "_law_heard" (topS 55) 4 4 ["point", "east", "north", "moment"] K6.W_law_heard := by
  obtain ⟨ff, fd, F, hm⟩ := C.f_law_heard
  refine kn_of (n := 4) (extra := 11) F hm sc_law_heard pos_law_heard rfl rfl fun f cdv A out s H E hr gd => ?_
  exact (dss_cons (ds_asg (de_var 0) (dg_tup rfl (dgs_cons (dg_name (i := 4) sc_law_heard.nd rfl (by first | exact Or.inl rfl | exact Or.inr rfl)) (dgs_cons (dg_name (i := 5) sc_law_heard.nd rfl (by first | exact Or.inl rfl | exact Or.inr rfl)) (dgs_cons (dg_name (i := 6) sc_law_heard.nd rfl (by first | exact Or.inl rfl | exact Or.inr rfl)) (dgs_cons (dg_name (i := 7) sc_law_heard.nd rfl (by first | exact Or.inl rfl | exact Or.inr rfl)) dgs_nil))))))
    (dss_cons (ds_set (i := 8) sc_law_heard.nd rfl (by first | exact Or.inl rfl | exact Or.inr rfl) (de_tup (da_cons (de_kn (k_law_less C) wBody_arity (hr.mono (by decide)) gd (by rfl) (by rfl) (da_cons (de_ix (de_var 6) de_int) (da_cons (de_var 3) da_nil))) (da_cons (de_ix (de_var 6) de_int) da_nil))))
    (dss_cons (ds_if (dt_cmp op_gt dop_Gt (de_kn (k_law_root_sign C) wBody_arity (hr.mono (by decide)) gd (by rfl) (by rfl) (da_cons (de_ix (de_var 8) de_int) (da_cons (de_ix (de_var 8) de_int) (da_cons (de_var 7) da_nil)))) de_int (nomark _)) (dss_cons (ds_ret de_int)
    dss_nil) dss_nil)
    (dss_cons (ds_par (i := 9) (j := 10) rfl sc_law_heard.nd rfl rfl (by decide) rfl rfl (da_cons (de_tup (da_cons (de_kn (k_law_less C) wBody_arity (hr.mono (by decide)) gd (by rfl) (by rfl) (da_cons (de_ix (de_var 4) de_int) (da_cons (de_var 1) da_nil))) (da_cons (de_ix (de_var 4) de_int) da_nil))) (da_cons (de_tup (da_cons (de_kn (k_law_less C) wBody_arity (hr.mono (by decide)) gd (by rfl) (by rfl) (da_cons (de_ix (de_var 5) de_int) (da_cons (de_var 2) da_nil))) (da_cons (de_ix (de_var 5) de_int) da_nil))) da_nil)) (by rfl))
    (dss_cons (ds_par3 (i := 11) (j := 12) (l := 13) rfl sc_law_heard.nd rfl rfl rfl (by decide) (by decide) (by decide) rfl rfl rfl (da_cons (de_kn (k_law_pair_times C) wBody_arity (hr.mono (by decide)) gd (by rfl) (by rfl) (da_cons (de_var 9) (da_cons (de_var 9) (da_cons (de_var 7) da_nil)))) (da_cons (de_kn (k_law_pair_times C) wBody_arity (hr.mono (by decide)) gd (by rfl) (by rfl) (da_cons (de_var 10) (da_cons (de_var 10) (da_cons (de_var 7) da_nil)))) (da_cons (de_kn (k_law_pair_times C) wBody_arity (hr.mono (by decide)) gd (by rfl) (by rfl) (da_cons (de_var 8) (da_cons (de_var 8) (da_cons (de_var 7) da_nil)))) da_nil))) (by rfl))
    (dss_cons (ds_set (i := 14) sc_law_heard.nd rfl (by first | exact Or.inl rfl | exact Or.inr rfl) (de_kn (k_law_less C) wBody_arity (hr.mono (by decide)) gd (by rfl) (by rfl) (da_cons (de_kn (k_law_plus C) wBody_arity (hr.mono (by decide)) gd (by rfl) (by rfl) (da_cons (de_ix (de_var 11) de_int) (da_cons (de_ix (de_var 12) de_int) da_nil))) (da_cons (de_ix (de_var 13) de_int) da_nil))))
    (dss_cons (ds_ret (de_kn (k_law_root_sign C) wBody_arity (hr.mono (by decide)) gd (by rfl) (by rfl) (da_cons (de_var 14) (da_cons (de_kn (k_law_less C) wBody_arity (hr.mono (by decide)) gd (by rfl) (by rfl) (da_cons (de_kn (k_law_plus C) wBody_arity (hr.mono (by decide)) gd (by rfl) (by rfl) (da_cons (de_ix (de_var 11) de_int) (da_cons (de_ix (de_var 12) de_int) da_nil))) (da_cons (de_ix (de_var 13) de_int) da_nil))) (da_cons (de_var 7) da_nil)))))
    dss_nil)))))))
/-! law_point -/
def N_law_point : List Str := ["jar", "r", "x", "y"]
theorem sc_law_point : FnScope N_law_point ["jar"] (defScope (topS 56)) := ⟨rfl, rfl, rfl, by decide +kernel, rfl, by decide +kernel, by decide +kernel⟩
theorem pos_law_point : Pos0 "_law_point" (topS 56) ["jar"] := fun _ _ _ _ _ _ us hl => match us, hl with | [_], _ => rfl
theorem k_law_point {P : Program} {w : World} {K : PySem.W.Frag} {mg : Str → Option Value} {base : Heap} (C : Facts K mg) : Kn P w K mg base "_law_point" (topS 56) 5 1 ["jar"] K6.W_law_point := by
  obtain ⟨ff, fd, F, hm⟩ := C.f_law_point
  refine kn_of (n := 1) (extra := 3) F hm sc_law_point pos_law_point rfl rfl fun f cdv A out s H E hr gd => ?_
  exact (dss_cons (ds_set (i := 1) sc_law_point.nd rfl (by first | exact Or.inl rfl | exact Or.inr rfl) (de_kn (k_law_rootable C) wBody_arity (hr.mono (by decide)) gd (by rfl) (by rfl) (da_cons (de_var 0) da_nil)))
    (dss_cons (ds_par (i := 2) (j := 3) rfl sc_law_point.nd rfl rfl (by decide) rfl rfl (da_cons (de_tup (da_cons (de_kn (k_law_some C) wBody_arity (hr.mono (by decide)) gd (by rfl) (by rfl) (da_cons (de_var 0) da_nil)) (da_cons (de_kn (k_law_some C) wBody_arity (hr.mono (by decide)) gd (by rfl) (by rfl) (da_cons (de_var 0) da_nil)) da_nil))) (da_cons (de_tup (da_cons (de_kn (k_law_some C) wBody_arity (hr.mono (by decide)) gd (by rfl) (by rfl) (da_cons (de_var 0) da_nil)) (da_cons (de_kn (k_law_some C) wBody_arity (hr.mono (by decide)) gd (by rfl) (by rfl) (da_cons (de_var 0) da_nil)) da_nil))) da_nil)) (by rfl))
    (dss_cons (ds_if (dt_cmp (op_eqAll hr.units) dop_eq (de_kn (k_law_dip C) wBody_arity (hr.mono (by decide)) gd (by rfl) (by rfl) (da_cons (de_var 0) (da_cons de_int da_nil))) de_int (nomark _)) (dss_cons (ds_par (i := 2) (j := 3) rfl sc_law_point.nd rfl rfl (by decide) rfl rfl (da_cons (de_tup (da_cons (de_ix (de_var 2) de_int) (da_cons (de_tup (da_cons de_int (da_cons de_int da_nil))) da_nil))) (da_cons (de_tup (da_cons (de_ix (de_var 3) de_int) (da_cons (de_tup (da_cons de_int (da_cons de_int da_nil))) da_nil))) da_nil)) (by rfl))
    dss_nil) dss_nil)
    (dss_cons (ds_ret (de_tup (da_cons (de_var 2) (da_cons (de_var 3) (da_cons (de_tup (da_cons (de_kn (k_law_some C) wBody_arity (hr.mono (by decide)) gd (by rfl) (by rfl) (da_cons (de_var 0) da_nil)) (da_cons (de_kn (k_law_one_of C) wBody_arity (hr.mono (by decide)) gd (by rfl) (by rfl) (da_cons (de_var 0) (da_cons (de_lst (da_cons (de_tup (da_cons de_int (da_cons de_int da_nil))) (da_cons (de_tup (da_cons de_int (da_cons de_int da_nil))) (da_cons (de_tup (da_cons (de_neg de_int) (da_cons de_int da_nil))) (da_cons (de_tup (da_cons de_int (da_cons de_int da_nil))) (da_cons (de_kn (k_law_some C) wBody_arity (hr.mono (by decide)) gd (by rfl) (by rfl) (da_cons (de_var 0) da_nil)) da_nil)))))) da_nil))) da_nil))) (da_cons (de_var 1) da_nil))))))
    dss_nil))))
/-! law_floor -/
def N_law_floor : List Str := ["number", "many", "scale", "p", "q", "r", "square", "near", "here", "turn"]
theorem sc_law_floor : FnScope N_law_floor ["number", "many"] (defScope (topS 57)) := ⟨rfl, rfl, rfl, by decide +kernel, rfl, by decide +kernel, by decide +kernel⟩
theorem pos_law_floor : Pos0 "_law_floor" (topS 57) ["number", "many"] := fun _ _ _ _ _ _ us hl => match us, hl with | [_, _], _ => rfl
theorem k_law_floor {P : Program} {w : World} {K : PySem.W.Frag} {mg : Str → Option Value} {base : Heap} (C : Facts K mg) : Kn P w K mg base "_law_floor" (topS 57) 4 2 ["number", "many"] K1.W_law_floor := by
  obtain ⟨ff, fd, F, hm⟩ := C.f_law_floor
  refine kn_of (n := 2) (extra := 8) F hm sc_law_floor pos_law_floor rfl rfl fun f cdv A out s H E hr gd => ?_
  exact (dss_cons (ds_set (i := 2) sc_law_floor.nd rfl (by first | exact Or.inl rfl | exact Or.inr rfl) (de_tup (da_cons (de_var 1) (da_cons de_int da_nil))))
    (dss_cons (ds_par3 (i := 3) (j := 4) (l := 5) rfl sc_law_floor.nd rfl rfl rfl (by decide) (by decide) (by decide) rfl rfl rfl (da_cons (de_kn (k_law_by C) wBody_arity (hr.mono (by decide)) gd (by rfl) (by rfl) (da_cons (de_ix (de_var 0) de_int) (da_cons (de_var 2) da_nil))) (da_cons (de_kn (k_law_by C) wBody_arity (hr.mono (by decide)) gd (by rfl) (by rfl) (da_cons (de_ix (de_var 0) de_int) (da_cons (de_var 2) da_nil))) (da_cons (de_ix (de_var 0) de_int) da_nil))) (by rfl))
    (dss_cons (ds_set (i := 6) sc_law_floor.nd rfl (by first | exact Or.inl rfl | exact Or.inr rfl) (de_kn (k_law_by C) wBody_arity (hr.mono (by decide)) gd (by rfl) (by rfl) (da_cons (de_kn (k_law_by C) wBody_arity (hr.mono (by decide)) gd (by rfl) (by rfl) (da_cons (de_var 4) (da_cons (de_var 4) da_nil))) (da_cons (de_var 5) da_nil))))
    (dss_cons (ds_set (i := 7) sc_law_floor.nd rfl (by first | exact Or.inl rfl | exact Or.inr rfl) (de_kn (k_law_floor_root C) wBody_arity (hr.mono (by decide)) gd (by rfl) (by rfl) (da_cons (de_div (de_ix (de_var 6) de_int) (de_ix (de_var 6) de_int)) da_nil)))
    (dss_cons (ds_set (i := 8) sc_law_floor.nd rfl (by first | exact Or.inl rfl | exact Or.inr rfl) (de_sub (de_add (de_div (de_ix (de_var 3) de_int) (de_ix (de_var 3) de_int)) (de_if (dt_cmp op_gt dop_Gt (de_ix (de_var 4) de_int) de_int (nomark _)) (de_var 7) (de_sub (de_sub de_int (de_var 7)) de_int))) de_int))
    (dss_cons (ds_for PassesOwn.never rfl (di_range1 rfl C.m_range (da_cons de_int da_nil)) (dg_name (i := 9) sc_law_floor.nd rfl (by first | exact Or.inl rfl | exact Or.inr rfl)) (dss_cons (ds_if (dt_cmp op_ge dop_Ge (de_kn (k_law_root_sign C) wBody_arity (hr.mono (by decide)) gd (by rfl) (by rfl) (da_cons (de_kn (k_law_less C) wBody_arity (hr.mono (by decide)) gd (by rfl) (by rfl) (da_cons (de_var 3) (da_cons (de_tup (da_cons (de_add (de_var 8) de_int) (da_cons de_int da_nil))) da_nil))) (da_cons (de_var 4) (da_cons (de_var 5) da_nil)))) de_int (nomark _)) (dss_cons (ds_set (i := 8) sc_law_floor.nd rfl (by first | exact Or.inl rfl | exact Or.inr rfl) (de_add (de_var 8) de_int))
    dss_nil) dss_nil)
    dss_nil))
    (dss_cons (ds_ret (de_var 8))
    dss_nil)))))))
/-! law_figures -/
def N_law_figures : List Str := ["number", "places", "found"]
theorem sc_law_figures : FnScope N_law_figures ["number", "places"] (defScope (topS 58)) := ⟨rfl, rfl, rfl, by decide +kernel, rfl, by decide +kernel, by decide +kernel⟩
theorem pos_law_figures : Pos0 "_law_figures" (topS 58) ["number", "places"] := fun _ _ _ _ _ _ us hl => match us, hl with | [_, _], _ => rfl
theorem k_law_figures {P : Program} {w : World} {K : PySem.W.Frag} {mg : Str → Option Value} {base : Heap} (C : Facts K mg) : Kn P w K mg base "_law_figures" (topS 58) 1 2 ["number", "places"] K4.W_law_figures := by
  obtain ⟨ff, fd, F, hm⟩ := C.f_law_figures
  refine kn_of (n := 2) (extra := 1) F hm sc_law_figures pos_law_figures rfl rfl fun f cdv A out s H E hr gd => ?_
  exact (dss_cons (ds_set (i := 2) sc_law_figures.nd rfl (by first | exact Or.inl rfl | exact Or.inr rfl) (de_bt call_str_int db_str rfl C.m_str (by decide +kernel) (da_cons (de_b call_abs db_abs rfl C.m_abs (by decide +kernel) (da_cons (de_var 0) da_nil)) da_nil)))
    (dss_cons (ds_if (dt_cmp op_gt dop_Gt (de_var 1) de_int (nomark _)) (dss_cons (ds_set (i := 2) sc_law_figures.nd rfl (by first | exact Or.inl rfl | exact Or.inr rfl) (de_add (de_mulS de_str (de_sub (de_add (de_var 1) de_int) (de_b call_len db_len rfl C.m_len (by decide +kernel) (da_cons (de_var 2) da_nil)))) (de_var 2)))
    (dss_cons (ds_set (i := 2) sc_law_figures.nd rfl (by first | exact Or.inl rfl | exact Or.inr rfl) (de_add (de_add (de_slice (de_var 2) do_none (do_some (de_sub (de_b call_len db_len rfl C.m_len (by decide +kernel) (da_cons (de_var 2) da_nil)) (de_var 1)))) de_str) (de_slice (de_var 2) (do_some (de_sub (de_b call_len db_len rfl C.m_len (by decide +kernel) (da_cons (de_var 2) da_nil)) (de_var 1))) do_none)))
    dss_nil)) dss_nil)
    (dss_cons (ds_ret (de_add (de_if (dt_cmp op_lt dop_Lt (de_var 0) de_int (nomark _)) de_str de_str) (de_var 2)))
    dss_nil)))
/-! law_heard_floor -/
def N_law_heard_floor : List Str := ["point", "east", "north", "many", "x", "y", "t", "r", "off", "up", "one", "two", "square", "here", "turn"]
theorem sc_law_heard_floor : FnScope N_law_heard_floor ["point", "east", "north", "many"] (defScope (topS 59)) := ⟨rfl, rfl, rfl, by decide +kernel, rfl, by decide +kernel, by decide +kernel⟩
theorem pos_law_heard_floor : Pos0 "_law_heard_floor" (topS 59) ["point", "east", "north", "many"] := fun _ _ _ _ _ _ us hl => match us, hl with | [_, _, _, _], _ => rfl
theorem k_law_heard_floor {P : Program} {w : World} {K : PySem.W.Frag} {mg : Str → Option Value} {base : Heap} (C : Facts K mg) : Kn P w K mg base "_law_heard_floor" (topS 59) 5 4 ["point", "east", "north", "many"] K6.W_law_heard_floor := by
  obtain ⟨ff, fd, F, hm⟩ := C.f_law_heard_floor
  refine kn_of (n := 4) (extra := 11) F hm sc_law_heard_floor pos_law_heard_floor rfl rfl fun f cdv A out s H E hr gd => ?_
  exact (dss_cons (ds_asg (de_var 0) (dg_tup rfl (dgs_cons (dg_name (i := 4) sc_law_heard_floor.nd rfl (by first | exact Or.inl rfl | exact Or.inr rfl)) (dgs_cons (dg_name (i := 5) sc_law_heard_floor.nd rfl (by first | exact Or.inl rfl | exact Or.inr rfl)) (dgs_cons (dg_name (i := 6) sc_law_heard_floor.nd rfl (by first | exact Or.inl rfl | exact Or.inr rfl)) (dgs_cons (dg_name (i := 7) sc_law_heard_floor.nd rfl (by first | exact Or.inl rfl | exact Or.inr rfl)) dgs_nil))))))
    (dss_cons (ds_par (i := 8) (j := 9) rfl sc_law_heard_floor.nd rfl rfl (by decide) rfl rfl (da_cons (de_tup (da_cons (de_kn (k_law_less C) wBody_arity (hr.mono (by decide)) gd (by rfl) (by rfl) (da_cons (de_ix (de_var 4) de_int) (da_cons (de_var 1) da_nil))) (da_cons (de_ix (de_var 4) de_int) da_nil))) (da_cons (de_tup (da_cons (de_kn (k_law_less C) wBody_arity (hr.mono (by decide)) gd (by rfl) (by rfl) (da_cons (de_ix (de_var 5) de_int) (da_cons (de_var 2) da_nil))) (da_cons (de_ix (de_var 5) de_int) da_nil))) da_nil)) (by rfl))
    (dss_cons (ds_par (i := 10) (j := 11) rfl sc_law_heard_floor.nd rfl rfl (by decide) rfl rfl (da_cons (de_kn (k_law_pair_times C) wBody_arity (hr.mono (by decide)) gd (by rfl) (by rfl) (da_cons (de_var 8) (da_cons (de_var 8) (da_cons (de_var 7) da_nil)))) (da_cons (de_kn (k_law_pair_times C) wBody_arity (hr.mono (by decide)) gd (by rfl) (by rfl) (da_cons (de_var 9) (da_cons (de_var 9) (da_cons (de_var 7) da_nil)))) da_nil)) (by rfl))
    (dss_cons (ds_set (i := 12) sc_law_heard_floor.nd rfl (by first | exact Or.inl rfl | exact Or.inr rfl) (de_kn (k_law_floor C) wBody_arity (hr.mono (by decide)) gd (by rfl) (by rfl) (da_cons (de_tup (da_cons (de_kn (k_law_plus C) wBody_arity (hr.mono (by decide)) gd (by rfl) (by rfl) (da_cons (de_ix (de_var 10) de_int) (da_cons (de_ix (de_var 11) de_int) da_nil))) (da_cons (de_kn (k_law_plus C) wBody_arity (hr.mono (by decide)) gd (by rfl) (by rfl) (da_cons (de_ix (de_var 10) de_int) (da_cons (de_ix (de_var 11) de_int) da_nil))) (da_cons (de_var 7) da_nil)))) (da_cons (de_mul (de_var 3) (de_var 3)) da_nil))))
    (dss_cons (ds_set (i := 13) sc_law_heard_floor.nd rfl (by first | exact Or.inl rfl | exact Or.inr rfl) (de_sub (de_add (de_kn (k_law_floor C) wBody_arity (hr.mono (by decide)) gd (by rfl) (by rfl) (da_cons (de_tup (da_cons (de_ix (de_var 6) de_int) (da_cons (de_ix (de_var 6) de_int) (da_cons (de_var 7) da_nil)))) (da_cons (de_var 3) da_nil))) (de_kn (k_law_floor_root C) wBody_arity (hr.mono (by decide)) gd (by rfl) (by rfl) (da_cons (de_b (call_max2 rfl) db_max rfl C.m_max (by decide +kernel) (da_cons de_int (da_cons (de_var 12) da_nil))) da_nil))) de_int))
    (dss_cons (ds_for PassesOwn.never rfl (di_range1 rfl C.m_range (da_cons de_int da_nil)) (dg_name (i := 14) sc_law_heard_floor.nd rfl (by first | exact Or.inl rfl | exact Or.inr rfl)) (dss_cons (ds_if (dt_cmp op_ge dop_Ge (de_kn (k_law_heard C) wBody_arity (hr.mono (by decide)) gd (by rfl) (by rfl) (da_cons (de_var 0) (da_cons (de_var 1) (da_cons (de_var 2) (da_cons (de_kn (k_law_frac C) wBody_arity (hr.mono (by decide)) gd (by rfl) (by rfl) (da_cons (de_add (de_var 13) de_int) (da_cons (de_var 3) da_nil))) da_nil))))) de_int (nomark _)) (dss_cons (ds_set (i := 13) sc_law_heard_floor.nd rfl (by first | exact Or.inl rfl | exact Or.inr rfl) (de_add (de_var 13) de_int))
    dss_nil) dss_nil)
    dss_nil))
    (dss_cons (ds_ret (de_var 13))
    dss_nil)))))))
/-! law_pythagoras -/
def N_law_pythagoras : List Str := ["jar", "m", "n", "a", "b", "c", "by", "east", "north"]
theorem sc_law_pythagoras : FnScope N_law_pythagoras ["jar"] (defScope (topS 60)) := ⟨rfl, rfl, rfl, by decide +kernel, rfl, by decide +kernel, by decide +kernel⟩
theorem pos_law_pythagoras : Pos0 "_law_pythagoras" (topS 60) ["jar"] := fun _ _ _ _ _ _ us hl => match us, hl with | [_], _ => rfl
theorem k_law_pythagoras {P : Program} {w : World} {K : PySem.W.Frag} {mg : Str → Option Value} {base : Heap} (C : Facts K mg) : Kn P w K mg base "_law_pythagoras" (topS 60) 3 1 ["jar"] K6.W_law_pythagoras := by
  obtain ⟨ff, fd, F, hm⟩ := C.f_law_pythagoras
  refine kn_of (n := 1) (extra := 8) F hm sc_law_pythagoras pos_law_pythagoras rfl rfl fun f cdv A out s H E hr gd => ?_
  exact (dss_cons (ds_set (i := 1) sc_law_pythagoras.nd rfl (by first | exact Or.inl rfl | exact Or.inr rfl) (de_add de_int (de_kn (k_law_dip C) wBody_arity (hr.mono (by decide)) gd (by rfl) (by rfl) (da_cons (de_var 0) (da_cons de_int da_nil)))))
    (dss_cons (ds_set (i := 2) sc_law_pythagoras.nd rfl (by first | exact Or.inl rfl | exact Or.inr rfl) (de_kn (k_law_dip C) wBody_arity (hr.mono (by decide)) gd (by rfl) (by rfl) (da_cons (de_var 0) (da_cons (de_add (de_var 1) de_int) da_nil))))
    (dss_cons (ds_par3 (i := 3) (j := 4) (l := 5) rfl sc_law_pythagoras.nd rfl rfl rfl (by decide) (by decide) (by decide) rfl rfl rfl (da_cons (de_sub (de_mul (de_var 1) (de_var 1)) (de_mul (de_var 2) (de_var 2))) (da_cons (de_mul (de_mul de_int (de_var 1)) (de_var 2)) (da_cons (de_add (de_mul (de_var 1) (de_var 1)) (de_mul (de_var 2) (de_var 2))) da_nil))) (by rfl))
    (dss_cons (ds_asg (de_if (dt_cmp (op_eqAll hr.units) dop_eq (de_kn (k_law_dip C) wBody_arity (hr.mono (by decide)) gd (by rfl) (by rfl) (da_cons (de_var 0) (da_cons de_int da_nil))) de_int (nomark _)) (de_tup (da_cons (de_var 3) (da_cons (de_var 4) da_nil))) (de_tup (da_cons (de_var 4) (da_cons (de_var 3) da_nil)))) (dg_tup rfl (dgs_cons (dg_name (i := 3) sc_law_pythagoras.nd rfl (by first | exact Or.inl rfl | exact Or.inr rfl)) (dgs_cons (dg_name (i := 4) sc_law_pythagoras.nd rfl (by first | exact Or.inl rfl | exact Or.inr rfl)) dgs_nil))))
    (dss_cons (ds_set (i := 6) sc_law_pythagoras.nd rfl (by first | exact Or.inl rfl | exact Or.inr rfl) (de_kn (k_law_frac C) wBody_arity (hr.mono (by decide)) gd (by rfl) (by rfl) (da_cons (de_add de_int (de_kn (k_law_dip C) wBody_arity (hr.mono (by decide)) gd (by rfl) (by rfl) (da_cons (de_var 0) (da_cons de_int da_nil)))) (da_cons (de_kn (k_law_one_of C) wBody_arity (hr.mono (by decide)) gd (by rfl) (by rfl) (da_cons (de_var 0) (da_cons (de_lst (da_cons de_int (da_cons de_int (da_cons de_int (da_cons de_int da_nil))))) da_nil))) da_nil))))
    (dss_cons (ds_par (i := 7) (j := 8) rfl sc_law_pythagoras.nd rfl rfl (by decide) rfl rfl (da_cons (de_tup (da_cons (de_mul (de_var 3) (de_kn (k_law_one_of C) wBody_arity (hr.mono (by decide)) gd (by rfl) (by rfl) (da_cons (de_var 0) (da_cons (de_lst (da_cons de_int (da_cons (de_neg de_int) da_nil))) da_nil)))) (da_cons de_int da_nil))) (da_cons (de_tup (da_cons (de_mul (de_var 4) (de_kn (k_law_one_of C) wBody_arity (hr.mono (by decide)) gd (by rfl) (by rfl) (da_cons (de_var 0) (da_cons (de_lst (da_cons de_int (da_cons (de_neg de_int) da_nil))) da_nil)))) (da_cons de_int da_nil))) da_nil)) (by rfl))
    (dss_cons (ds_ret (de_tup (da_cons (de_kn (k_law_by C) wBody_arity (hr.mono (by decide)) gd (by rfl) (by rfl) (da_cons (de_var 7) (da_cons (de_var 6) da_nil))) (da_cons (de_kn (k_law_by C) wBody_arity (hr.mono (by decide)) gd (by rfl) (by rfl) (da_cons (de_var 8) (da_cons (de_var 6) da_nil))) (da_cons (de_kn (k_law_by C) wBody_arity (hr.mono (by decide)) gd (by rfl) (by rfl) (da_cons (de_tup (da_cons (de_var 5) (da_cons de_int da_nil))) (da_cons (de_var 6) da_nil))) da_nil)))))
    dss_nil)))))))
/-! law_ten -/
def N_law_ten : List Str := ["places", "found", "turn"]
theorem sc_law_ten : FnScope N_law_ten ["places"] (defScope (topS 61)) := ⟨rfl, rfl, rfl, by decide +kernel, rfl, by decide +kernel, by decide +kernel⟩
theorem pos_law_ten : Pos0 "_law_ten" (topS 61) ["places"] := fun _ _ _ _ _ _ us hl => match us, hl with | [_], _ => rfl
theorem k_law_ten {P : Program} {w : World} {K : PySem.W.Frag} {mg : Str → Option Value} {base : Heap} (C : Facts K mg) : Kn P w K mg base "_law_ten" (topS 61) 1 1 ["places"] K4.W_law_ten := by
  obtain ⟨ff, fd, F, hm⟩ := C.f_law_ten
  refine kn_of (n := 1) (extra := 2) F hm sc_law_ten pos_law_ten rfl rfl fun f cdv A out s H E hr gd => ?_
  exact (dss_cons (ds_set (i := 1) sc_law_ten.nd rfl (by first | exact Or.inl rfl | exact Or.inr rfl) de_int)
    (dss_cons (ds_for PassesOwn.never rfl (di_range1 rfl C.m_range (da_cons (de_var 0) da_nil)) (dg_name (i := 2) sc_law_ten.nd rfl (by first | exact Or.inl rfl | exact Or.inr rfl)) (dss_cons (ds_set (i := 1) sc_law_ten.nd rfl (by first | exact Or.inl rfl | exact Or.inr rfl) (de_mul de_int (de_var 1)))
    dss_nil))
    (dss_cons (ds_ret (de_var 1))
    dss_nil)))
/-! law_right -/
def N_law_right : List Str := ["jar", "turn", "point", "east", "north", "many", "places", "due", "told", "text", "over", "up", "long", "moment", "nil", "plain", "sum_of"]
theorem sc_law_right : FnScope N_law_right ["jar"] (defScope (topS 62)) := ⟨rfl, rfl, rfl, by decide +kernel, rfl, by decide +kernel, by decide +kernel⟩
theorem pos_law_right : Pos0 "_law_right" (topS 62) ["jar"] := fun _ _ _ _ _ _ us hl => match us, hl with | [_], _ => rfl
theorem k_law_right {P : Program} {w : World} {K : PySem.W.Frag} {mg : Str → Option Value} {base : Heap} (C : Facts K mg) : Kn P w K mg base "_law_right" (topS 62) 7 1 ["jar"] K7n.W_law_right := by
  obtain ⟨ff, fd, F, hm⟩ := C.f_law_right
  refine kn_of (n := 1) (extra := 16) F hm sc_law_right pos_law_right rfl rfl fun f cdv A out s H E hr gd => ?_
  exact (dss_cons (ds_for PassesOwn.never rfl (di_range1 rfl C.m_range (da_cons de_int da_nil)) (dg_name (i := 1) sc_law_right.nd rfl (by first | exact Or.inl rfl | exact Or.inr rfl)) (dss_cons (ds_par3 (i := 2) (j := 3) (l := 4) rfl sc_law_right.nd rfl rfl rfl (by decide) (by decide) (by decide) rfl rfl rfl (da_cons (de_kn (k_law_point C) wBody_arity (hr.mono (by decide)) gd (by rfl) (by rfl) (da_cons (de_var 0) da_nil)) (da_cons (de_kn (k_law_some C) wBody_arity (hr.mono (by decide)) gd (by rfl) (by rfl) (da_cons (de_var 0) da_nil)) (da_cons (de_kn (k_law_some C) wBody_arity (hr.mono (by decide)) gd (by rfl) (by rfl) (da_cons (de_var 0) da_nil)) da_nil))) (by rfl))
    (dss_cons (ds_if (dt_cmp (op_eqAll hr.units) dop_eq (de_kn (k_law_dip C) wBody_arity (hr.mono (by decide)) gd (by rfl) (by rfl) (da_cons (de_var 0) (da_cons de_int da_nil))) de_int (nomark _)) (dss_cons (ds_par (i := 3) (j := 4) rfl sc_law_right.nd rfl rfl (by decide) rfl rfl (da_cons (de_ix (de_ix (de_var 2) de_int) de_int) (da_cons (de_ix (de_ix (de_var 2) de_int) de_int) da_nil)) (by rfl))
    dss_nil) dss_nil)
    (dss_cons (ds_par (i := 5) (j := 6) rfl sc_law_right.nd rfl rfl (by decide) rfl rfl (da_cons (de_kn (k_law_one_of C) wBody_arity (hr.mono (by decide)) gd (by rfl) (by rfl) (da_cons (de_var 0) (da_cons (de_lst (da_cons de_int (da_cons de_int (da_cons de_int (da_cons de_int (da_cons de_int (da_cons (de_pow de_int de_int) (da_cons (de_pow de_int de_int) da_nil)))))))) da_nil))) (da_cons (de_kn (k_law_one_of C) wBody_arity (hr.mono (by decide)) gd (by rfl) (by rfl) (da_cons (de_var 0) (da_cons (de_lst (da_cons de_int (da_cons de_int (da_cons de_int (da_cons de_int (da_cons de_int (da_cons de_int da_nil))))))) da_nil))) da_nil)) (by rfl))
    (dss_cons (ds_set (i := 7) sc_law_right.nd rfl (by first | exact Or.inl rfl | exact Or.inr rfl) (de_kn (k_law_heard_floor C) wBody_arity (hr.mono (by decide)) gd (by rfl) (by rfl) (da_cons (de_var 2) (da_cons (de_var 3) (da_cons (de_var 4) (da_cons (de_var 5) da_nil))))))
    (dss_cons (ds_set (i := 8) sc_law_right.nd rfl (by first | exact Or.inl rfl | exact Or.inr rfl) (de_lst (da_cons (de_kn (k_heard_floor C) wBody_arity (hr.mono (by decide)) gd (by rfl) (by rfl) (da_cons (de_var 2) (da_cons (de_var 3) (da_cons (de_var 4) (da_cons (de_var 5) da_nil))))) (da_cons (de_knK (k_heard_floor C) wBody_arity (hr.mono (by decide)) gd (by rfl) (by rfl) kw_heard_floor_0 (dk_cons (de_var 5) (dk_cons (de_var 4) (dk_cons (de_var 3) (dk_cons (de_var 2) dk_nil))))) da_nil))))
    (dss_cons (ds_if (dt_not (dt_val (de_kn (k_law_same C) wBody_arity (hr.mono (by decide)) gd (by rfl) (by rfl) (da_cons (de_var 8) (da_cons (de_lst (da_cons (de_var 7) (da_cons (de_var 7) da_nil))) da_nil))))) (dss_cons (ds_ret de_bl)
    dss_nil) dss_nil)
    (dss_cons (ds_set (i := 9) sc_law_right.nd rfl (by first | exact Or.inl rfl | exact Or.inr rfl) (de_kn (k_law_figures C) wBody_arity (hr.mono (by decide)) gd (by rfl) (by rfl) (da_cons (de_kn (k_law_heard_floor C) wBody_arity (hr.mono (by decide)) gd (by rfl) (by rfl) (da_cons (de_var 2) (da_cons (de_var 3) (da_cons (de_var 4) (da_cons (de_kn (k_law_ten C) wBody_arity (hr.mono (by decide)) gd (by rfl) (by rfl) (da_cons (de_var 6) da_nil)) da_nil))))) (da_cons (de_var 6) da_nil))))
    (dss_cons (ds_set (i := 8) sc_law_right.nd rfl (by first | exact Or.inl rfl | exact Or.inr rfl) (de_lst (da_cons (de_kn (k_heard_figures C) wBody_arity (hr.mono (by decide)) gd (by rfl) (by rfl) (da_cons (de_var 2) (da_cons (de_var 3) (da_cons (de_var 4) (da_cons (de_var 6) da_nil))))) da_nil)))
    (dss_cons (ds_expr (de_app (de_var 8) (de_knK (k_heard_figures C) wBody_arity (hr.mono (by decide)) gd (by rfl) (by rfl) kw_heard_figures_0 (dk_cons (de_var 6) (dk_cons (de_var 4) (dk_cons (de_var 3) (dk_cons (de_var 2) dk_nil)))))))
    (dss_cons (ds_if (dt_not (dt_val (de_kn (k_law_same C) wBody_arity (hr.mono (by decide)) gd (by rfl) (by rfl) (da_cons (de_var 8) (da_cons (de_lst (da_cons (de_var 9) (da_cons (de_var 9) da_nil))) da_nil))))) (dss_cons (ds_ret de_bl)
    dss_nil) dss_nil)
    (dss_cons (ds_asg (de_kn (k_law_pythagoras C) wBody_arity (hr.mono (by decide)) gd (by rfl) (by rfl) (da_cons (de_var 0) da_nil)) (dg_tup rfl (dgs_cons (dg_name (i := 10) sc_law_right.nd rfl (by first | exact Or.inl rfl | exact Or.inr rfl)) (dgs_cons (dg_name (i := 11) sc_law_right.nd rfl (by first | exact Or.inl rfl | exact Or.inr rfl)) (dgs_cons (dg_name (i := 12) sc_law_right.nd rfl (by first | exact Or.inl rfl | exact Or.inr rfl)) dgs_nil)))))
    (dss_cons (ds_par (i := 13) (j := 14) rfl sc_law_right.nd rfl rfl (by decide) rfl rfl (da_cons (de_kn (k_law_some C) wBody_arity (hr.mono (by decide)) gd (by rfl) (by rfl) (da_cons (de_var 0) da_nil)) (da_cons (de_tup (da_cons de_int (da_cons de_int da_nil))) da_nil)) (by rfl))
    (dss_cons (ds_set (i := 15) sc_law_right.nd rfl (by first | exact Or.inl rfl | exact Or.inr rfl) (de_tup (da_cons (de_tup (da_cons (de_kn (k_law_plus C) wBody_arity (hr.mono (by decide)) gd (by rfl) (by rfl) (da_cons (de_var 3) (da_cons (de_var 10) da_nil))) (da_cons (de_var 14) da_nil))) (da_cons (de_tup (da_cons (de_kn (k_law_plus C) wBody_arity (hr.mono (by decide)) gd (by rfl) (by rfl) (da_cons (de_var 4) (da_cons (de_var 11) da_nil))) (da_cons (de_var 14) da_nil))) (da_cons (de_tup (da_cons (de_var 13) (da_cons (de_var 14) da_nil))) (da_cons (de_var 14) da_nil))))))
    (dss_cons (ds_set (i := 16) sc_law_right.nd rfl (by first | exact Or.inl rfl | exact Or.inr rfl) (de_kn (k_law_plus C) wBody_arity (hr.mono (by decide)) gd (by rfl) (by rfl) (da_cons (de_var 13) (da_cons (de_var 12) da_nil))))
    (dss_cons (ds_if (dt_not (dt_val (de_kn (k_law_same C) wBody_arity (hr.mono (by decide)) gd (by rfl) (by rfl) (da_cons (de_kn (k_heard_floor C) wBody_arity (hr.mono (by decide)) gd (by rfl) (by rfl) (da_cons (de_var 15) (da_cons (de_var 3) (da_cons (de_var 4) (da_cons (de_var 5) da_nil))))) (da_cons (de_div (de_mul (de_ix (de_var 16) de_int) (de_var 5)) (de_ix (de_var 16) de_int)) da_nil))))) (dss_cons (ds_ret de_bl)
    dss_nil) dss_nil)
    dss_nil))))))))))))))))
    (dss_cons (ds_ret de_bl)
    dss_nil))
/-! law -/
def N_law : List Str := ["script", "turn"]
theorem sc_law : FnScope N_law ["script"] (defScope (topS 63)) := ⟨rfl, rfl, rfl, by decide +kernel, rfl, by decide +kernel, by decide +kernel⟩
theorem pos_law : Pos0 "law" (topS 63) ["script"] := fun _ _ _ _ _ _ us hl => match us, hl with | [_], _ => rfl
theorem k_law {P : Program} {w : World} {K : PySem.W.Frag} {mg : Str → Option Value} {base : Heap} (C : Facts K mg) : Kn P w K mg base "law" (topS 63) 8 1 ["script"] K7n.W_law := by
  obtain ⟨ff, fd, F, hm⟩ := C.f_law
  refine kn_of (n := 1) (extra := 1) F hm sc_law pos_law rfl rfl fun f cdv A out s H E hr gd => ?_
  exact (dss_cons (ds_ret (de_b (cr_all rfl) db_all rfl C.m_all (by decide +kernel) (da_cons (de_lc (own := [("turn", 1)]) rfl sc_law.nd (di_range1 rfl C.m_range (da_cons (de_b (call_max2 rfl) db_max rfl C.m_max (by decide +kernel) (da_cons de_int (da_cons (de_b (call_min2 rfl) db_min rfl C.m_min (by decide +kernel) (da_cons (de_b call_len db_len rfl C.m_len (by decide +kernel) (da_cons (de_var 0) da_nil)) (da_cons de_int da_nil))) da_nil))) da_nil)) (blkOk_by (N := N_law) (sc := defScope (topS 63)) (own := [("turn", 1)]) (by decide +kernel)) (fun _ _ _ _ _ => (dgo_name (i := 1) (by decide) sc_law.nd rfl (by first | exact Or.inl rfl | exact Or.inr rfl))) (fun _ _ _ _ _ => dts_nil) (fun _ _ _ _ _ => (de_kn (k_law_right C) wBody_arity (hr.mono (by decide)) gd (by rfl) (by rfl) (da_cons (de_kn (k_law_jar C) wBody_arity (hr.mono (by decide)) gd (by rfl) (by rfl) (da_cons (de_var 0) (da_cons (de_var 1) da_nil))) da_nil)))) da_nil)))
    dss_nil)
end K7n


set_option Elab.async false
set_option linter.all false
set_option maxRecDepth 100000
set_option maxHeartbeats 0
namespace K7n
open PySem PySem.Spec PyProof.Rows L2 Zq
theorem facts {K : PySem.W.Frag} {h : Heap} {mg : Str → Option Value} (X : K.In h) (G : h.Ns mainGlobals mg) (c : He.SaysD fa fn K) (ce : ex K = true) : Facts K mg := by
  unfold ex at ce
  simp only [Bool.and_eq_true] at ce
  obtain ⟨⟨c0, c1⟩, c2⟩ := ce
  exact ⟨He.free_ok X G (c.fact 48 (f := .free "abs") rfl),
    He.free_ok X G (c.fact 49 (f := .free "all") rfl),
    He.free_ok X G (c.fact 50 (f := .free "bool") rfl),
    He.free_ok X G (c.fact 51 (f := .free "divmod") rfl),
    He.free_ok X G (c.fact 52 (f := .free "int") rfl),
    He.free_ok X G (c.fact 53 (f := .free "isinstance") rfl),
    He.free_ok X G (c.fact 54 (f := .free "len") rfl),
    He.free_ok X G (c.fact 55 (f := .free "max") rfl),
    He.free_ok X G (c.fact 56 (f := .free "min") rfl),
    He.free_ok X G (c.fact 57 (f := .free "range") rfl),
    He.free_ok X G (c.fact 58 (f := .free "repr") rfl),
    He.free_ok X G (c.fact 59 (f := .free "str") rfl),
    He.free_ok X G (c.fact 60 (f := .free "tuple") rfl),
    bltB_ok X G c0 0 (p := ("gcd", "math.gcd")) rfl,
    bltB_ok X G c0 1 (p := ("isqrt", "math.isqrt")) rfl,
    bltB_ok X G c0 2 (p := ("lcm", "math.lcm")) rfl,
    glb_int X G c1,
    glb_int X G c2,
    fun_of X G c 0 0 rfl rfl,
    fun_of X G c 1 1 rfl rfl,
    fun_of X G c 2 2 rfl rfl,
    fun_of X G c 3 3 rfl rfl,
    fun_of X G c 4 4 rfl rfl,
    fun_of X G c 5 5 rfl rfl,
    fun_of X G c 6 6 rfl rfl,
    fun_of X G c 7 7 rfl rfl,
    fun_of X G c 8 8 rfl rfl,
    fun_of X G c 9 9 rfl rfl,
    fun_of X G c 10 10 rfl rfl,
    fun_of X G c 11 11 rfl rfl,
    fun_of X G c 12 12 rfl rfl,
    fun_of X G c 13 13 rfl rfl,
    fun_of X G c 14 14 rfl rfl,
    fun_of X G c 15 15 rfl rfl,
    fun_of X G c 16 16 rfl rfl,
    fun_of X G c 17 17 rfl rfl,
    fun_of X G c 18 18 rfl rfl,
    fun_of X G c 19 19 rfl rfl,
    fun_of X G c 20 20 rfl rfl,
    fun_of X G c 21 21 rfl rfl,
    fun_of X G c 22 22 rfl rfl,
    fun_of X G c 23 23 rfl rfl,
    fun_of X G c 24 24 rfl rfl,
    fun_of X G c 25 25 rfl rfl,
    fun_of X G c 26 26 rfl rfl,
    fun_of X G c 27 27 rfl rfl,
    fun_of X G c 28 28 rfl rfl,
    fun_of X G c 29 29 rfl rfl,
    fun_of X G c 30 30 rfl rfl,
    fun_of X G c 31 31 rfl rfl,
    fun_of X G c 32 32 rfl rfl,
    fun_of X G c 33 33 rfl rfl,
    fun_of X G c 34 34 rfl rfl,
    fun_of X G c 35 35 rfl rfl,
    fun_of X G c 36 36 rfl rfl,
    fun_of X G c 37 37 rfl rfl,
    fun_of X G c 38 38 rfl rfl,
    fun_of X G c 39 39 rfl rfl,
    fun_of X G c 40 40 rfl rfl,
    fun_of X G c 41 41 rfl rfl,
    fun_of X G c 42 42 rfl rfl,
    fun_of X G c 43 43 rfl rfl,
    fun_of X G c 44 44 rfl rfl,
    fun_of X G c 45 45 rfl rfl,
    fun_of X G c 46 46 rfl rfl,
    fun_of X G c 47 47 rfl rfl⟩
theorem holds_of (want : ∀ ns : List Int, ns.length ≤ 63 → K7n.W_law [.ro (ns.map D.int)] (fun _ => none) fun d _ => d = .bl true) : PySem.Challenge.rw_latestshake_k07_whole_heard_floors.Holds := by
  w_on; o_law
  refine HandSHeadRun.head_imp (r := R) (q := PySem.W.view R.prog [0, 63]) (H := hk) (ob := ob) (M := 6000) (loose := loose) (d := HandSHeadRun.topDef R.prog 63) (kwd := []) ob_eq
    run (by kernel_rfl) (by kernel_rfl) (by kernel_rfl) (by rfl) (by first | assumption | decide +kernel) (by decide +kernel) ⟨rfl, rfl, rfl, rfl, rfl, by decide +kernel⟩ ?hw ?hc
  case hw => w_witness2
  case hc =>
    refine walk_g (l := PySem.Challenge.rw_latestshake_k07_whole_heard_floors) (n := 63) (k := 8) (x := "script") rfl (by decide) (by kernel_rfl) ⟨rfl, by decide, by decide⟩ ?F
    intro w mg fa h Y G hmg0
    obtain ⟨K, KX, c, ce⟩ := Y
    have C := facts KX G c ce
    have hmg : mg ("law" : PySem.Str) = some (.ref fa) := by
      have e : (HandSHeadRun.topDef R.prog 63).name = ("law" : PySem.Str) := by kernel_rfl
      rw [← e]
      exact hmg0
    obtain ⟨ff, fd, F, hm, _⟩ := (k_law (P := PySem.Challenge.rw_latestshake_k07_whole_heard_floors.prog) (w := w) (base := h) C).ex
    have C2 := fun base => (k_law (P := PySem.Challenge.rw_latestshake_k07_whole_heard_floors.prog) (w := w) (base := base) C)
    exact law_fin hmg C2 want pos_law KX
end K7n


set_option Elab.async false
set_option linter.all false
set_option maxRecDepth 100000
namespace Zq
open PySem PySem.Spec PyProof.Rows L2
/-! ### what each reading is, as equations that are told step by step -/
section
variable {ρ : Env} {M : Mem} {R : DK} {RB : Bool → Mem → Prop} {RA : List D → Mem → Prop} {RN : Env → Mem → Prop} {W : WEnds} {d x y z : D} {i j n m : Nat} {a b c w : WE} {t u : WT} {s s' : WS} {g : WG} {gs : WGs} {wa : WA} {f h : WF2} {ds : List D} {ov : Option D} {k l : Int}
theorem E_body {ex : Nat} : wBody n ex s ds M R = (ds.length = n ∧ s { nx := fun _ M' => R .non M', rt := R } (ds.map some ++ List.replicate ex none) M) := (rfl)
theorem E_var0 : wVar 0 (some d :: ρ) M R = R d M := (rfl)
theorem E_varS : wVar (i + 1) (ov :: ρ) M R = wVar i ρ M R := (rfl)
theorem E_C : wC d ρ M R = R d M := (rfl)
theorem E_bin : wBin f a b ρ M R = a ρ M fun x M1 => b ρ M1 fun y M2 => f x y M2 R := (rfl)
def kB (RB : Bool → Mem → Prop) : DK := fun d M' => match d with
  | .bl b => RB b M'
  | _ => False
theorem E_test : wTest w ρ M RB = w ρ M (kB RB) := (rfl)
theorem E_kB {v : Bool} : kB RB (.bl v) M = RB v M := (rfl)
theorem E_anil : aNil ρ M RA = RA [] M := (rfl)
theorem E_acons : aCons w wa ρ M RA = w ρ M fun d M1 => wa ρ M1 fun ds M2 => RA (d :: ds) M2 := (rfl)
theorem E_tup : wTup wa ρ M R = wa ρ M fun ds M1 => ds.length ≤ 1000 ∧ R (.tup ds) M1 := (rfl)
theorem E_lst : wLst wa ρ M R = wa ρ M fun ds M1 => ds.length ≤ 1000 ∧ ∀ p, M1 p = none → R (.lst p) (M1.put p ds) := (rfl)
theorem E_b {fb : WB} : wB fb wa ρ M R = wa ρ M fun ds M1 => fb ds M1 R := (rfl)
theorem E_call {wf : WFn} : wCall wf wa ρ M R = wa ρ M fun ds M1 => wf ds M1 R := (rfl)
theorem E_callK {wf : WFn} {pm : List Nat} : wCallK n pm wf wa ρ M R = wa ρ M fun ds M1 => ds.length = n ∧ wf (ordD pm ds) M1 R := (rfl)
def kNeg (R : DK) : DK := fun d M' => match d with
  | .int i => R (.int (-i)) M'
  | _ => False
theorem E_neg : wNeg w ρ M R = w ρ M (kNeg R) := (rfl)
theorem E_kNeg : kNeg R (.int k) M = R (.int (-k)) M := (rfl)
theorem E_tand : tAnd' t u ρ M RB = t ρ M fun k M1 => if k = true then u ρ M1 RB else RB false M1 := (rfl)
theorem E_tor : tOr' t u ρ M RB = t ρ M fun k M1 => if k = true then RB true M1 else u ρ M1 RB := (rfl)
theorem E_tnot : tNot' t ρ M RB = t ρ M fun k M1 => RB (!k) M1 := (rfl)
def kAnd (b : WE) (ρ : Env) (R : DK) : DK := fun d M1 => match d with
  | .bl true => b ρ M1 R
  | .bl false => R (.bl false) M1
  | _ => False
def kOr (b : WE) (ρ : Env) (R : DK) : DK := fun d M1 => match d with
  | .bl true => R (.bl true) M1
  | .bl false => b ρ M1 R
  | _ => False
theorem E_and : wAnd a b ρ M R = a ρ M (kAnd b ρ R) := (rfl)
theorem E_or : wOr a b ρ M R = a ρ M (kOr b ρ R) := (rfl)
theorem E_kAnd {v : Bool} : kAnd b ρ R (.bl v) M = if v = true then b ρ M R else R (.bl false) M := by cases v <;> rfl
theorem E_kOr {v : Bool} : kOr b ρ R (.bl v) M = if v = true then R (.bl true) M else b ρ M R := by cases v <;> rfl
def kNot (R : DK) : DK := fun d M1 => match d with
  | .bl k => R (.bl (!k)) M1
  | _ => False
theorem E_not : wNot w ρ M R = w ρ M (kNot R) := (rfl)
theorem E_kNot {v : Bool} : kNot R (.bl v) M = R (.bl (!v)) M := (rfl)
theorem E_ifE : wIf t a b ρ M R = t ρ M fun k M1 => if k = true then a ρ M1 R else b ρ M1 R := (rfl)
def kCh (h : WF2) (c : WE) (ρ : Env) (y : D) (R : DK) : DK := fun z M3 => match z with
  | .bl true => c ρ M3 fun u M4 => h y u M4 R
  | .bl false => R (.bl false) M3
  | _ => False
theorem E_chain : wChain f h a b c ρ M R = a ρ M fun x M1 => b ρ M1 fun y M2 => f x y M2 (kCh h c ρ y R) := (rfl)
theorem E_kCh {v : Bool} : kCh h c ρ y R (.bl v) M = if v = true then c ρ M (fun u M4 => h y u M4 R) else R (.bl false) M := by cases v <;> rfl
def kIsN (neg : Bool) (R : DK) : DK := fun d M' => match d with
  | .non => R (.bl (!neg)) M'
  | _ => R (.bl neg) M'
theorem E_isN {neg : Bool} : wIsN neg w ρ M R = w ρ M (kIsN neg R) := (rfl)
theorem E_isN0 {neg : Bool} : kIsN neg R .non M = R (.bl (!neg)) M := (rfl)
theorem E_isNt {neg : Bool} : kIsN neg R (.tup ds) M = R (.bl neg) M := (rfl)
theorem E_isNi {neg : Bool} : kIsN neg R (.int k) M = R (.bl neg) M := (rfl)
theorem E_isNs {neg : Bool} {v : Str} : kIsN neg R (.str v) M = R (.bl neg) M := (rfl)
theorem E_isNl {neg : Bool} {p : Addr} : kIsN neg R (.lst p) M = R (.bl neg) M := (rfl)
theorem E_snil : sNil W ρ M = W.nx ρ M := (rfl)
theorem E_scons : sCons s s' W ρ M = s { W with nx := fun ρ' M' => s' W ρ' M' } ρ M := (rfl)
theorem E_pass : sPass W ρ M = W.nx ρ M := (rfl)
theorem E_brk : sBrk W ρ M = W.bk ρ M := (rfl)
theorem E_cnt : sCnt W ρ M = W.ct ρ M := (rfl)
theorem E_ret : sRet w W ρ M = w ρ M W.rt := (rfl)
theorem E_retN : sRetN W ρ M = W.rt .non M := (rfl)
theorem E_expr : sExpr w W ρ M = w ρ M fun _ M' => W.nx ρ M' := (rfl)
theorem E_if : sIf t s s' W ρ M = t ρ M fun k M1 => if k = true then s W ρ M1 else s' W ρ M1 := (rfl)
theorem E_asg : sAsg w g W ρ M = w ρ M fun d M1 => g d ρ M1 W.nx := (rfl)
theorem E_set : sSet i w W ρ M = w ρ M fun d M1 => W.nx (ρ.set i (some d)) M1 := (rfl)
def kPar (i j : Nat) (W : WEnds) (ρ : Env) : List D → Mem → Prop := fun ds M1 => match ds with
  | [x, y] => W.nx ((ρ.set i (some x)).set j (some y)) M1
  | _ => False
def kPar3 (i j l : Nat) (W : WEnds) (ρ : Env) : List D → Mem → Prop := fun ds M1 => match ds with
  | [x, y, z] => W.nx (((ρ.set i (some x)).set j (some y)).set l (some z)) M1
  | _ => False
theorem E_par : sPar i j wa W ρ M = wa ρ M (kPar i j W ρ) := (rfl)
theorem E_kPar : kPar i j W ρ [x, y] M = W.nx ((ρ.set i (some x)).set j (some y)) M := (rfl)
theorem E_par3 : sPar3 i j n wa W ρ M = wa ρ M (kPar3 i j n W ρ) := (rfl)
theorem E_kPar3 : kPar3 i j n W ρ [x, y, z] M = W.nx (((ρ.set i (some x)).set j (some y)).set n (some z)) M := (rfl)
def kAug (i : Nat) (f : WF2) (w : WE) (W : WEnds) (ρ : Env) (M : Mem) (o : Option (Option D)) : Prop := match o with
  | some (some x) => w ρ M fun y M1 => f x y M1 fun z M2 => W.nx (ρ.set i (some z)) M2
  | _ => False
theorem E_aug : sAug i f w W ρ M = kAug i f w W ρ M ρ[i]? := (rfl)
theorem E_kAug : kAug i f w W ρ M (some (some x)) = w ρ M fun y M1 => f x y M1 fun z M2 => W.nx (ρ.set i (some z)) M2 := (rfl)
theorem E_gN : gN i d ρ M RN = RN (ρ.set i (some d)) M := (rfl)
theorem E_gN0 : gN0 [] ρ M RN = RN ρ M := (rfl)
theorem E_gNC : gNC g gs (d :: ds) ρ M RN = g d ρ M fun ρ' M' => gs ds ρ' M' RN := (rfl)
theorem E_gT : gT n gs (.tup ds) ρ M RN = (ds.length = n ∧ gs ds ρ M RN) := (rfl)
def kS (d : D) (ρ : Env) (RN : Env → Mem → Prop) (o i : D) (M2 : Mem) : Prop := match o, i with
  | .lst l, .int k => (match M2 l with
    | some ds => (match ixN ds.length k with
      | some j => RN ρ (M2.put l (ds.set j d))
      | none => False)
    | none => False)
  | _, _ => False
theorem E_gS : gS a b d ρ M RN = a ρ M fun o M1 => b ρ M1 fun i M2 => kS d ρ RN o i M2 := (rfl)
/-- M holds ds at l -/
def kSl (d : D) (ρ : Env) (RN : Env → Mem → Prop) (l : Addr) (k : Int) (M : Mem) (o : Option (List D)) : Prop := match o with
  | some ds => (match ixN ds.length k with
      | some j => RN ρ (M.put l (ds.set j d))
      | none => False)
  | none => False
theorem E_kS {p : Addr} : kS d ρ RN (.lst p) (.int k) M = kSl d ρ RN p k M (M p) := (rfl)
theorem E_kS0 {p : Addr} : kSl d ρ RN p 0 M (some (x :: ds)) = RN ρ (M.put p (d :: ds)) := by
  have e : ixN (x :: ds).length 0 = some 0 := by
    unfold ixN
    rw [if_pos (by decide), if_pos (by simp only [List.length_cons]; omega)]
    rfl
  unfold kSl
  simp only [e, List.set_cons_zero]
theorem E_kS1 {p : Addr} : kSl d ρ RN p 1 M (some (x :: y :: ds)) = RN ρ (M.put p (x :: d :: ds)) := by
  have e : ixN (x :: y :: ds).length 1 = some 1 := by
    unfold ixN
    rw [if_pos (by decide), if_pos (by simp only [List.length_cons]; omega)]
    rfl
  unfold kSl
  simp only [e]
  rfl
theorem E_kS2 {p : Addr} : kSl d ρ RN p 2 M (some (x :: y :: z :: ds)) = RN ρ (M.put p (x :: y :: d :: ds)) := by
  have e : ixN (x :: y :: z :: ds).length 2 = some 2 := by
    unfold ixN
    rw [if_pos (by decide), if_pos (by simp only [List.length_cons]; omega)]
    rfl
  unfold kSl
  simp only [e]
  rfl
theorem E_I0 {g : Int → Int → D} : fI0 g (.int k) (.int l) M R = R (g k l) M := (rfl)
theorem E_II {C : Int → Int → Prop} {g : Int → Int → D} : fII C g (.int k) (.int l) M R = (C k l ∧ R (g k l) M) := (rfl)
theorem E_sub : fSub (.int k) (.int l) M R = R (.int (k - l)) M := (rfl)
theorem E_iadd : fIAdd (.int k) (.int l) M R = R (.int (k + l)) M := (rfl)
theorem E_mul : fMul (.int k) (.int l) M R = (CMulW k l ∧ R (.int (k * l)) M) := (rfl)
theorem E_div : fDiv (.int k) (.int l) M R = (CDivW k l ∧ R (.int (k / l)) M) := (rfl)
theorem E_mod : fMod (.int k) (.int l) M R = (0 < l ∧ R (.int (k % l)) M) := (rfl)
theorem E_pow : fPow (.int k) (.int l) M R = (CPow k l ∧ R (.int (k ^ l.toNat)) M) := (rfl)
theorem E_lt : fLt (.int k) (.int l) M R = R (.bl (decide (k < l))) M := (rfl)
theorem E_le : fLe (.int k) (.int l) M R = R (.bl (decide (k ≤ l))) M := (rfl)
theorem E_gt : fGt (.int k) (.int l) M R = R (.bl (decide (l < k))) M := (rfl)
theorem E_ge : fGe (.int k) (.int l) M R = R (.bl (decide (l ≤ k))) M := (rfl)
theorem E_addi : fAdd (.int k) (.int l) M R = R (.int (k + l)) M := (rfl)
theorem E_adds {x y : Str} : fAdd (.str x) (.str y) M R = (x.length + y.length ≤ sizeLine ∧ R (.str (x ++ y)) M) := (rfl)
theorem E_addt {x y : List D} : fAdd (.tup x) (.tup y) M R = (x.length + y.length ≤ sizeLine ∧ x ≠ [] ∧ R (.tup (x ++ y)) M) := (rfl)
theorem E_eqi : fEq false (.int k) (.int l) M R = R (.bl (decide (k = l))) M := (rfl)
theorem E_eqs {x y : Str} : fEq false (.str x) (.str y) M R = R (.bl (decide (x = y))) M := (rfl)
theorem E_eqb {x y : Bool} : fEq false (.bl x) (.bl y) M R = R (.bl (decide (x = y))) M := (rfl)
theorem E_nei : fEq true (.int k) (.int l) M R = R (.bl (!decide (k = l))) M := (rfl)
theorem E_nes {x y : Str} : fEq true (.str x) (.str y) M R = R (.bl (!decide (x = y))) M := (rfl)
/-- an item -/
def kAt (R : DK) (M : Mem) (o : Option D) : Prop := match o with
  | some d => R d M
  | none => False
theorem E_kAt : kAt R M (some d) = R d M := (rfl)
theorem E_ixt : fIx (.tup ds) (.int k) M R = kAt R M (atI ds k) := (rfl)
theorem E_ixr : fIx (.ro ds) (.int k) M R = kAt R M (atI ds k) := (rfl)
def kAtL (R : DK) (M : Mem) (k : Int) (o : Option (List D)) : Prop := match o with
  | some ds => kAt R M (atI ds k)
  | none => False
theorem E_ixl {p : Addr} : fIx (.lst p) (.int k) M R = kAtL R M k (M p) := (rfl)
theorem E_kAtL : kAtL R M k (some ds) = kAt R M (atI ds k) := (rfl)
theorem at0 {α : Type} {a : α} {l : List α} : atI (a :: l) 0 = some a := by
  have := @atI_nat α (a :: l) 0 a rfl
  exact this
theorem at1 {α : Type} {a b : α} {l : List α} : atI (a :: b :: l) 1 = some b := @atI_nat α (a :: b :: l) 1 b rfl
theorem at2 {α : Type} {a b c : α} {l : List α} : atI (a :: b :: c :: l) 2 = some c := @atI_nat α (a :: b :: c :: l) 2 c rfl
theorem at3 {α : Type} {a b c d : α} {l : List α} : atI (a :: b :: c :: d :: l) 3 = some d := @atI_nat α (a :: b :: c :: d :: l) 3 d rfl
theorem E_abs : bAbs [.int k] M R = R (.int (if k < 0 then -k else k)) M := (rfl)
theorem E_max : bMax [.int k, .int l] M R = R (.int (if l > k then l else k)) M := (rfl)
theorem E_min : bMin [.int k, .int l] M R = R (.int (if l < k then l else k)) M := (rfl)
theorem E_inti : bInt [.int k] M R = R (.int k) M := (rfl)
theorem E_intb {b : Bool} : bInt [.bl b] M R = R (.int (if b = true then 1 else 0)) M := (rfl)
theorem E_str : bStr [.int k] M R = (k.natAbs.log2 < 1920 ∧ R (.str (toString k)) M) := (rfl)
theorem E_dm : bDivmod [.int k, .int l] M R = (CDiv k l ∧ R (.tup [.int (k / l), .int (k % l)]) M) := (rfl)
theorem E_lent : bLen [.tup ds] M R = R (.int ds.length) M := (rfl)
theorem E_lenr : bLen [.ro ds] M R = R (.int ds.length) M := (rfl)
def kLen (R : DK) (M : Mem) (o : Option (List D)) : Prop := match o with
  | some xs => R (.int xs.length) M
  | none => False
theorem E_lenl {p : Addr} : bLen [.lst p] M R = kLen R M (M p) := (rfl)
theorem E_kLen : kLen R M (some ds) = R (.int ds.length) M := (rfl)
theorem E_gcd : bGcd [.int k, .int l] M R = R (.int ((Nat.gcd k.natAbs l.natAbs : Nat) : Int)) M := (rfl)
theorem E_sqrt : bIsqrt [.int k] M R = (0 ≤ k ∧ k.natAbs.log2 < 13000 ∧ R (.int ((Float64.isqrt k.toNat : Nat) : Int)) M) := (rfl)
theorem E_lcm2 : bLcm [.int k, .int l] M R = (k.natAbs.log2 < 6000 ∧ l.natAbs.log2 < 6000 ∧ R (.int ((k.natAbs.lcm l.natAbs : Nat) : Int)) M) := (rfl)
theorem E_lcm3 {c : Int} : bLcm [.int k, .int l, .int c] M R = (k.natAbs.log2 < 6000 ∧ l.natAbs.log2 < 6000 ∧ c.natAbs.log2 < 6000 ∧ R (.int (((k.natAbs.lcm l.natAbs).lcm c.natAbs : Nat) : Int)) M) := (rfl)
def kAll (any : Bool) (R : DK) (M : Mem) (o : Option (List D)) : Prop := match o with
  | some xs => (match blsOf xs with
    | some bs => R (.bl (if any = true then bs.any id else bs.all id)) M
    | none => False)
  | none => False
theorem E_all {v : Bool} {p : Addr} : bAll v [.lst p] M R = kAll v R M (M p) := by
  unfold bAll kAll
  simp only
  try (cases M p <;> rfl)
theorem E_kAll {bs : List Bool} : kAll false R M (some (bs.map D.bl)) = R (.bl (bs.all id)) M := by
  have e : ∀ bs : List Bool, blsOf (bs.map D.bl) = some bs := fun bs => by
    induction bs with
    | nil => rfl
    | cons b bs ih =>
      show (blsOf (bs.map D.bl)).map (b :: ·) = _
      rw [ih]
      rfl
  unfold kAll
  simp only [e]
  rfl
theorem E_isii {T : String} : bIsi [.int k, .ty T] M R = kAt (fun d M => R d M) M ((isiD (.int k) T).map D.bl) := by
  unfold bIsi kAt
  simp only
  cases isiD (.int k) T <;> rfl
theorem E_isit {T : String} : bIsi [.tup ds, .ty T] M R = kAt (fun d M => R d M) M ((isiD (.tup ds) T).map D.bl) := by
  unfold bIsi kAt
  simp only
  cases isiD (.tup ds) T <;> rfl
theorem isi_ii : isiD (.int k) "int" = some true := by
  show kitB "int" "int" = some true
  decide +kernel
theorem isi_ib : isiD (.int k) "bool" = some false := by
  show kitB "int" "bool" = some false
  decide +kernel
theorem isi_tt : isiD (.tup ds) "tuple" = some true := by
  show kitB "tuple" "tuple" = some true
  decide +kernel
/-- walks -/
def kI (RI : Option Addr → List D → Mem → Prop) : DK := fun d M1 => match d with
  | .lst a => (match M1 a with
    | some ds => RI (some a) ds M1
    | none => False)
  | .ro ds => RI none ds M1
  | .tup ds => RI none ds M1
  | .tpx ds => RI none ds M1
  | .str z => RI none (signsD z) M1
  | _ => False
variable {RI : Option Addr → List D → Mem → Prop}
theorem E_iQ : iQ w ρ M RI = w ρ M (kI RI) := (rfl)
theorem E_kIt : kI RI (.tup ds) M = RI none ds M := (rfl)
theorem E_kIx : kI RI (.tpx ds) M = RI none ds M := (rfl)
theorem E_kIs {z : Str} : kI RI (.str z) M = RI none (signsD z) M := (rfl)
theorem E_kIr : kI RI (.ro ds) M = RI none ds M := (rfl)
def kIl (RI : Option Addr → List D → Mem → Prop) (p : Addr) (M : Mem) (o : Option (List D)) : Prop := match o with
  | some ds => RI (some p) ds M
  | none => False
theorem E_kIl {p : Addr} : kI RI (.lst p) M = kIl RI p M (M p) := (rfl)
theorem E_kIl' {p : Addr} : kIl RI p M (some ds) = RI (some p) ds M := (rfl)
def kR1 (RI : Option Addr → List D → Mem → Prop) : List D → Mem → Prop := fun ds M1 => match ds with
  | [.int j] => -(2 ^ 62) ≤ j ∧ j < 2 ^ 62 ∧ RI none (rangeD 0 j.toNat) M1
  | _ => False
theorem E_iR1 : iR1 wa ρ M RI = wa ρ M (kR1 RI) := (rfl)
theorem E_kR1 : kR1 RI [.int k] M = (-(2 ^ 62) ≤ k ∧ k < 2 ^ 62 ∧ RI none (rangeD 0 k.toNat) M) := (rfl)
theorem E_for {wi : WI} : sFor wi g s W ρ M = wi ρ M fun src ds M1 => forGo src ds g s W ds ρ M1 := (rfl)
theorem E_lc {wi : WI} {own : List Nat} : wLc wi g t w own ρ M R = wi ρ M fun src ds M1 => ∀ Da, M1 Da = none → lcGo src ds g t w (wipeD ρ own) Da R ds (M1.put Da []) := (rfl)
theorem E_lc0 {src : Option Addr} {all : List D} {Da : Addr} : lcGo src all g t w ρ Da R [] M = (Stands src all M ∧ R (.lst Da) M) := (rfl)
def kLc (src : Option Addr) (all : List D) (g : WG) (t : WT) (w : WE) (ρ : Env) (Da : Addr) (R : DK) (ds : List D) (y : D) (M4 : Mem) (o : Option (List D)) : Prop := match o with
  | some acc => acc.length ≤ 1000 ∧ lcGo src all g t w ρ Da R ds (M4.put Da (acc ++ [y]))
  | none => False
theorem E_lcS {src : Option Addr} {all : List D} {Da : Addr} : lcGo src all g t w ρ Da R (d :: ds) M = (Stands src all M ∧ g d ρ M fun ρ2 M2 => t ρ2 M2 fun k M3 => if k = true then w ρ2 M3 (fun y M4 => kLc src all g t w ρ Da R ds y M4 (M4 Da)) else lcGo src all g t w ρ Da R ds M3) := (rfl)
theorem E_kLc {src : Option Addr} {all acc : List D} {Da : Addr} : kLc src all g t w ρ Da R ds y M (some acc) = (acc.length ≤ 1000 ∧ lcGo src all g t w ρ Da R ds (M.put Da (acc ++ [y]))) := (rfl)
theorem E_yes : tYes' ρ M RB = RB true M := (rfl)
theorem E_f0 {src : Option Addr} {all : List D} : forGo src all g s W [] ρ M = (Stands src all M ∧ W.nx ρ M) := (rfl)
theorem E_fS {src : Option Addr} {all : List D} : forGo src all g s W (d :: ds) ρ M = (Stands src all M ∧ g d ρ M fun ρ' M' => s { W with nx := forGo src all g s W ds, ct := forGo src all g s W ds, bk := W.nx } ρ' M') := (rfl)
theorem E_stN {all : List D} : Stands none all M = True := (rfl)
theorem E_stS {all : List D} {p : Addr} : Stands (some p) all M = (M p = some all) := (rfl)
theorem E_s0 {o : Option D} : List.set (ov :: ρ) 0 o = o :: ρ := (rfl)
theorem E_sS {o : Option D} : List.set (ov :: ρ) (i + 1) o = ov :: List.set ρ i o := (rfl)
theorem E_g0 : (ov :: ρ : List (Option D))[0]? = some ov := (rfl)
theorem E_gSx : (ov :: ρ : List (Option D))[i + 1]? = ρ[i]? := (rfl)
theorem E_w0 : wipeD ρ [] = ρ := (rfl)
theorem E_wS {v : Nat} {vs : List Nat} : wipeD ρ (v :: vs) = (wipeD ρ vs).set v none := (rfl)
end
end Zq


set_option Elab.async false
set_option linter.all false
set_option maxRecDepth 100000
namespace Zq
open PySem PySem.Spec PyProof.Rows L2
/-! ### reckoning with readings -/
theorem Mem.put_put {M : Mem} {a : Addr} {xs ys : List D} : (M.put a xs).put a ys = M.put a ys := by
  funext b
  unfold Mem.put
  split <;> rfl
/-- the lists that there are stay -/
def Grow (M M' : Mem) : Prop := ∀ q ds, M q = some ds → M' q = some ds
theorem Grow.refl {M : Mem} : Grow M M := fun _ _ h => h
theorem Grow.trans {M M1 M2 : Mem} (a : Grow M M1) (b : Grow M1 M2) : Grow M M2 := fun q ds h => b q ds (a q ds h)
theorem Grow.put {M : Mem} {p : Addr} {ds : List D} (h : M p = none) : Grow M (M.put p ds) := fun q es e => by
  rw [Mem.put_ne]
  · exact e
  · rintro rfl
    rw [h] at e
    cases e
/-- all but the one at p stay -/
def GrowX (p : Addr) (M M' : Mem) : Prop := ∀ q ds, q ≠ p → M q = some ds → M' q = some ds
theorem GrowX.refl {p : Addr} {M : Mem} : GrowX p M M := fun _ _ _ h => h
theorem GrowX.trans {p : Addr} {M M1 M2 : Mem} (a : GrowX p M M1) (b : GrowX p M1 M2) : GrowX p M M2 := fun q ds n h => b q ds n (a q ds n h)
theorem GrowX.put {p : Addr} {M : Mem} {ds : List D} : GrowX p M (M.put p ds) := fun q es n e => by
  rw [Mem.put_ne n]
  exact e
theorem Grow.x {p : Addr} {M M' : Mem} (g : Grow M M') : GrowX p M M' := fun q ds _ h => g q ds h
/-- what jars hold -/
def Jar (M : Mem) (p : Addr) (n : Nat) : Prop := ∃ a b c : Int, M p = some [.int a, .int b, .int c] ∧ 0 ≤ a ∧ 0 ≤ b ∧ b < 2147483399 ∧ 0 ≤ c ∧ c ≤ n
theorem Jar.grow {M M' : Mem} {p : Addr} {n : Nat} (j : Jar M p n) (g : Grow M M') : Jar M' p n := by
  obtain ⟨a, b, c, e, r⟩ := j
  exact ⟨a, b, c, g _ _ e, r⟩
theorem Jar.mono {M : Mem} {p : Addr} {n m : Nat} (j : Jar M p n) (h : n ≤ m) : Jar M p m := by
  obtain ⟨a, b, c, e, h1, h2, h3, h4, h5⟩ := j
  exact ⟨a, b, c, e, h1, h2, h3, h4, by omega⟩
theorem log_of_lt {x : Int} {k : Nat} (h : x.natAbs < 2 ^ (k + 1)) : x.natAbs.log2 ≤ k := log2_le_of_lt h
theorem mulW_of {i j : Int} {a b : Nat} (ha : i.natAbs < 2 ^ a) (hb : j.natAbs < 2 ^ b) (h : a + b < 999990) : CMulW i j := by
  refine wide_mul (a := a + 1) (b := b + 1) (Nat.lt_trans ha (Nat.pow_lt_pow_right (by decide) (Nat.lt_succ_self _))) (Nat.lt_trans hb (Nat.pow_lt_pow_right (by decide) (Nat.lt_succ_self _))) (by omega) (by omega) (by omega)
theorem divW_of {j : Int} {b : Nat} (h : 0 < j) (hb : j.natAbs < 2 ^ b) (h9 : b < 9000) : CDivW i j := by
  refine wide_div h (b := b + 1) (Nat.lt_trans hb (Nat.pow_lt_pow_right (by decide) (Nat.lt_succ_self _))) (by omega) (by omega)
end Zq
namespace K1
open PySem PySem.Spec PyProof.Rows L2 Zq
local macro_rules | `(tactic| walk_at "zq") => `(tactic| simp only [E_body, E_var0, E_varS, E_C, E_bin, E_test, E_kB, E_anil, E_acons, E_tup, E_lst, E_b, E_call, E_callK, E_neg, E_kNeg, E_tand, E_tor, E_tnot, E_and, E_or, E_kAnd, E_kOr, E_not, E_kNot, E_ifE, E_chain, E_kCh, E_isN, E_isN0, E_isNt, E_isNi, E_isNs, E_isNl, E_snil, E_scons, E_pass, E_brk, E_cnt, E_ret, E_retN, E_expr, E_if, E_asg, E_set, E_par, E_kPar, E_par3, E_kPar3, E_aug, E_kAug, E_gN, E_gN0, E_gNC, E_gT, E_gS, E_kS, E_kS0, E_kS1, E_kS2, E_sub, E_iadd, E_mul, E_div, E_mod, E_pow, E_lt, E_le, E_gt, E_ge, E_addi, E_adds, E_addt, E_eqi, E_eqs, E_eqb, E_nei, E_nes, E_kAt, E_ixt, E_ixr, E_ixl, E_kAtL, at0, at1, at2, at3, E_abs, E_max, E_min, E_inti, E_intb, E_str, E_dm, E_lent, E_lenr, E_lenl, E_kLen, E_gcd, E_sqrt, E_lcm2, E_lcm3, E_all, E_kAll, E_isii, E_isit, isi_ii, isi_ib, isi_tt, E_iQ, E_kIt, E_kIr, E_kIl, E_kIl', E_iR1, E_kR1, E_for, E_lc, E_lc0, E_lcS, E_kLc, E_yes, E_f0, E_fS, E_stN, E_stS, E_s0, E_sS, E_g0, E_gSx, E_w0, E_wS,
  Mem.put_same, Mem.put_put, List.map_cons, List.map_nil, List.cons_append, List.nil_append, List.replicate, List.length_cons, List.length_nil, decide_eq_true_eq, Bool.false_eq_true, if_false, if_true, Nat.reduceAdd, Nat.reduceLeDiff, true_and, and_true, Option.map_some])
theorem dip_ret {M : Mem} {p : Addr} {k : Nat} {n : Int} {R : DK} (j : Jar M p k) (hk : k < 2 ^ 200) (h0 : 0 < n) (h1 : n < 1073741824) (h : ∀ v M', 0 ≤ v → v < n → Jar M' p (k + 1) → GrowX p M M' → R (.int v) M') : W_law_dip [.lst p, .int n] M R := by
  obtain ⟨a, b, c, e, ha, hb, hb2, hc, hck⟩ := j
  unfold W_law_dip
  walk_at "zq"
  repeat (simp only [e]; try walk_at "zq")
  have hc200 : (c + 1).natAbs < 2 ^ 201 := by omega
  split
  · rename_i h2
    refine ⟨⟨h0, h1⟩, h _ _ (Int.emod_nonneg _ (by omega)) (Int.emod_lt_of_pos _ h0) ⟨_, _, _, Mem.put_same, Int.ediv_nonneg ha (by omega), hb, hb2, hc, by omega⟩ .put⟩
  · have m1 : 0 ≤ (b + 28657 * (c + 1)) % 2147483399 := Int.emod_nonneg _ (by decide)
    have m2 : (b + 28657 * (c + 1)) % 2147483399 < 2147483399 := Int.emod_lt_of_pos _ (by decide)
    have m3 : 0 ≤ (b + 28657 * (c + 1)) % 2147483399 % 5003 := Int.emod_nonneg _ (by decide)
    have m4 : (b + 28657 * (c + 1)) % 2147483399 % 5003 < 5003 := Int.emod_lt_of_pos _ (by decide)
    refine ⟨mulW_of (a := 20) (b := 201) (by decide) hc200 (by decide), by decide, by decide, mulW_of (a := 40) (b := 40) (by omega) (by omega) (by decide), mulW_of (a := 20) (b := 201) (by decide) hc200 (by decide), by decide, divW_of (b := 20) (by decide) (by decide) (by decide), h0, ?_⟩
    refine h _ _ (Int.emod_nonneg _ (by omega)) (Int.emod_lt_of_pos _ h0) ⟨_, _, _, Mem.put_same, ha, Int.emod_nonneg _ (by decide), Int.emod_lt_of_pos _ (by decide), by omega, by omega⟩ .put
end K1


set_option Elab.async false
set_option linter.all false
set_option maxRecDepth 100000
namespace Zq
open PySem PySem.Spec PyProof.Rows L2
/-! ### signs -/
def sg (x : Int) : Int := if 0 < x then 1 else if x < 0 then -1 else 0
theorem sg_pos {x : Int} (h : 0 < x) : sg x = 1 := if_pos h
theorem sg_neg {x : Int} (h : x < 0) : sg x = -1 := by
  unfold sg
  rw [if_neg (by omega), if_pos h]
theorem sg_zero : sg 0 = 0 := rfl
theorem sg_cases (x : Int) : (0 < x ∧ sg x = 1) ∨ (x < 0 ∧ sg x = -1) ∨ (x = 0 ∧ sg x = 0) := by
  rcases Int.lt_trichotomy x 0 with h | h | h
  · exact .inr (.inl ⟨h, sg_neg h⟩)
  · exact .inr (.inr ⟨h, by rw [h]; rfl⟩)
  · exact .inl ⟨h, sg_pos h⟩
theorem sg_scale {k x : Int} (h : 0 < k) : sg (k * x) = sg x := by
  rcases sg_cases x with ⟨a, e⟩ | ⟨a, e⟩ | ⟨a, e⟩
  · rw [e, sg_pos (Int.mul_pos h a)]
  · rw [e, sg_neg (Int.mul_neg_of_pos_of_neg h a)]
  · rw [a, Int.mul_zero]
theorem sg_mul (x y : Int) : sg (x * y) = sg x * sg y := by
  rcases sg_cases x with ⟨a, e⟩ | ⟨a, e⟩ | ⟨a, e⟩
  · rw [e, sg_scale a, Int.one_mul]
  · rcases sg_cases y with ⟨b, f⟩ | ⟨b, f⟩ | ⟨b, f⟩
    · rw [e, f, sg_neg (Int.mul_neg_of_neg_of_pos a b)]; rfl
    · rw [e, f, sg_pos (Int.mul_pos_of_neg_of_neg a b)]; rfl
    · rw [e, f, b, Int.mul_zero]; rfl
  · rw [a, Int.zero_mul, sg_zero, Int.zero_mul]
theorem sg_sg (x : Int) : sg (sg x) = sg x := by
  rcases sg_cases x with ⟨a, e⟩ | ⟨a, e⟩ | ⟨a, e⟩ <;> (rw [e]; rfl)
theorem sg_negate (x : Int) : sg (-x) = -sg x := by
  rcases sg_cases x with ⟨a, e⟩ | ⟨a, e⟩ | ⟨a, e⟩
  · rw [e, sg_neg (by omega)]
  · rw [e, sg_pos (by omega)]; rfl
  · rw [a]; rfl
/-- the sign of a + b root(s) -/
def s1 (a b s : Int) : Int := if sg a + sg (b * s) ≠ 0 then sg (sg a + sg (b * s)) else sg a * sg (a * a - b * b * s)
/-- the sign of a + b root(s) + c root(t) -/
def s2 (a b s c t : Int) : Int := if s1 a b s + sg (c * t) ≠ 0 then sg (s1 a b s + sg (c * t)) else s1 a b s * s1 (a * a + b * b * s - c * c * t) (2 * a * b) s
theorem s1_scale {k a b s : Int} (h : 0 < k) : s1 (k * a) (k * b) s = s1 a b s := by
  unfold s1
  have e : k * a * (k * a) - k * b * (k * b) * s = (k * k) * (a * a - b * b * s) := by grind
  rw [sg_scale h, show k * b * s = k * (b * s) by grind, sg_scale h, e, sg_scale (Int.mul_pos h h)]
theorem s2_scale {k a b s c t : Int} (h : 0 < k) : s2 (k * a) (k * b) s (k * c) t = s2 a b s c t := by
  unfold s2
  have e1 : k * a * (k * a) + k * b * (k * b) * s - k * c * (k * c) * t = (k * k) * (a * a + b * b * s - c * c * t) := by grind
  have e2 : 2 * (k * a) * (k * b) = (k * k) * (2 * a * b) := by grind
  rw [s1_scale h, show k * c * t = k * (c * t) by grind, sg_scale h, e1, e2, s1_scale (Int.mul_pos h h)]
/-! ### fractions -/
structure Fr where
  n : Int
  d : Int
def fD (f : Fr) : D := .tup [.int f.n, .int f.d]
def IsF (f : Fr) : Prop := 0 < f.d ∧ f.n.natAbs.gcd f.d.natAbs = 1
def Bd (k : Nat) (f : Fr) : Prop := f.n.natAbs < 2 ^ k ∧ f.d.natAbs < 2 ^ k
theorem Bd.mono {j k : Nat} {f : Fr} (b : Bd j f) (h : j ≤ k) : Bd k f := ⟨Nat.lt_of_lt_of_le b.1 (Nat.pow_le_pow_right (by decide) h), Nat.lt_of_lt_of_le b.2 (Nat.pow_le_pow_right (by decide) h)⟩
/-- a / b in lowest terms -/
def fracV (a b : Int) : Fr :=
  let a' := if b < 0 then 0 - a else a
  let b' := if b < 0 then 0 - b else b
  ⟨a' / ((a'.natAbs.gcd b'.natAbs : Nat) : Int), b' / ((a'.natAbs.gcd b'.natAbs : Nat) : Int)⟩
/-- f is x / y -/
def Vl (f : Fr) (x y : Int) : Prop := f.n * y = x * f.d
theorem fracV_ok (a : Int) {b : Int} (h : b ≠ 0) : IsF (fracV a b) ∧ Vl (fracV a b) a b ∧ (fracV a b).n.natAbs ≤ a.natAbs ∧ (fracV a b).d.natAbs ≤ b.natAbs := by
  suffices main : ∀ a b : Int, 0 < b → (let f : Fr := ⟨a / ((a.natAbs.gcd b.natAbs : Nat) : Int), b / ((a.natAbs.gcd b.natAbs : Nat) : Int)⟩; IsF f ∧ Vl f a b ∧ f.n.natAbs ≤ a.natAbs ∧ f.d.natAbs ≤ b.natAbs) by
    by_cases hb : b < 0
    · have q := main (0 - a) (0 - b) (by omega)
      have e : fracV a b = ⟨(0 - a) / (((0 - a).natAbs.gcd (0 - b).natAbs : Nat) : Int), (0 - b) / (((0 - a).natAbs.gcd (0 - b).natAbs : Nat) : Int)⟩ := by
        unfold fracV
        simp only [if_pos hb]
      rw [e]
      obtain ⟨q1, q2, q3, q4⟩ := q
      refine ⟨q1, ?_, by omega, by omega⟩
      unfold Vl at q2 ⊢
      simp only at q2 ⊢
      grind
    · have q := main a b (by omega)
      have e : fracV a b = ⟨a / ((a.natAbs.gcd b.natAbs : Nat) : Int), b / ((a.natAbs.gcd b.natAbs : Nat) : Int)⟩ := by
        unfold fracV
        simp only [if_neg hb]
      rw [e]
      exact q
  intro a b hb f
  have gpos : 0 < a.natAbs.gcd b.natAbs := Nat.gcd_pos_of_pos_right _ (by omega)
  have gp : (0 : Int) < ((a.natAbs.gcd b.natAbs : Nat) : Int) := by omega
  have da : ((a.natAbs.gcd b.natAbs : Nat) : Int) ∣ a := PySem.W.mg_dvd_left a b
  have db : ((a.natAbs.gcd b.natAbs : Nat) : Int) ∣ b := PySem.W.mg_dvd_right a b
  have ea : a / ((a.natAbs.gcd b.natAbs : Nat) : Int) * ((a.natAbs.gcd b.natAbs : Nat) : Int) = a := Int.ediv_mul_cancel da
  have eb : b / ((a.natAbs.gcd b.natAbs : Nat) : Int) * ((a.natAbs.gcd b.natAbs : Nat) : Int) = b := Int.ediv_mul_cancel db
  have na : (a / ((a.natAbs.gcd b.natAbs : Nat) : Int)).natAbs = a.natAbs / a.natAbs.gcd b.natAbs := by
    rw [Int.natAbs_ediv_of_dvd da, Int.natAbs_natCast]
  have nb : (b / ((a.natAbs.gcd b.natAbs : Nat) : Int)).natAbs = b.natAbs / a.natAbs.gcd b.natAbs := by
    rw [Int.natAbs_ediv_of_dvd db, Int.natAbs_natCast]
  refine ⟨⟨?_, ?_⟩, ?_, ?_, ?_⟩
  · show 0 < b / ((a.natAbs.gcd b.natAbs : Nat) : Int)
    exact Int.ediv_pos_of_pos_of_dvd hb (by omega) db
  · show (a / ((a.natAbs.gcd b.natAbs : Nat) : Int)).natAbs.gcd (b / ((a.natAbs.gcd b.natAbs : Nat) : Int)).natAbs = 1
    rw [na, nb]
    exact Nat.gcd_div_gcd_div_gcd_of_pos_right (by omega)
  · show a / ((a.natAbs.gcd b.natAbs : Nat) : Int) * b = a * (b / ((a.natAbs.gcd b.natAbs : Nat) : Int))
    generalize a / ((a.natAbs.gcd b.natAbs : Nat) : Int) = x at ea ⊢
    generalize b / ((a.natAbs.gcd b.natAbs : Nat) : Int) = y at eb ⊢
    generalize ((a.natAbs.gcd b.natAbs : Nat) : Int) = g at ea eb
    grind
  · show (a / ((a.natAbs.gcd b.natAbs : Nat) : Int)).natAbs ≤ _
    rw [na]
    exact Nat.div_le_self _ _
  · show (b / ((a.natAbs.gcd b.natAbs : Nat) : Int)).natAbs ≤ _
    rw [nb]
    exact Nat.div_le_self _ _
end Zq


set_option Elab.async false
set_option linter.all false
set_option maxRecDepth 100000
set_option exponentiation.threshold 10000
namespace K1
open PySem PySem.Spec PyProof.Rows L2 Zq
local macro_rules | `(tactic| walk_at "zq") => `(tactic| simp only [E_body, E_var0, E_varS, E_C, E_bin, E_test, E_kB, E_anil, E_acons, E_tup, E_lst, E_b, E_call, E_callK, E_neg, E_kNeg, E_tand, E_tor, E_tnot, E_and, E_or, E_kAnd, E_kOr, E_not, E_kNot, E_ifE, E_chain, E_kCh, E_isN, E_isN0, E_isNt, E_isNi, E_isNs, E_isNl, E_snil, E_scons, E_pass, E_brk, E_cnt, E_ret, E_retN, E_expr, E_if, E_asg, E_set, E_par, E_kPar, E_par3, E_kPar3, E_aug, E_kAug, E_gN, E_gN0, E_gNC, E_gT, E_gS, E_kS, E_kS0, E_kS1, E_kS2, E_sub, E_iadd, E_mul, E_div, E_mod, E_pow, E_lt, E_le, E_gt, E_ge, E_addi, E_adds, E_addt, E_eqi, E_eqs, E_eqb, E_nei, E_nes, E_kAt, E_ixt, E_ixr, E_ixl, E_kAtL, at0, at1, at2, at3, E_abs, E_max, E_min, E_inti, E_intb, E_str, E_dm, E_lent, E_lenr, E_lenl, E_kLen, E_gcd, E_sqrt, E_lcm2, E_lcm3, E_all, E_kAll, E_isii, E_isit, isi_ii, isi_ib, isi_tt, E_iQ, E_kIt, E_kIr, E_kIl, E_kIl', E_iR1, E_kR1, E_for, E_lc, E_lc0, E_lcS, E_kLc, E_yes, E_f0, E_fS, E_stN, E_stS, E_s0, E_sS, E_g0, E_gSx, E_w0, E_wS,
  Mem.put_same, Mem.put_put, Zq.fD, List.map_cons, List.map_nil, List.cons_append, List.nil_append, List.replicate, List.length_cons, List.length_nil, decide_eq_true_eq, Bool.false_eq_true, if_false, if_true, Nat.reduceAdd, Nat.reduceLeDiff, true_and, and_true, Option.map_some])
theorem lt_pow_add {x : Int} {j k : Nat} (h : x.natAbs < 2 ^ j) (hk : j ≤ k) : x.natAbs < 2 ^ k := Nat.lt_of_lt_of_le h (Nat.pow_le_pow_right (by decide) hk)
theorem gcd_loop {M : Mem} {R : WEnds} {a b : Int} (hb : 0 < b) (h : R.nx [some (.int a), some (.int b), some (.int ((a.natAbs.gcd b.natAbs : Nat) : Int)), some (.int 0)] M) :
    sWhile (wTest (wBin fGt (wVar 3) (wC (.int 0)))) (sCons (sPar 2 3 (aCons (wVar 3) (aCons (wBin fMod (wB bInt (aCons (wVar 2) aNil)) (wVar 3)) aNil))) sNil) R
      [some (.int a), some (.int b), some (.int (if a < 0 then -a else a)), some (.int b)] M := by
  refine ⟨fun m ρ M' => M' = M ∧ ∃ x y : Nat, ρ = [some (.int a), some (.int b), some (.int x), some (.int y)] ∧ m = y ∧ x.gcd y = a.natAbs.gcd b.natAbs, ⟨b.natAbs, rfl, a.natAbs, b.natAbs, ?_, rfl, rfl⟩, ?_⟩
  · have e1 : (if a < 0 then -a else a) = (a.natAbs : Int) := by split <;> omega
    have e2 : b = (b.natAbs : Int) := by omega
    rw [e1, ← e2]
  · rintro m ρ M' ⟨rfl, x, y, rfl, rfl, hg⟩
    walk_at "zq"
    by_cases hy : 0 < m
    · have hy' : (0 : Int) < (m : Int) := by omega
      rw [if_pos hy']
      refine ⟨hy', x % m, Nat.mod_lt _ hy, m, x % m, ?_, rfl, ?_⟩
      · rw [Int.natCast_emod]
      · rw [← hg, Nat.gcd_comm m, ← Nat.gcd_rec, Nat.gcd_comm]
    · have e : m = 0 := by omega
      subst e
      rw [if_neg (by omega)]
      rw [Nat.gcd_zero_right] at hg
      rw [hg]
      exact h
theorem frac_ret {a b : Int} {M : Mem} {R : DK} (hb : b ≠ 0) (hk : b.natAbs < 2 ^ 8999) (h : R (fD (fracV a b)) M) : W_law_frac [.int a, .int b] M R := by
  unfold W_law_frac
  walk_at "zq"
  have key : ∀ a b : Int, 0 < b → b.natAbs < 2 ^ 8999 → CDivW a ((a.natAbs.gcd b.natAbs : Nat) : Int) ∧ CDivW b ((a.natAbs.gcd b.natAbs : Nat) : Int) := fun a b h1 h2 => by
    have g0 : 0 < a.natAbs.gcd b.natAbs := Nat.gcd_pos_of_pos_right _ (by omega)
    have g1 : a.natAbs.gcd b.natAbs ≤ b.natAbs := Nat.gcd_le_right _ (by omega)
    exact ⟨divW_of (b := 8999) (by omega) (by omega) (by decide), divW_of (b := 8999) (by omega) (by omega) (by decide)⟩
  unfold fracV at h
  split
  · rename_i hn
    have hn' : b < 0 := hn
    simp only [if_pos hn'] at h
    refine gcd_loop (a := 0 - a) (b := 0 - b) (by omega) ?_
    obtain ⟨k1, k2⟩ := key (0 - a) (0 - b) (by omega) (by omega)
    simp only [List.getElem?_cons_zero, List.getElem?_cons_succ]
    exact ⟨k1, k2, h⟩
  · rename_i hn
    have hn' : ¬ b < 0 := hn
    simp only [if_neg hn'] at h
    refine gcd_loop (a := a) (b := b) (by omega) ?_
    obtain ⟨k1, k2⟩ := key a b (by omega) hk
    simp only [List.getElem?_cons_zero, List.getElem?_cons_succ]
    exact ⟨k1, k2, h⟩

/-! ### the law's fractions -/
def plusV (f g : Fr) : Fr := fracV (f.n * g.d + g.n * f.d) (f.d * g.d)
def lessV (f g : Fr) : Fr := fracV (f.n * g.d - g.n * f.d) (f.d * g.d)
def byV (f g : Fr) : Fr := fracV (f.n * g.n) (f.d * g.d)
def overV (f g : Fr) : Fr := fracV (f.n * g.d) (f.d * g.n)
def backV (f : Fr) : Fr := ⟨0 - f.n, f.d⟩
variable {f g : Fr} {j k : Nat} {M : Mem} {R : DK}
theorem bd_mul {x y : Int} {j k : Nat} (a : x.natAbs < 2 ^ j) (b : y.natAbs < 2 ^ k) : (x * y).natAbs < 2 ^ (j + k) := wide_lt a b
theorem bd_add {x y : Int} {k : Nat} (a : x.natAbs < 2 ^ k) (b : y.natAbs < 2 ^ k) : (x + y).natAbs < 2 ^ (k + 1) := by
  have : 2 ^ (k + 1) = 2 ^ k + 2 ^ k := by rw [Nat.pow_succ]; omega
  omega
theorem bd_sub {x y : Int} {k : Nat} (a : x.natAbs < 2 ^ k) (b : y.natAbs < 2 ^ k) : (x - y).natAbs < 2 ^ (k + 1) := by
  have : 2 ^ (k + 1) = 2 ^ k + 2 ^ k := by rw [Nat.pow_succ]; omega
  omega
theorem mul_ne {x y : Int} (a : 0 < x) (b : 0 < y) : x * y ≠ 0 := by
  have := Int.mul_pos a b
  omega
theorem frac_bd {a b : Int} {k : Nat} (hb : b ≠ 0) (h1 : a.natAbs < 2 ^ k) (h2 : b.natAbs < 2 ^ k) : Bd k (fracV a b) := by
  obtain ⟨_, _, h3, h4⟩ := fracV_ok a hb
  exact ⟨Nat.lt_of_le_of_lt h3 h1, Nat.lt_of_le_of_lt h4 h2⟩
theorem plus_bd (bf : Bd j f) (bg : Bd k g) (hf : 0 < f.d) (hg : 0 < g.d) : Bd (j + k + 1) (plusV f g) :=
  frac_bd (mul_ne hf hg) (bd_add (bd_mul bf.1 bg.2) (by rw [Nat.add_comm j k]; exact bd_mul bg.1 bf.2)) (lt_pow_add (bd_mul bf.2 bg.2) (by omega))
theorem less_bd (bf : Bd j f) (bg : Bd k g) (hf : 0 < f.d) (hg : 0 < g.d) : Bd (j + k + 1) (lessV f g) :=
  frac_bd (mul_ne hf hg) (bd_sub (bd_mul bf.1 bg.2) (by rw [Nat.add_comm j k]; exact bd_mul bg.1 bf.2)) (lt_pow_add (bd_mul bf.2 bg.2) (by omega))
theorem by_bd (bf : Bd j f) (bg : Bd k g) (hf : 0 < f.d) (hg : 0 < g.d) : Bd (j + k) (byV f g) := frac_bd (mul_ne hf hg) (bd_mul bf.1 bg.1) (bd_mul bf.2 bg.2)
theorem plus_ret (bf : Bd j f) (bg : Bd k g) (hf : 0 < f.d) (hg : 0 < g.d) (hk : j + k < 8999) (h : R (fD (plusV f g)) M) : W_law_plus [fD f, fD g] M R := by
  unfold W_law_plus
  walk_at "zq"
  exact ⟨mulW_of bf.1 bg.2 (by omega), mulW_of bg.1 bf.2 (by omega), mulW_of bf.2 bg.2 (by omega), frac_ret (mul_ne hf hg) (lt_pow_add (bd_mul bf.2 bg.2) (by omega)) h⟩
theorem less_ret (bf : Bd j f) (bg : Bd k g) (hf : 0 < f.d) (hg : 0 < g.d) (hk : j + k < 8999) (h : R (fD (lessV f g)) M) : W_law_less [fD f, fD g] M R := by
  unfold W_law_less
  walk_at "zq"
  exact ⟨mulW_of bf.1 bg.2 (by omega), mulW_of bg.1 bf.2 (by omega), mulW_of bf.2 bg.2 (by omega), frac_ret (mul_ne hf hg) (lt_pow_add (bd_mul bf.2 bg.2) (by omega)) h⟩
theorem by_ret (bf : Bd j f) (bg : Bd k g) (hf : 0 < f.d) (hg : 0 < g.d) (hk : j + k < 8999) (h : R (fD (byV f g)) M) : W_law_by [fD f, fD g] M R := by
  unfold W_law_by
  walk_at "zq"
  exact ⟨mulW_of bf.1 bg.1 (by omega), mulW_of bf.2 bg.2 (by omega), frac_ret (mul_ne hf hg) (lt_pow_add (bd_mul bf.2 bg.2) (by omega)) h⟩
theorem over_ret (bf : Bd j f) (bg : Bd k g) (hf : 0 < f.d) (hg : g.n ≠ 0) (hk : j + k < 8999) (h : R (fD (overV f g)) M) : W_law_over [fD f, fD g] M R := by
  unfold W_law_over
  walk_at "zq"
  exact ⟨mulW_of bf.1 bg.2 (by omega), mulW_of bf.2 bg.1 (by omega), frac_ret (Int.mul_ne_zero (by omega) hg) (lt_pow_add (bd_mul bf.2 bg.1) (by omega)) h⟩
theorem back_ret (h : R (fD (backV f)) M) : W_law_back [fD f] M R := by
  unfold W_law_back
  walk_at "zq"
  exact h
theorem sgn_ret (h : R (.int (sg f.n)) M) : W_law_sgn [fD f] M R := by
  unfold W_law_sgn
  walk_at "zq"
  rcases sg_cases f.n with ⟨a, e⟩ | ⟨a, e⟩ | ⟨a, e⟩
  · rw [e] at h
    rw [if_pos a, if_neg (by omega)]
    exact h
  · rw [e] at h
    rw [if_neg (by omega), if_pos a]
    exact h
  · rw [e] at h
    rw [if_neg (by omega), if_neg (by omega)]
    exact h
end K1


set_option Elab.async false
set_option linter.all false
set_option maxRecDepth 100000
set_option exponentiation.threshold 10000
namespace Zq
open PySem PySem.Spec PyProof.Rows L2
theorem Vl.refl (f : Fr) : Vl f f.n f.d := rfl
theorem Vl.sg {f : Fr} {x y : Int} (v : Vl f x y) (hf : 0 < f.d) (hy : 0 < y) : sg f.n = sg x := by
  unfold Vl at v
  have h1 : Zq.sg (y * f.n) = Zq.sg f.n := sg_scale hy
  have h2 : Zq.sg (f.d * x) = Zq.sg x := sg_scale hf
  rw [← h1, ← h2, Int.mul_comm y, v, Int.mul_comm x]
theorem cancel {k x y : Int} (hk : k ≠ 0) (h : k * x = k * y) : x = y := Int.eq_of_mul_eq_mul_left hk h
theorem s1_cong {k l a b a' b' s : Int} (hk : 0 < k) (hl : 0 < l) (h1 : k * a = l * a') (h2 : k * b = l * b') : s1 a b s = s1 a' b' s := by
  rw [← s1_scale hk, h1, h2, s1_scale hl]
theorem s2_cong {k l a b c a' b' c' s t : Int} (hk : 0 < k) (hl : 0 < l) (h1 : k * a = l * a') (h2 : k * b = l * b') (h3 : k * c = l * c') : s2 a b s c t = s2 a' b' s c' t := by
  rw [← s2_scale hk, h1, h2, h3, s2_scale hl]
theorem s1_sg (a b s : Int) : s1 a b s = 1 ∨ s1 a b s = -1 ∨ s1 a b s = 0 := by
  unfold s1
  rcases sg_cases a with ⟨_, e⟩ | ⟨_, e⟩ | ⟨_, e⟩ <;> rcases sg_cases (b * s) with ⟨_, f⟩ | ⟨_, f⟩ | ⟨_, f⟩ <;> rcases sg_cases (a * a - b * b * s) with ⟨_, g⟩ | ⟨_, g⟩ | ⟨_, g⟩ <;> rw [e, f, g] <;> decide
/-- how the laws put two opposite signs together -/
def opp (l r m : Int) : Int := if l = 0 ∨ r = 0 ∨ l = r then (if r = 0 then l else r) else l * (if 0 < m then 1 else 0) + r * (if m < 0 then 1 else 0)
theorem opp_eq {l r m : Int} (hl : l = 1 ∨ l = -1 ∨ l = 0) (hr : r = 1 ∨ r = -1 ∨ r = 0) (hm : m = 1 ∨ m = -1 ∨ m = 0) : opp l r m = if l + r ≠ 0 then sg (l + r) else l * m := by
  rcases hl with rfl | rfl | rfl <;> rcases hr with rfl | rfl | rfl <;> rcases hm with rfl | rfl | rfl <;> decide
theorem sg3 (x : Int) : sg x = 1 ∨ sg x = -1 ∨ sg x = 0 := by
  rcases sg_cases x with ⟨_, e⟩ | ⟨_, e⟩ | ⟨_, e⟩
  · exact .inl e
  · exact .inr (.inl e)
  · exact .inr (.inr e)
end Zq
namespace K1
open PySem PySem.Spec PyProof.Rows L2 Zq
local macro_rules | `(tactic| walk_at "zq") => `(tactic| simp only [E_body, E_var0, E_varS, E_C, E_bin, E_test, E_kB, E_anil, E_acons, E_tup, E_lst, E_b, E_call, E_callK, E_neg, E_kNeg, E_tand, E_tor, E_tnot, E_and, E_or, E_kAnd, E_kOr, E_not, E_kNot, E_ifE, E_chain, E_kCh, E_isN, E_isN0, E_isNt, E_isNi, E_isNs, E_isNl, E_snil, E_scons, E_pass, E_brk, E_cnt, E_ret, E_retN, E_expr, E_if, E_asg, E_set, E_par, E_kPar, E_par3, E_kPar3, E_aug, E_kAug, E_gN, E_gN0, E_gNC, E_gT, E_gS, E_kS, E_kS0, E_kS1, E_kS2, E_sub, E_iadd, E_mul, E_div, E_mod, E_pow, E_lt, E_le, E_gt, E_ge, E_addi, E_adds, E_addt, E_eqi, E_eqs, E_eqb, E_nei, E_nes, E_kAt, E_ixt, E_ixr, E_ixl, E_kAtL, at0, at1, at2, at3, E_abs, E_max, E_min, E_inti, E_intb, E_str, E_dm, E_lent, E_lenr, E_lenl, E_kLen, E_gcd, E_sqrt, E_lcm2, E_lcm3, E_all, E_kAll, E_isii, E_isit, isi_ii, isi_ib, isi_tt, E_iQ, E_kIt, E_kIr, E_kIl, E_kIl', E_iR1, E_kR1, E_for, E_lc, E_lc0, E_lcS, E_kLc, E_yes, E_f0, E_fS, E_stN, E_stS, E_s0, E_sS, E_g0, E_gSx, E_w0, E_wS,
  Mem.put_same, Mem.put_put, Zq.fD, List.map_cons, List.map_nil, List.cons_append, List.nil_append, List.replicate, List.length_cons, List.length_nil, decide_eq_true_eq, Bool.false_eq_true, if_false, if_true, Nat.reduceAdd, Nat.reduceLeDiff, true_and, and_true, Option.map_some])
variable {f g p q r u s : Fr} {j k l : Nat} {M : Mem} {R : DK}
theorem vl_of {a b : Int} (hb : b ≠ 0) : Vl (fracV a b) a b := (fracV_ok a hb).2.1
theorem d_of {a b : Int} (hb : b ≠ 0) : 0 < (fracV a b).d := (fracV_ok a hb).1.1
theorem by_d (hf : 0 < f.d) (hg : 0 < g.d) : 0 < (byV f g).d := d_of (mul_ne hf hg)
theorem plus_d (hf : 0 < f.d) (hg : 0 < g.d) : 0 < (plusV f g).d := d_of (mul_ne hf hg)
theorem less_d (hf : 0 < f.d) (hg : 0 < g.d) : 0 < (lessV f g).d := d_of (mul_ne hf hg)
theorem vl_by {a b c d : Int} (hf : 0 < f.d) (hg : 0 < g.d) (v : Vl f a b) (w : Vl g c d) : Vl (byV f g) (a * c) (b * d) := by
  have e : Vl (byV f g) (f.n * g.n) (f.d * g.d) := vl_of (mul_ne hf hg)
  unfold Vl at *
  refine cancel (mul_ne hf hg) ?_
  have h1 : f.d * g.d * ((byV f g).n * (b * d)) = ((byV f g).n * (f.d * g.d)) * (b * d) := by grind
  have h2 : f.d * g.d * (a * c * (byV f g).d) = (a * f.d) * (c * g.d) * (byV f g).d := by grind
  rw [h1, e, h2, ← v, ← w]
  grind
theorem vl_plus {a b c d : Int} (hf : 0 < f.d) (hg : 0 < g.d) (v : Vl f a b) (w : Vl g c d) : Vl (plusV f g) (a * d + c * b) (b * d) := by
  have e : Vl (plusV f g) (f.n * g.d + g.n * f.d) (f.d * g.d) := vl_of (mul_ne hf hg)
  unfold Vl at *
  refine cancel (mul_ne hf hg) ?_
  have h1 : f.d * g.d * ((plusV f g).n * (b * d)) = ((plusV f g).n * (f.d * g.d)) * (b * d) := by grind
  have h2 : f.d * g.d * ((a * d + c * b) * (plusV f g).d) = ((a * f.d) * (g.d * d) + (c * g.d) * (f.d * b)) * (plusV f g).d := by grind
  rw [h1, e, h2, ← v, ← w]
  grind
theorem vl_less {a b c d : Int} (hf : 0 < f.d) (hg : 0 < g.d) (v : Vl f a b) (w : Vl g c d) : Vl (lessV f g) (a * d - c * b) (b * d) := by
  have e : Vl (lessV f g) (f.n * g.d - g.n * f.d) (f.d * g.d) := vl_of (mul_ne hf hg)
  unfold Vl at *
  refine cancel (mul_ne hf hg) ?_
  have h1 : f.d * g.d * ((lessV f g).n * (b * d)) = ((lessV f g).n * (f.d * g.d)) * (b * d) := by grind
  have h2 : f.d * g.d * ((a * d - c * b) * (lessV f g).d) = ((a * f.d) * (g.d * d) - (c * g.d) * (f.d * b)) * (lessV f g).d := by grind
  rw [h1, e, h2, ← v, ← w]
  grind
/-- the law's sign of p + q root(r) -/
def rsV (p q r : Fr) : Int := s1 (p.n * q.d * r.d) (q.n * p.d) (r.n * r.d)
theorem rs_raw (hp : 0 < p.d) (hq : 0 < q.d) (hr : 0 < r.d) (h0 : 0 ≤ r.n) : opp (sg p.n) (if 0 < r.n then sg q.n else 0) (sg (lessV (byV p p) (byV (byV q q) r)).n) = rsV p q r := by
  have e1 : sg (p.n * q.d * r.d) = sg p.n := by
    rw [Int.mul_assoc, Int.mul_comm, sg_scale (Int.mul_pos hq hr)]
  have e2 : sg (q.n * p.d * (r.n * r.d)) = if 0 < r.n then sg q.n else 0 := by
    have : q.n * p.d * (r.n * r.d) = (p.d * r.d) * (r.n * q.n) := by grind
    rw [this, sg_scale (Int.mul_pos hp hr), sg_mul]
    split
    · rename_i h
      rw [sg_pos h, Int.one_mul]
    · have : r.n = 0 := by omega
      rw [this, sg_zero, Int.zero_mul]
  have v := vl_less (by_d hp hp) (by_d (by_d hq hq) hr) (vl_by hp hp (.refl p) (.refl p)) (vl_by (by_d hq hq) hr (vl_by hq hq (.refl q) (.refl q)) (.refl r))
  have e3 := v.sg (less_d (by_d hp hp) (by_d (by_d hq hq) hr)) (Int.mul_pos (Int.mul_pos hp hp) (Int.mul_pos (Int.mul_pos hq hq) hr))
  have e4 : sg (p.n * p.n * (q.d * q.d * r.d) - q.n * q.n * r.n * (p.d * p.d)) = sg ((p.n * q.d * r.d) * (p.n * q.d * r.d) - (q.n * p.d) * (q.n * p.d) * (r.n * r.d)) := by
    rw [← sg_scale hr]
    congr 1
    grind
  rw [opp_eq (sg3 _) ?_ (sg3 _), e3, e4, ← e2]
  · unfold rsV s1
    rw [e1]
  · split
    · exact sg3 _
    · exact .inr (.inr rfl)
theorem root_sign_ret (bp : Bd j p) (bq : Bd k q) (br : Bd l r) (hp : 0 < p.d) (hq : 0 < q.d) (hr : 0 < r.d) (h0 : 0 ≤ r.n) (hk : j + j + (k + k + l) + 10 < 8999) (h : R (.int (rsV p q r)) M) : W_law_root_sign [fD p, fD q, fD r] M R := by
  rw [← rs_raw hp hq hr h0] at h
  have more : ∀ R : DK, R (.int (sg (lessV (byV p p) (byV (byV q q) r)).n)) M → W_law_by [fD p, fD p] M (fun d M1 => W_law_by [fD q, fD q] M1 (fun d2 M2 => W_law_by [d2, fD r] M2 fun d3 M3 => W_law_less [d, d3] M3 fun d4 M4 => W_law_sgn [d4] M4 R)) := fun R hR =>
    by_ret bp bp hp hp (by omega) (by_ret bq bq hq hq (by omega) (by_ret (by_bd bq bq hq hq) br (by_d hq hq) hr (by omega) (less_ret (by_bd bp bp hp hp) (by_bd (by_bd bq bq hq hq) br (by_d hq hq) hr) (by_d hp hp) (by_d (by_d hq hq) hr) (by omega) (sgn_ret hR))))
  generalize sg (lessV (byV p p) (byV (byV q q) r)).n = m at h more
  have sm : ∀ x : Int, (sg x).natAbs < 2 ^ 10 := fun x => by
    rcases sg3 x with e | e | e <;> rw [e] <;> decide
  have s2 : ∀ c : Prop, ∀ _ : Decidable c, (if c then (1 : Int) else 0).natAbs < 2 ^ 10 := fun c _ => by split <;> decide
  unfold opp at h
  unfold W_law_root_sign
  walk_at "zq"
  refine sgn_ret (f := p) ?_
  by_cases r0 : 0 < r.n
  · simp only [if_pos r0] at h ⊢
    refine sgn_ret (f := q) ?_
    walk_at "zq"
    by_cases l0 : sg p.n = 0
    · simp only [l0, true_or, if_true] at h ⊢
      by_cases l1 : sg q.n = 0
      · simp only [l1, if_true] at h ⊢
        exact h
      · simp only [l1, if_false] at h ⊢
        exact h
    · by_cases l1 : sg q.n = 0
      · simp only [l0, l1, true_or, or_true, if_true, if_false] at h ⊢
        exact h
      · by_cases l2 : sg p.n = sg q.n
        · simp only [l0, l1, l2, or_true, or_false, false_or, if_true, if_false] at h ⊢
          exact h
        · simp only [l0, l1, l2, or_self, if_false] at h ⊢
          refine more _ ?_
          walk_at "zq"
          exact ⟨mulW_of (sm _) (s2 _ _) (by decide), mulW_of (sm _) (s2 _ _) (by decide), h⟩
  · simp only [if_neg r0] at h ⊢
    walk_at "zq"
    simp only [true_or, or_true, if_true] at h ⊢
    split <;> exact h
end K1


set_option Elab.async false
set_option linter.all false
set_option maxRecDepth 100000
set_option exponentiation.threshold 10000
namespace K1
open PySem PySem.Spec PyProof.Rows L2 Zq
local macro_rules | `(tactic| walk_at "zq") => `(tactic| simp only [E_body, E_var0, E_varS, E_C, E_bin, E_test, E_kB, E_anil, E_acons, E_tup, E_lst, E_b, E_call, E_callK, E_neg, E_kNeg, E_tand, E_tor, E_tnot, E_and, E_or, E_kAnd, E_kOr, E_not, E_kNot, E_ifE, E_chain, E_kCh, E_isN, E_isN0, E_isNt, E_isNi, E_isNs, E_isNl, E_snil, E_scons, E_pass, E_brk, E_cnt, E_ret, E_retN, E_expr, E_if, E_asg, E_set, E_par, E_kPar, E_par3, E_kPar3, E_aug, E_kAug, E_gN, E_gN0, E_gNC, E_gT, E_gS, E_kS, E_kS0, E_kS1, E_kS2, E_sub, E_iadd, E_mul, E_div, E_mod, E_pow, E_lt, E_le, E_gt, E_ge, E_addi, E_adds, E_addt, E_eqi, E_eqs, E_eqb, E_nei, E_nes, E_kAt, E_ixt, E_ixr, E_ixl, E_kAtL, at0, at1, at2, at3, E_abs, E_max, E_min, E_inti, E_intb, E_str, E_dm, E_lent, E_lenr, E_lenl, E_kLen, E_gcd, E_sqrt, E_lcm2, E_lcm3, E_all, E_kAll, E_isii, E_isit, isi_ii, isi_ib, isi_tt, E_iQ, E_kIt, E_kIr, E_kIl, E_kIl', E_iR1, E_kR1, E_for, E_lc, E_lc0, E_lcS, E_kLc, E_yes, E_f0, E_fS, E_stN, E_stS, E_s0, E_sS, E_g0, E_gSx, E_w0, E_wS,
  Mem.put_same, Mem.put_put, Zq.fD, List.map_cons, List.map_nil, List.cons_append, List.nil_append, List.replicate, List.length_cons, List.length_nil, decide_eq_true_eq, Bool.false_eq_true, if_false, if_true, Nat.reduceAdd, Nat.reduceLeDiff, true_and, and_true, Option.map_some])

variable {f g p q r u s : Fr} {j k : Nat} {M : Mem} {R : DK}
def two : Fr := ⟨2, 1⟩
/-- the law's sign of p + q root(r) + u root(s) -/
def tsV (p q r u s : Fr) : Int := s2 (p.n * q.d * r.d * (u.d * s.d)) (q.n * p.d * (u.d * s.d)) (r.n * r.d) (u.n * (p.d * q.d * r.d)) (s.n * s.d)
def plainV (p q r u s : Fr) : Fr := lessV (plusV (byV p p) (byV (byV q q) r)) (byV (byV u u) s)
def crossV (p q : Fr) : Fr := byV (byV p q) two
theorem ts_raw (hp : 0 < p.d) (hq : 0 < q.d) (hr : 0 < r.d) (hu : 0 < u.d) (hs : 0 < s.d) (s0 : 0 ≤ s.n) :
    opp (rsV p q r) (if 0 < s.n then sg u.n else 0) (rsV (plainV p q r u s) (crossV p q) r) = tsV p q r u s := by
  have hus : 0 < u.d * s.d := Int.mul_pos hu hs
  have two_d : 0 < two.d := by decide
  have e1 : s1 (p.n * q.d * r.d * (u.d * s.d)) (q.n * p.d * (u.d * s.d)) (r.n * r.d) = rsV p q r :=
    s1_cong (k := 1) (l := u.d * s.d) (by decide) hus (by rw [Int.one_mul, Int.mul_comm]) (by rw [Int.one_mul, Int.mul_comm])
  have e2 : sg (u.n * (p.d * q.d * r.d) * (s.n * s.d)) = if 0 < s.n then sg u.n else 0 := by
    have : u.n * (p.d * q.d * r.d) * (s.n * s.d) = (p.d * q.d * r.d * s.d) * (s.n * u.n) := by grind
    rw [this, sg_scale (Int.mul_pos (Int.mul_pos (Int.mul_pos hp hq) hr) hs), sg_mul]
    split
    · rename_i h
      rw [sg_pos h, Int.one_mul]
    · have : s.n = 0 := by omega
      rw [this, sg_zero, Int.zero_mul]
  have v1 := vl_by hp hp (.refl p) (.refl p)
  have v2 := vl_by (by_d hq hq) hr (vl_by hq hq (.refl q) (.refl q)) (.refl r)
  have v3 := vl_by (by_d hu hu) hs (vl_by hu hu (.refl u) (.refl u)) (.refl s)
  have d1 := by_d hp hp
  have d2 := by_d (by_d hq hq) hr
  have d3 := by_d (by_d hu hu) hs
  have v4 : Vl (plainV p q r u s) _ _ := vl_less (plus_d d1 d2) d3 (vl_plus d1 d2 v1 v2) v3
  have d4 : 0 < (plainV p q r u s).d := less_d (plus_d d1 d2) d3
  have v5 : Vl (crossV p q) _ _ := vl_by (by_d hp hq) two_d (vl_by hp hq (.refl p) (.refl q)) (.refl two)
  have d5 : 0 < (crossV p q).d := by_d (by_d hp hq) two_d
  have e3 : s1 (p.n * q.d * r.d * (u.d * s.d) * (p.n * q.d * r.d * (u.d * s.d)) + q.n * p.d * (u.d * s.d) * (q.n * p.d * (u.d * s.d)) * (r.n * r.d) - u.n * (p.d * q.d * r.d) * (u.n * (p.d * q.d * r.d)) * (s.n * s.d))
      (2 * (p.n * q.d * r.d * (u.d * s.d)) * (q.n * p.d * (u.d * s.d))) (r.n * r.d) = rsV (plainV p q r u s) (crossV p q) r := by
    generalize plainV p q r u s = pl at v4 d4
    generalize crossV p q = w at v5 d5
    unfold Vl at v4 v5
    have hY : 0 < p.d * p.d * (q.d * q.d * r.d) * (u.d * u.d * s.d) := Int.mul_pos (Int.mul_pos (Int.mul_pos hp hp) (Int.mul_pos (Int.mul_pos hq hq) hr)) (Int.mul_pos (Int.mul_pos hu hu) hs)
    refine s1_cong (k := pl.d * w.d) (l := s.d * (p.d * p.d * (q.d * q.d * r.d) * (u.d * u.d * s.d))) (Int.mul_pos d4 d5) (Int.mul_pos hs hY) ?_ ?_
    · have a1 : s.d * (p.d * p.d * (q.d * q.d * r.d) * (u.d * u.d * s.d)) * (pl.n * w.d * r.d) = s.d * w.d * r.d * (pl.n * (p.d * p.d * (q.d * q.d * r.d) * (u.d * u.d * s.d))) := by grind
      rw [a1, v4]
      grind
    · have a1 : s.d * (p.d * p.d * (q.d * q.d * r.d) * (u.d * u.d * s.d)) * (w.n * pl.d) = s.d * pl.d * (p.d * q.d * r.d * (u.d * u.d * s.d)) * (w.n * (p.d * q.d * two.d)) := by
        have : two.d = 1 := rfl
        rw [this]
        grind
      rw [a1, v5]
      have : two.n = 2 := rfl
      rw [this]
      grind
  have rs3 : ∀ p q r : Fr, rsV p q r = 1 ∨ rsV p q r = -1 ∨ rsV p q r = 0 := fun _ _ _ => s1_sg _ _ _
  rw [opp_eq (rs3 _ _ _) ?_ (rs3 _ _ _)]
  · unfold tsV s2
    rw [e1, e2, e3]
  · split
    · exact sg3 _
    · exact .inr (.inr rfl)
theorem rs3 (p q r : Fr) : rsV p q r = 1 ∨ rsV p q r = -1 ∨ rsV p q r = 0 := s1_sg _ _ _
theorem sm3 {x : Int} (h : x = 1 ∨ x = -1 ∨ x = 0) : x.natAbs < 2 ^ 10 := by
  rcases h with e | e | e <;> rw [e] <;> decide
theorem sm2 {c : Prop} [Decidable c] : (if c then (1 : Int) else 0).natAbs < 2 ^ 10 := by split <;> decide
theorem two_bd : Bd 2 two := by unfold Bd two; decide
theorem two_sign_ret (bp : Bd (k + k + 1) p) (bq : Bd k q) (br : Bd k r) (bu : Bd k u) (bs : Bd k s) (hp : 0 < p.d) (hq : 0 < q.d) (hr : 0 < r.d) (hu : 0 < u.d) (hs : 0 < s.d) (r0 : 0 ≤ r.n) (s0 : 0 ≤ s.n) (hk : 27 * k + 50 < 8999)
    (h : R (.int (tsV p q r u s)) M) : W_law_two_sign [fD p, fD q, fD r, fD u, fD s] M R := by
  rw [← ts_raw hp hq hr hu hs s0] at h
  have d1 := by_d hp hp
  have d2 := by_d (by_d hq hq) hr
  have d3 := by_d (by_d hu hu) hs
  have two_d : 0 < two.d := by decide
  have b1 : Bd (10 * k + 4) (plainV p q r u s) := (less_bd (plus_bd (by_bd bp bp hp hp) (by_bd (by_bd bq bq hq hq) br (by_d hq hq) hr) d1 d2) (by_bd (by_bd bu bu hu hu) bs (by_d hu hu) hs) (plus_d d1 d2) d3).mono (by omega)
  have b2 : Bd (3 * k + 3) (crossV p q) := (by_bd (by_bd bp bq hp hq) two_bd (by_d hp hq) two_d).mono (by omega)
  have more : ∀ R : DK, R (.int (rsV (plainV p q r u s) (crossV p q) r)) M → W_law_by [fD p, fD p] M (fun d1 M1 => W_law_by [fD q, fD q] M1 (fun d2 M2 => W_law_by [d2, fD r] M2 fun d3 M3 => W_law_plus [d1, d3] M3 fun d4 M4 => W_law_by [fD u, fD u] M4 fun d5 M5 => W_law_by [d5, fD s] M5 fun d6 M6 => W_law_less [d4, d6] M6 fun d7 M7 =>
      W_law_by [fD p, fD q] M7 fun d8 M8 => W_law_by [d8, fD two] M8 fun d9 M9 => W_law_root_sign [d7, d9, fD r] M9 R)) := fun R hR =>
    by_ret bp bp hp hp (by omega) (by_ret bq bq hq hq (by omega) (by_ret (by_bd bq bq hq hq) br (by_d hq hq) hr (by omega) (plus_ret (by_bd bp bp hp hp) (by_bd (by_bd bq bq hq hq) br (by_d hq hq) hr) d1 d2 (by omega)
      (by_ret bu bu hu hu (by omega) (by_ret (by_bd bu bu hu hu) bs (by_d hu hu) hs (by omega) (less_ret (plus_bd (by_bd bp bp hp hp) (by_bd (by_bd bq bq hq hq) br (by_d hq hq) hr) d1 d2) (by_bd (by_bd bu bu hu hu) bs (by_d hu hu) hs) (plus_d d1 d2) d3 (by omega)
        (by_ret bp bq hp hq (by omega) (by_ret (by_bd bp bq hp hq) two_bd (by_d hp hq) two_d (by omega) (root_sign_ret b1 b2 br (less_d (plus_d d1 d2) d3) (by_d (by_d hp hq) two_d) hr r0 (by omega) hR)))))))))
  generalize rsV (plainV p q r u s) (crossV p q) r = m at h more
  unfold opp at h
  unfold W_law_two_sign
  walk_at "zq"
  refine root_sign_ret (p := p) (q := q) (r := r) bp bq br hp hq hr r0 (by omega) ?_
  have t3 := rs3 p q r
  generalize rsV p q r = l at h t3 ⊢
  by_cases s1 : 0 < s.n
  · simp only [if_pos s1] at h ⊢
    refine sgn_ret (f := u) ?_
    walk_at "zq"
    by_cases l0 : l = 0
    · simp only [l0, true_or, if_true] at h ⊢
      by_cases l1 : sg u.n = 0
      · simp only [l1, if_true] at h ⊢
        exact h
      · simp only [l1, if_false] at h ⊢
        exact h
    · by_cases l1 : sg u.n = 0
      · simp only [l0, l1, true_or, or_true, if_true, if_false] at h ⊢
        exact h
      · by_cases l2 : l = sg u.n
        · rw [l2] at h l0 ⊢
          simp only [l1, or_true, or_false, false_or, if_true, if_false] at h ⊢
          exact h
        · simp only [l0, l1, l2, or_self, if_false] at h ⊢
          refine more _ ?_
          walk_at "zq"
          exact ⟨mulW_of (sm3 t3) sm2 (by decide), mulW_of (sm3 (sg3 _)) sm2 (by decide), h⟩
  · simp only [if_neg s1] at h ⊢
    walk_at "zq"
    simp only [true_or, or_true, if_true] at h ⊢
    split <;> exact h
/-! ### numbers -/
structure Nm where
  p : Fr
  q : Fr
  r : Fr
def nD (a : Nm) : D := .tup [fD a.p, fD a.q, fD a.r]
/-- a number of the document, of no more than so many bits -/
structure Ok (k : Nat) (a : Nm) : Prop where
  p : IsF a.p
  q : IsF a.q
  r : IsF a.r
  r0 : 0 ≤ a.r.n
  bp : Bd k a.p
  bq : Bd k a.q
  br : Bd k a.r
def orderV (a b : Nm) : Int := tsV (lessV a.p b.p) a.q a.r (backV b.q) b.r
theorem back_bd (b : Bd k f) : Bd k (backV f) := ⟨by show (0 - f.n).natAbs < _; have := b.1; omega, b.2⟩
theorem order_ret {a b : Nm} (ha : Ok k a) (hb : Ok k b) (hk : 27 * k + 50 < 8999) (h : R (.int (orderV a b)) M) : W_law_order [nD a, nD b] M R := by
  unfold W_law_order nD
  walk_at "zq"
  refine less_ret (f := a.p) (g := b.p) ha.bp hb.bp ha.p.1 hb.p.1 (by omega) ?_
  refine back_ret (f := b.q) ?_
  exact two_sign_ret (p := lessV a.p b.p) (q := a.q) (r := a.r) (u := backV b.q) (s := b.r) (less_bd ha.bp hb.bp ha.p.1 hb.p.1) ha.bq ha.br (back_bd hb.bq) hb.br (less_d ha.p.1 hb.p.1) ha.q.1 ha.r.1 hb.q.1 hb.r.1 ha.r0 hb.r0 hk h
end K1


set_option Elab.async false
set_option linter.all false
set_option maxRecDepth 100000
set_option exponentiation.threshold 10000
namespace K1
open PySem PySem.Spec PyProof.Rows L2 Zq
local macro_rules | `(tactic| walk_at "zq") => `(tactic| simp only [E_body, E_var0, E_varS, E_C, E_bin, E_test, E_kB, E_anil, E_acons, E_tup, E_lst, E_b, E_call, E_callK, E_neg, E_kNeg, E_tand, E_tor, E_tnot, E_and, E_or, E_kAnd, E_kOr, E_not, E_kNot, E_ifE, E_chain, E_kCh, E_isN, E_isN0, E_isNt, E_isNi, E_isNs, E_isNl, E_snil, E_scons, E_pass, E_brk, E_cnt, E_ret, E_retN, E_expr, E_if, E_asg, E_set, E_par, E_kPar, E_par3, E_kPar3, E_aug, E_kAug, E_gN, E_gN0, E_gNC, E_gT, E_gS, E_kS, E_kS0, E_kS1, E_kS2, E_sub, E_iadd, E_mul, E_div, E_mod, E_pow, E_lt, E_le, E_gt, E_ge, E_addi, E_adds, E_addt, E_eqi, E_eqs, E_eqb, E_nei, E_nes, E_kAt, E_ixt, E_ixr, E_ixl, E_kAtL, at0, at1, at2, at3, E_abs, E_max, E_min, E_inti, E_intb, E_str, E_dm, E_lent, E_lenr, E_lenl, E_kLen, E_gcd, E_sqrt, E_lcm2, E_lcm3, E_all, E_kAll, E_isii, E_isit, isi_ii, isi_ib, isi_tt, E_iQ, E_kIt, E_kIr, E_kIl, E_kIl', E_iR1, E_kR1, E_for, E_lc, E_lc0, E_lcS, E_kLc, E_yes, E_f0, E_fS, E_stN, E_stS, E_s0, E_sS, E_g0, E_gSx, E_w0, E_wS,
  Mem.put_same, Mem.put_put, Zq.fD, List.map_cons, List.map_nil, List.cons_append, List.nil_append, List.replicate, List.length_cons, List.length_nil, decide_eq_true_eq, Bool.false_eq_true, if_false, if_true, Nat.reduceAdd, Nat.reduceLeDiff, true_and, and_true, Option.map_some])
variable {f g p q r u s : Fr} {j k l : Nat} {M : Mem} {R : DK}
theorem whole_sign_ret {x : Int} (h : R (.int (sg x)) M) : W_sign_of_whole [.int x] M R := by
  unfold W_sign_of_whole
  walk_at "zq"
  rcases sg_cases x with ⟨a, e⟩ | ⟨a, e⟩ | ⟨a, e⟩
  · rw [e] at h
    rw [if_pos a]
    exact h
  · rw [e] at h
    rw [if_neg (by omega), if_pos a]
    exact h
  · rw [e] at h
    rw [if_neg (by omega), if_neg (by omega)]
    exact h
theorem with_root_ret {a b s : Int} {i j k : Nat} (ha : a.natAbs < 2 ^ i) (hb : b.natAbs < 2 ^ j) (hs : s.natAbs < 2 ^ k) (hi : i < 100000) (hj : j < 100000) (hk : k < 100000) (h : R (.int (s1 a b s)) M) : W_sign_with_root [.int a, .int b, .int s] M R := by
  unfold W_sign_with_root
  walk_at "zq"
  refine whole_sign_ret ⟨mulW_of hb hs (by omega), whole_sign_ret ?_⟩
  unfold s1 at h
  by_cases c : sg a + sg (b * s) = 0
  · rw [if_neg (by simp only [c, ne_eq, not_true_eq_false, not_false_eq_true])] at h
    walk_at "zq"
    simp only [c, decide_true, Bool.not_true, Bool.false_eq_true, if_false]
    refine ⟨mulW_of ha ha (by omega), mulW_of hb hb (by omega), mulW_of (bd_mul hb hb) hs (by omega), whole_sign_ret ?_⟩
    walk_at "zq"
    exact ⟨mulW_of (sm3 (sg3 _)) (sm3 (sg3 _)) (by decide), h⟩
  · rw [if_pos c] at h
    walk_at "zq"
    simp only [c, decide_false, Bool.not_false, if_true]
    exact whole_sign_ret h
theorem two_roots_ret {a b s c t : Int} {i : Nat} (ha : a.natAbs < 2 ^ i) (hb : b.natAbs < 2 ^ i) (hs : s.natAbs < 2 ^ i) (hc : c.natAbs < 2 ^ i) (ht : t.natAbs < 2 ^ i) (hi : i < 20000) (h : R (.int (s2 a b s c t)) M) : W_sign_with_two_roots [.int a, .int b, .int s, .int c, .int t] M R := by
  unfold W_sign_with_two_roots
  walk_at "zq"
  refine with_root_ret ha hb hs (by omega) (by omega) (by omega) ⟨mulW_of hc ht (by omega), whole_sign_ret ?_⟩
  unfold s2 at h
  by_cases e : s1 a b s + sg (c * t) = 0
  · rw [if_neg (by simp only [e, ne_eq, not_true_eq_false, not_false_eq_true])] at h
    walk_at "zq"
    simp only [e, decide_true, Bool.not_true, Bool.false_eq_true, if_false]
    refine ⟨mulW_of ha ha (by omega), mulW_of hb hb (by omega), mulW_of (bd_mul hb hb) hs (by omega), mulW_of hc hc (by omega), mulW_of (bd_mul hc hc) ht (by omega), mulW_of (a := 2) (by decide) ha (by omega), mulW_of (bd_mul (j := 2) (by decide) ha) hb (by omega), ?_⟩
    refine with_root_ret (i := 3 * i + 2) (j := 2 + i + i) (k := i) ?_ (bd_mul (bd_mul (j := 2) (by decide) ha) hb) hs (by omega) (by omega) (by omega) ?_
    · exact bd_sub (k := 3 * i + 1) (bd_add (k := 3 * i) (lt_pow_add (bd_mul ha ha) (by omega)) (lt_pow_add (bd_mul (bd_mul hb hb) hs) (by omega))) (lt_pow_add (bd_mul (bd_mul hc hc) ht) (by omega))
    · walk_at "zq"
      exact ⟨mulW_of (sm3 (s1_sg _ _ _)) (sm3 (s1_sg _ _ _)) (by decide), h⟩
  · rw [if_pos e] at h
    walk_at "zq"
    simp only [e, decide_false, Bool.not_false, if_true]
    exact whole_sign_ret h
/-! ### what is a number -/
theorem whole_ret {x : Int} (h : R (.bl true) M) : W_is_whole [.int x] M R := by
  unfold W_is_whole
  walk_at "zq"
  exact h
theorem tuple_of_ret {ds : List D} {k : Int} (hk : (ds.length : Int) = k) (h : R (.bl true) M) : W_is_tuple_of [.tup ds, .int k, .int k] M R := by
  subst hk
  unfold W_is_tuple_of
  walk_at "zq"
  simp only [Int.le_refl, decide_true, if_true]
  exact h
theorem frac_is_ret (hf : IsF f) (h : R (.bl true) M) : W_is_fraction [fD f] M R := by
  unfold W_is_fraction
  walk_at "zq"
  refine tuple_of_ret rfl ?_
  walk_at "zq"
  refine whole_ret ?_
  walk_at "zq"
  refine whole_ret ?_
  walk_at "zq"
  rw [if_pos hf.1, hf.2]
  exact h
theorem number_is_ret {a : Nm} (h1 : IsF a.p) (h2 : IsF a.q) (h3 : IsF a.r) (h0 : 0 ≤ a.r.n) (h : ∀ M', Grow M M' → R (.bl true) M') : W_is_number [nD a] M R := by
  unfold W_is_number nD
  walk_at "zq"
  refine tuple_of_ret rfl ?_
  walk_at "zq"
  intro Da hD
  refine frac_is_ret h1 ?_
  walk_at "zq"
  refine frac_is_ret h2 ?_
  walk_at "zq"
  refine frac_is_ret h3 ?_
  walk_at "zq"
  have e : ([D.bl true, .bl true, .bl true] : List D) = [true, true, true].map D.bl := rfl
  rw [e, E_kAll]
  walk_at "zq"
  simp only [List.all_cons, List.all_nil, id, Bool.and_self, if_true, h0, decide_true]
  exact h _ (.put hD)
theorem need_ret {a : Nm} (h1 : IsF a.p) (h2 : IsF a.q) (h3 : IsF a.r) (h0 : 0 ≤ a.r.n) (h : ∀ M', Grow M M' → R .non M') : W_need_number [nD a] M R := by
  unfold W_need_number
  walk_at "zq"
  refine number_is_ret h1 h2 h3 h0 fun M' g => ?_
  walk_at "zq"
  exact h M' g
/-- a number in whole numbers -/
def botV (a : Nm) : Int := (((((1 : Int).natAbs.lcm a.p.d.natAbs).lcm (a.q.d * a.r.d).natAbs : Nat) : Int))
def partV (a : Nm) : Int := a.p.n * (botV a / a.p.d)
def factV (a : Nm) : Int := a.q.n * (botV a / (a.q.d * a.r.d))
theorem bot_facts {a : Nm} (hp : 0 < a.p.d) (hq : 0 < a.q.d) (hr : 0 < a.r.d) : 0 < botV a ∧ partV a * a.p.d = a.p.n * botV a ∧ factV a * (a.q.d * a.r.d) = a.q.n * botV a := by
  have hqr : 0 < a.q.d * a.r.d := Int.mul_pos hq hr
  have e : botV a = ((a.p.d.natAbs.lcm (a.q.d * a.r.d).natAbs : Nat) : Int) := by
    unfold botV
    rw [show (1 : Int).natAbs = 1 from rfl, Nat.lcm_one_left]
  have d1 : a.p.d ∣ botV a := by
    rw [e]
    exact Int.natAbs_dvd_natAbs.mp (by rw [Int.natAbs_natCast]; exact Nat.dvd_lcm_left _ _)
  have d2 : a.q.d * a.r.d ∣ botV a := by
    rw [e]
    exact Int.natAbs_dvd_natAbs.mp (by rw [Int.natAbs_natCast]; exact Nat.dvd_lcm_right _ _)
  refine ⟨?_, ?_, ?_⟩
  · rw [e]
    have := Nat.lcm_pos (m := a.p.d.natAbs) (n := (a.q.d * a.r.d).natAbs) (by omega) (by omega)
    omega
  · unfold partV
    rw [Int.mul_assoc, Int.ediv_mul_cancel d1]
  · unfold factV
    rw [Int.mul_assoc, Int.ediv_mul_cancel d2]
theorem bot_bd {a : Nm} {k : Nat} (ha : Ok k a) : (botV a).natAbs < 2 ^ (3 * k) := by
  have h1 : a.p.d.natAbs < 2 ^ k := ha.bp.2
  have h2 := bd_mul ha.bq.2 ha.br.2
  have h3 : (botV a).natAbs ≤ a.p.d.natAbs * (a.q.d * a.r.d).natAbs := by
    unfold botV
    rw [show (1 : Int).natAbs = 1 from rfl, Nat.lcm_one_left, Int.natAbs_natCast]
    exact lcm_pos_le
  refine Nat.lt_of_le_of_lt h3 ?_
  rw [show 3 * k = k + (k + k) by omega, Nat.pow_add]
  exact Nat.mul_lt_mul'' h1 h2
theorem quot_bd {x y : Int} {k : Nat} (h : x.natAbs < 2 ^ k) (h0 : 0 ≤ x) (hy : 0 < y) : (x / y).natAbs < 2 ^ k := by
  have h1 : 0 ≤ x / y := Int.ediv_nonneg h0 (by omega)
  have h2 : x / y ≤ x := Int.ediv_le_self _ h0
  omega
theorem log_of {n k : Nat} (h : n < 2 ^ k) (hk : k < 6000) : n.log2 < 6000 := by
  by_cases h0 : n = 0
  · subst h0
    decide
  · have := (Nat.log2_lt h0).mpr h
    omega
theorem part_bd {a : Nm} {k : Nat} (ha : Ok k a) : (partV a).natAbs < 2 ^ (4 * k) := by
  rw [show 4 * k = k + 3 * k by omega]
  have b := (bot_facts ha.p.1 ha.q.1 ha.r.1).1
  exact bd_mul ha.bp.1 (quot_bd (bot_bd ha) (by omega) ha.p.1)
theorem fact_bd {a : Nm} {k : Nat} (ha : Ok k a) : (factV a).natAbs < 2 ^ (4 * k) := by
  rw [show 4 * k = k + 3 * k by omega]
  have b := (bot_facts ha.p.1 ha.q.1 ha.r.1).1
  exact bd_mul ha.bq.1 (quot_bd (bot_bd ha) (by omega) (Int.mul_pos ha.q.1 ha.r.1))
theorem in_wholes_ret {a : Nm} (ha : Ok k a) (hk : k < 1500) (h : ∀ M', Grow M M' → R (.tup [.int (partV a), .int (factV a), .int (a.r.n * a.r.d), .int (botV a)]) M') : W_in_wholes [nD a] M R := by
  unfold W_in_wholes nD
  walk_at "zq"
  intro L hL
  unfold W_with_one_root
  walk_at "zq"
  have b0 := (bot_facts ha.p.1 ha.q.1 ha.r.1).1
  have b1 := bot_bd ha
  have qr : 0 < a.q.d * a.r.d := Int.mul_pos ha.q.1 ha.r.1
  have qrb := bd_mul ha.bq.2 ha.br.2
  refine ⟨mulW_of ha.bq.2 ha.br.2 (by omega), by decide, log_of ha.bp.2 (by omega), log_of qrb (by omega), fun Da hD => ?_⟩
  have ne : L ≠ Da := by
    rintro rfl
    rw [Mem.put_same] at hD
    cases hD
  rw [Mem.put_ne ne, Mem.put_ne ne, Mem.put_same]
  have g : ∀ x y, Grow M ((M.put L x).put Da y) := fun x y => (Grow.put hL).trans (fun q ds e => by
    rw [Mem.put_ne]
    · exact e
    · rintro rfl
      by_cases z : q = L
      · exact ne z.symm
      · rw [Mem.put_ne z] at e hD
        rw [hD] at e
        cases e)
  exact ⟨rfl, divW_of ha.p.1 ha.bp.2 (by omega), mulW_of ha.bp.1 (quot_bd b1 (by omega) ha.p.1) (by omega), mulW_of ha.bq.2 ha.br.2 (by omega), divW_of qr qrb (by omega), mulW_of ha.bq.1 (quot_bd b1 (by omega) qr) (by omega), rfl, mulW_of ha.br.1 ha.br.2 (by omega), h _ (g _ _)⟩
theorem sign_of_ret {a : Nm} (ha : Ok k a) (hk : k < 1500) (h : ∀ M', Grow M M' → R (.int (rsV a.p a.q a.r)) M') : W_sign_of [nD a] M R := by
  unfold W_sign_of
  walk_at "zq"
  refine need_ret ha.p ha.q ha.r ha.r0 fun M1 g1 => in_wholes_ret ha hk fun M2 g2 => ?_
  walk_at "zq"
  refine with_root_ret (part_bd ha) (fact_bd ha) (bd_mul ha.br.1 ha.br.2) (by omega) (by omega) (by omega) ?_
  obtain ⟨f0, f1, f2⟩ := bot_facts ha.p.1 ha.q.1 ha.r.1
  have e : s1 (partV a) (factV a) (a.r.n * a.r.d) = rsV a.p a.q a.r := by
    unfold rsV
    refine s1_cong (k := a.p.d * (a.q.d * a.r.d)) (l := botV a) (Int.mul_pos ha.p.1 (Int.mul_pos ha.q.1 ha.r.1)) f0 ?_ ?_
    · grind
    · grind
  rw [e]
  exact h M2 (g1.trans g2)
/-- compared, in the program's own whole numbers -/
theorem cmp_eq {a b : Nm} (hap : 0 < a.p.d) (haq : 0 < a.q.d) (har : 0 < a.r.d) (hbp : 0 < b.p.d) (hbq : 0 < b.q.d) (hbr : 0 < b.r.d) : s2 (partV a * botV b - partV b * botV a) (factV a * botV b) (a.r.n * a.r.d) (-factV b * botV a) (b.r.n * b.r.d) = orderV a b := by
  obtain ⟨a0, a1, a2⟩ := bot_facts hap haq har
  obtain ⟨b0, b1, b2⟩ := bot_facts hbp hbq hbr
  have v : Vl (lessV a.p b.p) _ _ := vl_less hap hbp (.refl a.p) (.refl b.p)
  have d := less_d hap hbp
  unfold orderV tsV
  generalize lessV a.p b.p = x at v d
  unfold Vl at v
  have q1 := Int.mul_pos haq har
  have q2 := Int.mul_pos hbq hbr
  have p1 := Int.mul_pos hap hbp
  generalize botV a = A at *
  generalize botV b = B at *
  generalize partV a = pa at *
  generalize partV b = pb at *
  generalize factV a = fa at *
  generalize factV b = fb at *
  have bd : (backV b.q).d = b.q.d := rfl
  have bn : (backV b.q).n = 0 - b.q.n := rfl
  simp only [bd, bn]
  refine s2_cong (k := a.p.d * b.p.d * x.d * (a.q.d * a.r.d) * (b.q.d * b.r.d)) (l := A * B * (a.p.d * b.p.d)) (Int.mul_pos (Int.mul_pos (Int.mul_pos p1 d) q1) q2) (Int.mul_pos (Int.mul_pos a0 b0) p1) ?_ ?_ ?_
  · have z1 : a.p.d * b.p.d * x.d * (a.q.d * a.r.d) * (b.q.d * b.r.d) * (pa * B - pb * A) = ((pa * a.p.d) * (B * b.p.d) - (pb * b.p.d) * (A * a.p.d)) * (x.d * (a.q.d * a.r.d) * (b.q.d * b.r.d)) := by grind
    rw [z1, a1, b1]
    have z2 : A * B * (a.p.d * b.p.d) * (x.n * a.q.d * a.r.d * (b.q.d * b.r.d)) = (x.n * (a.p.d * b.p.d)) * (A * B * (a.q.d * a.r.d) * (b.q.d * b.r.d)) := by grind
    rw [z2, v]
    grind
  · have z1 : a.p.d * b.p.d * x.d * (a.q.d * a.r.d) * (b.q.d * b.r.d) * (fa * B) = (fa * (a.q.d * a.r.d)) * (a.p.d * b.p.d * x.d * (b.q.d * b.r.d) * B) := by grind
    rw [z1, a2]
    grind
  · have z1 : a.p.d * b.p.d * x.d * (a.q.d * a.r.d) * (b.q.d * b.r.d) * (-fb * A) = (fb * (b.q.d * b.r.d)) * (0 - a.p.d * b.p.d * x.d * (a.q.d * a.r.d) * A) := by grind
    rw [z1, b2]
    grind
theorem order_of_ret {a b : Nm} (ha : Ok k a) (hb : Ok k b) (hk : k < 1500) (h : ∀ M', Grow M M' → R (.int (orderV a b)) M') : W_order_of [nD a, nD b] M R := by
  unfold W_order_of
  walk_at "zq"
  refine in_wholes_ret ha hk fun M3 g3 => ?_
  walk_at "zq"
  refine in_wholes_ret hb hk fun M4 g4 => ?_
  walk_at "zq"
  obtain ⟨a0, a1, a2⟩ := bot_facts ha.p.1 ha.q.1 ha.r.1
  obtain ⟨b0, b1, b2⟩ := bot_facts hb.p.1 hb.q.1 hb.r.1
  have n1 : (-factV b).natAbs < 2 ^ (4 * k) := by
    have := fact_bd hb
    omega
  refine ⟨mulW_of (part_bd ha) (bot_bd hb) (by omega), mulW_of (part_bd hb) (bot_bd ha) (by omega), mulW_of (fact_bd ha) (bot_bd hb) (by omega), mulW_of n1 (bot_bd ha) (by omega), ?_⟩
  have e7 : 4 * k + 3 * k = 7 * k := by omega
  refine two_roots_ret (i := 7 * k + 1) (bd_sub (by rw [← e7]; exact bd_mul (part_bd ha) (bot_bd hb)) (by rw [← e7]; exact bd_mul (part_bd hb) (bot_bd ha))) (lt_pow_add (bd_mul (fact_bd ha) (bot_bd hb)) (by omega)) (lt_pow_add (bd_mul ha.br.1 ha.br.2) (by omega)) (lt_pow_add (bd_mul n1 (bot_bd ha)) (by omega)) (lt_pow_add (bd_mul hb.br.1 hb.br.2) (by omega)) (by omega) ?_
  rw [cmp_eq ha.p.1 ha.q.1 ha.r.1 hb.p.1 hb.q.1 hb.r.1]
  exact h M4 (g3.trans g4)
theorem compared_ret {a b : Nm} (ha : Ok k a) (hb : Ok k b) (hk : k < 1500) (h : ∀ M', Grow M M' → R (.int (orderV a b)) M') : W_compared [nD a, nD b] M R := by
  unfold W_compared
  walk_at "zq"
  refine need_ret ha.p ha.q ha.r ha.r0 fun M1 g1 => need_ret hb.p hb.q hb.r hb.r0 fun M2 g2 => order_of_ret ha hb hk fun M3 g3 => ?_
  exact h M3 (g1.trans (g2.trans g3))
end K1


set_option Elab.async false
set_option linter.all false
set_option maxRecDepth 100000
namespace Zq
open PySem PySem.Spec PyProof.Rows L2
/-! ### the sign of three parts does not hang on their order -/
def dl (X Y Z : Int) : Int := (X + Y - Z) * (X + Y - Z) - 4 * X * Y
def G3 (a b c u v w : Int) : Int :=
  let f := if a + b ≠ 0 then sg (a + b) else a * u
  if f + c ≠ 0 then sg (f + c) else f * (if v + a * b ≠ 0 then sg (v + a * b) else v * w)
def F3 (a b c X Y Z : Int) : Int := G3 a b c (sg (X - Y)) (sg (X + Y - Z)) (sg (dl X Y Z))
theorem s2_F3 (a b s c t : Int) : s2 a b s c t = F3 (sg a) (sg (b * s)) (sg (c * t)) (a * a) (b * b * s) (c * c * t) := by
  have e1 : sg (2 * a * b * s) = sg a * sg (b * s) := by
    rw [show 2 * a * b * s = 2 * (a * (b * s)) by grind, sg_scale (by decide), sg_mul]
  have e2 : (a * a + b * b * s - c * c * t) * (a * a + b * b * s - c * c * t) - 2 * a * b * (2 * a * b) * s = dl (a * a) (b * b * s) (c * c * t) := by
    unfold dl
    grind
  unfold s2 F3 G3 s1
  rw [e1, e2]
theorem dl_symm (X Y Z : Int) : dl X Z Y = dl X Y Z := by
  unfold dl
  grind
theorem dl_neg {X Y Z : Int} (hX : 0 < X) (hY : 0 < Y) (hZ : 0 < Z) (h1 : X < Y + Z) (h2 : Y < X + Z) (h3 : Z ≤ X + Y) : sg (dl X Y Z) = -1 := by
  apply sg_neg
  have a1 : 0 < X * (Y + Z - X) := Int.mul_pos hX (by omega)
  have a2 : 0 < Y * (X + Z - Y) := Int.mul_pos hY (by omega)
  have a3 : 0 ≤ Z * (X + Y - Z) := Int.mul_nonneg (by omega) (by omega)
  have e : dl X Y Z = -(X * (Y + Z - X)) - Y * (X + Z - Y) - Z * (X + Y - Z) := by
    unfold dl
    grind
  omega
def S3 : List Int := [1, -1, 0]
theorem mem3 {x : Int} (h : x = 1 ∨ x = -1 ∨ x = 0) : x ∈ S3 := by
  rcases h with rfl | rfl | rfl <;> decide
theorem G_neg : ∀ a ∈ S3, ∀ b ∈ S3, ∀ c ∈ S3, ∀ u ∈ S3, ∀ v ∈ S3, ∀ w ∈ S3, G3 (-a) (-b) (-c) u v w = -G3 a b c u v w := by decide +kernel
set_option synthInstance.maxHeartbeats 4000000 in
set_option synthInstance.maxSize 4096 in
theorem G_swap0 : ∀ a ∈ S3, ∀ b ∈ S3, ∀ c ∈ S3, ∀ u ∈ S3, ∀ u' ∈ S3, ∀ v ∈ S3, ∀ v' ∈ S3, ∀ w ∈ S3, (a = 0 ∧ v' = -v) ∨ (b = 0 ∧ v = u') ∨ (c = 0 ∧ v' = u) → G3 a b c u v w = G3 a c b u' v' w := by decide +kernel
set_option synthInstance.maxHeartbeats 4000000 in
set_option synthInstance.maxSize 4096 in
theorem G_swap1 : ∀ a ∈ S3, ∀ b ∈ S3, ∀ c ∈ S3, ∀ u ∈ S3, ∀ u' ∈ S3, ∀ v ∈ S3, ∀ v' ∈ S3, ∀ w ∈ S3, a ≠ 0 ∧ b ≠ 0 ∧ c ≠ 0 ∧ (v ≤ 0 → u' = -1) ∧ (v' ≤ 0 → u = -1) ∧ ¬ (v ≤ 0 ∧ v' ≤ 0) ∧ (0 < v' ∧ 0 ≤ v ∧ (u ≤ 0 ∨ u' ≤ 0) → w = -1) ∧ (0 < v ∧ 0 ≤ v' ∧ (u ≤ 0 ∨ u' ≤ 0) → w = -1) → G3 a b c u v w = G3 a c b u' v' w := by decide +kernel
/-- a sign and the square that goes with it -/
structure Sq (a X : Int) : Prop where
  s : a = 1 ∨ a = -1 ∨ a = 0
  z : a = 0 → X = 0
  p : a ≠ 0 → 0 < X
theorem sgle {x : Int} (h : sg x ≤ 0) : x ≤ 0 := by
  rcases sg_cases x with ⟨a, e⟩ | ⟨a, e⟩ | ⟨a, e⟩ <;> omega
theorem sgge {x : Int} (h : 0 ≤ sg x) : 0 ≤ x := by
  rcases sg_cases x with ⟨a, e⟩ | ⟨a, e⟩ | ⟨a, e⟩ <;> omega
theorem sggt {x : Int} (h : 0 < sg x) : 0 < x := by
  rcases sg_cases x with ⟨a, e⟩ | ⟨a, e⟩ | ⟨a, e⟩ <;> omega
theorem F3_swap {a b c X Y Z : Int} (ha : Sq a X) (hb : Sq b Y) (hc : Sq c Z) : F3 a b c X Y Z = F3 a c b X Z Y := by
  unfold F3
  rw [dl_symm X Y Z]
  by_cases a0 : a = 0
  · have := ha.z a0
    subst this
    refine G_swap0 _ (mem3 ha.s) _ (mem3 hb.s) _ (mem3 hc.s) _ (mem3 (sg3 _)) _ (mem3 (sg3 _)) _ (mem3 (sg3 _)) _ (mem3 (sg3 _)) _ (mem3 (sg3 _)) (.inl ⟨a0, ?_⟩)
    rw [← sg_negate]
    congr 1
    omega
  by_cases b0 : b = 0
  · have := hb.z b0
    subst this
    refine G_swap0 _ (mem3 ha.s) _ (mem3 hb.s) _ (mem3 hc.s) _ (mem3 (sg3 _)) _ (mem3 (sg3 _)) _ (mem3 (sg3 _)) _ (mem3 (sg3 _)) _ (mem3 (sg3 _)) (.inr (.inl ⟨b0, ?_⟩))
    congr 1
    omega
  by_cases c0 : c = 0
  · have := hc.z c0
    subst this
    refine G_swap0 _ (mem3 ha.s) _ (mem3 hb.s) _ (mem3 hc.s) _ (mem3 (sg3 _)) _ (mem3 (sg3 _)) _ (mem3 (sg3 _)) _ (mem3 (sg3 _)) _ (mem3 (sg3 _)) (.inr (.inr ⟨c0, ?_⟩))
    congr 1
    omega
  have X0 := ha.p a0
  have Y0 := hb.p b0
  have Z0 := hc.p c0
  refine G_swap1 _ (mem3 ha.s) _ (mem3 hb.s) _ (mem3 hc.s) _ (mem3 (sg3 _)) _ (mem3 (sg3 _)) _ (mem3 (sg3 _)) _ (mem3 (sg3 _)) _ (mem3 (sg3 _)) ⟨a0, b0, c0, fun h => ?_, fun h => ?_, fun h => ?_, fun h => ?_, fun h => ?_⟩
  · have := sgle h
    exact sg_neg (by omega)
  · have := sgle h
    exact sg_neg (by omega)
  · have h1 := sgle h.1
    have h2 := sgle h.2
    omega
  · have h1 := sggt h.1
    have h2 := sgge h.2.1
    refine dl_neg X0 Y0 Z0 ?_ (by omega) (by omega)
    rcases h.2.2 with h3 | h3 <;> (have := sgle h3; omega)
  · have h1 := sggt h.1
    have h2 := sgge h.2.1
    rw [← dl_symm]
    refine dl_neg X0 Z0 Y0 ?_ (by omega) (by omega)
    rcases h.2.2 with h3 | h3 <;> (have := sgle h3; omega)
theorem F3_neg {a b c X Y Z : Int} (ha : a = 1 ∨ a = -1 ∨ a = 0) (hb : b = 1 ∨ b = -1 ∨ b = 0) (hc : c = 1 ∨ c = -1 ∨ c = 0) : F3 (-a) (-b) (-c) X Y Z = -F3 a b c X Y Z :=
  G_neg _ (mem3 ha) _ (mem3 hb) _ (mem3 hc) _ (mem3 (sg3 _)) _ (mem3 (sg3 _)) _ (mem3 (sg3 _))
theorem sq_self (x : Int) : Sq (sg x) (x * x) := by
  refine ⟨sg3 x, fun h => ?_, fun h => ?_⟩
  · rcases sg_cases x with ⟨a, e⟩ | ⟨a, e⟩ | ⟨a, e⟩
    · omega
    · omega
    · rw [a, Int.zero_mul]
  · rcases sg_cases x with ⟨a, e⟩ | ⟨a, e⟩ | ⟨a, e⟩
    · exact Int.mul_pos a a
    · exact Int.mul_pos_of_neg_of_neg a a
    · exact absurd e h
theorem sq_root (b : Int) {s : Int} (h0 : 0 ≤ s) : Sq (sg (b * s)) (b * b * s) := by
  refine ⟨sg3 _, fun h => ?_, fun h => ?_⟩
  · have : b * s = 0 := by
      rcases sg_cases (b * s) with ⟨a, e⟩ | ⟨a, e⟩ | ⟨a, e⟩
      · omega
      · omega
      · exact a
    rw [Int.mul_assoc, this, Int.mul_zero]
  · have bs : b * s ≠ 0 := fun z => h (by rw [z]; rfl)
    have s1 : s ≠ 0 := fun z => bs (by rw [z, Int.mul_zero])
    have b1 : b ≠ 0 := fun z => bs (by rw [z, Int.zero_mul])
    refine Int.mul_pos ?_ (by omega)
    rcases Int.lt_or_lt_of_ne b1 with h1 | h1
    · exact Int.mul_pos_of_neg_of_neg h1 h1
    · exact Int.mul_pos h1 h1
/-- turned round and put in the other order -/
theorem s2_anti {a b s c t : Int} (hs : 0 ≤ s) (ht : 0 ≤ t) : s2 (-a) (-c) t (-b) s = -s2 a b s c t := by
  rw [s2_F3, s2_F3]
  have e1 : -c * t = -(c * t) := by grind
  have e2 : -b * s = -(b * s) := by grind
  have e3 : -a * -a = a * a := by grind
  have e4 : -c * -c * t = c * c * t := by grind
  have e5 : -b * -b * s = b * b * s := by grind
  rw [e1, e2, e3, e4, e5, sg_negate, sg_negate, sg_negate, F3_neg (sg3 _) (sg3 _) (sg3 _), F3_swap (sq_self a) (sq_root b hs) (sq_root c ht)]
/-- a number less itself, told by another root -/
theorem s2_alike {b s c t : Int} (hs : 0 ≤ s) (h1 : b * b * s = c * c * t) (h2 : sg (b * s) = -sg (c * t)) : s2 0 b s c t = 0 := by
  rw [s2_F3, h1, h2]
  have h3 := sg3 (c * t)
  have e : sg (0 * 0 + c * c * t - c * c * t) = 0 := by
    rw [show (0 * 0 + c * c * t - c * c * t) = 0 by omega]
    rfl
  unfold F3
  rw [e]
  have key : ∀ c ∈ S3, ∀ u ∈ S3, ∀ w ∈ S3, G3 0 (-c) c u 0 w = 0 := by decide +kernel
  exact key _ (mem3 h3) _ (mem3 (sg3 _)) _ (mem3 (sg3 _))
end Zq


set_option Elab.async false
set_option linter.all false
set_option maxRecDepth 100000
set_option exponentiation.threshold 10000
namespace K1
open PySem PySem.Spec PyProof.Rows L2 Zq
/-! ### compared is turned round by turning, and nought for twins -/
theorem order_anti {a b : Nm} (hap : 0 < a.p.d) (haq : 0 < a.q.d) (har : 0 < a.r.d) (hbp : 0 < b.p.d) (hbq : 0 < b.q.d) (hbr : 0 < b.r.d) (a0 : 0 ≤ a.r.n) (b0 : 0 ≤ b.r.n) : orderV b a = -orderV a b := by
  rw [← cmp_eq hap haq har hbp hbq hbr, ← cmp_eq hbp hbq hbr hap haq har, ← s2_anti (Int.mul_nonneg a0 (by omega)) (Int.mul_nonneg b0 (by omega))]
  congr 1
  · omega
  · grind
  · grind
theorem order_twin {a b : Nm} (hap : 0 < a.p.d) (haq : 0 < a.q.d) (har : 0 < a.r.d) (hbq : 0 < b.q.d) (hbr : 0 < b.r.d) (a0 : 0 ≤ a.r.n) (b0 : 0 ≤ b.r.n) (hp : b.p = a.p)
    (h1 : a.q.n * a.q.n * a.r.n * (b.q.d * b.q.d * b.r.d) = b.q.n * b.q.n * b.r.n * (a.q.d * a.q.d * a.r.d)) (h2 : sg (a.q.n * a.r.n) = sg (b.q.n * b.r.n)) : orderV a b = 0 := by
  have hbp : 0 < b.p.d := by rw [hp]; exact hap
  rw [← cmp_eq hap haq har hbp hbq hbr]
  obtain ⟨A0, a1, a2⟩ := bot_facts hap haq har
  obtain ⟨B0, b1, b2⟩ := bot_facts hbp hbq hbr
  rw [hp] at b1
  have u : partV a * botV b - partV b * botV a = 0 := by
    have : a.p.d * (partV a * botV b - partV b * botV a) = a.p.d * 0 := by
      have z : a.p.d * (partV a * botV b - partV b * botV a) = (partV a * a.p.d) * botV b - (partV b * a.p.d) * botV a := by grind
      rw [z, a1, b1]
      grind
    exact cancel (by omega) this
  rw [u]
  have qa := Int.mul_pos haq har
  have qb := Int.mul_pos hbq hbr
  generalize botV a = A at *
  generalize botV b = B at *
  generalize factV a = fa at *
  generalize factV b = fb at *
  refine s2_alike (Int.mul_nonneg a0 (by omega)) ?_ ?_
  · refine cancel (k := (a.q.d * a.r.d) * (a.q.d * a.r.d) * ((b.q.d * b.r.d) * (b.q.d * b.r.d))) (mul_ne (Int.mul_pos qa qa) (Int.mul_pos qb qb)) ?_
    have z1 : (a.q.d * a.r.d) * (a.q.d * a.r.d) * ((b.q.d * b.r.d) * (b.q.d * b.r.d)) * (fa * B * (fa * B) * (a.r.n * a.r.d)) = (fa * (a.q.d * a.r.d)) * (fa * (a.q.d * a.r.d)) * (B * B * (a.r.n * a.r.d) * ((b.q.d * b.r.d) * (b.q.d * b.r.d))) := by grind
    have z2 : (a.q.d * a.r.d) * (a.q.d * a.r.d) * ((b.q.d * b.r.d) * (b.q.d * b.r.d)) * (-fb * A * (-fb * A) * (b.r.n * b.r.d)) = (fb * (b.q.d * b.r.d)) * (fb * (b.q.d * b.r.d)) * (A * A * (b.r.n * b.r.d) * ((a.q.d * a.r.d) * (a.q.d * a.r.d))) := by grind
    rw [z1, z2, a2, b2]
    have z3 : a.q.n * A * (a.q.n * A) * (B * B * (a.r.n * a.r.d) * ((b.q.d * b.r.d) * (b.q.d * b.r.d))) = (a.q.n * a.q.n * a.r.n * (b.q.d * b.q.d * b.r.d)) * (A * A * B * B * a.r.d * b.r.d) := by grind
    have z4 : b.q.n * B * (b.q.n * B) * (A * A * (b.r.n * b.r.d) * ((a.q.d * a.r.d) * (a.q.d * a.r.d))) = (b.q.n * b.q.n * b.r.n * (a.q.d * a.q.d * a.r.d)) * (A * A * B * B * a.r.d * b.r.d) := by grind
    rw [z3, z4, h1]
  · have k1 : sg (fa * B * (a.r.n * a.r.d)) = sg (a.q.n * a.r.n) := by
      rw [← sg_scale qa, show (a.q.d * a.r.d) * (fa * B * (a.r.n * a.r.d)) = (fa * (a.q.d * a.r.d)) * (B * (a.r.n * a.r.d)) by grind, a2, show a.q.n * A * (B * (a.r.n * a.r.d)) = (A * B * a.r.d) * (a.q.n * a.r.n) by grind, sg_scale (Int.mul_pos (Int.mul_pos A0 B0) har)]
    have k2 : sg (-fb * A * (b.r.n * b.r.d)) = -sg (b.q.n * b.r.n) := by
      rw [← sg_negate, ← sg_scale qb, show (b.q.d * b.r.d) * (-fb * A * (b.r.n * b.r.d)) = (fb * (b.q.d * b.r.d)) * (0 - A * (b.r.n * b.r.d)) by grind, b2, show b.q.n * B * (0 - A * (b.r.n * b.r.d)) = (A * B * b.r.d) * (-(b.q.n * b.r.n)) by grind, sg_scale (Int.mul_pos (Int.mul_pos A0 B0) hbr)]
    rw [k1, k2, h2, Int.neg_neg]
end K1


set_option Elab.async false
set_option linter.all false
namespace Zr
/-! ### the reals, by sequences of fractions that close in on themselves -/
def Le (f g : Nat → Rat) : Prop := ∀ e : Rat, 0 < e → ∃ N : Nat, ∀ n, N ≤ n → f n - g n < e
structure C where
  f : Nat → Rat
  h : ∀ e : Rat, 0 < e → ∃ N : Nat, ∀ m n, N ≤ m → N ≤ n → f m - f n < e
theorem Le.refl (f : Nat → Rat) : Le f f := fun e he => ⟨0, fun n _ => by grind⟩
theorem Le.trans {f g h : Nat → Rat} (a : Le f g) (b : Le g h) : Le f h := fun e he => by
  obtain ⟨N, hN⟩ := a (e/2) (by grind)
  obtain ⟨M, hM⟩ := b (e/2) (by grind)
  refine ⟨max N M, fun n hn => ?_⟩
  have h1 := hN n (by omega)
  have h2 := hM n (by omega)
  grind
theorem Le.pt {f g : Nat → Rat} (h : ∀ n, f n ≤ g n) : Le f g := fun e he => ⟨0, fun n _ => by have := h n; grind⟩
theorem Le.add {f g f' g' : Nat → Rat} (a : Le f g) (b : Le f' g') : Le (fun n => f n + f' n) (fun n => g n + g' n) := fun e he => by
  obtain ⟨N, hN⟩ := a (e/2) (by grind)
  obtain ⟨M, hM⟩ := b (e/2) (by grind)
  refine ⟨max N M, fun n hn => ?_⟩
  have h1 := hN n (by omega)
  have h2 := hM n (by omega)
  grind
theorem Le.neg {f g : Nat → Rat} (a : Le f g) : Le (fun n => -g n) (fun n => -f n) := fun e he => by
  obtain ⟨N, hN⟩ := a e he
  refine ⟨N, fun n hn => ?_⟩
  have h1 := hN n (by omega)
  grind
theorem mul_bd {x y B d : Rat} (h1 : -B < x) (h2 : x < B) (h3 : -d < y) (h4 : y < d) : x * y < B * d := by
  have a := Rat.mul_pos (show 0 < B - x by grind) (show 0 < d + y by grind)
  have b := Rat.mul_pos (show 0 < B + x by grind) (show 0 < d - y by grind)
  grind
theorem C.bd (a : C) : ∃ B : Rat, 0 < B ∧ ∃ N : Nat, ∀ n, N ≤ n → -B < a.f n ∧ a.f n < B := by
  obtain ⟨N, hN⟩ := a.h 1 (by decide)
  refine ⟨(if 0 ≤ a.f N then a.f N else -a.f N) + 1, by split <;> grind, N, fun n hn => ?_⟩
  have h1 := hN n N hn (Nat.le_refl _)
  have h2 := hN N n (Nat.le_refl _) hn
  split <;> grind
def C.add (a b : C) : C := ⟨fun n => a.f n + b.f n, fun e he => by
  obtain ⟨N, hN⟩ := a.h (e/2) (by grind)
  obtain ⟨M, hM⟩ := b.h (e/2) (by grind)
  refine ⟨max N M, fun m n hm hn => ?_⟩
  have h1 := hN m n (by omega) (by omega)
  have h2 := hM m n (by omega) (by omega)
  grind⟩
def C.neg (a : C) : C := ⟨fun n => -a.f n, fun e he => by
  obtain ⟨N, hN⟩ := a.h e he
  refine ⟨N, fun m n hm hn => ?_⟩
  have h1 := hN n m hn hm
  grind⟩
theorem half_div {e B : Rat} (he : 0 < e) (hB : 0 < B) : 0 < e / (2 * B) ∧ B * (e / (2 * B)) = e / 2 := by
  have hB' : B ≠ 0 := by grind
  refine ⟨?_, by grind⟩
  rw [Rat.div_def]
  exact Rat.mul_pos he (Rat.inv_pos.mpr (by grind))
def C.mul (a b : C) : C := ⟨fun n => a.f n * b.f n, fun e he => by
  obtain ⟨B, hB, N1, h1⟩ := a.bd
  obtain ⟨D, hD, N2, h2⟩ := b.bd
  obtain ⟨p1, q1⟩ := half_div he hB
  obtain ⟨p2, q2⟩ := half_div he hD
  obtain ⟨N3, h3⟩ := b.h _ p1
  obtain ⟨N4, h4⟩ := a.h _ p2
  refine ⟨max (max N1 N2) (max N3 N4), fun m n hm hn => ?_⟩
  have k1 := mul_bd (h1 m (by omega)).1 (h1 m (by omega)).2 (show -(e / (2 * B)) < b.f m - b.f n by have := h3 n m (by omega) (by omega); grind) (h3 m n (by omega) (by omega))
  have k2 := mul_bd (h2 n (by omega)).1 (h2 n (by omega)).2 (show -(e / (2 * D)) < a.f m - a.f n by have := h4 n m (by omega) (by omega); grind) (h4 m n (by omega) (by omega))
  rw [q1] at k1
  rw [q2] at k2
  grind⟩
instance st : Setoid C := ⟨fun a b => Le a.f b.f ∧ Le b.f a.f, ⟨fun _ => ⟨.refl _, .refl _⟩, fun h => ⟨h.2, h.1⟩, fun h k => ⟨h.1.trans k.1, k.2.trans h.2⟩⟩⟩
theorem mul_one_side {a a' b b' : C} (h : Le a.f a'.f ∧ Le a'.f a.f) (k : Le b.f b'.f ∧ Le b'.f b.f) : Le (a.mul b).f (a'.mul b').f := fun e he => by
  obtain ⟨B, hB, N1, h1⟩ := a.bd
  obtain ⟨D, hD, N2, h2⟩ := b'.bd
  obtain ⟨p1, q1⟩ := half_div he hB
  obtain ⟨p2, q2⟩ := half_div he hD
  obtain ⟨N3, h3⟩ := k.1 _ p1
  obtain ⟨N3', h3'⟩ := k.2 _ p1
  obtain ⟨N4, h4⟩ := h.1 _ p2
  obtain ⟨N4', h4'⟩ := h.2 _ p2
  refine ⟨max (max N1 N2) (max (max N3 N3') (max N4 N4')), fun n hn => ?_⟩
  have k1 := mul_bd (h1 n (by omega)).1 (h1 n (by omega)).2 (show -(e / (2 * B)) < b.f n - b'.f n by have := h3' n (by omega); grind) (h3 n (by omega))
  have k2 := mul_bd (h2 n (by omega)).1 (h2 n (by omega)).2 (show -(e / (2 * D)) < a.f n - a'.f n by have := h4' n (by omega); grind) (h4 n (by omega))
  rw [q1] at k1
  rw [q2] at k2
  show a.f n * b.f n - a'.f n * b'.f n < e
  grind
def Rl : Type := Quotient st
namespace Rl
def mk (a : C) : Rl := Quotient.mk st a
theorem eq_of {a b : C} (h1 : Le a.f b.f) (h2 : Le b.f a.f) : mk a = mk b := Quotient.sound ⟨h1, h2⟩
theorem eq_pt {a b : C} (h : ∀ n, a.f n = b.f n) : mk a = mk b := eq_of (.pt fun n => by rw [h n]; exact Rat.le_refl) (.pt fun n => by rw [h n]; exact Rat.le_refl)
def cst (q : Rat) : C := ⟨fun _ => q, fun e he => ⟨0, fun _ _ _ _ => by grind⟩⟩
def q (x : Rat) : Rl := mk (cst x)
instance : Add Rl := ⟨Quotient.lift₂ (fun a b => mk (C.add a b)) fun a b c d h k => Quotient.sound ⟨h.1.add k.1, h.2.add k.2⟩⟩
instance : Neg Rl := ⟨Quotient.lift (fun a => mk (C.neg a)) fun a b h => Quotient.sound ⟨h.2.neg, h.1.neg⟩⟩
instance : Mul Rl := ⟨Quotient.lift₂ (fun a b => mk (C.mul a b)) fun a b c d h k => Quotient.sound ⟨mul_one_side h k, mul_one_side ⟨h.2, h.1⟩ ⟨k.2, k.1⟩⟩⟩
instance : Sub Rl := ⟨fun a b => a + -b⟩
instance : NatCast Rl := ⟨fun n => q n⟩
instance : IntCast Rl := ⟨fun n => q n⟩
instance (n : Nat) : OfNat Rl n := ⟨q n⟩
instance : SMul Nat Rl := ⟨fun n a => (n : Rl) * a⟩
instance : SMul Int Rl := ⟨fun n a => (n : Rl) * a⟩
def npw (a : Rl) : Nat → Rl
  | 0 => 1
  | n + 1 => npw a n * a
instance : HPow Rl Nat Rl := ⟨npw⟩
theorem q_add (x y : Rat) : q (x + y) = q x + q y := rfl
theorem q_mul (x y : Rat) : q (x * y) = q x * q y := rfl
theorem q_neg (x : Rat) : q (-x) = -q x := rfl
theorem q_sub (x y : Rat) : q (x - y) = q x - q y := by
  rw [Rat.sub_eq_add_neg]
  rfl
theorem q_nat (n : Nat) : q (n : Rat) = (OfNat.ofNat n : Rl) := rfl
theorem q_zero : q 0 = 0 := rfl
theorem q_one : q 1 = 1 := rfl
theorem q_two : q 2 = 2 := rfl
theorem mul_comm : ∀ a b : Rl, a * b = b * a := by
  rintro ⟨a⟩ ⟨b⟩
  exact eq_pt fun n => by show a.f n * b.f n = b.f n * a.f n; grind
theorem mul_one : ∀ a : Rl, a * 1 = a := by
  rintro ⟨a⟩
  exact eq_pt fun n => by show a.f n * (1 : Rat) = _; grind
theorem left_distrib : ∀ a b c : Rl, a * (b + c) = a * b + a * c := by
  rintro ⟨a⟩ ⟨b⟩ ⟨c⟩
  exact eq_pt fun n => by show a.f n * (b.f n + c.f n) = a.f n * b.f n + a.f n * c.f n; grind
theorem zero_mul : ∀ a : Rl, 0 * a = 0 := by
  rintro ⟨a⟩
  exact eq_pt fun n => by show (0 : Rat) * a.f n = 0; grind
instance : Lean.Grind.CommRing Rl where
  add_zero := by
    rintro ⟨a⟩
    exact eq_pt fun n => by show a.f n + (0 : Rat) = _; grind
  add_comm := by
    rintro ⟨a⟩ ⟨b⟩
    exact eq_pt fun n => by show a.f n + b.f n = b.f n + a.f n; grind
  add_assoc := by
    rintro ⟨a⟩ ⟨b⟩ ⟨c⟩
    exact eq_pt fun n => by show a.f n + b.f n + c.f n = a.f n + (b.f n + c.f n); grind
  mul_assoc := by
    rintro ⟨a⟩ ⟨b⟩ ⟨c⟩
    exact eq_pt fun n => by show a.f n * b.f n * c.f n = a.f n * (b.f n * c.f n); grind
  mul_one := mul_one
  mul_comm := mul_comm
  left_distrib := left_distrib
  zero_mul := zero_mul
  one_mul := fun a => by rw [mul_comm, mul_one]
  mul_zero := fun a => by rw [mul_comm, zero_mul]
  right_distrib := fun a b c => by rw [mul_comm, left_distrib, mul_comm c, mul_comm c]
  pow_zero := fun _ => rfl
  pow_succ := fun _ _ => rfl
  ofNat_succ := fun n => by
    show q ((n + 1 : Nat) : Rat) = q n + q 1
    rw [← q_add]
    congr 1
    exact Rat.natCast_add n 1
  neg_add_cancel := by
    rintro ⟨a⟩
    exact eq_pt fun n => by show -a.f n + a.f n = (0 : Rat); grind
  sub_eq_add_neg := fun _ _ => rfl
  neg_zsmul := by
    rintro i ⟨a⟩
    exact eq_pt fun n => by
      show ((-i : Int) : Rat) * a.f n = -((i : Rat) * a.f n)
      rw [Rat.intCast_neg]
      grind
  intCast_neg := fun i => by
    show q ((-i : Int) : Rat) = -q i
    rw [Rat.intCast_neg]
    rfl
def le : Rl → Rl → Prop := Quotient.lift₂ (fun a b => Le a.f b.f) fun a b c d h k => propext ⟨fun x => (h.2.trans x).trans k.1, fun x => (h.1.trans x).trans k.2⟩
instance : LE Rl := ⟨le⟩
instance : LT Rl := ⟨fun a b => a ≤ b ∧ ¬ b ≤ a⟩
theorem tot {a b : C} (h : ¬ Le a.f b.f) : Le b.f a.f := by
  refine Classical.byContradiction fun h2 => ?_
  unfold Le at h h2
  obtain ⟨e, h⟩ := Classical.not_forall.mp h
  obtain ⟨he, h⟩ := Classical.not_imp.mp h
  obtain ⟨N, hN⟩ := a.h (e/2) (by grind)
  obtain ⟨M, hM⟩ := b.h (e/2) (by grind)
  have h := (not_exists.mp h) (max N M)
  obtain ⟨n, h⟩ := Classical.not_forall.mp h
  obtain ⟨hn, h⟩ := Classical.not_imp.mp h
  refine h2 fun e' he' => ⟨max N M, fun m hm => ?_⟩
  have h1 := hN n m (by omega) (by omega)
  have h3 := hM m n (by omega) (by omega)
  grind
instance : Std.IsLinearOrder Rl where
  le_refl := by
    rintro ⟨a⟩
    exact Le.refl _
  le_trans := by
    rintro ⟨a⟩ ⟨b⟩ ⟨c⟩ h k
    exact Le.trans h k
  le_antisymm := by
    rintro ⟨a⟩ ⟨b⟩ h k
    exact eq_of h k
  le_total := by
    rintro ⟨a⟩ ⟨b⟩
    by_cases h : Le a.f b.f
    · exact .inl h
    · exact .inr (tot h)
instance : Std.LawfulOrderLT Rl where
  lt_iff := fun _ _ => Iff.rfl
instance : Lean.Grind.OrderedAdd Rl where
  add_le_left_iff := by
    rintro ⟨a⟩ ⟨b⟩ ⟨c⟩
    refine ⟨fun h => Le.add h (Le.refl _), fun h => ?_⟩
    have k := Le.add h (Le.refl (fun n => -c.f n))
    exact (Le.pt fun n => by show a.f n ≤ a.f n + c.f n + -c.f n; grind).trans (k.trans (.pt fun n => by show b.f n + c.f n + -c.f n ≤ b.f n; grind))
theorem pos_of {a b : C} (h : mk a < mk b) : ∃ e : Rat, 0 < e ∧ ∃ N : Nat, ∀ n, N ≤ n → e ≤ b.f n - a.f n := by
  have h := h.2
  unfold LE.le instLE at h
  have h : ¬ Le b.f a.f := h
  unfold Le at h
  obtain ⟨e, h⟩ := Classical.not_forall.mp h
  obtain ⟨he, h⟩ := Classical.not_imp.mp h
  obtain ⟨N, hN⟩ := a.h (e/4) (by grind)
  obtain ⟨M, hM⟩ := b.h (e/4) (by grind)
  have h := (not_exists.mp h) (max N M)
  obtain ⟨n, h⟩ := Classical.not_forall.mp h
  obtain ⟨hn, h⟩ := Classical.not_imp.mp h
  refine ⟨e / 2, by grind, max N M, fun m hm => ?_⟩
  have h1 := hN m n (by omega) (by omega)
  have h3 := hM n m (by omega) (by omega)
  grind
theorem lt_of {a b : C} {e : Rat} (he : 0 < e) {N : Nat} (h : ∀ n, N ≤ n → e ≤ b.f n - a.f n) : mk a < mk b := by
  refine ⟨fun d hd => ⟨N, fun n hn => by have := h n hn; grind⟩, fun (k : Le b.f a.f) => ?_⟩
  obtain ⟨M, hM⟩ := k e he
  have h1 := h (max N M) (by omega)
  have h2 := hM (max N M) (by omega)
  grind
theorem mul_lt {a b c : Rl} : a < b → 0 < c → c * a < c * b := by
  obtain ⟨a⟩ := a
  obtain ⟨b⟩ := b
  obtain ⟨c⟩ := c
  intro h k
  obtain ⟨e, he, N, hN⟩ := pos_of (a := a) (b := b) h
  obtain ⟨d, hd, M, hM⟩ := pos_of (a := cst 0) (b := c) k
  refine lt_of (a := c.mul a) (b := c.mul b) (e := d * e) (Rat.mul_pos hd he) (N := max N M) fun n hn => ?_
  have h1 := hN n (by omega)
  have h2 := hM n (by omega)
  have h2 : d ≤ c.f n - 0 := h2
  show d * e ≤ c.f n * b.f n - c.f n * a.f n
  have k1 := Rat.mul_le_mul_of_nonneg_left h1 (show 0 ≤ c.f n by grind)
  have k2 := Rat.mul_le_mul_of_nonneg_right (show d ≤ c.f n by grind) (show 0 ≤ e by grind)
  grind
theorem q_le {x y : Rat} : q x ≤ q y ↔ x ≤ y := by
  refine ⟨fun h => ?_, fun h => Le.pt fun _ => h⟩
  have h : Le (fun _ => x) (fun _ => y) := h
  refine Classical.byContradiction fun n => ?_
  obtain ⟨N, hN⟩ := h (x - y) (by grind)
  have := hN N (Nat.le_refl _)
  grind
theorem q_lt {x y : Rat} : q x < q y ↔ x < y := by
  show (q x ≤ q y ∧ ¬ q y ≤ q x) ↔ _
  rw [q_le, q_le]
  grind
theorem q_inj {x y : Rat} (h : q x = q y) : x = y := by
  have h1 : q x ≤ q y := by rw [h]; exact q_le.mpr Rat.le_refl
  have h2 : q y ≤ q x := by rw [h]; exact q_le.mpr Rat.le_refl
  exact Rat.le_antisymm (q_le.mp h1) (q_le.mp h2)
instance : Lean.Grind.OrderedRing Rl where
  zero_lt_one := by
    show q 0 < q 1
    exact q_lt.mpr (by decide)
  mul_lt_mul_of_pos_left := fun h k => mul_lt h k
  mul_lt_mul_of_pos_right := fun {a b c} h k => by
    have := mul_lt h k
    rw [mul_comm, mul_comm _ b] at this
    exact this
example (a b c : Rl) (h : a ≤ b) (k : b < c) : a < c := by grind
example (a b c : Rl) (h : a * b = 2 * c) (k : b * c = 1) : a * b * b = 2 := by grind
end Rl
end Zr


set_option Elab.async false
set_option linter.all false
namespace Zr
open PySem.Float64 (isqrt isqrt_spec)
def pp (x : Rat) : Rat := if 0 ≤ x then x else 0
theorem pp_nn (x : Rat) : 0 ≤ pp x := by unfold pp; split <;> grind
theorem pp_ge (x : Rat) : x ≤ pp x := by unfold pp; split <;> grind
theorem pp_sub (x y : Rat) {e : Rat} (he : 0 < e) (h : x - y < e) : pp x - pp y < e := by unfold pp; split <;> split <;> grind
def dn (n : Nat) : Rat := 1 / ((n : Rat) + 1)
theorem nn1 (n : Nat) : (0 : Rat) < (n : Rat) + 1 := by
  have : (0 : Rat) ≤ (n : Rat) := Rat.natCast_nonneg
  grind
theorem dn_pos (n : Nat) : 0 < dn n := by
  unfold dn
  rw [Rat.div_def]
  exact Rat.mul_pos (by decide) (Rat.inv_pos.mpr (nn1 n))
theorem dn_mul (n : Nat) : dn n * ((n : Rat) + 1) = 1 := by
  have := nn1 n
  unfold dn
  grind
theorem dn_small {e : Rat} (he : 0 < e) : ∃ N : Nat, ∀ n, N ≤ n → dn n < e := by
  refine ⟨(1 / e).ceil.toNat, fun n hn => ?_⟩
  have h1 : (1 / e) ≤ ((1 / e).ceil : Rat) := Rat.le_ceil
  have h2 : ((1 / e).ceil : Rat) ≤ (((1 / e).ceil.toNat : Int) : Rat) := Rat.intCast_le_intCast.mpr (by omega)
  have h3 : (((1 / e).ceil.toNat : Int) : Rat) ≤ ((n : Int) : Rat) := Rat.intCast_le_intCast.mpr (by omega)
  have h4 : ((n : Int) : Rat) = (n : Rat) := rfl
  have h5 : 1 / e < (n : Rat) + 1 := by grind
  unfold dn
  rw [Rat.div_lt_iff he] at h5
  rw [Rat.div_lt_iff (nn1 n)]
  grind
def sA (x : Rat) (n : Nat) : Rat := ((isqrt ((pp x * (((n : Rat) + 1) * ((n : Rat) + 1))).floor.toNat) : Nat) : Rat) * dn n
theorem sA_ok (x : Rat) (n : Nat) : 0 ≤ sA x n ∧ sA x n * sA x n ≤ pp x ∧ pp x < (sA x n + dn n) * (sA x n + dn n) := by
  have h0 := pp_nn x
  have hn := nn1 n
  have hd := dn_mul n
  have hp := dn_pos n
  unfold sA
  generalize pp x = y at *
  generalize hw : ((n : Rat) + 1) = w at *
  have z0 : 0 ≤ y * (w * w) := Rat.mul_nonneg h0 (Rat.le_of_lt (Rat.mul_pos hn hn))
  have f1 : (((y * (w * w)).floor : Int) : Rat) ≤ y * (w * w) := Rat.floor_le _
  have f2 := Rat.lt_floor_add_one (y * (w * w))
  have f0 : 0 ≤ (y * (w * w)).floor := Rat.le_floor_iff.mpr z0
  obtain ⟨i1, i2⟩ := isqrt_spec (y * (w * w)).floor.toNat
  generalize isqrt (y * (w * w)).floor.toNat = k at *
  have e1 : (((k * k : Nat) : Int) : Rat) ≤ ((y * (w * w)).floor : Rat) := Rat.intCast_le_intCast.mpr (by omega)
  have e2 : (((y * (w * w)).floor + 1 : Int) : Rat) ≤ ((((k + 1) * (k + 1) : Nat) : Int) : Rat) := Rat.intCast_le_intCast.mpr (by omega)
  have e3 : (((k * k : Nat) : Int) : Rat) = (k : Rat) * (k : Rat) := by
    show ((k * k : Nat) : Rat) = _
    exact Rat.natCast_mul k k
  have e4 : ((((k + 1) * (k + 1) : Nat) : Int) : Rat) = ((k : Rat) + 1) * ((k : Rat) + 1) := by
    show (((k + 1) * (k + 1) : Nat) : Rat) = _
    rw [Rat.natCast_mul, Rat.natCast_add]
    rfl
  rw [e3] at e1
  rw [e4] at e2
  have k0 : (0 : Rat) ≤ (k : Rat) := Rat.natCast_nonneg
  refine ⟨Rat.mul_nonneg k0 (Rat.le_of_lt hp), ?_, ?_⟩
  · have := Rat.mul_le_mul_of_nonneg_right (show (k : Rat) * k ≤ y * (w * w) by grind) (Rat.le_of_lt (Rat.mul_pos hp hp))
    have z : y * (w * w) * (dn n * dn n) = y := by grind
    grind
  · have := Rat.mul_lt_mul_of_pos_right (show y * (w * w) < ((k : Rat) + 1) * ((k : Rat) + 1) by grind) (Rat.mul_pos hp hp)
    have z : y * (w * w) * (dn n * dn n) = y := by grind
    grind
theorem sq_mono {a b : Rat} (h0 : 0 ≤ a) (h : a ≤ b) : a * a ≤ b * b := by
  have h1 := Rat.mul_le_mul_of_nonneg_left h h0
  have h2 := Rat.mul_le_mul_of_nonneg_right h (show 0 ≤ b by grind)
  grind
def C.sq (a : C) : C := ⟨fun n => sA (a.f n) n, fun e he => by
  have hee := Rat.mul_pos he he
  obtain ⟨N1, h1⟩ := dn_small (e := e / 2) (by grind)
  obtain ⟨N2, h2⟩ := a.h (e * e / 4) (by grind)
  refine ⟨max N1 N2, fun m n hm hn => ?_⟩
  refine Classical.byContradiction fun k => ?_
  obtain ⟨m0, m1, m2⟩ := sA_ok (a.f m) m
  obtain ⟨n0, n1, n2⟩ := sA_ok (a.f n) n
  have d1 := h1 n (by omega)
  have d2 := pp_sub _ _ (by grind) (h2 m n (by omega) (by omega))
  have k1 := sq_mono (a := sA (a.f n) n + e) (b := sA (a.f m) m) (by grind) (by grind)
  have k2 := sq_mono (a := sA (a.f n) n + dn n) (b := sA (a.f n) n + e / 2) (by have := dn_pos n; grind) (by grind)
  have k3 := Rat.mul_nonneg n0 (Rat.le_of_lt he)
  grind⟩
namespace Rl
/-- the root of a real from 0 on -/
noncomputable def rt (x : Rl) : Rl := mk (C.sq (Classical.choose (Quotient.exists_rep x)))
theorem rt_nn (x : Rl) : 0 ≤ rt x := Le.pt fun n => (sA_ok _ _).1
theorem rt_sq {x : Rl} (h : 0 ≤ x) : rt x * rt x = x := by
  unfold rt
  have e := Classical.choose_spec (Quotient.exists_rep x)
  generalize Classical.choose (Quotient.exists_rep x) = a at *
  subst e
  have h : Le (fun _ => 0) a.f := h
  refine eq_of (a := C.mul (C.sq a) (C.sq a)) (b := a) ?_ ?_
  · intro e he
    obtain ⟨N, hN⟩ := h e he
    refine ⟨N, fun n hn => ?_⟩
    have h1 := hN n hn
    obtain ⟨m0, m1, m2⟩ := sA_ok (a.f n) n
    show sA (a.f n) n * sA (a.f n) n - a.f n < e
    have : pp (a.f n) - a.f n < e := by unfold pp; split <;> grind
    grind
  · intro e he
    obtain ⟨B, hB, M, hM⟩ := (C.sq a).bd
    obtain ⟨p, pe⟩ := half_div (B := 2 * B + 1) he (by grind)
    obtain ⟨N, hN⟩ := dn_small p
    obtain ⟨N1, h1⟩ := dn_small (e := 1) (by decide)
    refine ⟨max N1 (max N M), fun n hn => ?_⟩
    have d1 := hN n (by omega)
    have d2 := h1 n (by omega)
    have b1 := hM n (by omega)
    have b1 : -B < sA (a.f n) n ∧ sA (a.f n) n < B := b1
    obtain ⟨m0, m1, m2⟩ := sA_ok (a.f n) n
    have g := pp_ge (a.f n)
    have dp := dn_pos n
    show a.f n - sA (a.f n) n * sA (a.f n) n < e
    generalize sA (a.f n) n = s at *
    generalize dn n = d at *
    have k1 := Rat.mul_lt_mul_of_pos_right (show 2 * s + d < 2 * B + 1 by grind) dp
    have k2 := Rat.mul_lt_mul_of_pos_left d1 (show (0 : Rat) < 2 * B + 1 by grind)
    grind
theorem mul_pos {a b : Rl} (h : 0 < a) (k : 0 < b) : 0 < a * b := by
  have := mul_lt h k
  grind
theorem mul_nn {a b : Rl} (h : 0 ≤ a) (k : 0 ≤ b) : 0 ≤ a * b := by
  by_cases h0 : 0 < a
  · by_cases k0 : 0 < b
    · have := mul_pos h0 k0
      grind
    · have : b = 0 := by grind
      rw [this]
      grind
  · have : a = 0 := by grind
    rw [this]
    grind
theorem sq_nn (a : Rl) : 0 ≤ a * a := by
  by_cases h : 0 ≤ a
  · exact mul_nn h h
  · have := mul_nn (a := -a) (b := -a) (by grind) (by grind)
    grind
theorem sq_lt {a b : Rl} (h0 : 0 ≤ a) (h : a < b) : a * a < b * b := by
  have h1 := mul_lt h (show 0 < b by grind)
  have h2 := mul_nn h0 (show 0 ≤ b - a by grind)
  grind
theorem lt_of_sq {a b : Rl} (h0 : 0 ≤ b) (h : a * a < b * b) : a < b := by
  refine Classical.byContradiction fun k => ?_
  by_cases e : a = b
  · rw [e] at h
    grind
  · have := sq_lt h0 (show b < a by grind)
    grind
theorem le_of_sq {a b : Rl} (h0 : 0 ≤ b) (h : a * a ≤ b * b) : a ≤ b := by
  refine Classical.byContradiction fun k => ?_
  have := sq_lt h0 (show b < a by grind)
  grind
theorem eq_of_sq {a b : Rl} (h0 : 0 ≤ a) (h1 : 0 ≤ b) (h : a * a = b * b) : a = b := by
  have k1 := le_of_sq h1 (show a * a ≤ b * b by grind)
  have k2 := le_of_sq h0 (show b * b ≤ a * a by grind)
  grind
theorem rt_of {x y : Rl} (h0 : 0 ≤ y) (h : y * y = x) : rt x = y := by
  have h1 : 0 ≤ x := by rw [← h]; exact sq_nn y
  exact eq_of_sq (rt_nn x) h0 (by rw [rt_sq h1, h])
theorem rt_zero : rt 0 = 0 := rt_of (by grind) (by grind)
theorem rt_mul {x y : Rl} (h0 : 0 ≤ x) (h1 : 0 ≤ y) : rt (x * y) = rt x * rt y := by
  refine rt_of (mul_nn (rt_nn x) (rt_nn y)) ?_
  have a := rt_sq h0
  have b := rt_sq h1
  grind
theorem rt_pos {x : Rl} (h : 0 < x) : 0 < rt x := by
  have h1 := rt_nn x
  have h2 := rt_sq (x := x) (by grind)
  by_cases e : rt x = 0
  · rw [e] at h2
    grind
  · grind
/-! ### signs -/
noncomputable def sgn (x : Rl) : Int := open Classical in if 0 < x then 1 else if x < 0 then -1 else 0
theorem sgn_pos {x : Rl} (h : 0 < x) : sgn x = 1 := by unfold sgn; rw [if_pos h]
theorem sgn_neg {x : Rl} (h : x < 0) : sgn x = -1 := by unfold sgn; rw [if_neg (by grind), if_pos h]
theorem sgn_zero : sgn 0 = 0 := by unfold sgn; rw [if_neg (by grind), if_neg (by grind)]
theorem sgn_cases (x : Rl) : (0 < x ∧ sgn x = 1) ∨ (x < 0 ∧ sgn x = -1) ∨ (x = 0 ∧ sgn x = 0) := by
  by_cases h : 0 < x
  · exact .inl ⟨h, sgn_pos h⟩
  · by_cases k : x < 0
    · exact .inr (.inl ⟨k, sgn_neg k⟩)
    · have : x = 0 := by grind
      exact .inr (.inr ⟨this, by rw [this]; exact sgn_zero⟩)
theorem sgn_scale {k x : Rl} (h : 0 < k) : sgn (k * x) = sgn x := by
  rcases sgn_cases x with ⟨a, e⟩ | ⟨a, e⟩ | ⟨a, e⟩
  · rw [e, sgn_pos (mul_pos h a)]
  · have := mul_pos h (show 0 < -x by grind)
    rw [e, sgn_neg (by grind)]
  · rw [a, show k * (0 : Rl) = 0 by grind]
theorem sgn_negate (x : Rl) : sgn (-x) = -sgn x := by
  rcases sgn_cases x with ⟨a, e⟩ | ⟨a, e⟩ | ⟨a, e⟩
  · rw [e, sgn_neg (by grind)]
  · rw [e, sgn_pos (by grind)]; rfl
  · rw [a, show -(0 : Rl) = 0 by grind, sgn_zero]; rfl
theorem sgn_mul (x y : Rl) : sgn (x * y) = sgn x * sgn y := by
  rcases sgn_cases x with ⟨a, e⟩ | ⟨a, e⟩ | ⟨a, e⟩
  · rw [e, sgn_scale a, Int.one_mul]
  · have : x * y = -((-x) * y) := by grind
    rw [this, sgn_negate, sgn_scale (by grind), e]
    omega
  · rw [a, show (0 : Rl) * y = 0 by grind, sgn_zero, Int.zero_mul]
/-- an int as a real -/
def iR (i : Int) : Rl := q (i : Rat)
theorem iR_add (i j : Int) : iR (i + j) = iR i + iR j := by unfold iR; rw [Rat.intCast_add, q_add]
theorem iR_mul (i j : Int) : iR (i * j) = iR i * iR j := by unfold iR; rw [Rat.intCast_mul, q_mul]
theorem iR_sub (i j : Int) : iR (i - j) = iR i - iR j := by unfold iR; rw [Rat.intCast_sub, q_sub]
theorem iR_neg (i : Int) : iR (-i) = -iR i := by unfold iR; rw [Rat.intCast_neg, q_neg]
theorem iR_zero : iR 0 = 0 := rfl
theorem iR_one : iR 1 = 1 := rfl
theorem iR_two : iR 2 = 2 := rfl
theorem iR_le {i j : Int} : iR i ≤ iR j ↔ i ≤ j := by unfold iR; rw [q_le, Rat.intCast_le_intCast]
theorem iR_lt {i j : Int} : iR i < iR j ↔ i < j := by unfold iR; rw [q_lt, Rat.intCast_lt_intCast]
theorem iR_inj {i j : Int} (h : iR i = iR j) : i = j := by
  have := q_inj h
  exact Rat.intCast_inj.mp this
theorem iR_pos {i : Int} : 0 < iR i ↔ 0 < i := iR_lt (i := 0)
theorem iR_nn {i : Int} : 0 ≤ iR i ↔ 0 ≤ i := iR_le (i := 0)
/-- opposite signs: the squares tell -/
theorem sgn_sum {x y : Rl} : sgn (x + y) = if sgn x + sgn y ≠ 0 then (if 0 < sgn x + sgn y then 1 else -1) else sgn x * sgn (x * x - y * y) := by
  rcases sgn_cases x with ⟨a, e⟩ | ⟨a, e⟩ | ⟨a, e⟩ <;> rcases sgn_cases y with ⟨b, f⟩ | ⟨b, f⟩ | ⟨b, f⟩ <;> rw [e, f]
  · rw [if_pos (by decide), if_pos (by decide), sgn_pos (by grind)]
  · rw [if_neg (by decide), Int.one_mul, show x * x - y * y = (x - y) * (x + y) by grind, sgn_scale (by grind)]
  · rw [if_pos (by decide), if_pos (by decide), sgn_pos (by grind)]
  · rw [if_neg (by decide), show x * x - y * y = -((y - x) * (x + y)) by grind, sgn_negate, sgn_scale (by grind)]
    omega
  · rw [if_pos (by decide), if_neg (by decide), sgn_neg (by grind)]
  · rw [if_pos (by decide), if_neg (by decide), sgn_neg (by grind)]
  · rw [if_pos (by decide), if_pos (by decide), sgn_pos (by grind)]
  · rw [if_pos (by decide), if_neg (by decide), sgn_neg (by grind)]
  · rw [if_neg (by decide), a, b, show (0 : Rl) + 0 = 0 by grind, sgn_zero, Int.zero_mul]
end Rl
end Zr


set_option Elab.async false
set_option linter.all false
set_option maxRecDepth 100000
namespace Zr.Rl
open Zq (sg s1 s2 sg_cases sg_mul)
theorem sg_iR (x : Int) : sg x = sgn (iR x) := by
  rcases sg_cases x with ⟨a, e⟩ | ⟨a, e⟩ | ⟨a, e⟩
  · rw [e, sgn_pos (iR_pos.mpr a)]
  · rw [e, sgn_neg]
    have := iR_lt.mpr a
    rw [iR_zero] at this
    exact this
  · rw [a, iR_zero, sgn_zero]
    rfl
theorem sgn_rt {s : Int} (h : 0 ≤ s) : sgn (rt (iR s)) = sg s := by
  rcases sg_cases s with ⟨a, e⟩ | ⟨a, e⟩ | ⟨a, e⟩
  · rw [e, sgn_pos (rt_pos (iR_pos.mpr a))]
  · omega
  · rw [a, iR_zero, rt_zero, sgn_zero]
    rfl
theorem if_sg {x y : Int} (hx : x = 1 ∨ x = -1 ∨ x = 0) (hy : y = 1 ∨ y = -1 ∨ y = 0) (z : Int) : (if x + y ≠ 0 then (if 0 < x + y then 1 else -1) else z) = if x + y ≠ 0 then sg (x + y) else z := by
  rcases hx with rfl | rfl | rfl <;> rcases hy with rfl | rfl | rfl <;> rfl
theorem sgn3 (x : Rl) : sgn x = 1 ∨ sgn x = -1 ∨ sgn x = 0 := by
  rcases sgn_cases x with ⟨_, e⟩ | ⟨_, e⟩ | ⟨_, e⟩
  · exact .inl e
  · exact .inr (.inl e)
  · exact .inr (.inr e)
theorem s1_real (a b : Int) {s : Int} (h : 0 ≤ s) : s1 a b s = sgn (iR a + iR b * rt (iR s)) := by
  rw [sgn_sum, if_sg (sgn3 _) (sgn3 _)]
  have e1 : sgn (iR b * rt (iR s)) = sg (b * s) := by rw [sgn_mul, sgn_rt h, sg_mul, sg_iR b]
  have e2 : iR a * iR a - iR b * rt (iR s) * (iR b * rt (iR s)) = iR (a * a - b * b * s) := by
    have := rt_sq (iR_nn.mpr h)
    rw [iR_sub, iR_mul, iR_mul, iR_mul]
    grind
  unfold s1
  rw [e1, e2, ← sg_iR, ← sg_iR]
theorem s2_real (a b c : Int) {s t : Int} (h : 0 ≤ s) (k : 0 ≤ t) : s2 a b s c t = sgn (iR a + iR b * rt (iR s) + iR c * rt (iR t)) := by
  rw [sgn_sum, if_sg (sgn3 _) (sgn3 _)]
  have e1 : sgn (iR c * rt (iR t)) = sg (c * t) := by rw [sgn_mul, sgn_rt k, sg_mul, sg_iR c]
  have e2 : (iR a + iR b * rt (iR s)) * (iR a + iR b * rt (iR s)) - iR c * rt (iR t) * (iR c * rt (iR t)) = iR (a * a + b * b * s - c * c * t) + iR (2 * a * b) * rt (iR s) := by
    have z1 := rt_sq (iR_nn.mpr h)
    have z2 := rt_sq (iR_nn.mpr k)
    simp only [iR_sub, iR_mul, iR_add, iR_two]
    grind
  unfold s2
  rw [e1, e2, ← s1_real _ _ h, ← s1_real _ _ h]
end Zr.Rl
namespace K1
open PySem PySem.Spec PyProof.Rows L2 Zq Zr Zr.Rl
/-! ### what fractions and numbers are, as reals -/
def vF (f : Fr) : Rat := (f.n : Rat) / (f.d : Rat)
def fR (f : Fr) : Rl := Rl.q (vF f)
theorem vF_mul {f : Fr} (h : 0 < f.d) : vF f * (f.d : Rat) = (f.n : Rat) := by
  have : (f.d : Rat) ≠ 0 := by
    have := Rat.intCast_pos.mpr h
    grind
  unfold vF
  grind
theorem fR_mul {f : Fr} (h : 0 < f.d) : fR f * iR f.d = iR f.n := by
  unfold fR iR
  rw [← Rl.q_mul, vF_mul h]
theorem rl_cancel {a x y : Rl} (h : 0 < a) (e : a * x = a * y) : x = y := by
  have k1 : ¬ x < y := fun z => by
    have := mul_lt z h
    grind
  have k2 : ¬ y < x := fun z => by
    have := mul_lt z h
    grind
  grind
theorem fR_of {f : Fr} {x y : Int} (h : 0 < f.d) (hy : y ≠ 0) (v : Vl f x y) : fR f * iR y = iR x := by
  have e := fR_mul h
  unfold Vl at v
  have v2 : iR f.n * iR y = iR x * iR f.d := by rw [← iR_mul, ← iR_mul, v]
  refine rl_cancel (iR_pos.mpr h) ?_
  rw [← e] at v2
  grind
theorem of_fR {f : Fr} {x : Rl} (h : 0 < f.d) (e : x * iR f.d = iR f.n) : fR f = x := by
  refine rl_cancel (iR_pos.mpr h) ?_
  have := fR_mul h
  grind
theorem frac_fR {a b : Int} (hb : b ≠ 0) : fR (fracV a b) * iR b = iR a := fR_of (fracV_ok a hb).1.1 hb (fracV_ok a hb).2.1
variable {f g p q r u s : Fr}
theorem fR_by (hf : 0 < f.d) (hg : 0 < g.d) : fR (byV f g) = fR f * fR g := by
  have e := frac_fR (a := f.n * g.n) (b := f.d * g.d) (mul_ne hf hg)
  have e1 := fR_mul hf
  have e2 := fR_mul hg
  refine rl_cancel (iR_pos.mpr (Int.mul_pos hf hg)) ?_
  rw [iR_mul] at e ⊢
  rw [iR_mul] at e
  show _ * fR (fracV (f.n * g.n) (f.d * g.d)) = _
  grind
theorem fR_plus (hf : 0 < f.d) (hg : 0 < g.d) : fR (plusV f g) = fR f + fR g := by
  have e := frac_fR (a := f.n * g.d + g.n * f.d) (b := f.d * g.d) (mul_ne hf hg)
  have e1 := fR_mul hf
  have e2 := fR_mul hg
  refine rl_cancel (iR_pos.mpr (Int.mul_pos hf hg)) ?_
  simp only [iR_mul, iR_add] at e ⊢
  show _ * fR (fracV (f.n * g.d + g.n * f.d) (f.d * g.d)) = _
  grind
theorem fR_less (hf : 0 < f.d) (hg : 0 < g.d) : fR (lessV f g) = fR f - fR g := by
  have e := frac_fR (a := f.n * g.d - g.n * f.d) (b := f.d * g.d) (mul_ne hf hg)
  have e1 := fR_mul hf
  have e2 := fR_mul hg
  refine rl_cancel (iR_pos.mpr (Int.mul_pos hf hg)) ?_
  simp only [iR_mul, iR_sub] at e ⊢
  show _ * fR (fracV (f.n * g.d - g.n * f.d) (f.d * g.d)) = _
  grind
theorem fR_over (hf : 0 < f.d) (hg : 0 < g.d) (h0 : g.n ≠ 0) : fR (overV f g) * fR g = fR f := by
  have e := frac_fR (a := f.n * g.d) (b := f.d * g.n) (Int.mul_ne_zero (by omega) h0)
  have e1 := fR_mul hf
  have e2 := fR_mul hg
  have e0 : fR (overV f g) = fR (fracV (f.n * g.d) (f.d * g.n)) := rfl
  rw [e0]
  refine rl_cancel (iR_pos.mpr hf) (rl_cancel (iR_pos.mpr hg) ?_)
  simp only [iR_mul] at e ⊢
  grind
theorem fR_back (hf : 0 < f.d) : fR (backV f) = -fR f := by
  have e1 := fR_mul hf
  refine of_fR hf ?_
  show -fR f * iR f.d = iR (0 - f.n)
  rw [iR_sub, iR_zero]
  grind
theorem fR_int (x : Int) : fR ⟨x, 1⟩ = iR x := of_fR (by show (0 : Int) < 1; decide) (by show iR x * iR 1 = iR x; rw [iR_one]; grind)
theorem fR_zero_int : fR ⟨0, 1⟩ = 0 := fR_int 0
theorem sgn_fR (hf : 0 < f.d) : sgn (fR f) = sg f.n := by
  rw [sg_iR, ← fR_mul hf, show fR f * iR f.d = iR f.d * fR f by grind, sgn_scale (iR_pos.mpr hf)]
theorem fR_nn (hf : 0 < f.d) : 0 ≤ fR f ↔ 0 ≤ f.n := by
  have e := sgn_fR hf
  constructor
  · intro h
    rcases sgn_cases (fR f) with ⟨a, k⟩ | ⟨a, k⟩ | ⟨a, k⟩
    · exact sgge (by omega)
    · grind
    · exact sgge (by omega)
  · intro h
    rcases sgn_cases (fR f) with ⟨a, k⟩ | ⟨a, k⟩ | ⟨a, k⟩
    · grind
    · rw [k] at e
      rcases sg_cases f.n with ⟨b, z⟩ | ⟨b, z⟩ | ⟨b, z⟩ <;> omega
    · grind
theorem fR_zero (hf : 0 < f.d) : fR f = 0 ↔ f.n = 0 := by
  have e := fR_mul hf
  constructor
  · intro h
    rw [h] at e
    exact (iR_inj (by rw [iR_zero]; grind)).symm
  · intro h
    rw [h, iR_zero] at e
    exact rl_cancel (iR_pos.mpr hf) (by grind)
/-- lowest terms are just one pair -/
theorem isF_eq (hf : IsF f) (hg : IsF g) (e : fR f = fR g) : f = g := by
  have e1 := fR_mul hf.1
  have e2 := fR_mul hg.1
  have x : f.n * g.d = g.n * f.d := by
    apply iR_inj
    rw [iR_mul, iR_mul, ← e1, ← e2, e]
    grind
  have f0 := hf.1
  have g0 := hg.1
  have xn : f.n.natAbs * g.d.natAbs = g.n.natAbs * f.d.natAbs := by
    rw [← Int.natAbs_mul, ← Int.natAbs_mul, x]
  have d1 : f.d.natAbs ∣ g.d.natAbs := by
    refine Nat.Coprime.dvd_of_dvd_mul_left (k := f.d.natAbs) (m := f.n.natAbs) (n := g.d.natAbs) ?_ ?_
    · have := hf.2
      rw [Nat.gcd_comm] at this
      exact this
    · rw [xn]
      exact ⟨_, Nat.mul_comm _ _⟩
  have d2 : g.d.natAbs ∣ f.d.natAbs := by
    refine Nat.Coprime.dvd_of_dvd_mul_left (k := g.d.natAbs) (m := g.n.natAbs) (n := f.d.natAbs) ?_ ?_
    · have := hg.2
      rw [Nat.gcd_comm] at this
      exact this
    · rw [← xn]
      exact ⟨_, Nat.mul_comm _ _⟩
  have dd : f.d = g.d := by
    have := Nat.dvd_antisymm d1 d2
    omega
  have nn : f.n = g.n := by
    rw [dd] at x
    exact Int.eq_of_mul_eq_mul_right (by omega) x
  cases f
  cases g
  cases dd
  cases nn
  rfl
theorem rt_scale {x : Rl} {k : Int} (h : 0 ≤ x) (hk : 0 ≤ k) : rt (x * (iR k * iR k)) = rt x * iR k := by
  refine rt_of (mul_nn (rt_nn x) (iR_nn.mpr hk)) ?_
  have := rt_sq h
  grind
theorem rt_fR (hr : 0 < r.d) (h0 : 0 ≤ r.n) : rt (iR (r.n * r.d)) = rt (fR r) * iR r.d := by
  rw [← rt_scale ((fR_nn hr).mpr h0) (by omega), iR_mul, ← fR_mul hr]
  congr 1
  grind
theorem rs_real (hp : 0 < p.d) (hq : 0 < q.d) (hr : 0 < r.d) (h0 : 0 ≤ r.n) : rsV p q r = sgn (fR p + fR q * rt (fR r)) := by
  unfold rsV
  rw [s1_real _ _ (Int.mul_nonneg h0 (by omega)), rt_fR hr h0]
  have e1 := fR_mul hp
  have e2 := fR_mul hq
  rw [← sgn_scale (k := iR (p.d * q.d * r.d)) (x := fR p + fR q * rt (fR r)) (iR_pos.mpr (Int.mul_pos (Int.mul_pos hp hq) hr))]
  congr 1
  simp only [iR_mul]
  rw [← e1, ← e2]
  grind
theorem ts_real (hp : 0 < p.d) (hq : 0 < q.d) (hr : 0 < r.d) (hu : 0 < u.d) (hs : 0 < s.d) (h0 : 0 ≤ r.n) (k0 : 0 ≤ s.n) : tsV p q r u s = sgn (fR p + fR q * rt (fR r) + fR u * rt (fR s)) := by
  unfold tsV
  rw [s2_real _ _ _ (Int.mul_nonneg h0 (by omega)) (Int.mul_nonneg k0 (by omega)), rt_fR hr h0, rt_fR hs k0]
  have e1 := fR_mul hp
  have e2 := fR_mul hq
  have e3 := fR_mul hu
  rw [← sgn_scale (k := iR (p.d * q.d * r.d * (u.d * s.d))) (x := fR p + fR q * rt (fR r) + fR u * rt (fR s)) (iR_pos.mpr (Int.mul_pos (Int.mul_pos (Int.mul_pos hp hq) hr) (Int.mul_pos hu hs)))]
  congr 1
  simp only [iR_mul]
  rw [← e1, ← e2, ← e3]
  grind
/-- a number as a real -/
noncomputable def nR (a : Nm) : Rl := fR a.p + fR a.q * rt (fR a.r)
/-- what a number has at least -/
structure Nn (a : Nm) : Prop where
  p : 0 < a.p.d
  q : 0 < a.q.d
  r : 0 < a.r.d
  r0 : 0 ≤ a.r.n
theorem Ok.nn {k : Nat} {a : Nm} (h : Ok k a) : Nn a := ⟨h.p.1, h.q.1, h.r.1, h.r0⟩
theorem order_real {a b : Nm} (ha : Nn a) (hb : Nn b) : orderV a b = sgn (nR a - nR b) := by
  unfold orderV
  rw [ts_real (u := backV b.q) (less_d ha.p hb.p) ha.q ha.r hb.q hb.r ha.r0 hb.r0, fR_less ha.p hb.p, fR_back hb.q]
  congr 1
  unfold nR
  grind
end K1


set_option Elab.async false
set_option linter.all false
set_option maxRecDepth 100000
set_option exponentiation.threshold 10000
namespace K1
open PySem PySem.Spec PyProof.Rows L2 Zq
local macro_rules | `(tactic| walk_at "zq") => `(tactic| simp only [E_body, E_var0, E_varS, E_C, E_bin, E_test, E_kB, E_anil, E_acons, E_tup, E_lst, E_b, E_call, E_callK, E_neg, E_kNeg, E_tand, E_tor, E_tnot, E_and, E_or, E_kAnd, E_kOr, E_not, E_kNot, E_ifE, E_chain, E_kCh, E_isN, E_isN0, E_isNt, E_isNi, E_isNs, E_isNl, E_snil, E_scons, E_pass, E_brk, E_cnt, E_ret, E_retN, E_expr, E_if, E_asg, E_set, E_par, E_kPar, E_par3, E_kPar3, E_aug, E_kAug, E_gN, E_gN0, E_gNC, E_gT, E_gS, E_kS, E_kS0, E_kS1, E_kS2, E_sub, E_iadd, E_mul, E_div, E_mod, E_pow, E_lt, E_le, E_gt, E_ge, E_addi, E_adds, E_addt, E_eqi, E_eqs, E_eqb, E_nei, E_nes, E_kAt, E_ixt, E_ixr, E_ixl, E_kAtL, at0, at1, at2, at3, E_abs, E_max, E_min, E_inti, E_intb, E_str, E_dm, E_lent, E_lenr, E_lenl, E_kLen, E_gcd, E_sqrt, E_lcm2, E_lcm3, E_all, E_kAll, E_isii, E_isit, isi_ii, isi_ib, isi_tt, E_iQ, E_kIt, E_kIr, E_kIl, E_kIl', E_iR1, E_kR1, E_for, E_lc, E_lc0, E_lcS, E_kLc, E_yes, E_f0, E_fS, E_stN, E_stS, E_s0, E_sS, E_g0, E_gSx, E_w0, E_wS,
  Mem.put_same, Mem.put_put, Zq.fD, List.map_cons, List.map_nil, List.cons_append, List.nil_append, List.replicate, List.length_cons, List.length_nil, decide_eq_true_eq, Bool.false_eq_true, if_false, if_true, Nat.reduceAdd, Nat.reduceLeDiff, true_and, and_true, Option.map_some])
variable {M : Mem} {R : DK} {p : Addr} {n : Nat}
/-! ### what the law draws -/
theorem atI_mem {ds : List D} {v : Int} (h0 : 0 ≤ v) (h : v < ds.length) : ∃ d, atI ds v = some d ∧ d ∈ ds := by
  have hl : v.toNat < ds.length := by omega
  refine ⟨ds[v.toNat], ?_, List.getElem_mem hl⟩
  have := @atI_nat D ds v.toNat ds[v.toNat] (List.getElem?_eq_getElem hl)
  rw [show ((v.toNat : Nat) : Int) = v by omega] at this
  exact this
theorem one_of_ret {q : Addr} {ds : List D} (j : Jar M p n) (hn : n < 2 ^ 100) (e : M q = some ds) (ne : q ≠ p) (h0 : 0 < ds.length) (h1 : ds.length < 1000) (h : ∀ d M', d ∈ ds → Jar M' p (n + 1) → GrowX p M M' → R d M') : W_law_one_of [.lst p, .lst q] M R := by
  unfold W_law_one_of
  walk_at "zq"
  rw [e, E_kLen]
  refine dip_ret j (Nat.lt_trans hn (Nat.pow_lt_pow_right (by decide) (by decide))) (by omega) (by omega) fun v M' v0 v1 j' g => ?_
  walk_at "zq"
  rw [g q ds ne e, E_kAtL]
  obtain ⟨d, e2, hd⟩ := atI_mem v0 v1
  rw [e2, E_kAt]
  exact h d M' hd j' g
theorem dip_ret' {v : Int} (j : Jar M p n) (hn : n < 2 ^ 100) (h0 : 0 < v) (h1 : v < 1073741824) (h : ∀ x M', 0 ≤ x → x < v → Jar M' p (n + 1) → GrowX p M M' → R (.int x) M') : W_law_dip [.lst p, .int v] M R :=
  dip_ret j (Nat.lt_trans hn (Nat.pow_lt_pow_right (by decide) (by decide))) h0 h1 h
theorem jar_ne {q : Addr} (j : Jar M p n) (hq : M q = none) : q ≠ p := by
  rintro rfl
  obtain ⟨_, _, _, e, _⟩ := j
  rw [hq] at e
  cases e
theorem jar_put {q : Addr} {ds : List D} (j : Jar M p n) (hq : M q = none) : Jar (M.put q ds) p n := j.grow (.put hq)
/-- one of a list that is made just now -/
theorem one_of_new {q : Addr} {ds : List D} (j : Jar M p n) (hn : n < 2 ^ 100) (hq : M q = none) (h0 : 0 < ds.length) (h1 : ds.length < 1000) (h : ∀ d M', d ∈ ds → Jar M' p (n + 1) → GrowX p M M' → R d M') : W_law_one_of [.lst p, .lst q] (M.put q ds) R :=
  one_of_ret (jar_put j hq) hn Mem.put_same (jar_ne j hq) h0 h1 fun d M' hd j' g => h d M' hd j' ((Grow.put hq).x.trans g)
theorem range6 : rangeD 0 (6 : Int).toNat = [.int 0, .int 1, .int 2, .int 3, .int 4, .int 5] := rfl
theorem great_ret (j : Jar M p n) (hn : n + 6 < 2 ^ 100) (h : ∀ (x : Int) M', x.natAbs < 2 ^ 121 → Jar M' p (n + 6) → GrowX p M M' → R (.int x) M') : W_law_great [.lst p] M R := by
  unfold W_law_great
  walk_at "zq"
  refine ⟨by decide, by decide, ?_⟩
  have main : ∀ (ds : List D) (k i : Nat) (x : Int) (M1 : Mem) (o : Option D), (∀ d ∈ ds, True) → ds.length + i = 6 → 0 ≤ x → x.natAbs < 2 ^ (1 + 20 * i) → Jar M1 p (n + i) → GrowX p M M1 →
      forGo none (rangeD 0 (6 : Int).toNat) (gN 2) (sCons (sSet 1 (wBin fAdd (wBin fMul (wVar 1) (wC (.int 1000003))) (wCall W_law_dip (aCons (wVar 0) (aCons (wC (.int 1000003)) aNil))))) sNil)
        { nx := fun ρ' M' => sCons (sRet (wVar 1)) sNil { nx := fun _ M' => R .non M', rt := R } ρ' M', rt := R } ds [some (.lst p), some (.int x), o] M1 := by
    intro ds
    induction ds with
    | nil =>
      intro k i x M1 o _ hi hx hb j1 g1
      have : i = 6 := by simpa using hi
      subst this
      walk_at "zq"
      exact h x M1 hb j1 g1
    | cons d ds ih =>
      intro k i x M1 o _ hi hx hb j1 g1
      rw [List.length_cons] at hi
      walk_at "zq"
      refine ⟨mulW_of hb (b := 20) (by decide) (by omega), dip_ret' j1 (by omega) (by decide) (by decide) fun v M2 v0 v1 j2 g2 => ?_⟩
      walk_at "zq"
      have := ih k (i + 1) (x * 1000003 + v) M2 (some d) (fun _ _ => trivial) (by omega) (by omega) ?_ (by rw [← Nat.add_assoc]; exact j2) (g1.trans g2)
      · exact this
      · have e : 2 ^ (1 + 20 * (i + 1)) = 2 ^ (1 + 20 * i) * 1048576 := by
          rw [show 1 + 20 * (i + 1) = (1 + 20 * i) + 20 by omega, Nat.pow_add]
        rw [e]
        generalize 2 ^ (1 + 20 * i) = z at *
        omega
  exact main _ 0 0 1 M none (fun _ _ => trivial) (by rw [rangeD_length]; rfl) (by decide) (by decide) j .refl
end K1


set_option Elab.async false
set_option linter.all false
set_option maxRecDepth 100000
set_option exponentiation.threshold 10000
namespace K1
open PySem PySem.Spec PyProof.Rows L2 Zq
local macro_rules | `(tactic| walk_at "zq") => `(tactic| simp only [E_body, E_var0, E_varS, E_C, E_bin, E_test, E_kB, E_anil, E_acons, E_tup, E_lst, E_b, E_call, E_callK, E_neg, E_kNeg, E_tand, E_tor, E_tnot, E_and, E_or, E_kAnd, E_kOr, E_not, E_kNot, E_ifE, E_chain, E_kCh, E_isN, E_isN0, E_isNt, E_isNi, E_isNs, E_isNl, E_snil, E_scons, E_pass, E_brk, E_cnt, E_ret, E_retN, E_expr, E_if, E_asg, E_set, E_par, E_kPar, E_par3, E_kPar3, E_aug, E_kAug, E_gN, E_gN0, E_gNC, E_gT, E_gS, E_kS, E_kS0, E_kS1, E_kS2, E_sub, E_iadd, E_mul, E_div, E_mod, E_pow, E_lt, E_le, E_gt, E_ge, E_addi, E_adds, E_addt, E_eqi, E_eqs, E_eqb, E_nei, E_nes, E_kAt, E_ixt, E_ixr, E_ixl, E_kAtL, at0, at1, at2, at3, E_abs, E_max, E_min, E_inti, E_intb, E_str, E_dm, E_lent, E_lenr, E_lenl, E_kLen, E_gcd, E_sqrt, E_lcm2, E_lcm3, E_all, E_kAll, E_isii, E_isit, isi_ii, isi_ib, isi_tt, E_iQ, E_kIt, E_kIr, E_kIl, E_kIl', E_iR1, E_kR1, E_for, E_lc, E_lc0, E_lcS, E_kLc, E_yes, E_f0, E_fS, E_stN, E_stS, E_s0, E_sS, E_g0, E_gSx, E_w0, E_wS,
  Mem.put_same, Mem.put_put, Zq.fD, List.map_cons, List.map_nil, List.cons_append, List.nil_append, List.replicate, List.length_cons, List.length_nil, decide_eq_true_eq, Bool.false_eq_true, if_false, if_true, Nat.reduceAdd, Nat.reduceLeDiff, true_and, and_true, Option.map_some])
variable {M : Mem} {R : DK} {p : Addr} {n : Nat} {f : Fr}
theorem isF_one (x : Int) : IsF ⟨x, 1⟩ := ⟨by show (0 : Int) < 1; decide, Nat.gcd_one_right _⟩
theorem bd_of {x y : Int} {k : Nat} (h1 : x.natAbs < 2 ^ k) (h2 : y.natAbs < 2 ^ k) : Bd k ⟨x, y⟩ := ⟨h1, h2⟩
theorem isF_abs (h : IsF f) : IsF ⟨if f.n < 0 then -f.n else f.n, f.d⟩ := by
  refine ⟨h.1, ?_⟩
  show (if f.n < 0 then -f.n else f.n).natAbs.gcd f.d.natAbs = 1
  have : (if f.n < 0 then -f.n else f.n).natAbs = f.n.natAbs := by split <;> omega
  rw [this]
  exact h.2
theorem frac_isF {a b : Int} (h : b ≠ 0) : IsF (fracV a b) := (fracV_ok a h).1
theorem some_ret (j : Jar M p n) (hn : n + 20 < 2 ^ 100) (h : ∀ (f : Fr) M', IsF f → Bd 124 f → Jar M' p (n + 20) → GrowX p M M' → R (fD f) M') : W_law_some [.lst p] M R := by
  unfold W_law_some
  try walk_at "zq"
  refine dip_ret' j (by omega) (by decide) (by decide) fun w M1 w0 w1 j1 g1 => ?_
  try walk_at "zq"
  split
  · refine dip_ret' j1 (by omega) (by decide) (by decide) fun v M2 v0 v1 j2 g2 => ?_
    try walk_at "zq"
    exact h ⟨v - 4, 1⟩ M2 (isF_one _) (bd_of (by omega) (by decide)) (j2.mono (by omega)) (g1.trans g2)
  · split
    · refine dip_ret' j1 (by omega) (by decide) (by decide) fun v M2 v0 v1 j2 g2 => ?_
      try walk_at "zq"
      intro q hq
      refine one_of_new j2 (by omega) hq (by simp) (by simp) fun d M3 hd j3 g3 => ?_
      have : ∃ x : Int, d = .int x ∧ 0 < x ∧ x < 10 := by
        simp only [List.mem_cons, List.not_mem_nil, or_false] at hd
        rcases hd with rfl | rfl | rfl | rfl | rfl | rfl <;> exact ⟨_, rfl, by decide, by decide⟩
      obtain ⟨x, rfl, x0, x1⟩ := this
      try walk_at "zq"
      exact frac_ret (by omega) (by omega) (h _ M3 (frac_isF (by omega)) (frac_bd (by omega) (by omega) (by omega)) (j3.mono (by omega)) (g1.trans (g2.trans g3)))
    · split
      · refine dip_ret' j1 (by omega) (by decide) (by decide) fun v M2 v0 v1 j2 g2 => ?_
        try walk_at "zq"
        refine dip_ret' j2 (by omega) (by decide) (by decide) fun u M3 u0 u1 j3 g3 => ?_
        try walk_at "zq"
        exact frac_ret (by omega) (by omega) (h _ M3 (frac_isF (by omega)) (frac_bd (by omega) (by omega) (by omega)) (j3.mono (by omega)) (g1.trans (g2.trans g3)))
      · split
        · exact h ⟨0, 1⟩ M1 (isF_one _) (bd_of (by decide) (by decide)) (j1.mono (by omega)) g1
        · refine great_ret j1 (by omega) fun x M2 hx j2 g2 => ?_
          try walk_at "zq"
          intro q hq
          refine one_of_new j2 (by omega) hq (by simp) (by simp) fun d M3 hd j3 g3 => ?_
          have : ∃ y : Int, d = .int y ∧ y.natAbs = 1 := by
            simp only [List.mem_cons, List.not_mem_nil, or_false] at hd
            rcases hd with rfl | rfl <;> exact ⟨_, rfl, by decide⟩
          obtain ⟨y, rfl, y1⟩ := this
          try walk_at "zq"
          refine ⟨mulW_of hx (b := 2) (by omega) (by decide), dip_ret' j3 (by omega) (by decide) (by decide) fun u M4 u0 u1 j4 g4 => ?_⟩
          try walk_at "zq"
          have hxy : (x * y).natAbs < 2 ^ 124 := by
            rw [Int.natAbs_mul, y1, Nat.mul_one]
            exact Nat.lt_trans hx (Nat.pow_lt_pow_right (by decide) (by decide))
          exact frac_ret (by omega) (by omega) (h _ M4 (frac_isF (by omega)) (frac_bd (by omega) hxy (by omega)) (j4.mono (by omega)) (g1.trans (g2.trans (g3.trans g4))))
theorem frac_nn {a b : Int} (hb : 0 < b) (ha : 0 ≤ a) : 0 ≤ (fracV a b).n := by
  have v := (vl_of (a := a) (b := b) (by omega)).sg (d_of (by omega)) hb
  apply sgge
  rw [v]
  rcases sg_cases a with ⟨_, e⟩ | ⟨_, e⟩ | ⟨_, e⟩ <;> omega
theorem rootable_ret (j : Jar M p n) (hn : n + 30 < 2 ^ 100) (h : ∀ (f : Fr) M', IsF f → Bd 248 f → 0 ≤ f.n → Jar M' p (n + 30) → GrowX p M M' → R (fD f) M') : W_law_rootable [.lst p] M R := by
  unfold W_law_rootable
  try walk_at "zq"
  refine some_ret j (by omega) fun f M1 hf bf j1 g1 => ?_
  try walk_at "zq"
  refine dip_ret' j1 (by omega) (by decide) (by decide) fun w M2 w0 w1 j2 g2 => ?_
  try walk_at "zq"
  split
  · have nn : 0 ≤ f.n * f.n := by
      rcases Int.le_total 0 f.n with z | z
      · exact Int.mul_nonneg z z
      · exact Int.mul_nonneg_of_nonpos_of_nonpos z z
    exact by_ret (f := f) (g := f) bf bf hf.1 hf.1 (by decide) (h _ M2 (frac_isF (mul_ne hf.1 hf.1)) (by_bd bf bf hf.1 hf.1) (frac_nn (Int.mul_pos hf.1 hf.1) nn) (j2.mono (by omega)) (g1.trans g2))
  · refine dip_ret' j2 (by omega) (by decide) (by decide) fun v M3 v0 v1 j3 g3 => ?_
    try walk_at "zq"
    split
    · refine h ⟨_, f.d⟩ M3 (isF_abs hf) ?_ ?_ (j3.mono (by omega)) (g1.trans (g2.trans g3))
      · have b2 := bf.mono (show 124 ≤ 248 by decide)
        refine ⟨?_, b2.2⟩
        have e : (if f.n < 0 then -f.n else f.n).natAbs = f.n.natAbs := by split <;> omega
        show (if f.n < 0 then -f.n else f.n).natAbs < _
        rw [e]
        exact b2.1
      · show 0 ≤ (if f.n < 0 then -f.n else f.n)
        split <;> omega
    · intro q hq
      refine one_of_new j3 (by omega) hq (by simp) (by simp) fun d M4 hd j4 g4 => ?_
      have : ∃ x : Int, d = .int x ∧ 0 ≤ x ∧ x < 100 := by
        simp only [List.mem_cons, List.not_mem_nil, or_false] at hd
        rcases hd with rfl | rfl | rfl | rfl | rfl | rfl | rfl <;> exact ⟨_, rfl, by decide, by decide⟩
      obtain ⟨x, rfl, x0, x1⟩ := this
      try walk_at "zq"
      exact h ⟨x, 1⟩ M4 (isF_one _) (bd_of (by omega) (by decide)) x0 (j4.mono (by omega)) (g1.trans (g2.trans (g3.trans g4)))
theorem floor_root_ret {x : Int} {k : Nat} (h0 : 0 ≤ x) (hk : x.natAbs < 2 ^ k) (hk2 : k < 3000) (h : ∀ y : Int, 0 ≤ y → y * y ≤ x → R (.int y) M) : W_law_floor_root [.int x] M R := by
  unfold W_law_floor_root
  try walk_at "zq"
  have big : ∀ y : Int, 0 ≤ y → y ≤ 2 * x + 2 → y.natAbs < 2 ^ (k + 3) := fun y y0 y1 => by
    have e : 2 ^ (k + 3) = 2 ^ k * 8 := by rw [Nat.pow_add]
    rw [e]
    generalize 2 ^ k = z at *
    omega
  refine ⟨fun m ρ M' => M' = M ∧ ∃ y : Int, ρ = [some (.int x), some (.int y), none, none] ∧ 1 ≤ y ∧ m = (x + 1 - y).toNat ∧ (y = 1 ∨ (y / 2) * (y / 2) ≤ x) ∧ y ≤ 2 * x + 2, ⟨_, rfl, 1, rfl, by omega, rfl, .inl rfl, by omega⟩, ?_⟩
  rintro m ρ M' ⟨rfl, y, rfl, y1, rfl, yh, y2⟩
  try walk_at "zq"
  refine ⟨mulW_of (big y (by omega) y2) (big y (by omega) y2) (by omega), ?_⟩
  split
  · rename_i hyx
    have hyx : y * y ≤ x := hyx
    have yx : y ≤ x := Int.le_trans (by have := Int.mul_le_mul_of_nonneg_left y1 (show 0 ≤ y by omega); omega) hyx
    refine ⟨mulW_of (a := 2) (by decide) (big y (by omega) y2) (by omega), _, ?_, 2 * y, rfl, by omega, rfl, .inr ?_, by omega⟩
    · omega
    · rw [show 2 * y / 2 = y by omega]
      exact hyx
  · rename_i hyx
    have hyx : ¬ y * y ≤ x := hyx
    refine ⟨divW_of (b := 4) (by decide) (by decide) (by decide), ?_⟩
    have l0 : y / 2 * (y / 2) ≤ x := by
      rcases yh with rfl | z
      · simpa using h0
      · exact z
    refine ⟨fun m ρ M2 => M2 = M' ∧ ∃ lo hi : Int, ∃ o, ρ = [some (.int x), some (.int hi), some (.int lo), o] ∧ 0 ≤ lo ∧ lo < hi ∧ lo * lo ≤ x ∧ hi ≤ 2 * x + 2 ∧ m = (hi - lo).toNat, ⟨_, rfl, y / 2, y, none, rfl, by omega, by omega, l0, y2, rfl⟩, ?_⟩
    rintro m ρ M2 ⟨rfl, lo, hi, o, rfl, a0, a1, a2, a3, rfl⟩
    try walk_at "zq"
    split
    · rename_i hd
      have hd : 1 < hi - lo := hd
      have m1 : lo < (lo + hi) / 2 := by omega
      have m2 : (lo + hi) / 2 < hi := by omega
      refine ⟨divW_of (b := 4) (by decide) (by decide) (by decide), mulW_of (big _ (by omega) (by omega)) (big _ (by omega) (by omega)) (by omega), ?_⟩
      split
      · rename_i hm
        exact ⟨(hi - (lo + hi) / 2).toNat, by omega, (lo + hi) / 2, hi, _, rfl, by omega, m2, hm, a3, rfl⟩
      · exact ⟨((lo + hi) / 2 - lo).toNat, by omega, lo, (lo + hi) / 2, _, rfl, a0, m1, a2, by omega, rfl⟩
    · exact h lo a0 a2
end K1


set_option Elab.async false
set_option linter.all false
set_option maxRecDepth 100000
set_option exponentiation.threshold 10000
namespace K1
open PySem PySem.Spec PyProof.Rows L2 Zq
local macro_rules | `(tactic| walk_at "zq") => `(tactic| simp only [E_body, E_var0, E_varS, E_C, E_bin, E_test, E_kB, E_anil, E_acons, E_tup, E_lst, E_b, E_call, E_callK, E_neg, E_kNeg, E_tand, E_tor, E_tnot, E_and, E_or, E_kAnd, E_kOr, E_not, E_kNot, E_ifE, E_chain, E_kCh, E_isN, E_isN0, E_isNt, E_isNi, E_isNs, E_isNl, E_snil, E_scons, E_pass, E_brk, E_cnt, E_ret, E_retN, E_expr, E_if, E_asg, E_set, E_par, E_kPar, E_par3, E_kPar3, E_aug, E_kAug, E_gN, E_gN0, E_gNC, E_gT, E_gS, E_kS, E_kS0, E_kS1, E_kS2, E_sub, E_iadd, E_mul, E_div, E_mod, E_pow, E_lt, E_le, E_gt, E_ge, E_addi, E_adds, E_addt, E_eqi, E_eqs, E_eqb, E_nei, E_nes, E_kAt, E_ixt, E_ixr, E_ixl, E_kAtL, at0, at1, at2, at3, E_abs, E_max, E_min, E_inti, E_intb, E_str, E_dm, E_lent, E_lenr, E_lenl, E_kLen, E_gcd, E_sqrt, E_lcm2, E_lcm3, E_all, E_kAll, E_isii, E_isit, isi_ii, isi_ib, isi_tt, E_iQ, E_kIt, E_kIr, E_kIl, E_kIl', E_iR1, E_kR1, E_for, E_lc, E_lc0, E_lcS, E_kLc, E_yes, E_f0, E_fS, E_stN, E_stS, E_s0, E_sS, E_g0, E_gSx, E_w0, E_wS,
  Mem.put_same, Mem.put_put, Zq.fD, List.map_cons, List.map_nil, List.cons_append, List.nil_append, List.replicate, List.length_cons, List.length_nil, decide_eq_true_eq, Bool.false_eq_true, if_false, if_true, Nat.reduceAdd, Nat.reduceLeDiff, true_and, and_true, Option.map_some])
variable {M : Mem} {R : DK} {p : Addr} {n : Nat} {f : Fr}
/-- a number as the law draws it -/
structure Dn (a : Nm) : Prop where
  p : IsF a.p
  q : IsF a.q
  r : IsF a.r
  r0 : 0 ≤ a.r.n
  bp : Bd 284 a.p
  bq : Bd 124 a.q
  br : Bd 248 a.r
theorem Dn.ok {a : Nm} (d : Dn a) : Ok 320 a := ⟨d.p, d.q, d.r, d.r0, d.bp.mono (by decide), d.bq.mono (by decide), d.br.mono (by decide)⟩
theorem root_bd {y x : Int} {k : Nat} (h0 : 0 ≤ y) (h : y * y ≤ x) (hx : x.natAbs < 2 ^ (2 * k)) : y.natAbs < 2 ^ k := by
  have e : 2 ^ (2 * k) = 2 ^ k * 2 ^ k := by rw [← Nat.pow_add]; congr 1; omega
  rw [e] at hx
  refine Nat.lt_of_not_le fun z => ?_
  have z2 := Nat.mul_le_mul z z
  have e2 : y.natAbs * y.natAbs = (y * y).natAbs := (Int.natAbs_mul y y).symm
  have e3 : 0 ≤ y * y := Int.mul_nonneg h0 h0
  omega
theorem scale_mem {d : D} (h : d ∈ ([.int 1, .int 10, .int 1000, .int (10 ^ (9 : Int).toNat)] : List D)) : ∃ s : Int, d = .int s ∧ 0 < s ∧ s < 2 ^ 30 := by
  simp only [List.mem_cons, List.not_mem_nil, or_false] at h
  rcases h with rfl | rfl | rfl | rfl
  · exact ⟨_, rfl, by decide, by decide⟩
  · exact ⟨_, rfl, by decide, by decide⟩
  · exact ⟨_, rfl, by decide, by decide⟩
  · exact ⟨_, rfl, by decide, by decide⟩
theorem pow9 : CPow 10 9 := ⟨by decide, by decide, by decide⟩
theorem back_isF (h : IsF f) : IsF (backV f) := by
  refine ⟨h.1, ?_⟩
  show (0 - f.n).natAbs.gcd f.d.natAbs = 1
  rw [show (0 - f.n).natAbs = f.n.natAbs by omega]
  exact h.2
theorem nn_mul_self (x : Int) : 0 ≤ x * x := by
  rcases Int.le_total 0 x with z | z
  · exact Int.mul_nonneg z z
  · exact Int.mul_nonneg_of_nonpos_of_nonpos z z
theorem number_ret (j : Jar M p n) (hn : n + 90 < 2 ^ 100) (h : ∀ (a : Nm) M', Dn a → Jar M' p (n + 90) → GrowX p M M' → R (nD a) M') : W_law_number [.lst p] M R := by
  unfold W_law_number
  walk_at "zq"
  refine some_ret j (by omega) fun q M1 hq bq j1 g1 => rootable_ret j1 (by omega) fun r M2 hr br r0 j2 g2 => ?_
  walk_at "zq"
  refine dip_ret' j2 (by omega) (by decide) (by decide) fun w M3 w0 w1 j3 g3 => ?_
  walk_at "zq"
  split
  · refine some_ret j3 (by omega) fun f M4 hf bf j4 g4 => ?_
    try walk_at "zq"
    exact h ⟨f, q, r⟩ M4 ⟨hf, hq, hr, r0, bf.mono (by decide), bq, br⟩ (j4.mono (by omega)) (g1.trans (g2.trans (g3.trans g4)))
  · refine ⟨pow9, fun l hl => ?_⟩
    refine one_of_new j3 (by omega) hl (by simp) (by simp) fun d M4 hd j4 g4 => ?_
    obtain ⟨s, rfl, s0, s1⟩ := scale_mem hd
    try walk_at "zq"
    refine by_ret (f := q) (g := q) bq bq hq.1 hq.1 (by decide) (by_ret (g := r) (by_bd bq bq hq.1 hq.1) br (by_d hq.1 hq.1) hr.1 (by decide) ?_)
    have sb := by_bd (by_bd bq bq hq.1 hq.1) br (by_d hq.1 hq.1) hr.1
    have sd := by_d (by_d hq.1 hq.1) hr.1
    have sn : 0 ≤ (byV (byV q q) r).n := frac_nn (Int.mul_pos (by_d hq.1 hq.1) hr.1) (Int.mul_nonneg (frac_nn (Int.mul_pos hq.1 hq.1) (nn_mul_self _)) r0)
    generalize byV (byV q q) r = sq at *
    try walk_at "zq"
    have sk : s.natAbs < 2 ^ 30 := by omega
    have b1 := bd_mul (bd_mul sb.1 sk) sk
    have n1 : 0 ≤ sq.n * s * s := Int.mul_nonneg (Int.mul_nonneg sn (by omega)) (by omega)
    refine ⟨mulW_of sb.1 sk (by decide), mulW_of (bd_mul sb.1 sk) sk (by decide), divW_of sd sb.2 (by decide), ?_⟩
    have b2 := quot_bd b1 n1 sd
    refine floor_root_ret (Int.ediv_nonneg n1 (by omega)) b2 (by decide) fun y y0 y1 => ?_
    have by1 : y.natAbs < 2 ^ 278 := root_bd y0 y1 (Nat.lt_of_lt_of_le b2 (Nat.pow_le_pow_right (by decide) (by decide)))
    refine dip_ret' j4 (by omega) (by decide) (by decide) fun v M5 v0 v1 j5 g5 => ?_
    try walk_at "zq"
    have bn : (y + v).natAbs < 2 ^ 279 := bd_add by1 (Nat.lt_of_lt_of_le (show v.natAbs < 2 ^ 2 by omega) (Nat.pow_le_pow_right (by decide) (by decide)))
    refine frac_ret (by omega) (lt_pow_add sk (by decide)) ?_
    have nf := frac_isF (a := y + v) (b := s) (by omega)
    have nb := frac_bd (a := y + v) (b := s) (by omega) bn (lt_pow_add sk (by decide))
    generalize fracV (y + v) s = near at *
    try walk_at "zq"
    have fin : GrowX p M M5 := g1.trans (g2.trans (g3.trans (g4.trans g5)))
    split
    · exact h ⟨near, q, r⟩ M5 ⟨nf, hq, hr, r0, nb.mono (by decide), bq, br⟩ (j5.mono (by omega)) fin
    · refine back_ret (f := near) ?_
      exact h ⟨backV near, q, r⟩ M5 ⟨back_isF nf, hq, hr, r0, (back_bd nb).mono (by decide), bq, br⟩ (j5.mono (by omega)) fin
end K1


set_option Elab.async false
set_option linter.all false
set_option maxRecDepth 100000
set_option exponentiation.threshold 10000
namespace K1
open PySem PySem.Spec PyProof.Rows L2 Zq
local macro_rules | `(tactic| walk_at "zq") => `(tactic| simp only [E_body, E_var0, E_varS, E_C, E_bin, E_test, E_kB, E_anil, E_acons, E_tup, E_lst, E_b, E_call, E_callK, E_neg, E_kNeg, E_tand, E_tor, E_tnot, E_and, E_or, E_kAnd, E_kOr, E_not, E_kNot, E_ifE, E_chain, E_kCh, E_isN, E_isN0, E_isNt, E_isNi, E_isNs, E_isNl, E_snil, E_scons, E_pass, E_brk, E_cnt, E_ret, E_retN, E_expr, E_if, E_asg, E_set, E_par, E_kPar, E_par3, E_kPar3, E_aug, E_kAug, E_gN, E_gN0, E_gNC, E_gT, E_gS, E_kS, E_kS0, E_kS1, E_kS2, E_sub, E_iadd, E_mul, E_div, E_mod, E_pow, E_lt, E_le, E_gt, E_ge, E_addi, E_adds, E_addt, E_eqi, E_eqs, E_eqb, E_nei, E_nes, E_kAt, E_ixt, E_ixr, E_ixl, E_kAtL, at0, at1, at2, at3, E_abs, E_max, E_min, E_inti, E_intb, E_str, E_dm, E_lent, E_lenr, E_lenl, E_kLen, E_gcd, E_sqrt, E_lcm2, E_lcm3, E_all, E_kAll, E_isii, E_isit, isi_ii, isi_ib, isi_tt, E_iQ, E_kIt, E_kIr, E_kIl, E_kIl', E_iR1, E_kR1, E_for, E_lc, E_lc0, E_lcS, E_kLc, E_yes, E_f0, E_fS, E_stN, E_stS, E_s0, E_sS, E_g0, E_gSx, E_w0, E_wS,
  Mem.put_same, Mem.put_put, Zq.fD, List.map_cons, List.map_nil, List.cons_append, List.nil_append, List.replicate, List.length_cons, List.length_nil, decide_eq_true_eq, Bool.false_eq_true, if_false, if_true, Nat.reduceAdd, Nat.reduceLeDiff, true_and, and_true, Option.map_some])
variable {M : Mem} {R : DK} {p : Addr} {n : Nat} {f : Fr}
theorem by_mem {d : D} (h : d ∈ ([.tup [.int 2, .int 1], .tup [.int 3, .int 1], .tup [.int 1, .int 2], .tup [.int 5, .int 3]] : List D)) : ∃ s : Fr, d = fD s ∧ 0 < s.n ∧ s.n < 10 ∧ 0 < s.d ∧ s.d < 10 := by
  simp only [List.mem_cons, List.not_mem_nil, or_false] at h
  rcases h with rfl | rfl | rfl | rfl
  · exact ⟨⟨2, 1⟩, rfl, by decide, by decide, by decide, by decide⟩
  · exact ⟨⟨3, 1⟩, rfl, by decide, by decide, by decide, by decide⟩
  · exact ⟨⟨1, 2⟩, rfl, by decide, by decide, by decide, by decide⟩
  · exact ⟨⟨5, 3⟩, rfl, by decide, by decide, by decide, by decide⟩
theorem twin_ret {a : Nm} (da : Dn a) (j : Jar M p n) (hn : n + 50 < 2 ^ 100) (h : ∀ (b : Nm) M', Ok 320 b → orderV a b = 0 → Jar M' p (n + 50) → GrowX p M M' → R (nD b) M') : W_law_twin [.lst p, nD a] M R := by
  unfold W_law_twin nD
  walk_at "zq"
  refine dip_ret' j (by omega) (by decide) (by decide) fun w M1 w0 w1 j1 g1 => ?_
  try walk_at "zq"
  intro q hq
  refine one_of_new j1 (by omega) hq (by simp) (by simp) fun d M2 hd j2 g2 => ?_
  obtain ⟨s, rfl, s0, s1, s2, s3⟩ := by_mem hd
  try walk_at "zq"
  have zeroes : ∀ b : Nm, IsF b.q → IsF b.r → 0 ≤ b.r.n → b.p = a.p → (a.q.n = 0 ∨ a.r.n = 0) → (b.q.n = 0 ∨ b.r.n = 0) → orderV a b = 0 := fun b hq hr r0 hp h1 h2 => by
    refine order_twin da.p.1 da.q.1 da.r.1 hq.1 hr.1 da.r0 r0 hp ?_ ?_
    · rcases h1 with h1 | h1 <;> rcases h2 with h2 | h2 <;> (rw [h1, h2]; simp only [Int.mul_zero, Int.zero_mul])
    · rcases h1 with h1 | h1 <;> rcases h2 with h2 | h2 <;> (rw [h1, h2]; simp only [Int.mul_zero, Int.zero_mul])
  have first : (a.q.n = 0 ∨ a.r.n = 0) → (if w < 2 then
      W_law_rootable [D.lst p] M2 (fun d M3 => R (D.tup [fD a.p, fD ⟨0, 1⟩, d]) M3) else W_law_some [D.lst p] M2 (fun d M3 => R (D.tup [fD a.p, d, fD ⟨0, 1⟩]) M3)) := fun hz => by
    split
    · refine rootable_ret j2 (by omega) fun r M3 hr br r0 j3 g3 => ?_
      exact h ⟨a.p, ⟨0, 1⟩, r⟩ M3 ⟨da.p, isF_one 0, hr, r0, da.bp.mono (by decide), bd_of (by decide) (by decide), br.mono (by decide)⟩ (zeroes _ (isF_one 0) hr r0 rfl hz (.inl rfl)) (j3.mono (by omega)) (g1.trans (g2.trans g3))
    · refine some_ret j2 (by omega) fun q M3 hq bq j3 g3 => ?_
      exact h ⟨a.p, q, ⟨0, 1⟩⟩ M3 ⟨da.p, hq, isF_one 0, Int.le_refl 0, da.bp.mono (by decide), bq.mono (by decide), bd_of (by decide) (by decide)⟩ (zeroes _ hq (isF_one 0) (Int.le_refl 0) rfl hz (.inr rfl)) (j3.mono (by omega)) (g1.trans (g2.trans g3))
  by_cases q0 : a.q.n = 0
  · rw [if_pos q0]
    exact first (.inl q0)
  · rw [if_neg q0]
    by_cases r0 : a.r.n = 0
    · rw [if_pos r0]
      exact first (.inr r0)
    · rw [if_neg r0]
      split
      · refine h a M2 da.ok (order_twin da.p.1 da.q.1 da.r.1 da.q.1 da.r.1 da.r0 da.r0 rfl rfl rfl) (j2.mono (by omega)) (g1.trans g2)
      · have bs : Bd 4 s := ⟨by omega, by omega⟩
        refine over_ret (f := a.q) (g := s) da.bq bs da.q.1 (by omega) (by decide) ?_
        try walk_at "zq"
        refine by_ret (f := s) (g := s) bs bs s2 s2 (by decide) (by_ret (f := a.r) (g := byV s s) da.br (by_bd bs bs s2 s2) da.r.1 (by_d s2 s2) (by decide) ?_)
        try walk_at "zq"
        have on : a.q.d * s.n ≠ 0 := mul_ne da.q.1 s0
        have vq : Vl (overV a.q s) (a.q.n * s.d) (a.q.d * s.n) := vl_of on
        have vr : Vl (byV a.r (byV s s)) _ _ := vl_by da.r.1 (by_d s2 s2) (.refl a.r) (vl_by s2 s2 (.refl s) (.refl s))
        have dq : IsF (overV a.q s) := frac_isF on
        have ar0 : 0 < a.r.n := by
          have := da.r0
          omega
        have dr : IsF (byV a.r (byV s s)) := frac_isF (mul_ne da.r.1 (by_d s2 s2))
        have bq2 : Bd 128 (overV a.q s) := frac_bd on (bd_mul da.bq.1 bs.2) (bd_mul da.bq.2 bs.1)
        have br2 : Bd 256 (byV a.r (byV s s)) := by_bd da.br (by_bd bs bs s2 s2) da.r.1 (by_d s2 s2)
        have rn : 0 ≤ (byV a.r (byV s s)).n := frac_nn (Int.mul_pos da.r.1 (by_d s2 s2)) (Int.mul_nonneg da.r0 (frac_nn (Int.mul_pos s2 s2) (nn_mul_self _)))
        have sq : sg (overV a.q s).n = sg a.q.n := by
          rw [vq.sg dq.1 (Int.mul_pos da.q.1 s0), Int.mul_comm, sg_scale s2]
        have sr : sg (byV a.r (byV s s)).n = sg a.r.n := by
          rw [vr.sg dr.1 (Int.mul_pos da.r.1 (Int.mul_pos s2 s2)), Int.mul_comm, sg_scale (Int.mul_pos s0 s0)]
        refine h ⟨a.p, overV a.q s, byV a.r (byV s s)⟩ M2 ⟨da.p, dq, dr, rn, da.bp.mono (by decide), bq2.mono (by decide), br2.mono (by decide)⟩ ?_ (j2.mono (by omega)) (g1.trans g2)
        refine order_twin da.p.1 da.q.1 da.r.1 dq.1 dr.1 da.r0 rn rfl ?_ ?_
        · show a.q.n * a.q.n * a.r.n * ((overV a.q s).d * (overV a.q s).d * (byV a.r (byV s s)).d) = (overV a.q s).n * (overV a.q s).n * (byV a.r (byV s s)).n * (a.q.d * a.q.d * a.r.d)
          generalize overV a.q s = x at *
          generalize byV a.r (byV s s) = y at *
          unfold Vl at vq vr
          refine cancel (k := s.n * s.n * (s.d * s.d)) (mul_ne (Int.mul_pos s0 s0) (Int.mul_pos s2 s2)) ?_
          have z1 : s.n * s.n * (s.d * s.d) * (x.n * x.n * y.n * (a.q.d * a.q.d * a.r.d)) = (x.n * (a.q.d * s.n)) * (x.n * (a.q.d * s.n)) * (y.n * (a.r.d * (s.d * s.d))) := by grind
          rw [z1, vq, vr]
          grind
        · show sg (a.q.n * a.r.n) = sg ((overV a.q s).n * (byV a.r (byV s s)).n)
          rw [sg_mul, sg_mul, sq, sr]
end K1


set_option Elab.async false
set_option linter.all false
set_option maxRecDepth 100000
set_option exponentiation.threshold 10000
namespace K1
open PySem PySem.Spec PyProof.Rows L2 Zq
local macro_rules | `(tactic| walk_at "zq") => `(tactic| simp only [E_body, E_var0, E_varS, E_C, E_bin, E_test, E_kB, E_anil, E_acons, E_tup, E_lst, E_b, E_call, E_callK, E_neg, E_kNeg, E_tand, E_tor, E_tnot, E_and, E_or, E_kAnd, E_kOr, E_not, E_kNot, E_ifE, E_chain, E_kCh, E_isN, E_isN0, E_isNt, E_isNi, E_isNs, E_isNl, E_snil, E_scons, E_pass, E_brk, E_cnt, E_ret, E_retN, E_expr, E_if, E_asg, E_set, E_par, E_kPar, E_par3, E_kPar3, E_aug, E_kAug, E_gN, E_gN0, E_gNC, E_gT, E_gS, E_kS, E_kS0, E_kS1, E_kS2, E_sub, E_iadd, E_mul, E_div, E_mod, E_pow, E_lt, E_le, E_gt, E_ge, E_addi, E_adds, E_addt, E_eqi, E_eqs, E_eqb, E_nei, E_nes, E_kAt, E_ixt, E_ixr, E_ixl, E_kAtL, at0, at1, at2, at3, E_abs, E_max, E_min, E_inti, E_intb, E_str, E_dm, E_lent, E_lenr, E_lenl, E_kLen, E_gcd, E_sqrt, E_lcm2, E_lcm3, E_all, E_kAll, E_isii, E_isit, isi_ii, isi_ib, isi_tt, E_iQ, E_kIt, E_kIr, E_kIl, E_kIl', E_iR1, E_kR1, E_for, E_lc, E_lc0, E_lcS, E_kLc, E_yes, E_f0, E_fS, E_stN, E_stS, E_s0, E_sS, E_g0, E_gSx, E_w0, E_wS,
  Mem.put_same, Mem.put_put, Zq.fD, List.map_cons, List.map_nil, List.cons_append, List.nil_append, List.replicate, List.length_cons, List.length_nil, decide_eq_true_eq, Bool.false_eq_true, if_false, if_true, Nat.reduceAdd, Nat.reduceLeDiff, true_and, and_true, Option.map_some])
variable {M : Mem} {R : DK} {p : Addr} {n : Nat} {f : Fr}
theorem floor_ret {a : Nm} {m : Int} (da : Dn a) (m0 : 0 < m) (m1 : m < 2 ^ 30) (h : ∀ y : Int, y.natAbs < 2 ^ 317 → R (.int y) M) : W_law_floor [nD a, .int m] M R := by
  unfold W_law_floor nD
  walk_at "zq"
  have bm : Bd 30 ⟨m, 1⟩ := bd_of (by omega) (by decide)
  have dm : (0 : Int) < (⟨m, 1⟩ : Fr).d := by show (0 : Int) < 1; decide
  refine by_ret (f := a.p) (g := ⟨m, 1⟩) da.bp bm da.p.1 dm (by decide) ?_
  refine by_ret (f := a.q) (g := ⟨m, 1⟩) da.bq bm da.q.1 dm (by decide) ?_
  have bp := by_bd da.bp bm da.p.1 dm
  have bq := by_bd da.bq bm da.q.1 dm
  have dp := by_d (f := a.p) (g := ⟨m, 1⟩) da.p.1 dm
  have dq := by_d (f := a.q) (g := ⟨m, 1⟩) da.q.1 dm
  generalize byV a.p ⟨m, 1⟩ = x at *
  generalize byV a.q ⟨m, 1⟩ = y at *
  try walk_at "zq"
  refine by_ret (f := y) (g := y) bq bq dq dq (by decide) (by_ret (g := a.r) (by_bd bq bq dq dq) da.br (by_d dq dq) da.r.1 (by decide) ?_)
  have sb := by_bd (by_bd bq bq dq dq) da.br (by_d dq dq) da.r.1
  have sd := by_d (by_d dq dq) da.r.1
  have sn : 0 ≤ (byV (byV y y) a.r).n := frac_nn (Int.mul_pos (by_d dq dq) da.r.1) (Int.mul_nonneg (frac_nn (Int.mul_pos dq dq) (nn_mul_self _)) da.r0)
  generalize byV (byV y y) a.r = s at *
  try walk_at "zq"
  have b2 := quot_bd sb.1 sn sd
  refine ⟨divW_of sd sb.2 (by decide), floor_root_ret (Int.ediv_nonneg sn (by omega)) b2 (by decide) fun z z0 z1 => ?_⟩
  have bz : z.natAbs < 2 ^ 278 := root_bd z0 z1 (Nat.lt_of_lt_of_le b2 (Nat.pow_le_pow_right (by decide) (by decide)))
  try walk_at "zq"
  have bx : (x.n / x.d).natAbs < 2 ^ 315 := Nat.lt_of_le_of_lt (Int.natAbs_ediv_le_natAbs x.n x.d) (Nat.lt_of_lt_of_le bp.1 (Nat.pow_le_pow_right (by decide) (by decide)))
  have main : ∀ (ds : List D) (i : Nat) (v : Int) (o : Option D), ds.length + i = 6 → v.natAbs < 2 ^ 316 + i →
      forGo none (rangeD 0 (6 : Int).toNat) (gN 9) (sCons (sIf (wTest (wBin fGe (wCall W_law_root_sign (aCons (wCall W_law_less (aCons (wVar 3) (aCons (wTup (aCons (wBin fAdd (wVar 8) (wC (.int 1))) (aCons (wC (.int 1)) aNil))) aNil))) (aCons (wVar 4) (aCons (wVar 5) aNil)))) (wC (.int 0)))) (sCons (sSet 8 (wBin fAdd (wVar 8) (wC (.int 1)))) sNil) sNil) sNil)
        { nx := fun ρ' M' => sCons (sRet (wVar 8)) sNil { nx := fun _ M' => R .non M', rt := R } ρ' M', rt := R } ds
        [some (nD a), some (.int m), some (fD ⟨m, 1⟩), some (fD x), some (fD y), some (fD a.r), some (fD s), some (.int z), some (.int v), o] M := by
    intro ds
    induction ds with
    | nil =>
      intro i v o hi hv
      have : i = 6 := by simpa using hi
      subst this
      unfold nD
      walk_at "zq"
      exact h v (by omega)
    | cons d ds ih =>
      intro i v o hi hv
      rw [List.length_cons] at hi
      have ih' := fun v' hv' => ih (i + 1) v' (some d) (by omega) hv'
      unfold nD at ih' ⊢
      simp only [fD] at ih'
      walk_at "zq"
      have bv : Bd 317 ⟨v + 1, 1⟩ := bd_of (by omega) (by decide)
      have dv : (0 : Int) < (⟨v + 1, 1⟩ : Fr).d := by show (0 : Int) < 1; decide
      refine less_ret (f := x) (g := ⟨v + 1, 1⟩) bp bv dp dv (by decide) ?_
      refine root_sign_ret (p := lessV x ⟨v + 1, 1⟩) (q := y) (r := a.r) (less_bd bp bv dp dv) bq da.br (less_d dp dv) dq da.r.1 da.r0 (by decide) ?_
      walk_at "zq"
      split
      · exact ih' (v + 1) (by omega)
      · exact ih' v (by omega)
  have fin : ∀ v : Int, v.natAbs < 2 ^ 316 → -(2 ^ 62) ≤ (6 : Int) ∧ (6 : Int) < 2 ^ 62 ∧ forGo none (rangeD 0 (6 : Int).toNat) (gN 9) (sCons (sIf (wTest (wBin fGe (wCall W_law_root_sign (aCons (wCall W_law_less (aCons (wVar 3) (aCons (wTup (aCons (wBin fAdd (wVar 8) (wC (.int 1))) (aCons (wC (.int 1)) aNil))) aNil))) (aCons (wVar 4) (aCons (wVar 5) aNil)))) (wC (.int 0)))) (sCons (sSet 8 (wBin fAdd (wVar 8) (wC (.int 1)))) sNil) sNil) sNil)
        { nx := fun ρ' M' => sCons (sRet (wVar 8)) sNil { nx := fun _ M' => R .non M', rt := R } ρ' M', rt := R } (rangeD 0 (6 : Int).toNat)
        [some (nD a), some (.int m), some (fD ⟨m, 1⟩), some (fD x), some (fD y), some (fD a.r), some (fD s), some (.int z), some (.int v), none] M := fun v hv =>
    ⟨by decide, by decide, main _ 0 v none (by rw [rangeD_length]; rfl) (by omega)⟩
  unfold nD at fin
  refine ⟨divW_of dp bp.2 (by decide), ?_⟩
  split
  · exact fin _ (by omega)
  · exact fin _ (by omega)
theorem pair_ret (j : Jar M p n) (hn : n + 300 < 2 ^ 100) (h : ∀ (a b : Nm) M', Dn a → Ok 320 b → Jar M' p (n + 300) → GrowX p M M' → R (.tup [nD a, nD b]) M') : W_law_pair [.lst p] M R := by
  unfold W_law_pair
  walk_at "zq"
  refine number_ret j (by omega) fun a M1 da j1 g1 => ?_
  try walk_at "zq"
  refine dip_ret' j1 (by omega) (by decide) (by decide) fun w M2 w0 w1 j2 g2 => ?_
  try walk_at "zq"
  split
  · refine twin_ret da j2 (by omega) fun b M3 hb _ j3 g3 => ?_
    try walk_at "zq"
    exact h a b M3 da hb (j3.mono (by omega)) (g1.trans (g2.trans g3))
  · split
    · refine ⟨pow9, fun l hl => ?_⟩
      refine one_of_new j2 (by omega) hl (by simp) (by simp) fun d M3 hd j3 g3 => ?_
      obtain ⟨s, rfl, s0, s1⟩ := scale_mem hd
      try walk_at "zq"
      refine floor_ret da s0 s1 fun y hy => ?_
      refine dip_ret' j3 (by omega) (by decide) (by decide) fun v M4 v0 v1 j4 g4 => ?_
      try walk_at "zq"
      have sk : s.natAbs < 2 ^ 30 := by omega
      have by1 : (y + v).natAbs < 2 ^ 318 := bd_add hy (Nat.lt_of_lt_of_le (show v.natAbs < 2 ^ 2 by omega) (Nat.pow_le_pow_right (by decide) (by decide)))
      refine frac_ret (by omega) (lt_pow_add sk (by decide)) ?_
      try walk_at "zq"
      exact h a ⟨fracV (y + v) s, ⟨0, 1⟩, ⟨0, 1⟩⟩ M4 da ⟨frac_isF (by omega), isF_one 0, isF_one 0, Int.le_refl 0, (frac_bd (by omega) by1 (lt_pow_add sk (by decide))).mono (by decide), bd_of (by decide) (by decide), bd_of (by decide) (by decide)⟩ (j4.mono (by omega)) (g1.trans (g2.trans (g3.trans g4)))
    · refine number_ret j2 (by omega) fun b M3 db j3 g3 => ?_
      try walk_at "zq"
      exact h a b M3 da db.ok (j3.mono (by omega)) (g1.trans (g2.trans g3))
end K1


set_option Elab.async false
set_option linter.all false
set_option maxRecDepth 100000
set_option exponentiation.threshold 10000
namespace Zq
open PySem PySem.Spec PyProof.Rows L2
theorem E_wSlice {ρ : Env} {M : Mem} {R : DK} {w : WE} {lo hi : WO} : wSlice w lo hi ρ M R = w ρ M fun x M1 => lo ρ M1 fun l M2 => hi ρ M2 fun u M3 => fSlice x l u M3 R := (rfl)
theorem E_oNone {ρ : Env} {M : Mem} {R : Option Int → Mem → Prop} : oNone ρ M R = R none M := (rfl)
def kO (R : Option Int → Mem → Prop) : DK := fun d M' => match d with
  | .int i => R (some i) M'
  | _ => False
theorem E_kO {M : Mem} {R : Option Int → Mem → Prop} {i : Int} : kO R (.int i) M = R (some i) M := (rfl)
theorem E_oSome {ρ : Env} {M : Mem} {R : Option Int → Mem → Prop} {w : WE} : oSome w ρ M R = w ρ M (kO R) := (rfl)
end Zq
namespace Zq
open PySem PySem.Spec PyProof.Rows L2
theorem rangeD_succ (lo : Int) (n : Nat) : rangeD lo (n + 1) = .int lo :: rangeD (lo + 1) n := by
  unfold rangeD
  rw [List.range_succ_eq_map, List.map_cons, List.map_map]
  congr 1
  · simp
  · apply List.map_congr_left
    intro i _
    show D.int (lo + ((i + 1 : Nat) : Int)) = D.int (lo + 1 + (i : Int))
    congr 1
    omega
theorem all_yes (n : Nat) : (List.replicate n true).all id = true := by
  induction n with
  | zero => rfl
  | succ n ih => simp [List.replicate_succ]
theorem rep_snoc (n : Nat) : (List.replicate n true).map D.bl ++ [D.bl true] = (List.replicate (n + 1) true).map D.bl := by
  rw [show [D.bl true] = [true].map D.bl from rfl, ← List.map_append]
  congr 1
  exact List.replicate_succ'.symm
end Zq
namespace Zq
theorem E_ord10 {x y : D} : ordD [1, 0] [x, y] = [y, x] := rfl
theorem E_ord0 {x : D} : ordD [0] [x] = [x] := rfl
end Zq
namespace K1
open PySem PySem.Spec PyProof.Rows L2 Zq
local macro_rules | `(tactic| walk_at "zq") => `(tactic| simp only [E_body, E_var0, E_varS, E_C, E_bin, E_test, E_kB, E_anil, E_acons, E_tup, E_lst, E_b, E_call, E_callK, E_neg, E_kNeg, E_tand, E_tor, E_tnot, E_and, E_or, E_kAnd, E_kOr, E_not, E_kNot, E_ifE, E_chain, E_kCh, E_isN, E_isN0, E_isNt, E_isNi, E_isNs, E_isNl, E_snil, E_scons, E_pass, E_brk, E_cnt, E_ret, E_retN, E_expr, E_if, E_asg, E_set, E_par, E_kPar, E_par3, E_kPar3, E_aug, E_kAug, E_gN, E_gN0, E_gNC, E_gT, E_gS, E_kS, E_kS0, E_kS1, E_kS2, E_sub, E_iadd, E_mul, E_div, E_mod, E_pow, E_lt, E_le, E_gt, E_ge, E_addi, E_adds, E_addt, E_eqi, E_eqs, E_eqb, E_nei, E_nes, E_kAt, E_ixt, E_ixr, E_ixl, E_kAtL, at0, at1, at2, at3, E_abs, E_max, E_min, E_inti, E_intb, E_str, E_dm, E_lent, E_lenr, E_lenl, E_kLen, E_gcd, E_sqrt, E_lcm2, E_lcm3, E_all, E_kAll, E_isii, E_isit, isi_ii, isi_ib, isi_tt, E_iQ, E_kIt, E_kIr, E_kIl, E_kIl', E_iR1, E_kR1, E_for, E_lc, E_lc0, E_lcS, E_kLc, E_yes, E_f0, E_fS, E_stN, E_stS, E_s0, E_sS, E_g0, E_gSx, E_w0, E_wS,
  Mem.put_same, Mem.put_put, Zq.fD, Zq.E_ord10, Zq.E_ord0, E_wSlice, E_oNone, E_kO, E_oSome, List.map_cons, List.map_nil, List.cons_append, List.nil_append, List.replicate, List.length_cons, List.length_nil, decide_eq_true_eq, Bool.false_eq_true, if_false, if_true, Nat.reduceAdd, Nat.reduceLeDiff, true_and, and_true, Option.map_some])
variable {M : Mem} {R : DK} {p : Addr} {n : Nat}
theorem cut_ints (ns : List Int) (lo hi : Option Int) : ∃ ms : List Int, Zq.cutD (ns.map D.int) lo hi = ms.map D.int := by
  refine ⟨(ns.drop (HT.sIx ns.length 0 lo)).take (HT.sIx ns.length ns.length hi - HT.sIx ns.length 0 lo), ?_⟩
  unfold Zq.cutD
  rw [List.length_map, List.map_take, List.map_drop]
theorem mixed_ok {x i : Int} (h0 : 0 ≤ x) (h1 : x < 2147483399) : CMulW x 52361 ∧ CMulW (i % 2147483399) 11 := by
  have m1 : 0 ≤ i % 2147483399 := Int.emod_nonneg _ (by decide)
  have m2 : i % 2147483399 < 2147483399 := Int.emod_lt_of_pos _ (by decide)
  exact ⟨mulW_of (a := 32) (b := 20) (by omega) (by decide) (by decide), mulW_of (a := 32) (b := 20) (by omega) (by decide) (by decide)⟩
def jarW (c : Int) : WFn := wBody 2 3 (sCons (sSet 2 (wBin fAdd (wC (.int c)) (wBin fMul (wC (.int 8111)) (wVar 1))))
    (sCons (sFor (iQ (wSlice (wVar 0) oNone (oSome (wC (.int 10))))) (gN 3) (sCons (sSet 2 (wBin fMod (wB bInt (aCons (wBin fAdd (wBin fAdd (wBin fMul (wVar 2) (wC (.int 52361))) (wBin fMul (wBin fMod (wB bInt (aCons (wVar 3) aNil)) (wC (.int 2147483399))) (wC (.int 11)))) (wC (.int 3))) aNil)) (wC (.int 2147483399))))
    sNil))
    (sCons (sSet 4 (wIf (wTest (wBin fLt (wVar 1) (wB bLen (aCons (wVar 0) aNil)))) (wB bInt (aCons (wBin fIx (wVar 0) (wVar 1)) aNil)) (wC (.int 0))))
    (sCons (sRet (wLst (aCons (wIf (tOr' (wTest (wBin fLt (wVar 4) (wC (.int 0)))) (wTest (wBin fGe (wVar 4) (wBin fPow (wC (.int 10)) (wC (.int 15)))))) (wB bAbs (aCons (wVar 4) aNil)) (wC (.int 0))) (aCons (wVar 2) (aCons (wC (.int 0)) aNil)))))
    sNil))))
theorem jarW_ret {c : Int} (c0 : 0 ≤ c) (c1 : c < 1000000) {ns : List Int} {k : Nat} (hk : k < 64) (h : ∀ q M', M q = none → Jar M' q 0 → Grow M M' → R (.lst q) M') : jarW c [.ro (ns.map D.int), .int k] M R := by
  unfold jarW
  walk_at "zq"
  refine ⟨mulW_of (a := 20) (b := 20) (by decide) (by omega) (by decide), ?_⟩
  unfold fSlice
  simp only
  intro l hl
  walk_at "zq"
  obtain ⟨ms, e⟩ := cut_ints ns none (some 10)
  rw [e]
  have g0 : Grow M (M.put l (ms.map D.int)) := .put hl
  have st : (M.put l (ms.map D.int)) l = some (ms.map D.int) := Mem.put_same
  generalize M.put l (ms.map D.int) = M1 at *
  generalize hall : ms.map D.int = all at *
  have main : ∀ (W : WEnds) (ts : List Int) (x : Int) (o3 o4 : Option D), 0 ≤ x → x < 2147483399 → (∀ (x : Int) (o3 o4 : Option D), 0 ≤ x → x < 2147483399 → W.nx [some (.ro (ns.map D.int)), some (.int k), some (.int x), o3, o4] M1) →
      forGo (some l) all (gN 3) (sCons (sSet 2 (wBin fMod (wB bInt (aCons (wBin fAdd (wBin fAdd (wBin fMul (wVar 2) (wC (.int 52361))) (wBin fMul (wBin fMod (wB bInt (aCons (wVar 3) aNil)) (wC (.int 2147483399))) (wC (.int 11)))) (wC (.int 3))) aNil)) (wC (.int 2147483399)))) sNil)
        W (ts.map D.int) [some (.ro (ns.map D.int)), some (.int k), some (.int x), o3, o4] M1 := by
    intro W ts
    induction ts with
    | nil =>
      intro x o3 o4 x0 x1 hW
      rw [List.map_nil, E_f0]
      exact ⟨st, hW _ _ _ x0 x1⟩
    | cons t ts ih =>
      intro x o3 o4 x0 x1 hW
      rw [List.map_cons]
      walk_at "zq"
      obtain ⟨c1, c2⟩ := mixed_ok (i := t) x0 x1
      refine ⟨st, c1, by decide, c2, by decide, ?_⟩
      exact ih _ _ _ (Int.emod_nonneg _ (by decide)) (Int.emod_lt_of_pos _ (by decide)) hW
  have key : ∀ (W : WEnds), (∀ (x : Int) (o3 o4 : Option D), 0 ≤ x → x < 2147483399 → W.nx [some (.ro (ns.map D.int)), some (.int k), some (.int x), o3, o4] M1) →
      forGo (some l) all (gN 3) (sCons (sSet 2 (wBin fMod (wB bInt (aCons (wBin fAdd (wBin fAdd (wBin fMul (wVar 2) (wC (.int 52361))) (wBin fMul (wBin fMod (wB bInt (aCons (wVar 3) aNil)) (wC (.int 2147483399))) (wC (.int 11)))) (wC (.int 3))) aNil)) (wC (.int 2147483399)))) sNil)
        W all [some (.ro (ns.map D.int)), some (.int k), some (.int (c + 8111 * k)), none, none] M1 := fun W hW => by
    have := main W ms (c + 8111 * k) none none (by omega) (by omega) hW
    rw [hall] at this
    exact this
  refine key _ fun x o3 o4 x0 x1 => ?_
  walk_at "zq"
  have fin : ∀ (a : Int) (q : Addr), 0 ≤ a → M1 q = none → R (.lst q) (M1.put q [.int a, .int x, .int 0]) := fun a q a0 hq => by
    refine h q _ ?_ ⟨a, x, 0, Mem.put_same, a0, x0, x1, by decide, by decide⟩ (g0.trans (.put hq))
    cases e : M q with
    | none => rfl
    | some ds =>
      rw [g0 _ _ e] at hq
      cases hq
  have fin2 : ∀ (i : Int), (if decide (i < 0) = true then ∀ q, M1 q = none → R (.lst q) (M1.put q [.int (if i < 0 then -i else i), .int x, .int 0]) else
    CPow 10 15 ∧ (if decide ((10 : Int) ^ Int.toNat 15 ≤ i) = true then ∀ q, M1 q = none → R (.lst q) (M1.put q [.int (if i < 0 then -i else i), .int x, .int 0]) else ∀ q, M1 q = none → R (.lst q) (M1.put q [.int 0, .int x, .int 0]))) := fun i => by
    have ab : 0 ≤ (if i < 0 then -i else i) := by split <;> omega
    split
    · exact fun q hq => fin _ q ab hq
    · refine ⟨⟨by decide, by decide, by decide⟩, ?_⟩
      split
      · exact fun q hq => fin _ q ab hq
      · exact fun q hq => fin _ q (by decide) hq
  split
  · rename_i hlt
    rw [List.length_map] at hlt
    have hlt : k < ns.length := by omega
    have e : atI (ns.map D.int) (k : Int) = some (.int ns[k]) := by
      refine atI_nat ?_
      rw [List.getElem?_map, List.getElem?_eq_getElem hlt]
      rfl
    rw [e]
    walk_at "zq"
    have := fin2 ns[k]
    simp only [decide_eq_true_eq] at this
    exact this
  · have := fin2 0
    simp only [decide_eq_true_eq] at this
    exact this
def lawW (jarf rightf : WFn) (K : Int) : WFn := wBody 1 1 (sCons (sRet (wB (bAll false) (aCons (wLc (iR1 (aCons (wB bMax (aCons (wC (.int 2)) (aCons (wB bMin (aCons (wB bLen (aCons (wVar 0) aNil)) (aCons (wC (.int K)) aNil))) aNil))) aNil)) (gN 1) tYes' (wCall rightf (aCons (wCall jarf (aCons (wVar 0) (aCons (wVar 1) aNil))) aNil)) [1]) aNil)))
    sNil)
theorem law_of {jarf rightf : WFn} {K : Int} (k0 : 2 ≤ K) (k1 : K ≤ 4) (hj : ∀ (ns : List Int) (k : Nat) (M : Mem) (R : DK), k < 64 → (∀ q M', M q = none → Jar M' q 0 → Grow M M' → R (.lst q) M') → jarf [.ro (ns.map D.int), .int k] M R)
    (hr : ∀ (p : Addr) (M : Mem) (R : DK), Jar M p 0 → (∀ M', GrowX p M M' → R (.bl true) M') → rightf [.lst p] M R)
    (ns : List Int) (hl : ns.length ≤ 63) : lawW jarf rightf K [.ro (ns.map D.int)] (fun _ => none) fun d _ => d = .bl true := by
  unfold lawW
  walk_at "zq"
  have hb : ∃ c : Nat, (if (if K < (ns.map D.int).length then K else (ns.map D.int).length) > 2 then (if K < (ns.map D.int).length then K else (ns.map D.int).length) else 2) = (c : Int) ∧ c ≤ 4 := by
    rw [List.length_map]
    generalize ns.length = L
    by_cases h4 : K < L
    · rw [if_pos h4]
      by_cases h5 : K > 2
      · rw [if_pos h5]
        exact ⟨K.toNat, by omega, by omega⟩
      · rw [if_neg h5]
        exact ⟨2, rfl, by decide⟩
    · rw [if_neg h4]
      by_cases h2 : (L : Int) > 2
      · rw [if_pos h2]
        exact ⟨L, rfl, by omega⟩
      · rw [if_neg h2]
        exact ⟨2, rfl, by decide⟩
  obtain ⟨c, e, hc⟩ := hb
  rw [e]
  refine ⟨by omega, by omega, ?_⟩
  intro Da hDa
  rw [Int.toNat_natCast]
  have main : ∀ (n k m : Nat) (M1 : Mem), n + k ≤ 4 → m ≤ 4 → k = m → M1 Da = some ((List.replicate m true).map D.bl) →
      lcGo none (rangeD 0 c) (gN 1) tYes' (wCall rightf (aCons (wCall jarf (aCons (wVar 0) (aCons (wVar 1) aNil))) aNil)) [some (.ro (ns.map D.int)), none] Da (fun d M1 => bAll false [d] M1 fun d x => d = .bl true) (rangeD (k : Int) n) M1 := by
    intro n
    induction n with
    | zero =>
      intro k m M1 _ _ _ hm
      rw [show rangeD (k : Int) 0 = [] from rfl, E_lc0]
      refine ⟨trivial, ?_⟩
      rw [E_all, hm, E_kAll, all_yes]
    | succ n ih =>
      intro k m M1 h1 h2 h3 hm
      rw [rangeD_succ, E_lcS]
      refine ⟨trivial, ?_⟩
      walk_at "zq"
      refine hj ns k M1 _ (by omega) fun q M2 hq j2 g2 => ?_
      refine hr q M2 _ j2 fun M3 g3 => ?_
      have e3 : M3 Da = some ((List.replicate m true).map D.bl) := g3 _ _ (by
        rintro rfl
        rw [hq] at hm
        cases hm) (g2 _ _ hm)
      rw [e3, E_kLc]
      refine ⟨by rw [List.length_map, List.length_replicate]; omega, ?_⟩
      rw [rep_snoc]
      have := ih (k + 1) (m + 1) (M3.put Da ((List.replicate (m + 1) true).map D.bl)) (by omega) (by omega) (by omega) Mem.put_same
      rw [show ((k + 1 : Nat) : Int) = (k : Int) + 1 by omega] at this
      exact this
  have := main c 0 0 (Mem.put (fun _ => none) Da []) (by omega) (by decide) rfl Mem.put_same
  exact this
end K1


set_option Elab.async false
set_option linter.all false
set_option maxRecDepth 100000
set_option exponentiation.threshold 10000
namespace K1
open PySem PySem.Spec PyProof.Rows L2 Zq Zr
local macro_rules | `(tactic| walk_at "zq") => `(tactic| simp only [E_body, E_var0, E_varS, E_C, E_bin, E_test, E_kB, E_anil, E_acons, E_tup, E_lst, E_b, E_call, E_callK, E_neg, E_kNeg, E_tand, E_tor, E_tnot, E_and, E_or, E_kAnd, E_kOr, E_not, E_kNot, E_ifE, E_chain, E_kCh, E_isN, E_isN0, E_isNt, E_isNi, E_isNs, E_isNl, E_snil, E_scons, E_pass, E_brk, E_cnt, E_ret, E_retN, E_expr, E_if, E_asg, E_set, E_par, E_kPar, E_par3, E_kPar3, E_aug, E_kAug, E_gN, E_gN0, E_gNC, E_gT, E_gS, E_kS, E_kS0, E_kS1, E_kS2, E_sub, E_iadd, E_mul, E_div, E_mod, E_pow, E_lt, E_le, E_gt, E_ge, E_addi, E_adds, E_addt, E_eqi, E_eqs, E_eqb, E_nei, E_nes, E_kAt, E_ixt, E_ixr, E_ixl, E_kAtL, at0, at1, at2, at3, E_abs, E_max, E_min, E_inti, E_intb, E_str, E_dm, E_lent, E_lenr, E_lenl, E_kLen, E_gcd, E_sqrt, E_lcm2, E_lcm3, E_all, E_kAll, E_isii, E_isit, isi_ii, isi_ib, isi_tt, E_iQ, E_kIt, E_kIr, E_kIl, E_kIl', E_iR1, E_kR1, E_for, E_lc, E_lc0, E_lcS, E_kLc, E_yes, E_f0, E_fS, E_stN, E_stS, E_s0, E_sS, E_g0, E_gSx, E_w0, E_wS,
  Mem.put_same, Mem.put_put, Zq.fD, Zq.E_ord10, Zq.E_ord0, E_wSlice, E_oNone, E_kO, E_oSome, List.map_cons, List.map_nil, List.cons_append, List.nil_append, List.replicate, List.length_cons, List.length_nil, decide_eq_true_eq, Bool.false_eq_true, if_false, if_true, Nat.reduceAdd, Nat.reduceLeDiff, true_and, and_true, Option.map_some])
variable {M : Mem} {R : DK} {p : Addr} {n : Nat}
/-! ### numbers that are alike, told by other triples -/
structure Tw (a b : Nm) : Prop where
  p : b.p = a.p
  w : fR b.q * Rl.rt (fR b.r) = fR a.q * Rl.rt (fR a.r)
theorem Tw.v {a b : Nm} (t : Tw a b) : nR b = nR a := by
  unfold nR
  rw [t.w, t.p]
theorem Tw.refl (a : Nm) : Tw a a := ⟨rfl, rfl⟩
/-- what twins are no longer than -/
structure Ok3 (i j k : Nat) (a : Nm) : Prop where
  p : IsF a.p
  q : IsF a.q
  r : IsF a.r
  r0 : 0 ≤ a.r.n
  bp : Bd i a.p
  bq : Bd j a.q
  br : Bd k a.r
theorem Ok3.nn {i j k : Nat} {a : Nm} (h : Ok3 i j k a) : Nn a := ⟨h.p.1, h.q.1, h.r.1, h.r0⟩
theorem Ok3.mono {i j k i' j' k' : Nat} {a : Nm} (h : Ok3 i j k a) (hi : i ≤ i') (hj : j ≤ j') (hk : k ≤ k') : Ok3 i' j' k' a := ⟨h.p, h.q, h.r, h.r0, h.bp.mono hi, h.bq.mono hj, h.br.mono hk⟩
theorem Ok3.ok {i j k m : Nat} {a : Nm} (h : Ok3 i j k a) (hi : i ≤ m) (hj : j ≤ m) (hk : k ≤ m) : Ok m a := ⟨h.p, h.q, h.r, h.r0, h.bp.mono hi, h.bq.mono hj, h.br.mono hk⟩
theorem Dn.ok3 {a : Nm} (d : Dn a) : Ok3 284 128 256 a := ⟨d.p, d.q, d.r, d.r0, d.bp, d.bq.mono (by decide), d.br.mono (by decide)⟩
theorem twin_w {a : Nm} (da : Dn a) (j : Jar M p n) (hn : n + 50 < 2 ^ 100) (h : ∀ (b : Nm) M', Ok3 284 128 256 b → Tw a b → Jar M' p (n + 50) → GrowX p M M' → R (nD b) M') : W_law_twin [.lst p, nD a] M R := by
  unfold W_law_twin nD
  walk_at "zq"
  refine dip_ret' j (by omega) (by decide) (by decide) fun w M1 w0 w1 j1 g1 => ?_
  try walk_at "zq"
  intro q hq
  refine one_of_new j1 (by omega) hq (by simp) (by simp) fun d M2 hd j2 g2 => ?_
  obtain ⟨s, rfl, s0, s1, s2, s3⟩ := by_mem hd
  try walk_at "zq"
  have zeroes : ∀ b : Nm, IsF b.q → IsF b.r → b.p = a.p → (a.q.n = 0 ∨ a.r.n = 0) → (b.q.n = 0 ∨ b.r.n = 0) → Tw a b := fun b hq hr hp h1 h2 => by
    have z : ∀ f g : Fr, 0 < f.d → 0 < g.d → (f.n = 0 ∨ g.n = 0) → fR f * Rl.rt (fR g) = 0 := fun f g hf hg k => by
      rcases k with k | k
      · rw [(fR_zero hf).mpr k]
        grind
      · rw [(fR_zero hg).mpr k, Rl.rt_zero]
        grind
    exact ⟨hp, by rw [z _ _ hq.1 hr.1 h2, z _ _ da.q.1 da.r.1 h1]⟩
  have first : (a.q.n = 0 ∨ a.r.n = 0) → (if w < 2 then
      W_law_rootable [D.lst p] M2 (fun d M3 => R (D.tup [fD a.p, fD ⟨0, 1⟩, d]) M3) else W_law_some [D.lst p] M2 (fun d M3 => R (D.tup [fD a.p, d, fD ⟨0, 1⟩]) M3)) := fun hz => by
    split
    · refine rootable_ret j2 (by omega) fun r M3 hr br r0 j3 g3 => ?_
      exact h ⟨a.p, ⟨0, 1⟩, r⟩ M3 ⟨da.p, isF_one 0, hr, r0, da.bp, bd_of (by decide) (by decide), br.mono (by decide)⟩ (zeroes _ (isF_one 0) hr rfl hz (.inl rfl)) (j3.mono (by omega)) (g1.trans (g2.trans g3))
    · refine some_ret j2 (by omega) fun q M3 hq bq j3 g3 => ?_
      exact h ⟨a.p, q, ⟨0, 1⟩⟩ M3 ⟨da.p, hq, isF_one 0, Int.le_refl 0, da.bp, bq.mono (by decide), bd_of (by decide) (by decide)⟩ (zeroes _ hq (isF_one 0) rfl hz (.inr rfl)) (j3.mono (by omega)) (g1.trans (g2.trans g3))
  by_cases q0 : a.q.n = 0
  · rw [if_pos q0]
    exact first (.inl q0)
  · rw [if_neg q0]
    by_cases r0 : a.r.n = 0
    · rw [if_pos r0]
      exact first (.inr r0)
    · rw [if_neg r0]
      split
      · exact h a M2 da.ok3 (.refl a) (j2.mono (by omega)) (g1.trans g2)
      · have bs : Bd 4 s := ⟨by omega, by omega⟩
        refine over_ret (f := a.q) (g := s) da.bq bs da.q.1 (by omega) (by decide) ?_
        try walk_at "zq"
        refine by_ret (f := s) (g := s) bs bs s2 s2 (by decide) (by_ret (f := a.r) (g := byV s s) da.br (by_bd bs bs s2 s2) da.r.1 (by_d s2 s2) (by decide) ?_)
        try walk_at "zq"
        have on : a.q.d * s.n ≠ 0 := mul_ne da.q.1 s0
        have dq : IsF (overV a.q s) := frac_isF on
        have dr : IsF (byV a.r (byV s s)) := frac_isF (mul_ne da.r.1 (by_d s2 s2))
        have bq2 : Bd 128 (overV a.q s) := frac_bd on (bd_mul da.bq.1 bs.2) (bd_mul da.bq.2 bs.1)
        have br2 : Bd 256 (byV a.r (byV s s)) := by_bd da.br (by_bd bs bs s2 s2) da.r.1 (by_d s2 s2)
        have rn : 0 ≤ (byV a.r (byV s s)).n := frac_nn (Int.mul_pos da.r.1 (by_d s2 s2)) (Int.mul_nonneg da.r0 (frac_nn (Int.mul_pos s2 s2) (nn_mul_self _)))
        refine h ⟨a.p, overV a.q s, byV a.r (byV s s)⟩ M2 ⟨da.p, dq, dr, rn, da.bp, bq2, br2⟩ ⟨rfl, ?_⟩ (j2.mono (by omega)) (g1.trans g2)
        show fR (overV a.q s) * Rl.rt (fR (byV a.r (byV s s))) = _
        have e1 := fR_over da.q.1 s2 (by omega : s.n ≠ 0)
        have sp : 0 ≤ fR s := (fR_nn s2).mpr (by omega)
        have ar : 0 ≤ fR a.r := (fR_nn da.r.1).mpr da.r0
        rw [fR_by da.r.1 (by_d s2 s2), fR_by s2 s2]
        have e2 : Rl.rt (fR a.r * (fR s * fR s)) = Rl.rt (fR a.r) * fR s := by
          refine Rl.rt_of (Rl.mul_nn (Rl.rt_nn _) sp) ?_
          have := Rl.rt_sq ar
          grind
        rw [e2, ← e1]
        grind
theorem two_sign_ret' {p q r u s : Fr} {j k : Nat} (bp : Bd j p) (bq : Bd k q) (br : Bd k r) (bu : Bd k u) (bs : Bd k s) (hp : 0 < p.d) (hq : 0 < q.d) (hr : 0 < r.d) (hu : 0 < u.d) (hs : 0 < s.d) (r0 : 0 ≤ r.n) (s0 : 0 ≤ s.n) (hk : 6 * j + 15 * k + 50 < 8999)
    (h : R (.int (tsV p q r u s)) M) : W_law_two_sign [fD p, fD q, fD r, fD u, fD s] M R := by
  rw [← ts_raw hp hq hr hu hs s0] at h
  have d1 := by_d hp hp
  have d2 := by_d (by_d hq hq) hr
  have d3 := by_d (by_d hu hu) hs
  have two_d : 0 < two.d := by decide
  have b1 : Bd (2 * j + 6 * k + 2) (plainV p q r u s) := (less_bd (plus_bd (by_bd bp bp hp hp) (by_bd (by_bd bq bq hq hq) br (by_d hq hq) hr) d1 d2) (by_bd (by_bd bu bu hu hu) bs (by_d hu hu) hs) (plus_d d1 d2) d3).mono (by omega)
  have b2 : Bd (j + k + 2) (crossV p q) := (by_bd (by_bd bp bq hp hq) two_bd (by_d hp hq) two_d).mono (by omega)
  have more : ∀ R : DK, R (.int (rsV (plainV p q r u s) (crossV p q) r)) M → W_law_by [fD p, fD p] M (fun d1 M1 => W_law_by [fD q, fD q] M1 (fun d2 M2 => W_law_by [d2, fD r] M2 fun d3 M3 => W_law_plus [d1, d3] M3 fun d4 M4 => W_law_by [fD u, fD u] M4 fun d5 M5 => W_law_by [d5, fD s] M5 fun d6 M6 => W_law_less [d4, d6] M6 fun d7 M7 =>
      W_law_by [fD p, fD q] M7 fun d8 M8 => W_law_by [d8, fD two] M8 fun d9 M9 => W_law_root_sign [d7, d9, fD r] M9 R)) := fun R hR =>
    by_ret bp bp hp hp (by omega) (by_ret bq bq hq hq (by omega) (by_ret (by_bd bq bq hq hq) br (by_d hq hq) hr (by omega) (plus_ret (by_bd bp bp hp hp) (by_bd (by_bd bq bq hq hq) br (by_d hq hq) hr) d1 d2 (by omega)
      (by_ret bu bu hu hu (by omega) (by_ret (by_bd bu bu hu hu) bs (by_d hu hu) hs (by omega) (less_ret (plus_bd (by_bd bp bp hp hp) (by_bd (by_bd bq bq hq hq) br (by_d hq hq) hr) d1 d2) (by_bd (by_bd bu bu hu hu) bs (by_d hu hu) hs) (plus_d d1 d2) d3 (by omega)
        (by_ret bp bq hp hq (by omega) (by_ret (by_bd bp bq hp hq) two_bd (by_d hp hq) two_d (by omega) (root_sign_ret b1 b2 br (less_d (plus_d d1 d2) d3) (by_d (by_d hp hq) two_d) hr r0 (by omega) hR)))))))))
  generalize rsV (plainV p q r u s) (crossV p q) r = m at h more
  unfold opp at h
  unfold W_law_two_sign
  walk_at "zq"
  refine root_sign_ret (p := p) (q := q) (r := r) bp bq br hp hq hr r0 (by omega) ?_
  have t3 := rs3 p q r
  generalize rsV p q r = l at h t3 ⊢
  by_cases s1 : 0 < s.n
  · simp only [if_pos s1] at h ⊢
    refine sgn_ret (f := u) ?_
    walk_at "zq"
    by_cases l0 : l = 0
    · simp only [l0, true_or, if_true] at h ⊢
      by_cases l1 : sg u.n = 0
      · simp only [l1, if_true] at h ⊢
        exact h
      · simp only [l1, if_false] at h ⊢
        exact h
    · by_cases l1 : sg u.n = 0
      · simp only [l0, l1, true_or, or_true, if_true, if_false] at h ⊢
        exact h
      · by_cases l2 : l = sg u.n
        · rw [l2] at h l0 ⊢
          simp only [l1, or_true, or_false, false_or, if_true, if_false] at h ⊢
          exact h
        · simp only [l0, l1, l2, or_self, if_false] at h ⊢
          refine more _ ?_
          walk_at "zq"
          exact ⟨mulW_of (sm3 t3) sm2 (by decide), mulW_of (sm3 (sg3 _)) sm2 (by decide), h⟩
  · simp only [if_neg s1] at h ⊢
    walk_at "zq"
    simp only [true_or, or_true, if_true] at h ⊢
    split <;> exact h
/-- order of two numbers, where they differ by no more than so much -/
theorem order_ret3 {a b : Nm} {i j k l : Nat} (ha : Ok3 i j k a) (hb : Ok3 i j k b) (hi : i + i < 8990) (bd : Bd l (lessV a.p b.p)) (hj : j ≤ k) (hk : 6 * l + 15 * k + 50 < 8999) (h : R (.int (orderV a b)) M) : W_law_order [nD a, nD b] M R := by
  unfold W_law_order nD
  walk_at "zq"
  refine less_ret (f := a.p) (g := b.p) ha.bp hb.bp ha.p.1 hb.p.1 (by omega) ?_
  refine back_ret (f := b.q) ?_
  exact two_sign_ret' (p := lessV a.p b.p) (q := a.q) (r := a.r) (u := backV b.q) (s := b.r) bd (ha.bq.mono hj) ha.br (back_bd (hb.bq.mono hj)) hb.br (less_d ha.p.1 hb.p.1) ha.q.1 ha.r.1 hb.q.1 hb.r.1 ha.r0 hb.r0 hk h
theorem less_self {f : Fr} (h : IsF f) : lessV f f = ⟨0, 1⟩ := by
  refine isF_eq (frac_isF (mul_ne h.1 h.1)) (isF_one 0) ?_
  rw [fR_less h.1 h.1, fR_zero_int]
  grind
theorem order0_ret {a b : Nm} {i j k : Nat} (ha : Ok3 i j k a) (hb : Ok3 i j k b) (hi : i + i < 8990) (hj : j ≤ k) (hk : 15 * k + 60 < 8999) (hp : a.p = b.p) (v : nR a = nR b) (h : R (.int 0) M) : W_law_order [nD a, nD b] M R := by
  refine order_ret3 (l := 1) ha hb hi ?_ hj (by omega) ?_
  · rw [hp, less_self hb.p]
    exact bd_of (by decide) (by decide)
  · rw [order_real ha.nn hb.nn, v, show nR b - nR b = 0 by grind, Rl.sgn_zero]
    exact h
/-! ### the law's turns -/
theorem turns_ret {L per : Nat} {body : WS} (turn : ∀ (W : WEnds) (M : Mem) (n : Nat) (t : D) (os : List (Option D)), os.length = L → Jar M p n → n + per < 2 ^ 100 →
      (∀ M' os', os'.length = L → Jar M' p (n + per) → GrowX p M M' → W.nx (some (.lst p) :: os') M') → body W (some (.lst p) :: os.set 0 (some t)) M) {all : List D} :
    ∀ (ds : List D) (M : Mem) (n : Nat) (os : List (Option D)), os.length = L → Jar M p n → n + per * ds.length < 2 ^ 100 → (∀ M', GrowX p M M' → R (.bl true) M') →
      forGo none all (gN 1) body { nx := fun ρ' M' => sCons (sRet (wC (.bl true))) sNil { nx := fun _ M' => R .non M', rt := R } ρ' M', rt := R } ds (some (.lst p) :: os) M := by
  intro ds
  induction ds with
  | nil =>
    intro M n os hl j hn h
    walk_at "zq"
    exact h M .refl
  | cons d ds ih =>
    intro M n os hl j hn h
    rw [List.length_cons, Nat.mul_succ] at hn
    rw [E_fS]
    refine ⟨trivial, ?_⟩
    rw [E_gN]
    refine turn _ M n d os hl j (by omega) fun M' os' hl' j' g => ?_
    exact ih M' (n + per) os' hl' j' (by omega) fun M'' g' => h M'' (g.trans g')
theorem right_of {L per : Nat} {c : Int} {body : WS} (c0 : 0 ≤ c) (c1 : c < 100) (turn : ∀ (W : WEnds) (M : Mem) (n : Nat) (t : D) (os : List (Option D)), os.length = L → Jar M p n → n + per < 2 ^ 100 →
      (∀ M' os', os'.length = L → Jar M' p (n + per) → GrowX p M M' → W.nx (some (.lst p) :: os') M') → body W (some (.lst p) :: os.set 0 (some t)) M) (hp : per < 2 ^ 80) (j : Jar M p 0) (h : ∀ M', GrowX p M M' → R (.bl true) M') :
    wBody 1 L (sCons (sFor (iR1 (aCons (wC (.int c)) aNil)) (gN 1) body) (sCons (sRet (wC (.bl true))) sNil)) [.lst p] M R := by
  walk_at "zq"
  refine ⟨by omega, by omega, ?_⟩
  refine turns_ret turn _ M 0 (List.replicate L none) (by simp) j ?_ h
  rw [rangeD_length, Nat.zero_add]
  have : per * c.toNat ≤ per * 100 := Nat.mul_le_mul_left _ (by omega)
  omega
end K1


set_option Elab.async false
set_option linter.all false
set_option maxRecDepth 100000
set_option exponentiation.threshold 10000
namespace K1
open PySem PySem.Spec PyProof.Rows L2 Zq Zr
local macro_rules | `(tactic| walk_at "zq") => `(tactic| simp only [E_body, E_var0, E_varS, E_C, E_bin, E_test, E_kB, E_anil, E_acons, E_tup, E_lst, E_b, E_call, E_callK, E_neg, E_kNeg, E_tand, E_tor, E_tnot, E_and, E_or, E_kAnd, E_kOr, E_not, E_kNot, E_ifE, E_chain, E_kCh, E_isN, E_isN0, E_isNt, E_isNi, E_isNs, E_isNl, E_snil, E_scons, E_pass, E_brk, E_cnt, E_ret, E_retN, E_expr, E_if, E_asg, E_set, E_par, E_kPar, E_par3, E_kPar3, E_aug, E_kAug, E_gN, E_gN0, E_gNC, E_gT, E_gS, E_kS, E_kS0, E_kS1, E_kS2, E_sub, E_iadd, E_mul, E_div, E_mod, E_pow, E_lt, E_le, E_gt, E_ge, E_addi, E_adds, E_addt, E_eqi, E_eqs, E_eqb, E_nei, E_nes, E_kAt, E_ixt, E_ixr, E_ixl, E_kAtL, at0, at1, at2, at3, E_abs, E_max, E_min, E_inti, E_intb, E_str, E_dm, E_lent, E_lenr, E_lenl, E_kLen, E_gcd, E_sqrt, E_lcm2, E_lcm3, E_all, E_kAll, E_isii, E_isit, isi_ii, isi_ib, isi_tt, E_iQ, E_kIt, E_kIr, E_kIl, E_kIl', E_iR1, E_kR1, E_for, E_lc, E_lc0, E_lcS, E_kLc, E_yes, E_f0, E_fS, E_stN, E_stS, E_s0, E_sS, E_g0, E_gSx, E_w0, E_wS,
  Mem.put_same, Mem.put_put, Zq.fD, Zq.E_ord10, Zq.E_ord0, E_wSlice, E_oNone, E_kO, E_oSome, List.map_cons, List.map_nil, List.cons_append, List.nil_append, List.replicate, List.length_cons, List.length_nil, decide_eq_true_eq, Bool.false_eq_true, if_false, if_true, Nat.reduceAdd, Nat.reduceLeDiff, true_and, and_true, Option.map_some])
variable {M : Mem} {R : DK} {p : Addr} {n : Nat} {f g : Fr} {j k : Nat}
/-! ### the program's fractions -/
theorem reduced_ret {a b : Int} (hb : 0 < b) (hk : b.natAbs < 2 ^ 8999) (h : R (fD (fracV a b)) M) : K3.W_reduced [.int a, .int b] M R := by
  unfold K3.W_reduced
  walk_at "zq"
  have g0 : 0 < a.natAbs.gcd b.natAbs := Nat.gcd_pos_of_pos_right _ (by omega)
  have g1 : a.natAbs.gcd b.natAbs ≤ b.natAbs := Nat.gcd_le_right _ (by omega)
  unfold fracV at h
  simp only [if_neg (show ¬ b < 0 by omega)] at h
  exact ⟨divW_of (b := 8999) (by omega) (by omega) (by decide), divW_of (b := 8999) (by omega) (by omega) (by decide), h⟩
theorem added_ret (bf : Bd j f) (bg : Bd k g) (hf : 0 < f.d) (hg : 0 < g.d) (hk : j + k < 8999) (h : R (fD (plusV f g)) M) : K3.W_added [fD f, fD g] M R := by
  unfold K3.W_added
  walk_at "zq"
  exact ⟨mulW_of bf.1 bg.2 (by omega), mulW_of bg.1 bf.2 (by omega), mulW_of bf.2 bg.2 (by omega), reduced_ret (Int.mul_pos hf hg) (lt_pow_add (bd_mul bf.2 bg.2) (by omega)) h⟩
theorem multiplied_ret (bf : Bd j f) (bg : Bd k g) (hf : 0 < f.d) (hg : 0 < g.d) (hk : j + k < 8999) (h : R (fD (byV f g)) M) : K3.W_multiplied [fD f, fD g] M R := by
  unfold K3.W_multiplied
  walk_at "zq"
  exact ⟨mulW_of bf.1 bg.1 (by omega), mulW_of bf.2 bg.2 (by omega), reduced_ret (Int.mul_pos hf hg) (lt_pow_add (bd_mul bf.2 bg.2) (by omega)) h⟩
theorem need_fraction_ret (hf : IsF f) (h : R .non M) : K3.W_need_fraction [fD f] M R := by
  unfold K3.W_need_fraction
  walk_at "zq"
  refine frac_is_ret hf ?_
  walk_at "zq"
  exact h
theorem eq_fr (h : R (.bl true) M) : fEq false (fD f) (fD f) M R := by
  unfold fEq fD
  have e : pyD M 200 (.tup [.int f.n, .int f.d]) = some (.tuple [.int f.n, .int f.d]) := by simp [pyD, pyDs]
  simp only [e]
  have s : SeqAt.shaped (.tuple [.int f.n, .int f.d]) = true := by
    simp [SeqAt.shaped, PyData.canLay0, PyData.canLayAll0, PyData.depth, PyData.depthAll]
  have q : PyData.eqv (.tuple [.int f.n, .int f.d]) (.tuple [.int f.n, .int f.d]) = true := by simp [PyData.eqv, PyData.eqvAll]
  rw [q]
  exact ⟨s, s, h⟩
theorem frac_same (hf : IsF f) : fracV f.n f.d = f := by
  refine isF_eq (frac_isF (by have := hf.1; omega)) hf ?_
  refine of_fR (frac_isF (by have := hf.1; omega)).1 ?_
  have h0 := hf.1
  have := frac_fR (a := f.n) (b := f.d) (by omega)
  have e := fR_mul hf.1
  have e2 := fR_mul (frac_isF (a := f.n) (b := f.d) (by omega)).1
  have : fR f = fR (fracV f.n f.d) := rl_cancel (Rl.iR_pos.mpr h0) (by grind)
  rw [this, e2]
theorem law_frac_ret (hf : IsF f) (hk : f.d.natAbs < 2 ^ 8999) (h : R (.bl true) M) : K3.W_law_is_frac [fD f] M R := by
  unfold K3.W_law_is_frac
  walk_at "zq"
  rw [if_neg (by decide)]
  refine whole_ret ?_
  walk_at "zq"
  refine whole_ret ?_
  walk_at "zq"
  have h0 := hf.1
  rw [if_neg (by decide), if_pos h0]
  refine frac_ret (by omega) hk ?_
  rw [frac_same hf]
  exact eq_fr h
theorem law_number_ret {a : Nm} (hp : IsF a.p) (hq : IsF a.q) (hr : IsF a.r) (r0 : 0 ≤ a.r.n) (kp : a.p.d.natAbs < 2 ^ 8999) (kq : a.q.d.natAbs < 2 ^ 8999) (kr : a.r.d.natAbs < 2 ^ 8999) (h : ∀ M', Grow M M' → R (.bl true) M') : K3.W_law_is_number [nD a] M R := by
  unfold K3.W_law_is_number nD
  walk_at "zq"
  unfold K3.W_law_are_fracs
  walk_at "zq"
  rw [if_pos (by decide)]
  intro Da hD
  refine law_frac_ret hp kp ?_
  walk_at "zq"
  refine law_frac_ret hq kq ?_
  walk_at "zq"
  refine law_frac_ret hr kr ?_
  walk_at "zq"
  have e : ([D.bl true, .bl true, .bl true] : List D) = [true, true, true].map D.bl := rfl
  rw [e, E_kAll]
  walk_at "zq"
  simp only [List.all_cons, List.all_nil, id, Bool.and_self, if_true, r0, decide_true]
  exact h _ (.put hD)
theorem is_it_ret {a b : Nm} {x y z : Nat} (ha : Ok3 x y z a) (hb : Ok3 x y z b) (hi : x + x < 8990) (hj : y ≤ z) (hk : 15 * z + 60 < 8999) (hp : a.p = b.p) (v : nR a = nR b) (h : ∀ M', Grow M M' → R (.bl true) M') : K3.W_law_is_it [nD a, nD b] M R := by
  unfold K3.W_law_is_it
  walk_at "zq"
  refine law_number_ret ha.p ha.q ha.r ha.r0 (lt_pow_add ha.bp.2 (by omega)) (lt_pow_add ha.bq.2 (by omega)) (lt_pow_add ha.br.2 (by omega)) fun M1 g1 => ?_
  walk_at "zq"
  refine order0_ret ha hb hi hj hk hp v ?_
  walk_at "zq"
  exact h M1 g1
theorem pair_times_ret {p q p' q' r : Fr} {i j : Nat} (bp : Bd i p) (bq : Bd i q) (bp' : Bd i p') (bq' : Bd i q') (br : Bd j r) (hp : 0 < p.d) (hq : 0 < q.d) (hp' : 0 < p'.d) (hq' : 0 < q'.d) (hr : 0 < r.d) (hk : 4 * i + j < 8990)
    (h : R (.tup [fD (plusV (byV p p') (byV (byV q q') r)), fD (plusV (byV p q') (byV q p'))]) M) : K3.W_law_pair_times [.tup [fD p, fD q], .tup [fD p', fD q'], fD r] M R := by
  unfold K3.W_law_pair_times
  walk_at "zq"
  have d1 := by_d hp hp'
  have d2 := by_d (by_d hq hq') hr
  refine by_ret bp bp' hp hp' (by omega) (by_ret bq bq' hq hq' (by omega) (by_ret (by_bd bq bq' hq hq') br (by_d hq hq') hr (by omega) (plus_ret (by_bd bp bp' hp hp') (by_bd (by_bd bq bq' hq hq') br (by_d hq hq') hr) d1 d2 (by omega) ?_)))
  walk_at "zq"
  refine by_ret bp bq' hp hq' (by omega) (by_ret bq bp' hq hp' (by omega) (plus_ret (by_bd bp bq' hp hq') (by_bd bq bp' hq hp') (by_d hp hq') (by_d hq hp') (by omega) ?_))
  exact h
end K1


set_option Elab.async false
set_option linter.all false
set_option maxRecDepth 100000
set_option exponentiation.threshold 10000
namespace K1
open PySem PySem.Spec PyProof.Rows L2 Zq Zr
local macro_rules | `(tactic| walk_at "zq") => `(tactic| simp only [E_body, E_var0, E_varS, E_C, E_bin, E_test, E_kB, E_anil, E_acons, E_tup, E_lst, E_b, E_call, E_callK, E_neg, E_kNeg, E_tand, E_tor, E_tnot, E_and, E_or, E_kAnd, E_kOr, E_not, E_kNot, E_ifE, E_chain, E_kCh, E_isN, E_isN0, E_isNt, E_isNi, E_isNs, E_isNl, E_snil, E_scons, E_pass, E_brk, E_cnt, E_ret, E_retN, E_expr, E_if, E_asg, E_set, E_par, E_kPar, E_par3, E_kPar3, E_aug, E_kAug, E_gN, E_gN0, E_gNC, E_gT, E_gS, E_kS, E_kS0, E_kS1, E_kS2, E_sub, E_iadd, E_mul, E_div, E_mod, E_pow, E_lt, E_le, E_gt, E_ge, E_addi, E_adds, E_addt, E_eqi, E_eqs, E_eqb, E_nei, E_nes, E_kAt, E_ixt, E_ixr, E_ixl, E_kAtL, at0, at1, at2, at3, E_abs, E_max, E_min, E_inti, E_intb, E_str, E_dm, E_lent, E_lenr, E_lenl, E_kLen, E_gcd, E_sqrt, E_lcm2, E_lcm3, E_all, E_kAll, E_isii, E_isit, isi_ii, isi_ib, isi_tt, E_iQ, E_kIt, E_kIr, E_kIl, E_kIl', E_iR1, E_kR1, E_for, E_lc, E_lc0, E_lcS, E_kLc, E_yes, E_f0, E_fS, E_stN, E_stS, E_s0, E_sS, E_g0, E_gSx, E_w0, E_wS,
  Mem.put_same, Mem.put_put, Zq.fD, Zq.E_ord10, Zq.E_ord0, E_wSlice, E_oNone, E_kO, E_oSome, List.map_cons, List.map_nil, List.cons_append, List.nil_append, List.replicate, List.length_cons, List.length_nil, decide_eq_true_eq, Bool.false_eq_true, if_false, if_true, Nat.reduceAdd, Nat.reduceLeDiff, true_and, and_true, Option.map_some, Bool.not_true, Bool.not_false])
variable {M : Mem} {R : DK} {p : Addr} {n : Nat}
/-! ### what repr tells is short enough -/
structure Rep (k m : Nat) (d : PyData) : Prop where
  s : d.showable = true
  c : d.canLay0 = true
  dp : d.depth ≤ m
  l : d.shown.length ≤ k
structure RepAll (k m : Nat) (ds : List PyData) : Prop where
  s : PyData.showableAll ds = true
  c : PyData.canLayAll0 ds = true
  dp : PyData.depthAll ds ≤ m
  l : piled (PyData.shownAll ds) ≤ k
theorem Rep.mono {k m k' m' : Nat} {d : PyData} (r : Rep k m d) (h : k ≤ k') (h' : m ≤ m') : Rep k' m' d := ⟨r.s, r.c, Nat.le_trans r.dp h', Nat.le_trans r.l h⟩
theorem RepAll.mono {k m k' m' : Nat} {d : List PyData} (r : RepAll k m d) (h : k ≤ k') (h' : m ≤ m') : RepAll k' m' d := ⟨r.s, r.c, Nat.le_trans r.dp h', Nat.le_trans r.l h⟩
theorem rep_int {i : Int} (h : i.natAbs < 2 ^ 1919) : Rep 1922 0 (.int i) := by
  have h2 : i.natAbs.log2 < 1920 := by
    have : i.natAbs.log2 ≤ 1918 := log_of_lt (k := 1918) h
    omega
  refine ⟨by simp [PyData.showable, h2], by simp [PyData.canLay0], by simp [PyData.depth], ?_⟩
  have := int_text_len_1921 h2
  show (Str.ofString (toString i)).length ≤ 1922
  omega
theorem rep_bl (b : Bool) : Rep 10 0 (.bool b) := by
  refine ⟨by simp [PyData.showable], by simp [PyData.canLay0], by simp [PyData.depth], ?_⟩
  cases b <;> decide +kernel
theorem repAll_nil {m : Nat} : RepAll 0 m [] := ⟨rfl, rfl, Nat.zero_le _, Nat.zero_le _⟩
theorem repAll_cons {k k' m : Nat} {d : PyData} {ds : List PyData} (r : Rep k m d) (q : RepAll k' m ds) : RepAll (k + 2 + k') m (d :: ds) := by
  refine ⟨by simp [PyData.showableAll, r.s, q.s], by simp [PyData.canLayAll0, r.c, q.c], ?_, ?_⟩
  · have h1 := r.dp
    have h2 := q.dp
    simp only [PyData.depthAll]
    omega
  · have h1 := r.l
    have h2 := q.l
    simp only [PyData.shownAll, piled_cons]
    omega
theorem tupleText_len (ts : List Str) : (tupleText ts).length ≤ piled ts + 4 := by
  unfold tupleText
  rw [strLen_append, strLen_append]
  have e1 : ((("(" : String) : Str)).length = 1 := rfl
  have e3 : (((if ts.length == 1 then ",)" else ")" : String) : Str)).length ≤ 2 := by split <;> decide
  rw [e1]
  by_cases h : ts = []
  · subst h
    have : (Str.join ", " []).length = 0 := rfl
    omega
  · have := join_length_add ts h
    omega
theorem listText_len : ∀ ts : List Str, (listText ts).length ≤ piled ts + 4
  | [] => by decide
  | t :: r => by
    have h := textFrom_length_pos r 1 (("[" : Str) ++ (if (0 : Nat) > 0 then ", " else "" : String) ++ t) (Nat.succ_pos 0)
    have e : ((("[" : Str) ++ (if (0 : Nat) > 0 then ", " else "" : String) ++ t)).length = 1 + t.length := by
      rw [strLen_append, strLen_append]; rfl
    have hX : (listText (t :: r)).length = (textFrom 0 "[" (t :: r)).length + 1 := by
      show (textFrom 0 "[" (t :: r) ++ "]").length = _
      rw [strLen_append]; rfl
    have hY : (textFrom 0 "[" (t :: r)).length = (textFrom 1 (("[" : Str) ++ (if (0 : Nat) > 0 then ", " else "" : String) ++ t) r).length := rfl
    rw [hX, hY, h, e, piled_cons]; omega
theorem rep_tup {k m : Nat} {ds : List PyData} (r : RepAll k m ds) : Rep (k + 4) (m + 1) (.tuple ds) := by
  refine ⟨by simp [PyData.showable, r.s], by simp [PyData.canLay0, r.c], ?_, ?_⟩
  · have := r.dp
    simp only [PyData.depth]
    omega
  · have h1 := r.l
    have h2 := tupleText_len (PyData.shownAll ds)
    simp only [PyData.shown]
    omega
theorem rep_lst {k m : Nat} {ds : List PyData} (r : RepAll k m ds) : Rep (k + 4) (m + 1) (.list ds) := by
  refine ⟨by simp [PyData.showable, r.s], by simp [PyData.canLay0, r.c], ?_, ?_⟩
  · have := r.dp
    simp only [PyData.depth]
    omega
  · have h1 := r.l
    have h2 := listText_len (PyData.shownAll ds)
    simp only [PyData.shown]
    omega
theorem Rep.shaped {k m : Nat} {d : PyData} (r : Rep k m d) (h : m ≤ 64) : SeqAt.shaped d = true := by
  have := r.dp
  simp only [SeqAt.shaped, r.c, Bool.true_and, decide_eq_true_eq]
  omega
theorem repr_ret {x : D} {d : PyData} {k m : Nat} (e : pyD M 200 x = some d) (r : Rep k m d) (hk : k ≤ 10000000) (hm : m ≤ 64) (h : R (.str d.shown) M) : bRepr [x] M R := by
  unfold bRepr
  simp only [e]
  exact ⟨r.s, r.shaped hm, Nat.le_trans r.l (Nat.le_trans hk (by decide)), h⟩
theorem same_ret {x y : D} {d : PyData} {k m : Nat} (e1 : pyD M 200 x = some d) (e2 : pyD M 200 y = some d) (r : Rep k m d) (hk : k ≤ 10000000) (hm : m ≤ 64) (h : R (.bl true) M) : W_law_same [x, y] M R := by
  unfold W_law_same
  walk_at "zq"
  refine repr_ret e1 r hk hm (repr_ret e2 r hk hm ?_)
  walk_at "zq"
  simp only [decide_true]
  exact h
/-- fractions, numbers as repr's data -/
def frP (f : Fr) : PyData := .tuple [.int f.n, .int f.d]
def nmP (a : Nm) : PyData := .tuple [frP a.p, frP a.q, frP a.r]
theorem pyD_fr (f : Fr) : pyD M 200 (fD f) = some (frP f) := by simp [pyD, pyDs, fD, frP]
theorem pyD_nm (a : Nm) : pyD M 200 (nD a) = some (nmP a) := by simp [pyD, pyDs, fD, frP, nD, nmP]
theorem pyD_int (i : Int) : pyD M 200 (.int i) = some (.int i) := by simp [pyD]
theorem rep_fr {f : Fr} (b : Bd 1919 f) : Rep 4000 1 (frP f) := (rep_tup (repAll_cons (rep_int b.1) (repAll_cons (rep_int b.2) repAll_nil))).mono (by decide) (by decide)
theorem rep_nm {a : Nm} (h1 : Bd 1919 a.p) (h2 : Bd 1919 a.q) (h3 : Bd 1919 a.r) : Rep 13000 2 (nmP a) := (rep_tup (repAll_cons (rep_fr h1) (repAll_cons (rep_fr h2) (repAll_cons (rep_fr h3) repAll_nil)))).mono (by decide) (by decide)
/-- == of data -/
def eqB (x y : PyData) (neg : Bool) : Bool := if neg then !PyData.eqv x y else PyData.eqv x y
theorem eq_data {x y : D} {d e : PyData} {neg : Bool} {k m : Nat} (hx : ∀ i, x ≠ .int i) (hs : ∀ i, x ≠ .str i) (hb : ∀ i, x ≠ .bl i) (e1 : pyD M 200 x = some d) (e2 : pyD M 200 y = some e) (r1 : SeqAt.shaped d = true) (r2 : SeqAt.shaped e = true) (h : R (.bl (eqB d e neg)) M) : fEq neg x y M R := by
  unfold fEq
  split
  · exact absurd rfl (hx _)
  · exact absurd rfl (hs _)
  · exact absurd rfl (hb _)
  · simp only [e1, e2]
    exact ⟨r1, r2, h⟩
theorem eqv_fr (f g : Fr) : PyData.eqv (frP f) (frP g) = (f.n == g.n && f.d == g.d) := by simp [frP, PyData.eqv, PyData.eqvAll]
theorem fr_eq {f g : Fr} {neg : Bool} (h : R (.bl (if neg then !(f.n == g.n && f.d == g.d) else (f.n == g.n && f.d == g.d))) M) : fEq neg (fD f) (fD g) M R := by
  have sh : ∀ f : Fr, SeqAt.shaped (frP f) = true := fun f => by simp [SeqAt.shaped, frP, PyData.canLay0, PyData.canLayAll0, PyData.depth, PyData.depthAll]
  refine eq_data (k := 0) (m := 0) (fun _ z => by cases z) (fun _ z => by cases z) (fun _ z => by cases z) (pyD_fr f) (pyD_fr g) (sh f) (sh g) ?_
  unfold eqB
  rw [eqv_fr]
  exact h
end K1


set_option Elab.async false
set_option linter.all false
set_option maxRecDepth 100000
set_option exponentiation.threshold 10000
namespace K1
open PySem PySem.Spec PyProof.Rows L2 Zq Zr
local macro_rules | `(tactic| walk_at "zq") => `(tactic| simp only [E_body, E_var0, E_varS, E_C, E_bin, E_test, E_kB, E_anil, E_acons, E_tup, E_lst, E_b, E_call, E_callK, E_neg, E_kNeg, E_tand, E_tor, E_tnot, E_and, E_or, E_kAnd, E_kOr, E_not, E_kNot, E_ifE, E_chain, E_kCh, E_isN, E_isN0, E_isNt, E_isNi, E_isNs, E_isNl, E_snil, E_scons, E_pass, E_brk, E_cnt, E_ret, E_retN, E_expr, E_if, E_asg, E_set, E_par, E_kPar, E_par3, E_kPar3, E_aug, E_kAug, E_gN, E_gN0, E_gNC, E_gT, E_gS, E_kS, E_kS0, E_kS1, E_kS2, E_sub, E_iadd, E_mul, E_div, E_mod, E_pow, E_lt, E_le, E_gt, E_ge, E_addi, E_adds, E_addt, E_eqi, E_eqs, E_eqb, E_nei, E_nes, E_kAt, E_ixt, E_ixr, E_ixl, E_kAtL, at0, at1, at2, at3, E_abs, E_max, E_min, E_inti, E_intb, E_str, E_dm, E_lent, E_lenr, E_lenl, E_kLen, E_gcd, E_sqrt, E_lcm2, E_lcm3, E_all, E_kAll, E_isii, E_isit, isi_ii, isi_ib, isi_tt, E_iQ, E_kIt, E_kIr, E_kIl, E_kIl', E_iR1, E_kR1, E_for, E_lc, E_lc0, E_lcS, E_kLc, E_yes, E_f0, E_fS, E_stN, E_stS, E_s0, E_sS, E_g0, E_gSx, E_w0, E_wS,
  Mem.put_same, Mem.put_put, Zq.fD, Zq.E_ord10, Zq.E_ord0, E_wSlice, E_oNone, E_kO, E_oSome, List.map_cons, List.map_nil, List.cons_append, List.nil_append, List.replicate, List.length_cons, List.length_nil, decide_eq_true_eq, Bool.false_eq_true, if_false, if_true, Nat.reduceAdd, Nat.reduceLeDiff, true_and, and_true, Option.map_some, Bool.not_true, Bool.not_false])
local macro_rules | `(tactic| walk_at "zr") => `(tactic| simp only [E_body, E_var0, E_varS, E_C, E_bin, E_test, E_kB, E_anil, E_acons, E_tup, E_lst, E_b, E_call, E_callK, E_neg, E_kNeg, E_tand, E_tor, E_tnot, E_and, E_or, E_kAnd, E_kOr, E_not, E_kNot, E_ifE, E_chain, E_kCh, E_isN, E_isN0, E_isNt, E_isNi, E_isNs, E_isNl, E_snil, E_scons, E_pass, E_brk, E_cnt, E_ret, E_retN, E_expr, E_if, E_asg, E_set, E_par, E_kPar, E_par3, E_kPar3, E_aug, E_kAug, E_gN, E_gN0, E_gNC, E_gT, E_gS, E_kS, E_kS0, E_kS1, E_kS2, E_sub, E_iadd, E_mul, E_div, E_mod, E_pow, E_lt, E_le, E_gt, E_ge, E_addi, E_adds, E_addt, E_eqi, E_eqs, E_eqb, E_nei, E_nes, E_kAt, E_ixt, E_ixr, E_ixl, E_kAtL, at0, at1, at2, at3, E_abs, E_max, E_min, E_inti, E_intb, E_str, E_dm, E_lent, E_lenr, E_lenl, E_kLen, E_gcd, E_sqrt, E_lcm2, E_lcm3, E_all, E_kAll, E_isii, E_isit, isi_ii, isi_ib, isi_tt, E_iQ, E_kIt, E_kIr, E_kIl, E_kIl', E_iR1, E_kR1, E_for, E_lc, E_lc0, E_lcS, E_kLc, E_yes, E_stN, E_stS, E_s0, E_sS, E_g0, E_gSx, E_w0, E_wS,
  Mem.put_same, Mem.put_put, Zq.fD, Zq.E_ord10, Zq.E_ord0, E_wSlice, E_oNone, E_kO, E_oSome, List.map_cons, List.map_nil, List.cons_append, List.nil_append, List.replicate, List.length_cons, List.length_nil, decide_eq_true_eq, Bool.false_eq_true, if_false, if_true, Nat.reduceAdd, Nat.reduceLeDiff, true_and, and_true, Option.map_some, Bool.not_true, Bool.not_false])
variable {M : Mem} {R : DK} {p : Addr} {n : Nat} {f g : Fr} {j k : Nat}
/-! ### whole roots -/
def isq (x : Int) : Int := ((PySem.Float64.isqrt x.toNat : Nat) : Int)
theorem isq_spec {x : Int} (h : 0 ≤ x) : 0 ≤ isq x ∧ isq x * isq x ≤ x ∧ x < (isq x + 1) * (isq x + 1) := by
  obtain ⟨h1, h2⟩ := PySem.Float64.isqrt_spec x.toNat
  unfold isq
  have e : ((x.toNat : Nat) : Int) = x := by omega
  generalize PySem.Float64.isqrt x.toNat = y at *
  refine ⟨by omega, ?_, ?_⟩
  · have : ((y * y : Nat) : Int) ≤ ((x.toNat : Nat) : Int) := by omega
    rw [Int.natCast_mul, e] at this
    exact this
  · have : ((x.toNat : Nat) : Int) < (((y + 1) * (y + 1) : Nat) : Int) := by omega
    rw [Int.natCast_mul, e] at this
    exact this
theorem isq_uniq {x y : Int} (h0 : 0 ≤ y) (h1 : y * y ≤ x) (h2 : x < (y + 1) * (y + 1)) : y = isq x := by
  have hx : 0 ≤ x := Int.le_trans (Int.mul_nonneg h0 h0) h1
  obtain ⟨k0, k1, k2⟩ := isq_spec hx
  generalize isq x = z at *
  have a : ¬ y < z := fun c => by
    have := Int.mul_le_mul (show y + 1 ≤ z by omega) (show y + 1 ≤ z by omega) (by omega) k0
    omega
  have b : ¬ z < y := fun c => by
    have := Int.mul_le_mul (show z + 1 ≤ y by omega) (show z + 1 ≤ y by omega) (by omega) h0
    omega
  omega
theorem isq_sq {x : Int} (h : 0 ≤ x) : isq (x * x) = x := by
  refine (isq_uniq h (Int.le_refl _) ?_).symm
  have e : (x + 1) * (x + 1) = x * x + 2 * x + 1 := by grind
  omega
theorem floor_root_isq {x : Int} {k : Nat} (h0 : 0 ≤ x) (hk : x.natAbs < 2 ^ k) (hk2 : k < 300000) (h : R (.int (isq x)) M) : W_law_floor_root [.int x] M R := by
  unfold W_law_floor_root
  try walk_at "zq"
  have big : ∀ y : Int, 0 ≤ y → y ≤ 2 * x + 2 → y.natAbs < 2 ^ (k + 3) := fun y y0 y1 => by
    have e : 2 ^ (k + 3) = 2 ^ k * 8 := by rw [Nat.pow_add]
    rw [e]
    generalize 2 ^ k = z at *
    omega
  refine ⟨fun m ρ M' => M' = M ∧ ∃ y : Int, ρ = [some (.int x), some (.int y), none, none] ∧ 1 ≤ y ∧ m = (x + 1 - y).toNat ∧ (y = 1 ∨ (y / 2) * (y / 2) ≤ x) ∧ y ≤ 2 * x + 2, ⟨_, rfl, 1, rfl, by omega, rfl, .inl rfl, by omega⟩, ?_⟩
  rintro m ρ M' ⟨rfl, y, rfl, y1, rfl, yh, y2⟩
  try walk_at "zq"
  refine ⟨mulW_of (big y (by omega) y2) (big y (by omega) y2) (by omega), ?_⟩
  split
  · rename_i hyx
    have hyx : y * y ≤ x := hyx
    have yx : y ≤ x := Int.le_trans (by have := Int.mul_le_mul_of_nonneg_left y1 (show 0 ≤ y by omega); omega) hyx
    refine ⟨mulW_of (a := 2) (by decide) (big y (by omega) y2) (by omega), _, ?_, 2 * y, rfl, by omega, rfl, .inr ?_, by omega⟩
    · omega
    · rw [show 2 * y / 2 = y by omega]
      exact hyx
  · rename_i hyx
    have hyx : ¬ y * y ≤ x := hyx
    refine ⟨divW_of (b := 4) (by decide) (by decide) (by decide), ?_⟩
    have l0 : y / 2 * (y / 2) ≤ x := by
      rcases yh with rfl | z
      · simpa using h0
      · exact z
    refine ⟨fun m ρ M2 => M2 = M' ∧ ∃ lo hi : Int, ∃ o, ρ = [some (.int x), some (.int hi), some (.int lo), o] ∧ 0 ≤ lo ∧ lo < hi ∧ lo * lo ≤ x ∧ hi ≤ 2 * x + 2 ∧ x < hi * hi ∧ m = (hi - lo).toNat, ⟨_, rfl, y / 2, y, none, rfl, by omega, by omega, l0, y2, by omega, rfl⟩, ?_⟩
    rintro m ρ M2 ⟨rfl, lo, hi, o, rfl, a0, a1, a2, a3, a4, rfl⟩
    try walk_at "zq"
    split
    · rename_i hd
      have hd : 1 < hi - lo := hd
      have m1 : lo < (lo + hi) / 2 := by omega
      have m2 : (lo + hi) / 2 < hi := by omega
      refine ⟨divW_of (b := 4) (by decide) (by decide) (by decide), mulW_of (big _ (by omega) (by omega)) (big _ (by omega) (by omega)) (by omega), ?_⟩
      split
      · rename_i hm
        exact ⟨(hi - (lo + hi) / 2).toNat, by omega, (lo + hi) / 2, hi, _, rfl, by omega, m2, hm, a3, a4, rfl⟩
      · rename_i hm
        have hm : ¬ (lo + hi) / 2 * ((lo + hi) / 2) ≤ x := hm
        exact ⟨((lo + hi) / 2 - lo).toNat, by omega, lo, (lo + hi) / 2, _, rfl, a0, m1, a2, by omega, by omega, rfl⟩
    · rename_i hd
      have hd : ¬ 1 < hi - lo := hd
      have e : hi = lo + 1 := by omega
      rw [e] at a4
      rw [isq_uniq a0 a2 a4]
      exact h
/-! ### fractions that are squares -/
def isSq (f : Fr) : Bool := isq f.n * isq f.n == f.n && isq f.d * isq f.d == f.d
def rtF (f : Fr) : Fr := ⟨isq f.n, isq f.d⟩
theorem isSq_iff {f : Fr} : isSq f = true ↔ isq f.n * isq f.n = f.n ∧ isq f.d * isq f.d = f.d := by
  unfold isSq
  rw [Bool.and_eq_true, beq_iff_eq, beq_iff_eq]
theorem gcd_sq {a b : Nat} (h : (a * a).gcd (b * b) = 1) : a.gcd b = 1 := by
  have h1 : a.gcd b ∣ a * a := Nat.dvd_trans (Nat.gcd_dvd_left a b) (Nat.dvd_mul_right a a)
  have h2 : a.gcd b ∣ b * b := Nat.dvd_trans (Nat.gcd_dvd_right a b) (Nat.dvd_mul_right b b)
  have := Nat.dvd_gcd h1 h2
  rw [h] at this
  exact Nat.dvd_one.mp this
theorem rtF_ok {f : Fr} (hf : IsF f) (h0 : 0 ≤ f.n) (h : isSq f = true) : IsF (rtF f) ∧ 0 ≤ (rtF f).n ∧ Rl.rt (fR f) = fR (rtF f) := by
  obtain ⟨e1, e2⟩ := isSq_iff.mp h
  have n0 := (isq_spec h0).1
  have d0 := (isq_spec (Int.le_of_lt hf.1)).1
  have d1 : 0 < isq f.d := by
    have := hf.1
    rcases Int.lt_or_eq_of_le d0 with z | z
    · exact z
    · rw [← z] at e2
      omega
  have d1' : 0 < (rtF f).d := d1
  have n0' : 0 ≤ (rtF f).n := n0
  refine ⟨⟨d1, ?_⟩, n0, ?_⟩
  · show (isq f.n).natAbs.gcd (isq f.d).natAbs = 1
    refine gcd_sq ?_
    rw [← Int.natAbs_mul, ← Int.natAbs_mul, e1, e2]
    exact hf.2
  · refine Rl.rt_of ((fR_nn d1').mpr n0') ?_
    refine (of_fR hf.1 ?_).symm
    have k := fR_mul d1'
    have k1 : Rl.iR f.n = Rl.iR (rtF f).n * Rl.iR (rtF f).n := by rw [← Rl.iR_mul]; show _ = Rl.iR (isq f.n * isq f.n); rw [e1]
    have k2 : Rl.iR f.d = Rl.iR (rtF f).d * Rl.iR (rtF f).d := by rw [← Rl.iR_mul]; show _ = Rl.iR (isq f.d * isq f.d); rw [e2]
    rw [k1, k2, ← k]
    grind
theorem cop_sq {a b : Nat} (h : a.gcd b = 1) : (a * a).gcd (b * b) = 1 := by
  have h1 : Nat.Coprime a (b * b) := Nat.Coprime.mul_right h h
  exact Nat.Coprime.mul_left h1 h1
/-- what is the square of a fraction is told to be one -/
theorem isSq_of {f g : Fr} (hf : IsF f) (hg : 0 < g.d) (e : fR g * fR g = fR f) : isSq f = true := by
  have g' := frac_isF (a := g.n) (b := g.d) (by omega)
  have e0 : fR (fracV g.n g.d) = fR g := by
    have h1 := frac_fR (a := g.n) (b := g.d) (by omega)
    have h2 := fR_mul hg
    exact rl_cancel (Rl.iR_pos.mpr hg) (by grind)
  rw [← e0] at e
  generalize fracV g.n g.d = x at *
  have sq : IsF ⟨x.n * x.n, x.d * x.d⟩ := by
    refine ⟨Int.mul_pos g'.1 g'.1, ?_⟩
    show (x.n * x.n).natAbs.gcd (x.d * x.d).natAbs = 1
    rw [Int.natAbs_mul, Int.natAbs_mul]
    exact cop_sq g'.2
  have : f = ⟨x.n * x.n, x.d * x.d⟩ := by
    refine isF_eq hf sq ?_
    rw [← e]
    refine (of_fR sq.1 ?_).symm
    have := fR_mul g'.1
    show fR x * fR x * Rl.iR (x.d * x.d) = Rl.iR (x.n * x.n)
    rw [Rl.iR_mul, Rl.iR_mul]
    grind
  rw [this]
  refine isSq_iff.mpr ⟨?_, ?_⟩
  · show isq (x.n * x.n) * isq (x.n * x.n) = x.n * x.n
    rcases Int.le_total 0 x.n with z | z
    · rw [isq_sq z]
    · rw [show x.n * x.n = -x.n * -x.n by grind, isq_sq (by omega)]
  · show isq (x.d * x.d) * isq (x.d * x.d) = x.d * x.d
    rw [isq_sq (Int.le_of_lt g'.1)]
theorem log_sq {x : Int} {k : Nat} (h : x.natAbs < 2 ^ k) (hk : k < 13000) : x.natAbs.log2 < 13000 := by
  by_cases h0 : x.natAbs = 0
  · rw [h0]
    decide
  · have := (Nat.log2_lt h0).mpr h
    omega
theorem isq_bd {x : Int} {k : Nat} (h0 : 0 ≤ x) (h : x.natAbs < 2 ^ k) : (isq x).natAbs < 2 ^ k := by
  obtain ⟨a, b, _⟩ := isq_spec h0
  have : isq x ≤ isq x * isq x := by
    rcases Int.lt_or_eq_of_le a with z | z
    · have := Int.mul_le_mul_of_nonneg_left (show 1 ≤ isq x by omega) a
      omega
    · rw [← z]
      decide
  omega
end K1


set_option Elab.async false
set_option linter.all false
set_option maxRecDepth 100000
set_option exponentiation.threshold 10000
namespace K1
open PySem PySem.Spec PyProof.Rows L2 Zq Zr
local macro_rules | `(tactic| walk_at "zq") => `(tactic| simp only [E_body, E_var0, E_varS, E_C, E_bin, E_test, E_kB, E_anil, E_acons, E_tup, E_lst, E_b, E_call, E_callK, E_neg, E_kNeg, E_tand, E_tor, E_tnot, E_and, E_or, E_kAnd, E_kOr, E_not, E_kNot, E_ifE, E_chain, E_kCh, E_isN, E_isN0, E_isNt, E_isNi, E_isNs, E_isNl, E_snil, E_scons, E_pass, E_brk, E_cnt, E_ret, E_retN, E_expr, E_if, E_asg, E_set, E_par, E_kPar, E_par3, E_kPar3, E_aug, E_kAug, E_gN, E_gN0, E_gNC, E_gT, E_gS, E_kS, E_kS0, E_kS1, E_kS2, E_sub, E_iadd, E_mul, E_div, E_mod, E_pow, E_lt, E_le, E_gt, E_ge, E_addi, E_adds, E_addt, E_eqi, E_eqs, E_eqb, E_nei, E_nes, E_kAt, E_ixt, E_ixr, E_ixl, E_kAtL, at0, at1, at2, at3, E_abs, E_max, E_min, E_inti, E_intb, E_str, E_dm, E_lent, E_lenr, E_lenl, E_kLen, E_gcd, E_sqrt, E_lcm2, E_lcm3, E_all, E_kAll, E_isii, E_isit, isi_ii, isi_ib, isi_tt, E_iQ, E_kIt, E_kIr, E_kIl, E_kIl', E_iR1, E_kR1, E_for, E_lc, E_lc0, E_lcS, E_kLc, E_yes, E_f0, E_fS, E_stN, E_stS, E_s0, E_sS, E_g0, E_gSx, E_w0, E_wS,
  Mem.put_same, Mem.put_put, Zq.fD, Zq.E_ord10, Zq.E_ord0, E_wSlice, E_oNone, E_kO, E_oSome, List.map_cons, List.map_nil, List.cons_append, List.nil_append, List.replicate, List.length_cons, List.length_nil, decide_eq_true_eq, Bool.false_eq_true, if_false, if_true, Nat.reduceAdd, Nat.reduceLeDiff, true_and, and_true, Option.map_some, Bool.not_true, Bool.not_false])
local macro_rules | `(tactic| walk_at "zr") => `(tactic| simp only [E_body, E_var0, E_varS, E_C, E_bin, E_test, E_kB, E_anil, E_acons, E_tup, E_lst, E_b, E_call, E_callK, E_neg, E_kNeg, E_tand, E_tor, E_tnot, E_and, E_or, E_kAnd, E_kOr, E_not, E_kNot, E_ifE, E_chain, E_kCh, E_isN, E_isN0, E_isNt, E_isNi, E_isNs, E_isNl, E_snil, E_scons, E_pass, E_brk, E_cnt, E_ret, E_retN, E_expr, E_if, E_asg, E_set, E_par, E_kPar, E_par3, E_kPar3, E_aug, E_kAug, E_gN, E_gN0, E_gNC, E_gT, E_gS, E_kS, E_kS0, E_kS1, E_kS2, E_sub, E_iadd, E_mul, E_div, E_mod, E_pow, E_lt, E_le, E_gt, E_ge, E_addi, E_adds, E_addt, E_eqi, E_eqs, E_eqb, E_nei, E_nes, E_kAt, E_ixt, E_ixr, E_ixl, E_kAtL, at0, at1, at2, at3, E_abs, E_max, E_min, E_inti, E_intb, E_str, E_dm, E_lent, E_lenr, E_lenl, E_kLen, E_gcd, E_sqrt, E_lcm2, E_lcm3, E_all, E_kAll, E_isii, E_isit, isi_ii, isi_ib, isi_tt, E_iQ, E_kIt, E_kIr, E_kIl, E_kIl', E_iR1, E_kR1, E_for, E_lc, E_lc0, E_lcS, E_kLc, E_yes, E_stN, E_stS, E_s0, E_sS, E_g0, E_gSx, E_w0, E_wS,
  Mem.put_same, Mem.put_put, Zq.fD, Zq.E_ord10, Zq.E_ord0, E_wSlice, E_oNone, E_kO, E_oSome, List.map_cons, List.map_nil, List.cons_append, List.nil_append, List.replicate, List.length_cons, List.length_nil, decide_eq_true_eq, Bool.false_eq_true, if_false, if_true, Nat.reduceAdd, Nat.reduceLeDiff, true_and, and_true, Option.map_some, Bool.not_true, Bool.not_false])
variable {M : Mem} {R : DK} {p : Addr} {n : Nat} {f g : Fr}
/-! ### floors -/
theorem fR_floor (hf : 0 < f.d) : Rl.iR (f.n / f.d) ≤ fR f ∧ fR f < Rl.iR (f.n / f.d) + 1 := by
  have h1 : f.n / f.d * f.d ≤ f.n := Int.ediv_mul_le _ (by omega)
  have h2 : f.n < (f.n / f.d + 1) * f.d := Int.lt_ediv_add_one_mul_self _ hf
  have e := fR_mul hf
  have k1 := Rl.iR_le.mpr h1
  have k2 := Rl.iR_lt.mpr h2
  simp only [Rl.iR_mul, Rl.iR_add, Rl.iR_one] at k1 k2
  have d0 := Rl.iR_pos.mpr hf
  generalize Rl.iR (f.n / f.d) = z at *
  rw [← e] at k1 k2
  constructor
  · refine Classical.byContradiction fun c => ?_
    have := Rl.mul_lt (show fR f < z by grind) d0
    grind
  · refine Classical.byContradiction fun c => ?_
    by_cases c2 : fR f = z + 1
    · rw [c2] at k2
      grind
    · have := Rl.mul_lt (show z + 1 < fR f by grind) d0
      grind
theorem floor_uniq {x y : Int} {v : Rl} (h1 : Rl.iR x ≤ v) (h2 : v < Rl.iR x + 1) (k1 : Rl.iR y ≤ v) (k2 : v < Rl.iR y + 1) : x = y := by
  have a : Rl.iR x < Rl.iR (y + 1) := by rw [Rl.iR_add, Rl.iR_one]; grind
  have b : Rl.iR y < Rl.iR (x + 1) := by rw [Rl.iR_add, Rl.iR_one]; grind
  have := Rl.iR_lt.mp a
  have := Rl.iR_lt.mp b
  omega
/-- the root of a fraction lies above the whole root of its floor, less than 1 above it -/
theorem rt_floor {s : Fr} (hs : 0 < s.d) (h0 : 0 ≤ s.n) : Rl.iR (isq (s.n / s.d)) ≤ Rl.rt (fR s) ∧ Rl.rt (fR s) < Rl.iR (isq (s.n / s.d)) + 1 := by
  obtain ⟨f1, f2⟩ := fR_floor hs
  have n0 : 0 ≤ s.n / s.d := Int.ediv_nonneg h0 (by omega)
  obtain ⟨i0, i1, i2⟩ := isq_spec n0
  have sq := Rl.rt_sq ((fR_nn hs).mpr h0)
  have r0 := Rl.rt_nn (fR s)
  generalize isq (s.n / s.d) = z at *
  have k1 := Rl.iR_le.mpr i1
  have k2 := Rl.iR_le.mpr (show s.n / s.d + 1 ≤ (z + 1) * (z + 1) by omega)
  simp only [Rl.iR_mul, Rl.iR_add, Rl.iR_one] at k1 k2
  have z0 := Rl.iR_nn.mpr i0
  generalize Rl.iR (s.n / s.d) = w at *
  generalize Rl.iR z = z' at *
  exact ⟨Rl.le_of_sq r0 (by grind), Rl.lt_of_sq (by grind) (by grind)⟩
theorem sgn_ge {x : Rl} : 0 ≤ Rl.sgn x ↔ 0 ≤ x := by
  rcases Rl.sgn_cases x with ⟨a, e⟩ | ⟨a, e⟩ | ⟨a, e⟩ <;> rw [e] <;> constructor <;> intro h
  · grind
  · decide
  · omega
  · grind
  · grind
  · decide
theorem sgn_le {x : Rl} : Rl.sgn x ≤ 0 ↔ x ≤ 0 := by
  rcases Rl.sgn_cases x with ⟨a, e⟩ | ⟨a, e⟩ | ⟨a, e⟩ <;> rw [e] <;> constructor <;> intro h
  · omega
  · grind
  · grind
  · decide
  · grind
  · decide
theorem bd_aux {v : Int} {X Y Z i : Nat} (h1 : Y * 8 ≤ Z) (h2 : X * 8 ≤ Z) (hX : 2 ≤ X) (hY : 0 < Y) (hi : i ≤ 6) (hv : v.natAbs < Y + X + 2 + i) : (v + 1).natAbs < Z ∧ v.natAbs < Z := by omega
theorem bd_aux2 {v : Int} {W i : Nat} (hv : v.natAbs < W + 2 + i) : (v + 1).natAbs < W + 2 + (i + 1) ∧ v.natAbs < W + 2 + (i + 1) := by omega
theorem bd_aux3 {x z : Int} {X Y : Nat} (hx : x.natAbs < X) (hz : z.natAbs < Y) : (x + z - 1).natAbs < Y + X + 2 ∧ (x + (0 - z - 1) - 1).natAbs < Y + X + 2 := by omega
theorem floor_ex {a : Nm} {m : Int} {i j k l c B : Nat} (ha : Ok3 i j k a) (m0 : 0 < m) (m1 : m.natAbs < 2 ^ l) (l0 : 1 ≤ l) (hc : 2 * (j + l) + k ≤ 2 * c) (hB1 : i + l + 3 ≤ B) (hB2 : c + 3 ≤ B) (hs : 2 * c < 3000) (hk : 2 * (i + l + B + 1) + (2 * (j + l) + k) + 10 < 8999)
    (h : ∀ y : Int, Rl.iR y ≤ nR a * Rl.iR m → nR a * Rl.iR m < Rl.iR y + 1 → y.natAbs < 2 ^ B → R (.int y) M) : W_law_floor [nD a, .int m] M R := by
  unfold W_law_floor nD
  walk_at "zr"
  have bm : Bd l ⟨m, 1⟩ := bd_of m1 (Nat.lt_of_lt_of_le (show (1 : Int).natAbs < 2 ^ 1 by decide) (Nat.pow_le_pow_right (by decide) l0))
  have dm : (0 : Int) < (⟨m, 1⟩ : Fr).d := by show (0 : Int) < 1; decide
  refine by_ret (f := a.p) (g := ⟨m, 1⟩) ha.bp bm ha.p.1 dm (by omega) ?_
  refine by_ret (f := a.q) (g := ⟨m, 1⟩) ha.bq bm ha.q.1 dm (by omega) ?_
  have bp := by_bd ha.bp bm ha.p.1 dm
  have bq := by_bd ha.bq bm ha.q.1 dm
  have dp := by_d (f := a.p) (g := ⟨m, 1⟩) ha.p.1 dm
  have dq := by_d (f := a.q) (g := ⟨m, 1⟩) ha.q.1 dm
  have vp : fR (byV a.p ⟨m, 1⟩) = fR a.p * Rl.iR m := by rw [fR_by ha.p.1 dm, fR_int]
  have vq : fR (byV a.q ⟨m, 1⟩) = fR a.q * Rl.iR m := by rw [fR_by ha.q.1 dm, fR_int]
  have V : nR a * Rl.iR m = fR (byV a.p ⟨m, 1⟩) + fR (byV a.q ⟨m, 1⟩) * Rl.rt (fR a.r) := by
    rw [vp, vq]
    unfold nR
    grind
  rw [V] at h
  clear vp vq V
  generalize byV a.p ⟨m, 1⟩ = x at *
  generalize byV a.q ⟨m, 1⟩ = y at *
  try walk_at "zr"
  refine by_ret (f := y) (g := y) bq bq dq dq (by omega) (by_ret (g := a.r) (by_bd bq bq dq dq) ha.br (by_d dq dq) ha.r.1 (by omega) ?_)
  have sb : Bd (2 * c) (byV (byV y y) a.r) := (by_bd (by_bd bq bq dq dq) ha.br (by_d dq dq) ha.r.1).mono (by omega)
  have sd := by_d (by_d dq dq) ha.r.1
  have sn : 0 ≤ (byV (byV y y) a.r).n := frac_nn (Int.mul_pos (by_d dq dq) ha.r.1) (Int.mul_nonneg (frac_nn (Int.mul_pos dq dq) (nn_mul_self _)) ha.r0)
  have sv : fR (byV (byV y y) a.r) = fR y * fR y * fR a.r := by rw [fR_by (by_d dq dq) ha.r.1, fR_by dq dq]
  generalize byV (byV y y) a.r = s at *
  try walk_at "zr"
  have b2 := quot_bd sb.1 sn sd
  have n0 : 0 ≤ s.n / s.d := Int.ediv_nonneg sn (by omega)
  refine ⟨divW_of sd sb.2 (by omega), floor_root_isq n0 b2 (by omega) ?_⟩
  obtain ⟨i0, i1, i2⟩ := isq_spec n0
  have bz : (isq (s.n / s.d)).natAbs < 2 ^ c := root_bd i0 i1 b2
  obtain ⟨r1, r2⟩ := rt_floor sd sn
  obtain ⟨f1, f2⟩ := fR_floor dp
  have w1 : 0 ≤ fR a.r := (fR_nn ha.r.1).mpr ha.r0
  have w2 := Rl.rt_sq w1
  have w3 := Rl.rt_nn (fR a.r)
  have big : 2 ^ c * 8 ≤ 2 ^ B := by
    rw [show 2 ^ c * 8 = 2 ^ (c + 3) by rw [Nat.pow_add]]
    exact Nat.pow_le_pow_right (by decide) hB2
  have big2 : 2 ^ (i + l) * 8 ≤ 2 ^ B := by
    rw [show 2 ^ (i + l) * 8 = 2 ^ (i + l + 3) from (Nat.pow_add 2 (i + l) 3).symm]
    exact Nat.pow_le_pow_right (by decide) hB1
  have pc : 0 < 2 ^ c := Nat.pow_pos (by decide)
  have pil : 2 ≤ 2 ^ (i + l) := Nat.le_trans (show 2 ≤ 2 ^ 1 by decide) (Nat.pow_le_pow_right (by decide) (by omega))
  have bx : (x.n / x.d).natAbs < 2 ^ (i + l) := Nat.lt_of_le_of_lt (Int.natAbs_ediv_le_natAbs x.n x.d) bp.1
  generalize isq (s.n / s.d) = z at *
  generalize x.n / x.d = xf at *
  try walk_at "zr"
  have main : ∀ (ds : List D) (i' : Nat) (v : Int) (o : Option D), ds.length + i' = 6 → v.natAbs < 2 ^ c + 2 ^ (i + l) + 2 + i' → Rl.iR v ≤ fR x + fR y * Rl.rt (fR a.r) → fR x + fR y * Rl.rt (fR a.r) < Rl.iR (v + (if i' < 2 then 3 - (i' : Int) else 1)) →
      forGo none (rangeD 0 (6 : Int).toNat) (gN 9) (sCons (sIf (wTest (wBin fGe (wCall W_law_root_sign (aCons (wCall W_law_less (aCons (wVar 3) (aCons (wTup (aCons (wBin fAdd (wVar 8) (wC (.int 1))) (aCons (wC (.int 1)) aNil))) aNil))) (aCons (wVar 4) (aCons (wVar 5) aNil)))) (wC (.int 0)))) (sCons (sSet 8 (wBin fAdd (wVar 8) (wC (.int 1)))) sNil) sNil) sNil)
        { nx := fun ρ' M' => sCons (sRet (wVar 8)) sNil { nx := fun _ M' => R .non M', rt := R } ρ' M', rt := R } ds
        [some (nD a), some (.int m), some (fD ⟨m, 1⟩), some (fD x), some (fD y), some (fD a.r), some (fD s), some (.int z), some (.int v), o] M := by
    intro ds
    induction ds with
    | nil =>
      intro i' v o hi hv v1 v2
      have : i' = 6 := by simpa using hi
      subst this
      unfold nD
      walk_at "zq"
      refine h v v1 ?_ (bd_aux big big2 pil pc (by omega) hv).2
      rw [if_neg (by decide), Rl.iR_add, Rl.iR_one] at v2
      exact v2
    | cons d ds ih =>
      intro i' v o hi hv v1 v2
      rw [List.length_cons] at hi
      have ih' := fun v' hv' => ih (i' + 1) v' (some d) (by omega) hv'
      unfold nD at ih' ⊢
      simp only [fD] at ih'
      walk_at "zq"
      have bv : Bd B ⟨v + 1, 1⟩ := bd_of (bd_aux big big2 pil pc (by omega) hv).1 (by
        have : 1 < 2 ^ B := Nat.lt_of_lt_of_le (show 1 < 2 ^ 1 by decide) (Nat.pow_le_pow_right (by decide) (by omega))
        exact this)
      have dv : (0 : Int) < (⟨v + 1, 1⟩ : Fr).d := by show (0 : Int) < 1; decide
      refine less_ret (f := x) (g := ⟨v + 1, 1⟩) bp bv dp dv (by omega) ?_
      refine root_sign_ret (p := lessV x ⟨v + 1, 1⟩) (q := y) (r := a.r) (less_bd bp bv dp dv) bq ha.br (less_d dp dv) dq ha.r.1 ha.r0 (by omega) ?_
      have sg : rsV (lessV x ⟨v + 1, 1⟩) y a.r = Rl.sgn (fR x + fR y * Rl.rt (fR a.r) - Rl.iR (v + 1)) := by
        rw [rs_real (less_d dp dv) dq ha.r.1 ha.r0, fR_less dp dv, fR_int]
        congr 1
        grind
      rw [sg]
      walk_at "zq"
      split
      · rename_i hge
        have hge := sgn_ge.mp hge
        refine ih' (v + 1) (bd_aux2 hv).1 (by grind) ?_
        have e : v + 1 + (if i' + 1 < 2 then 3 - ((i' + 1 : Nat) : Int) else 1) = v + (if i' < 2 then 3 - (i' : Int) else 1) ∨ (2 ≤ i') := by
          by_cases c0 : i' < 2
          · refine .inl ?_
            by_cases c1 : i' + 1 < 2
            · rw [if_pos c0, if_pos c1]
              omega
            · rw [if_pos c0, if_neg c1]
              omega
          · exact .inr (by omega)
        rcases e with e | e
        · rw [e]
          exact v2
        · rw [if_neg (by omega)] at v2
          exfalso
          grind
      · rename_i hge
        have hlt : fR x + fR y * Rl.rt (fR a.r) < Rl.iR (v + 1) := by
          have := fun z => hge (sgn_ge.mpr z)
          grind
        refine ih' v (bd_aux2 hv).2 v1 ?_
        have e : v + 1 ≤ v + (if i' + 1 < 2 then 3 - ((i' + 1 : Nat) : Int) else 1) := by split <;> omega
        have := Rl.iR_le.mpr e
        grind
  have fin : ∀ v : Int, v.natAbs < 2 ^ c + 2 ^ (i + l) + 2 → Rl.iR v ≤ fR x + fR y * Rl.rt (fR a.r) → fR x + fR y * Rl.rt (fR a.r) < Rl.iR (v + 3) → -(2 ^ 62) ≤ (6 : Int) ∧ (6 : Int) < 2 ^ 62 ∧ forGo none (rangeD 0 (6 : Int).toNat) (gN 9) (sCons (sIf (wTest (wBin fGe (wCall W_law_root_sign (aCons (wCall W_law_less (aCons (wVar 3) (aCons (wTup (aCons (wBin fAdd (wVar 8) (wC (.int 1))) (aCons (wC (.int 1)) aNil))) aNil))) (aCons (wVar 4) (aCons (wVar 5) aNil)))) (wC (.int 0)))) (sCons (sSet 8 (wBin fAdd (wVar 8) (wC (.int 1)))) sNil) sNil) sNil)
        { nx := fun ρ' M' => sCons (sRet (wVar 8)) sNil { nx := fun _ M' => R .non M', rt := R } ρ' M', rt := R } (rangeD 0 (6 : Int).toNat)
        [some (nD a), some (.int m), some (fD ⟨m, 1⟩), some (fD x), some (fD y), some (fD a.r), some (fD s), some (.int z), some (.int v), none] M := fun v hv v1 v2 =>
    ⟨by decide, by decide, main _ 0 v none (by rw [rangeD_length]; rfl) hv v1 (by rw [if_pos (by decide)]; exact v2)⟩
  unfold nD at fin
  refine ⟨divW_of dp bp.2 (by omega), ?_⟩
  have rts : Rl.rt (fR s) * Rl.rt (fR s) = fR s := Rl.rt_sq ((fR_nn sd).mpr sn)
  have rt0 := Rl.rt_nn (fR s)
  split
  · rename_i hy
    have y0 : 0 ≤ fR y := (fR_nn dq).mpr (by omega)
    have e : fR y * Rl.rt (fR a.r) = Rl.rt (fR s) := Rl.eq_of_sq (Rl.mul_nn y0 w3) rt0 (by grind)
    rw [e] at fin
    refine fin (xf + z - 1) (bd_aux3 bx bz).1 ?_ ?_
    · simp only [Rl.iR_add, Rl.iR_sub, Rl.iR_one]
      grind
    · have : xf + z - 1 + 3 = xf + z + 2 := by omega
      rw [this]
      simp only [Rl.iR_add, Rl.iR_two]
      grind
  · rename_i hy
    have y0 : 0 ≤ -fR y := by
      rcases sg_cases y.n with ⟨b, u⟩ | ⟨b, u⟩ | ⟨b, u⟩
      · omega
      · have := sgn_fR dq
        rw [u] at this
        rcases Rl.sgn_cases (fR y) with ⟨b', u'⟩ | ⟨b', u'⟩ | ⟨b', u'⟩ <;> grind
      · rw [(fR_zero dq).mpr b]
        grind
    have e : -fR y * Rl.rt (fR a.r) = Rl.rt (fR s) := Rl.eq_of_sq (Rl.mul_nn y0 w3) rt0 (by grind)
    have e2 : fR y * Rl.rt (fR a.r) = -Rl.rt (fR s) := by grind
    rw [e2] at fin
    refine fin (xf + (0 - z - 1) - 1) (bd_aux3 bx bz).2 ?_ ?_
    · simp only [Rl.iR_add, Rl.iR_sub, Rl.iR_one, Rl.iR_zero]
      grind
    · have : xf + (0 - z - 1) - 1 + 3 = xf - z + 1 := by omega
      rw [this]
      simp only [Rl.iR_add, Rl.iR_sub, Rl.iR_one]
      grind
end K1


set_option Elab.async false
set_option linter.all false
set_option maxRecDepth 100000
set_option exponentiation.threshold 10000
namespace K1
open PySem PySem.Spec PyProof.Rows L2 Zq Zr
local macro_rules | `(tactic| walk_at "zq") => `(tactic| simp only [E_body, E_var0, E_varS, E_C, E_bin, E_test, E_kB, E_anil, E_acons, E_tup, E_lst, E_b, E_call, E_callK, E_neg, E_kNeg, E_tand, E_tor, E_tnot, E_and, E_or, E_kAnd, E_kOr, E_not, E_kNot, E_ifE, E_chain, E_kCh, E_isN, E_isN0, E_isNt, E_isNi, E_isNs, E_isNl, E_snil, E_scons, E_pass, E_brk, E_cnt, E_ret, E_retN, E_expr, E_if, E_asg, E_set, E_par, E_kPar, E_par3, E_kPar3, E_aug, E_kAug, E_gN, E_gN0, E_gNC, E_gT, E_gS, E_kS, E_kS0, E_kS1, E_kS2, E_sub, E_iadd, E_mul, E_div, E_mod, E_pow, E_lt, E_le, E_gt, E_ge, E_addi, E_adds, E_addt, E_eqi, E_eqs, E_eqb, E_nei, E_nes, E_kAt, E_ixt, E_ixr, E_ixl, E_kAtL, at0, at1, at2, at3, E_abs, E_max, E_min, E_inti, E_intb, E_str, E_dm, E_lent, E_lenr, E_lenl, E_kLen, E_gcd, E_sqrt, E_lcm2, E_lcm3, E_all, E_kAll, E_isii, E_isit, isi_ii, isi_ib, isi_tt, E_iQ, E_kIt, E_kIr, E_kIl, E_kIl', E_iR1, E_kR1, E_for, E_lc, E_lc0, E_lcS, E_kLc, E_yes, E_f0, E_fS, E_stN, E_stS, E_s0, E_sS, E_g0, E_gSx, E_w0, E_wS,
  Mem.put_same, Mem.put_put, Zq.fD, Zq.E_ord10, Zq.E_ord0, E_wSlice, E_oNone, E_kO, E_oSome, List.map_cons, List.map_nil, List.cons_append, List.nil_append, List.replicate, List.length_cons, List.length_nil, decide_eq_true_eq, Bool.false_eq_true, if_false, if_true, Nat.reduceAdd, Nat.reduceLeDiff, true_and, and_true, Option.map_some, Bool.not_true, Bool.not_false])
local macro_rules | `(tactic| walk_at "zr") => `(tactic| simp only [E_body, E_var0, E_varS, E_C, E_bin, E_test, E_kB, E_anil, E_acons, E_tup, E_lst, E_b, E_call, E_callK, E_neg, E_kNeg, E_tand, E_tor, E_tnot, E_and, E_or, E_kAnd, E_kOr, E_not, E_kNot, E_ifE, E_chain, E_kCh, E_isN, E_isN0, E_isNt, E_isNi, E_isNs, E_isNl, E_snil, E_scons, E_pass, E_brk, E_cnt, E_ret, E_retN, E_expr, E_if, E_asg, E_set, E_par, E_kPar, E_par3, E_kPar3, E_aug, E_kAug, E_gN, E_gN0, E_gNC, E_gT, E_gS, E_kS, E_kS0, E_kS1, E_kS2, E_sub, E_iadd, E_mul, E_div, E_mod, E_pow, E_lt, E_le, E_gt, E_ge, E_addi, E_adds, E_addt, E_eqi, E_eqs, E_eqb, E_nei, E_nes, E_kAt, E_ixt, E_ixr, E_ixl, E_kAtL, at0, at1, at2, at3, E_abs, E_max, E_min, E_inti, E_intb, E_str, E_dm, E_lent, E_lenr, E_lenl, E_kLen, E_gcd, E_sqrt, E_lcm2, E_lcm3, E_all, E_kAll, E_isii, E_isit, isi_ii, isi_ib, isi_tt, E_iQ, E_kIt, E_kIr, E_kIl, E_kIl', E_iR1, E_kR1, E_for, E_lc, E_lc0, E_lcS, E_kLc, E_yes, E_stN, E_stS, E_s0, E_sS, E_g0, E_gSx, E_w0, E_wS,
  Mem.put_same, Mem.put_put, Zq.fD, Zq.E_ord10, Zq.E_ord0, E_wSlice, E_oNone, E_kO, E_oSome, List.map_cons, List.map_nil, List.cons_append, List.nil_append, List.replicate, List.length_cons, List.length_nil, decide_eq_true_eq, Bool.false_eq_true, if_false, if_true, Nat.reduceAdd, Nat.reduceLeDiff, true_and, and_true, Option.map_some, Bool.not_true, Bool.not_false])
variable {M : Mem} {R : DK} {p : Addr} {n : Nat} {f g : Fr}
theorem E_app {ρ : Zq.Env} {a b : WE} : wApp a b ρ M R = a ρ M fun x M1 => isL x M1 ∧ b ρ M1 fun y M2 => appK x y M2 R := (rfl)
theorem E_isL {l : Addr} : isL (.lst l) M = ((M l).isSome = true) := (rfl)
def kApp (y : D) (R : DK) (l : Addr) (M : Mem) (o : Option (List D)) : Prop := match o with
  | some ds => ds.length ≤ 100000 ∧ R .non (M.put l (ds ++ [y]))
  | none => False
theorem E_appK {l : Addr} {y : D} : appK (.lst l) y M R = kApp y R l M (M l) := by
  unfold appK kApp
  simp only
  try (cases M l <;> rfl)
theorem E_kApp {l : Addr} {y : D} {ds : List D} : kApp y R l M (some ds) = (ds.length ≤ 100000 ∧ R .non (M.put l (ds ++ [y]))) := (rfl)
def kSl2 (M : Mem) (R : DK) (lo hi : Option Int) (o : Option (List D)) : Prop := match o with
  | some ds => ∀ l, M l = none → R (.lst l) (M.put l (Zq.cutD ds lo hi))
  | none => False
theorem E_fSl {l : Addr} {lo hi : Option Int} : fSlice (.lst l) lo hi M R = kSl2 M R lo hi (M l) := by
  unfold fSlice kSl2
  simp only
  try (cases M l <;> rfl)
theorem E_kSl2 {ds : List D} {lo hi : Option Int} : kSl2 M R lo hi (some ds) = ∀ l, M l = none → R (.lst l) (M.put l (Zq.cutD ds lo hi)) := (rfl)
def kAddL (M : Mem) (R : DK) (o o' : Option (List D)) : Prop := match o, o' with
  | some xs, some ys => xs.length + ys.length ≤ sizeLine ∧ ∀ l, M l = none → R (.lst l) (M.put l (xs ++ ys))
  | _, _ => False
theorem E_addl {l q : Addr} : fAdd (.lst l) (.lst q) M R = kAddL M R (M l) (M q) := by
  unfold fAdd kAddL
  simp only
  try (cases M l <;> cases M q <;> rfl)
theorem E_kAddL {xs ys : List D} : kAddL M R (some xs) (some ys) = (xs.length + ys.length ≤ sizeLine ∧ ∀ l, M l = none → R (.lst l) (M.put l (xs ++ ys))) := (rfl)
theorem cut_take {ds : List D} {k : Nat} (h : k ≤ ds.length) : Zq.cutD ds none (some (k : Int)) = ds.take k := by
  unfold Zq.cutD
  rw [HT.sIx_none, HT.sIx_nat, Nat.min_eq_left h, List.drop_zero, Nat.sub_zero]
theorem cut_drop {ds : List D} {k : Nat} (h : k ≤ ds.length) : Zq.cutD ds (some (k : Int)) none = ds.drop k := by
  unfold Zq.cutD
  rw [HT.sIx_nat, HT.sIx_none, Nat.min_eq_left h, List.take_of_length_le]
  simp
theorem at_map {α : Type} {F : α → D} {xs : List α} {i : Nat} {x : α} (h : xs[i]? = some x) : atI (xs.map F) (i : Int) = some (F x) := by
  refine atI_nat ?_
  rw [List.getElem?_map, h]
  rfl
theorem rl_le_trans {a b c : Rl} (h : a ≤ b) (k : b ≤ c) : a ≤ c := by grind
end K1


set_option Elab.async false
set_option linter.all false
set_option maxRecDepth 100000
set_option exponentiation.threshold 10000
namespace K1
open PySem PySem.Spec PyProof.Rows L2 Zq Zr
local macro_rules | `(tactic| walk_at "zq") => `(tactic| simp only [E_body, E_app, E_isL, E_appK, E_kApp, E_fSl, E_kSl2, E_addl, E_kAddL, E_var0, E_varS, E_C, E_bin, E_test, E_kB, E_anil, E_acons, E_tup, E_lst, E_b, E_call, E_callK, E_neg, E_kNeg, E_tand, E_tor, E_tnot, E_and, E_or, E_kAnd, E_kOr, E_not, E_kNot, E_ifE, E_chain, E_kCh, E_isN, E_isN0, E_isNt, E_isNi, E_isNs, E_isNl, E_snil, E_scons, E_pass, E_brk, E_cnt, E_ret, E_retN, E_expr, E_if, E_asg, E_set, E_par, E_kPar, E_par3, E_kPar3, E_aug, E_kAug, E_gN, E_gN0, E_gNC, E_gT, E_gS, E_kS, E_kS0, E_kS1, E_kS2, E_sub, E_iadd, E_mul, E_div, E_mod, E_pow, E_lt, E_le, E_gt, E_ge, E_addi, E_adds, E_addt, E_eqi, E_eqs, E_eqb, E_nei, E_nes, E_kAt, E_ixt, E_ixr, E_ixl, E_kAtL, at0, at1, at2, at3, E_abs, E_max, E_min, E_inti, E_intb, E_str, E_dm, E_lent, E_lenr, E_lenl, E_kLen, E_gcd, E_sqrt, E_lcm2, E_lcm3, E_all, E_kAll, E_isii, E_isit, isi_ii, isi_ib, isi_tt, E_iQ, E_kIt, E_kIr, E_kIl, E_kIl', E_iR1, E_kR1, E_for, E_lc, E_lc0, E_lcS, E_kLc, E_yes, E_f0, E_fS, E_stN, E_stS, E_s0, E_sS, E_g0, E_gSx, E_w0, E_wS,
  Mem.put_same, Mem.put_put, Zq.fD, Zq.E_ord10, Zq.E_ord0, E_wSlice, E_oNone, E_kO, E_oSome, List.map_cons, List.map_nil, List.cons_append, List.nil_append, List.replicate, List.length_cons, List.length_nil, decide_eq_true_eq, Bool.false_eq_true, if_false, if_true, Nat.reduceAdd, Nat.reduceLeDiff, true_and, and_true, Option.map_some, Bool.not_true, Bool.not_false])
local macro_rules | `(tactic| walk_at "zr") => `(tactic| simp only [E_body, E_app, E_isL, E_appK, E_kApp, E_fSl, E_kSl2, E_addl, E_kAddL, E_var0, E_varS, E_C, E_bin, E_test, E_kB, E_anil, E_acons, E_tup, E_lst, E_b, E_call, E_callK, E_neg, E_kNeg, E_tand, E_tor, E_tnot, E_and, E_or, E_kAnd, E_kOr, E_not, E_kNot, E_ifE, E_chain, E_kCh, E_isN, E_isN0, E_isNt, E_isNi, E_isNs, E_isNl, E_snil, E_scons, E_pass, E_brk, E_cnt, E_ret, E_retN, E_expr, E_if, E_asg, E_set, E_par, E_kPar, E_par3, E_kPar3, E_aug, E_kAug, E_gN, E_gN0, E_gNC, E_gT, E_gS, E_kS, E_kS0, E_kS1, E_kS2, E_sub, E_iadd, E_mul, E_div, E_mod, E_pow, E_lt, E_le, E_gt, E_ge, E_addi, E_adds, E_addt, E_eqi, E_eqs, E_eqb, E_nei, E_nes, E_kAt, E_ixt, E_ixr, E_ixl, E_kAtL, at0, at1, at2, at3, E_abs, E_max, E_min, E_inti, E_intb, E_str, E_dm, E_lent, E_lenr, E_lenl, E_kLen, E_gcd, E_sqrt, E_lcm2, E_lcm3, E_all, E_kAll, E_isii, E_isit, isi_ii, isi_ib, isi_tt, E_iQ, E_kIt, E_kIr, E_kIl, E_kIl', E_iR1, E_kR1, E_for, E_lc, E_lc0, E_lcS, E_kLc, E_yes, E_stN, E_stS, E_s0, E_sS, E_g0, E_gSx, E_w0, E_wS,
  Mem.put_same, Mem.put_put, Zq.fD, Zq.E_ord10, Zq.E_ord0, E_wSlice, E_oNone, E_kO, E_oSome, List.map_cons, List.map_nil, List.cons_append, List.nil_append, List.replicate, List.length_cons, List.length_nil, decide_eq_true_eq, Bool.false_eq_true, if_false, if_true, Nat.reduceAdd, Nat.reduceLeDiff, true_and, and_true, Option.map_some, Bool.not_true, Bool.not_false])
variable {M : Mem} {R : DK} {p : Addr} {n : Nat} {f g q r : Fr}
/-! ### bounds of tops and bottoms apart -/
def Bn (j k : Nat) (f : Fr) : Prop := f.n.natAbs < 2 ^ j ∧ f.d.natAbs < 2 ^ k
theorem Bn.mono {j k j' k' : Nat} {f : Fr} (b : Bn j k f) (h : j ≤ j') (h' : k ≤ k') : Bn j' k' f := ⟨Nat.lt_of_lt_of_le b.1 (Nat.pow_le_pow_right (by decide) h), Nat.lt_of_lt_of_le b.2 (Nat.pow_le_pow_right (by decide) h')⟩
theorem bn_int {x : Int} {j k : Nat} (h : x.natAbs < 2 ^ j) (hk : 1 ≤ k) : Bn j k ⟨x, 1⟩ := ⟨h, Nat.lt_of_lt_of_le (show (1 : Int).natAbs < 2 ^ 1 by decide) (Nat.pow_le_pow_right (by decide) hk)⟩
theorem frac_bn {a b : Int} {j k : Nat} (hb : b ≠ 0) (h1 : a.natAbs < 2 ^ j) (h2 : b.natAbs < 2 ^ k) : Bn j k (fracV a b) := by
  obtain ⟨_, _, h3, h4⟩ := fracV_ok a hb
  exact ⟨Nat.lt_of_le_of_lt h3 h1, Nat.lt_of_le_of_lt h4 h2⟩
variable {j k j' k' J : Nat}
theorem by_bn (bf : Bn j k f) (bg : Bn j' k' g) (hf : 0 < f.d) (hg : 0 < g.d) : Bn (j + j') (k + k') (byV f g) := frac_bn (mul_ne hf hg) (bd_mul bf.1 bg.1) (bd_mul bf.2 bg.2)
theorem plus_bn (bf : Bn j k f) (bg : Bn j' k' g) (hf : 0 < f.d) (hg : 0 < g.d) (h1 : j + k' ≤ J) (h2 : j' + k ≤ J) : Bn (J + 1) (k + k') (plusV f g) :=
  frac_bn (mul_ne hf hg) (bd_add (lt_pow_add (bd_mul bf.1 bg.2) h1) (lt_pow_add (bd_mul bg.1 bf.2) h2)) (bd_mul bf.2 bg.2)
theorem less_bn (bf : Bn j k f) (bg : Bn j' k' g) (hf : 0 < f.d) (hg : 0 < g.d) (h1 : j + k' ≤ J) (h2 : j' + k ≤ J) : Bn (J + 1) (k + k') (lessV f g) :=
  frac_bn (mul_ne hf hg) (bd_sub (lt_pow_add (bd_mul bf.1 bg.2) h1) (lt_pow_add (bd_mul bg.1 bf.2) h2)) (bd_mul bf.2 bg.2)
theorem by_bt (bf : Bn j k f) (bg : Bn j' k' g) (hf : 0 < f.d) (hg : 0 < g.d) (hk : k + k' < 8999) (hj : j + j' < 900000) (h : R (fD (byV f g)) M) : W_law_by [fD f, fD g] M R := by
  unfold W_law_by
  walk_at "zq"
  exact ⟨mulW_of bf.1 bg.1 (by omega), mulW_of bf.2 bg.2 (by omega), frac_ret (mul_ne hf hg) (lt_pow_add (bd_mul bf.2 bg.2) (by omega)) h⟩
theorem plus_bt (bf : Bn j k f) (bg : Bn j' k' g) (hf : 0 < f.d) (hg : 0 < g.d) (hk : k + k' < 8999) (hj : j + j' < 900000) (h : R (fD (plusV f g)) M) : W_law_plus [fD f, fD g] M R := by
  unfold W_law_plus
  walk_at "zq"
  exact ⟨mulW_of bf.1 bg.2 (by omega), mulW_of bg.1 bf.2 (by omega), mulW_of bf.2 bg.2 (by omega), frac_ret (mul_ne hf hg) (lt_pow_add (bd_mul bf.2 bg.2) (by omega)) h⟩
theorem less_bt (bf : Bn j k f) (bg : Bn j' k' g) (hf : 0 < f.d) (hg : 0 < g.d) (hk : k + k' < 8999) (hj : j + j' < 900000) (h : R (fD (lessV f g)) M) : W_law_less [fD f, fD g] M R := by
  unfold W_law_less
  walk_at "zq"
  exact ⟨mulW_of bf.1 bg.2 (by omega), mulW_of bg.1 bf.2 (by omega), mulW_of bf.2 bg.2 (by omega), frac_ret (mul_ne hf hg) (lt_pow_add (bd_mul bf.2 bg.2) (by omega)) h⟩
variable {p1 : Fr} {jp kp jq kq jr kr : Nat}
/-- the law's sign, as a real's -/
theorem root_sign_bt (bp : Bn jp kp p1) (bq : Bn jq kq q) (br : Bn jr kr r) (hp : 0 < p1.d) (hq : 0 < q.d) (hr : 0 < r.d) (h0 : 0 ≤ r.n) (hk : 2 * kp + 2 * kq + kr < 8990) (hj : 2 * jp + 2 * jq + jr < 400000) (h : R (.int (Rl.sgn (fR p1 + fR q * Rl.rt (fR r)))) M) : W_law_root_sign [fD p1, fD q, fD r] M R := by
  rw [← rs_real hp hq hr h0, ← rs_raw hp hq hr h0] at h
  have dpp := by_d hp hp
  have dqq := by_d hq hq
  have bpp := by_bn bp bp hp hp
  have bqq := by_bn bq bq hq hq
  have bqr := by_bn bqq br dqq hr
  have more : ∀ R : DK, R (.int (sg (lessV (byV p1 p1) (byV (byV q q) r)).n)) M → W_law_by [fD p1, fD p1] M (fun d M1 => W_law_by [fD q, fD q] M1 (fun d2 M2 => W_law_by [d2, fD r] M2 fun d3 M3 => W_law_less [d, d3] M3 fun d4 M4 => W_law_sgn [d4] M4 R)) := fun R hR =>
    by_bt bp bp hp hp (by omega) (by omega) (by_bt bq bq hq hq (by omega) (by omega) (by_bt bqq br dqq hr (by omega) (by omega) (less_bt bpp bqr dpp (by_d dqq hr) (by omega) (by omega) (sgn_ret hR))))
  generalize sg (lessV (byV p1 p1) (byV (byV q q) r)).n = m at h more
  have sm : ∀ x : Int, (sg x).natAbs < 2 ^ 10 := fun x => by
    rcases sg3 x with e | e | e <;> rw [e] <;> decide
  have s2 : ∀ c : Prop, ∀ _ : Decidable c, (if c then (1 : Int) else 0).natAbs < 2 ^ 10 := fun c _ => by split <;> decide
  unfold opp at h
  unfold W_law_root_sign
  walk_at "zq"
  refine sgn_ret (f := p1) ?_
  by_cases r0 : 0 < r.n
  · simp only [if_pos r0] at h ⊢
    refine sgn_ret (f := q) ?_
    walk_at "zq"
    by_cases l0 : sg p1.n = 0
    · simp only [l0, true_or, if_true] at h ⊢
      by_cases l1 : sg q.n = 0
      · simp only [l1, if_true] at h ⊢
        exact h
      · simp only [l1, if_false] at h ⊢
        exact h
    · by_cases l1 : sg q.n = 0
      · simp only [l0, l1, true_or, or_true, if_true, if_false] at h ⊢
        exact h
      · by_cases l2 : sg p1.n = sg q.n
        · simp only [l0, l1, l2, or_true, or_false, false_or, if_true, if_false] at h ⊢
          exact h
        · simp only [l0, l1, l2, or_self, if_false] at h ⊢
          refine more _ ?_
          walk_at "zq"
          exact ⟨mulW_of (sm _) (s2 _ _) (by decide), mulW_of (sm _) (s2 _ _) (by decide), h⟩
  · simp only [if_neg r0] at h ⊢
    walk_at "zq"
    simp only [true_or, or_true, if_true] at h ⊢
    split <;> exact h
/-- what is drawn, with its small bottoms -/
theorem some_bn (j : Jar M p n) (hn : n + 20 < 2 ^ 100) (h : ∀ (f : Fr) M', IsF f → Bn 124 17 f → Jar M' p (n + 20) → GrowX p M M' → R (fD f) M') : W_law_some [.lst p] M R := by
  unfold W_law_some
  try walk_at "zq"
  refine dip_ret' j (by omega) (by decide) (by decide) fun w M1 w0 w1 j1 g1 => ?_
  try walk_at "zq"
  split
  · refine dip_ret' j1 (by omega) (by decide) (by decide) fun v M2 v0 v1 j2 g2 => ?_
    try walk_at "zq"
    exact h ⟨v - 4, 1⟩ M2 (isF_one _) (bn_int (by omega) (by decide)) (j2.mono (by omega)) (g1.trans g2)
  · split
    · refine dip_ret' j1 (by omega) (by decide) (by decide) fun v M2 v0 v1 j2 g2 => ?_
      try walk_at "zq"
      intro q hq
      refine one_of_new j2 (by omega) hq (by simp) (by simp) fun d M3 hd j3 g3 => ?_
      have : ∃ x : Int, d = .int x ∧ 0 < x ∧ x < 10 := by
        simp only [List.mem_cons, List.not_mem_nil, or_false] at hd
        rcases hd with rfl | rfl | rfl | rfl | rfl | rfl <;> exact ⟨_, rfl, by decide, by decide⟩
      obtain ⟨x, rfl, x0, x1⟩ := this
      try walk_at "zq"
      exact frac_ret (by omega) (by omega) (h _ M3 (frac_isF (by omega)) (frac_bn (by omega) (by omega) (by omega)) (j3.mono (by omega)) (g1.trans (g2.trans g3)))
    · split
      · refine dip_ret' j1 (by omega) (by decide) (by decide) fun v M2 v0 v1 j2 g2 => ?_
        try walk_at "zq"
        refine dip_ret' j2 (by omega) (by decide) (by decide) fun u M3 u0 u1 j3 g3 => ?_
        try walk_at "zq"
        exact frac_ret (by omega) (by omega) (h _ M3 (frac_isF (by omega)) (frac_bn (by omega) (by omega) (by omega)) (j3.mono (by omega)) (g1.trans (g2.trans g3)))
      · split
        · exact h ⟨0, 1⟩ M1 (isF_one _) (bn_int (by decide) (by decide)) (j1.mono (by omega)) g1
        · refine great_ret j1 (by omega) fun x M2 hx j2 g2 => ?_
          try walk_at "zq"
          intro q hq
          refine one_of_new j2 (by omega) hq (by simp) (by simp) fun d M3 hd j3 g3 => ?_
          have : ∃ y : Int, d = .int y ∧ y.natAbs = 1 := by
            simp only [List.mem_cons, List.not_mem_nil, or_false] at hd
            rcases hd with rfl | rfl <;> exact ⟨_, rfl, by decide⟩
          obtain ⟨y, rfl, y1⟩ := this
          try walk_at "zq"
          refine ⟨mulW_of hx (b := 2) (by omega) (by decide), dip_ret' j3 (by omega) (by decide) (by decide) fun u M4 u0 u1 j4 g4 => ?_⟩
          try walk_at "zq"
          have hxy : (x * y).natAbs < 2 ^ 124 := by
            rw [Int.natAbs_mul, y1, Nat.mul_one]
            exact Nat.lt_trans hx (Nat.pow_lt_pow_right (by decide) (by decide))
          exact frac_ret (by omega) (by omega) (h _ M4 (frac_isF (by omega)) (frac_bn (by omega) hxy (by omega)) (j4.mono (by omega)) (g1.trans (g2.trans (g3.trans g4))))
theorem rootable_bn (j : Jar M p n) (hn : n + 30 < 2 ^ 100) (h : ∀ (f : Fr) M', IsF f → Bn 248 34 f → 0 ≤ f.n → Jar M' p (n + 30) → GrowX p M M' → R (fD f) M') : W_law_rootable [.lst p] M R := by
  unfold W_law_rootable
  try walk_at "zq"
  refine some_bn j (by omega) fun f M1 hf bf j1 g1 => ?_
  try walk_at "zq"
  refine dip_ret' j1 (by omega) (by decide) (by decide) fun w M2 w0 w1 j2 g2 => ?_
  try walk_at "zq"
  split
  · exact by_bt (f := f) (g := f) bf bf hf.1 hf.1 (by decide) (by decide) (h _ M2 (frac_isF (mul_ne hf.1 hf.1)) (by_bn bf bf hf.1 hf.1) (frac_nn (Int.mul_pos hf.1 hf.1) (nn_mul_self _)) (j2.mono (by omega)) (g1.trans g2))
  · refine dip_ret' j2 (by omega) (by decide) (by decide) fun v M3 v0 v1 j3 g3 => ?_
    try walk_at "zq"
    split
    · refine h ⟨_, f.d⟩ M3 (isF_abs hf) ?_ ?_ (j3.mono (by omega)) (g1.trans (g2.trans g3))
      · have b2 := bf.mono (show 124 ≤ 248 by decide) (show 17 ≤ 34 by decide)
        refine ⟨?_, b2.2⟩
        have e : (if f.n < 0 then -f.n else f.n).natAbs = f.n.natAbs := by split <;> omega
        show (if f.n < 0 then -f.n else f.n).natAbs < _
        rw [e]
        exact b2.1
      · show 0 ≤ (if f.n < 0 then -f.n else f.n)
        split <;> omega
    · intro q hq
      refine one_of_new j3 (by omega) hq (by simp) (by simp) fun d M4 hd j4 g4 => ?_
      have : ∃ x : Int, d = .int x ∧ 0 ≤ x ∧ x < 100 := by
        simp only [List.mem_cons, List.not_mem_nil, or_false] at hd
        rcases hd with rfl | rfl | rfl | rfl | rfl | rfl | rfl <;> exact ⟨_, rfl, by decide, by decide⟩
      obtain ⟨x, rfl, x0, x1⟩ := this
      try walk_at "zq"
      exact h ⟨x, 1⟩ M4 (isF_one _) (bn_int (by omega) (by decide)) x0 (j4.mono (by omega)) (g1.trans (g2.trans (g3.trans g4)))
end K1


set_option Elab.async false
set_option linter.all false
set_option maxRecDepth 100000
set_option exponentiation.threshold 10000
namespace K1
open PySem PySem.Spec PyProof.Rows L2 Zq Zr
local macro_rules | `(tactic| walk_at "zq") => `(tactic| simp only [E_body, E_app, E_isL, E_appK, E_kApp, E_fSl, E_kSl2, E_addl, E_kAddL, E_var0, E_varS, E_C, E_bin, E_test, E_kB, E_anil, E_acons, E_tup, E_lst, E_b, E_call, E_callK, E_neg, E_kNeg, E_tand, E_tor, E_tnot, E_and, E_or, E_kAnd, E_kOr, E_not, E_kNot, E_ifE, E_chain, E_kCh, E_isN, E_isN0, E_isNt, E_isNi, E_isNs, E_isNl, E_snil, E_scons, E_pass, E_brk, E_cnt, E_ret, E_retN, E_expr, E_if, E_asg, E_set, E_par, E_kPar, E_par3, E_kPar3, E_aug, E_kAug, E_gN, E_gN0, E_gNC, E_gT, E_gS, E_kS, E_kS0, E_kS1, E_kS2, E_sub, E_iadd, E_mul, E_div, E_mod, E_pow, E_lt, E_le, E_gt, E_ge, E_addi, E_adds, E_addt, E_eqi, E_eqs, E_eqb, E_nei, E_nes, E_kAt, E_ixt, E_ixr, E_ixl, E_kAtL, at0, at1, at2, at3, E_abs, E_max, E_min, E_inti, E_intb, E_str, E_dm, E_lent, E_lenr, E_lenl, E_kLen, E_gcd, E_sqrt, E_lcm2, E_lcm3, E_all, E_kAll, E_isii, E_isit, isi_ii, isi_ib, isi_tt, E_iQ, E_kIt, E_kIr, E_kIl, E_kIl', E_iR1, E_kR1, E_for, E_lc, E_lc0, E_lcS, E_kLc, E_yes, E_f0, E_fS, E_stN, E_stS, E_s0, E_sS, E_g0, E_gSx, E_w0, E_wS,
  Mem.put_same, Mem.put_put, Zq.fD, Zq.E_ord10, Zq.E_ord0, E_wSlice, E_oNone, E_kO, E_oSome, List.map_cons, List.map_nil, List.cons_append, List.nil_append, List.replicate, List.length_cons, List.length_nil, decide_eq_true_eq, Bool.false_eq_true, if_false, if_true, Nat.reduceAdd, Nat.reduceLeDiff, true_and, and_true, Option.map_some, Bool.not_true, Bool.not_false])
local macro_rules | `(tactic| walk_at "zr") => `(tactic| simp only [E_body, E_app, E_isL, E_appK, E_kApp, E_fSl, E_kSl2, E_addl, E_kAddL, E_var0, E_varS, E_C, E_bin, E_test, E_kB, E_anil, E_acons, E_tup, E_lst, E_b, E_call, E_callK, E_neg, E_kNeg, E_tand, E_tor, E_tnot, E_and, E_or, E_kAnd, E_kOr, E_not, E_kNot, E_ifE, E_chain, E_kCh, E_isN, E_isN0, E_isNt, E_isNi, E_isNs, E_isNl, E_snil, E_scons, E_pass, E_brk, E_cnt, E_ret, E_retN, E_expr, E_if, E_asg, E_set, E_par, E_kPar, E_par3, E_kPar3, E_aug, E_kAug, E_gN, E_gN0, E_gNC, E_gT, E_gS, E_kS, E_kS0, E_kS1, E_kS2, E_sub, E_iadd, E_mul, E_div, E_mod, E_pow, E_lt, E_le, E_gt, E_ge, E_addi, E_adds, E_addt, E_eqi, E_eqs, E_eqb, E_nei, E_nes, E_kAt, E_ixt, E_ixr, E_ixl, E_kAtL, at0, at1, at2, at3, E_abs, E_max, E_min, E_inti, E_intb, E_str, E_dm, E_lent, E_lenr, E_lenl, E_kLen, E_gcd, E_sqrt, E_lcm2, E_lcm3, E_all, E_kAll, E_isii, E_isit, isi_ii, isi_ib, isi_tt, E_iQ, E_kIt, E_kIr, E_kIl, E_kIl', E_iR1, E_kR1, E_for, E_lc, E_lc0, E_lcS, E_kLc, E_yes, E_stN, E_stS, E_s0, E_sS, E_g0, E_gSx, E_w0, E_wS,
  Mem.put_same, Mem.put_put, Zq.fD, Zq.E_ord10, Zq.E_ord0, E_wSlice, E_oNone, E_kO, E_oSome, List.map_cons, List.map_nil, List.cons_append, List.nil_append, List.replicate, List.length_cons, List.length_nil, decide_eq_true_eq, Bool.false_eq_true, if_false, if_true, Nat.reduceAdd, Nat.reduceLeDiff, true_and, and_true, Option.map_some, Bool.not_true, Bool.not_false])
variable {M : Mem} {R : DK} {p : Addr} {n : Nat} {f g q r : Fr}
/-! ### points -/
structure Pt where
  xp : Fr
  xq : Fr
  yp : Fr
  yq : Fr
  tp : Fr
  tq : Fr
  r : Fr
def ptD (a : Pt) : D := .tup [.tup [fD a.xp, fD a.xq], .tup [fD a.yp, fD a.yq], .tup [fD a.tp, fD a.tq], fD a.r]
structure OkP (j k l m : Nat) (a : Pt) : Prop where
  xp : IsF a.xp
  xq : IsF a.xq
  yp : IsF a.yp
  yq : IsF a.yq
  tp : IsF a.tp
  tq : IsF a.tq
  r : IsF a.r
  r0 : 0 ≤ a.r.n
  bxp : Bn j k a.xp
  bxq : Bn j k a.xq
  byp : Bn j k a.yp
  byq : Bn j k a.yq
  btp : Bn j k a.tp
  btq : Bn j k a.tq
  br : Bn l m a.r
theorem OkP.mono {j k l m j' k' l' m' : Nat} {a : Pt} (h : OkP j k l m a) (h1 : j ≤ j') (h2 : k ≤ k') (h3 : l ≤ l') (h4 : m ≤ m') : OkP j' k' l' m' a :=
  ⟨h.xp, h.xq, h.yp, h.yq, h.tp, h.tq, h.r, h.r0, h.bxp.mono h1 h2, h.bxq.mono h1 h2, h.byp.mono h1 h2, h.byq.mono h1 h2, h.btp.mono h1 h2, h.btq.mono h1 h2, h.br.mono h3 h4⟩
noncomputable def rX (a : Pt) : Rl := fR a.xp + fR a.xq * Rl.rt (fR a.r)
noncomputable def rY (a : Pt) : Rl := fR a.yp + fR a.yq * Rl.rt (fR a.r)
noncomputable def rT (a : Pt) : Rl := fR a.tp + fR a.tq * Rl.rt (fR a.r)
/-- when it is heard: the sign -/
noncomputable def hsg (a : Pt) (e n m : Rl) : Int := open Classical in if 0 < rT a - m then 1 else Rl.sgn ((rX a - e) * (rX a - e) + (rY a - n) * (rY a - n) - (rT a - m) * (rT a - m))
theorem E_slt {ds : List D} {lo hi : Option Int} : fSlice (.tup ds) lo hi M R = (¬ (HT.sIx ds.length 0 lo = 0 ∧ HT.sIx ds.length ds.length hi = ds.length) ∧ R (.tup (Zq.cutD ds lo hi)) M) := (rfl)
theorem cut3 {a b c d : D} : Zq.cutD [a, b, c, d] none (some 3) = [a, b, c] := rfl
theorem sl3 {a b c d : D} : ¬ (HT.sIx [a, b, c, d].length 0 none = 0 ∧ HT.sIx [a, b, c, d].length [a, b, c, d].length (some 3) = [a, b, c, d].length) := by
  rw [show HT.sIx [a, b, c, d].length [a, b, c, d].length (some 3) = 3 from rfl]
  simp
/-! ### the program's look at points -/
theorem pair_ok_ret {f g : Fr} (hf : IsF f) (hg : IsF g) (h : R (.bl true) M) : K6.W_is_pair [.tup [fD f, fD g]] M R := by
  unfold K6.W_is_pair
  walk_at "zq"
  refine tuple_of_ret rfl ?_
  walk_at "zq"
  refine frac_is_ret hf ?_
  walk_at "zq"
  exact frac_is_ret hg h
theorem need_point_ret {a : Pt} {j k l m : Nat} (ha : OkP j k l m a) (h : ∀ M', Grow M M' → R .non M') : K6.W_need_point [ptD a] M R := by
  unfold K6.W_need_point
  walk_at "zq"
  unfold K6.W_is_point ptD
  walk_at "zq"
  refine tuple_of_ret rfl ?_
  walk_at "zq"
  rw [E_slt]
  refine ⟨sl3, ?_⟩
  rw [cut3]
  walk_at "zq"
  intro Da hD
  refine pair_ok_ret ha.xp ha.xq ?_
  walk_at "zq"
  refine pair_ok_ret ha.yp ha.yq ?_
  walk_at "zq"
  refine pair_ok_ret ha.tp ha.tq ?_
  walk_at "zq"
  have e : ([D.bl true, .bl true, .bl true] : List D) = [true, true, true].map D.bl := rfl
  rw [e, E_kAll]
  walk_at "zq"
  simp only [List.all_cons, List.all_nil, id, Bool.and_self, if_true, Bool.not_true, Bool.false_eq_true, if_false]
  refine frac_is_ret ha.r ?_
  walk_at "zq"
  have r0 := ha.r0
  simp only [r0, decide_true, if_true, Bool.not_true, Bool.false_eq_true, if_false]
  exact h _ (.put hD)
/-! ### the bottoms -/
def lc (b d : Int) : Int := ((b.natAbs.lcm d.natAbs : Nat) : Int)
theorem lc_ok {b d : Int} (hb : 0 < b) (hd : 0 < d) : 0 < lc b d ∧ b ∣ lc b d ∧ d ∣ lc b d := by
  refine ⟨?_, ?_, ?_⟩
  · have := Nat.lcm_pos (m := b.natAbs) (n := d.natAbs) (by omega) (by omega)
    unfold lc
    omega
  · exact Int.natAbs_dvd_natAbs.mp (by unfold lc; rw [Int.natAbs_natCast]; exact Nat.dvd_lcm_left _ _)
  · exact Int.natAbs_dvd_natAbs.mp (by unfold lc; rw [Int.natAbs_natCast]; exact Nat.dvd_lcm_right _ _)
theorem lc_bd {b d : Int} {j k : Nat} (h1 : b.natAbs < 2 ^ j) (h2 : d.natAbs < 2 ^ k) : (lc b d).natAbs < 2 ^ (j + k) := by
  unfold lc
  rw [Int.natAbs_natCast, Nat.pow_add]
  exact Nat.lt_of_le_of_lt lcm_pos_le (Nat.mul_lt_mul'' h1 h2)
theorem div_ok {b : Int} {f : Fr} (hd : 0 < f.d) (h : f.d ∣ b) : Rl.iR (f.n * (b / f.d)) = fR f * Rl.iR b := by
  have e := fR_mul hd
  have c : b / f.d * f.d = b := Int.ediv_mul_cancel h
  have c2 := congrArg Rl.iR c
  rw [Rl.iR_mul] at c2 ⊢
  refine rl_cancel (Rl.iR_pos.mpr hd) ?_
  rw [← e, ← c2]
  grind
/-- all of a point's on one bottom -/
def b3 (a : Pt) : Int := lc (lc (lc (lc (lc (lc 1 a.xp.d) (a.xq.d * a.r.d)) a.yp.d) (a.yq.d * a.r.d)) a.tp.d) (a.tq.d * a.r.d)
theorem rt_part {f r : Fr} {b : Int} (hf : 0 < f.d) (hr : 0 < r.d) (r0 : 0 ≤ r.n) (h : f.d * r.d ∣ b) : Rl.iR (f.n * (b / (f.d * r.d))) * Rl.rt (Rl.iR (r.n * r.d)) = fR f * Rl.rt (fR r) * Rl.iR b := by
  have e := fR_mul hf
  have c : b / (f.d * r.d) * (f.d * r.d) = b := Int.ediv_mul_cancel h
  have c2 := congrArg Rl.iR c
  rw [rt_fR hr r0]
  simp only [Rl.iR_mul] at c2 ⊢
  refine rl_cancel (Rl.iR_pos.mpr hf) ?_
  rw [← c2]
  grind
theorem b3_ok {a : Pt} {j k l m : Nat} (ha : OkP j k l m a) : 0 < b3 a ∧ a.xp.d ∣ b3 a ∧ a.xq.d * a.r.d ∣ b3 a ∧ a.yp.d ∣ b3 a ∧ a.yq.d * a.r.d ∣ b3 a ∧ a.tp.d ∣ b3 a ∧ a.tq.d * a.r.d ∣ b3 a := by
  unfold b3
  have q := ha.r.1
  obtain ⟨a1, _, a3⟩ := lc_ok (b := 1) (by decide) ha.xp.1
  obtain ⟨b1, b2, b3⟩ := lc_ok a1 (Int.mul_pos ha.xq.1 q)
  obtain ⟨c1, c2, c3⟩ := lc_ok b1 ha.yp.1
  obtain ⟨d1, d2, d3⟩ := lc_ok c1 (Int.mul_pos ha.yq.1 q)
  obtain ⟨e1, e2, e3⟩ := lc_ok d1 ha.tp.1
  obtain ⟨f1, f2, f3⟩ := lc_ok e1 (Int.mul_pos ha.tq.1 q)
  have s1 := Int.dvd_trans e2 f2
  have s2 := Int.dvd_trans d2 s1
  have s3 := Int.dvd_trans c2 s2
  have s4 := Int.dvd_trans b2 s3
  exact ⟨f1, Int.dvd_trans a3 s4, Int.dvd_trans b3 s3, Int.dvd_trans c3 s2, Int.dvd_trans d3 s1, Int.dvd_trans e3 f2, f3⟩
theorem b3_bd {a : Pt} {j k l m : Nat} (ha : OkP j k l m a) : (b3 a).natAbs < 2 ^ (1 + 6 * k + 3 * m) := by
  unfold b3
  have := lc_bd (lc_bd (lc_bd (lc_bd (lc_bd (lc_bd (show (1 : Int).natAbs < 2 ^ 1 by decide) ha.bxp.2) (bd_mul ha.bxq.2 ha.br.2)) ha.byp.2) (bd_mul ha.byq.2 ha.br.2)) ha.btp.2) (bd_mul ha.btq.2 ha.br.2)
  exact lt_pow_add this (by omega)
/-- the point in whole numbers -/
theorem one_root_ret {a : Pt} {j k l m : Nat} (ha : OkP j k l m a) (hk : 6 * k + 3 * m < 5000) (hj : j + l < 100000)
    (h : ∀ L M', M L = none → Grow M M' → M' L = some [.tup [.int (a.xp.n * (b3 a / a.xp.d)), .int (a.xq.n * (b3 a / (a.xq.d * a.r.d)))], .tup [.int (a.yp.n * (b3 a / a.yp.d)), .int (a.yq.n * (b3 a / (a.yq.d * a.r.d)))], .tup [.int (a.tp.n * (b3 a / a.tp.d)), .int (a.tq.n * (b3 a / (a.tq.d * a.r.d)))]] →
      R (.tup [.lst L, .int (a.r.n * a.r.d), .int (b3 a)]) M') : W_with_one_root [.tup [.tup [fD a.xp, fD a.xq], .tup [fD a.yp, fD a.yq], .tup [fD a.tp, fD a.tq]], fD a.r] M R := by
  unfold W_with_one_root
  walk_at "zq"
  obtain ⟨b0, d1, d2, d3, d4, d5, d6⟩ := b3_ok ha
  have bb := b3_bd ha
  have q := ha.r.1
  have q1 := bd_mul ha.bxq.2 ha.br.2
  have q2 := bd_mul ha.byq.2 ha.br.2
  have q3 := bd_mul ha.btq.2 ha.br.2
  have m1 := mulW_of ha.bxq.2 ha.br.2 (by omega)
  have m2 := mulW_of ha.byq.2 ha.br.2 (by omega)
  have m3 := mulW_of ha.btq.2 ha.br.2 (by omega)
  have l1 := lc_bd (lc_bd (show (1 : Int).natAbs < 2 ^ 1 by decide) ha.bxp.2) q1
  have l2 := lc_bd (lc_bd l1 ha.byp.2) q2
  have w : ∀ {f : Fr} {d : Int} {i i' : Nat}, f.n.natAbs < 2 ^ i → i < 100000 → 0 < d → CMulW f.n (b3 a / d) := fun {f d i i'} hf hi hd => mulW_of hf (quot_bd bb (by omega) hd) (by omega)
  have dv : ∀ {d : Int} {i : Nat}, 0 < d → d.natAbs < 2 ^ i → i < 8999 → CDivW (b3 a) d := fun {d i} h0 h1 h2 => divW_of h0 h1 (by omega)
  refine ⟨m1, by decide, log_of ha.bxp.2 (by omega), log_of q1 (by omega), m2, log_of l1 (by omega), log_of ha.byp.2 (by omega), log_of q2 (by omega), m3, log_of l2 (by omega), log_of ha.btp.2 (by omega), log_of q3 (by omega), fun Da hD => ?_⟩
  refine ⟨dv ha.xp.1 ha.bxp.2 (by omega), w (i' := 0) ha.bxp.1 (by omega) ha.xp.1, m1, dv (Int.mul_pos ha.xq.1 q) q1 (by omega), w (i' := 0) ha.bxq.1 (by omega) (Int.mul_pos ha.xq.1 q), ?_⟩
  refine ⟨dv ha.yp.1 ha.byp.2 (by omega), w (i' := 0) ha.byp.1 (by omega) ha.yp.1, m2, dv (Int.mul_pos ha.yq.1 q) q2 (by omega), w (i' := 0) ha.byq.1 (by omega) (Int.mul_pos ha.yq.1 q), ?_⟩
  refine ⟨dv ha.tp.1 ha.btp.2 (by omega), w (i' := 0) ha.btp.1 (by omega) ha.tp.1, m3, dv (Int.mul_pos ha.tq.1 q) q3 (by omega), w (i' := 0) ha.btq.1 (by omega) (Int.mul_pos ha.tq.1 q), ?_⟩
  refine ⟨mulW_of ha.br.1 ha.br.2 (by omega), ?_⟩
  exact h Da _ hD (.put hD) Mem.put_same
theorem spot_ret {a : Pt} {j k l m : Nat} (ha : OkP j k l m a) (hk : 6 * k + 3 * m < 5000) (hj : j + l < 100000)
    (h : ∀ L M', M L = none → Grow M M' → M' L = some [.tup [.int (a.xp.n * (b3 a / a.xp.d)), .int (a.xq.n * (b3 a / (a.xq.d * a.r.d)))], .tup [.int (a.yp.n * (b3 a / a.yp.d)), .int (a.yq.n * (b3 a / (a.yq.d * a.r.d)))], .tup [.int (a.tp.n * (b3 a / a.tp.d)), .int (a.tq.n * (b3 a / (a.tq.d * a.r.d)))]] →
      R (.tup [.lst L, .int (a.r.n * a.r.d), .int (b3 a)]) M') : K6.W_spot_of [ptD a] M R := by
  unfold K6.W_spot_of ptD
  walk_at "zq"
  rw [E_slt]
  refine ⟨sl3, ?_⟩
  rw [cut3]
  exact one_root_ret ha hk hj h
theorem E_star {ρ : Zq.Env} {w : WE} {r : WA} {RA : List D → Mem → Prop} : aStar w r ρ M RA = w ρ M (starK RA r ρ) := (rfl)
theorem E_starT {ρ : Zq.Env} {r : WA} {RA : List D → Mem → Prop} {xs : List D} : starK RA r ρ (.tup xs) M = r ρ M fun ys M2 => RA (xs ++ ys) M2 := (rfl)
end K1


set_option Elab.async false
set_option linter.all false
set_option maxRecDepth 100000
set_option exponentiation.threshold 10000
namespace K1
open PySem PySem.Spec PyProof.Rows L2 Zq Zr
local macro_rules | `(tactic| walk_at "zq") => `(tactic| simp only [E_body, E_app, E_star, E_starT, E_gTLt, E_gTLl, E_kTL, E_isL, E_appK, E_kApp, E_fSl, E_kSl2, E_addl, E_kAddL, E_var0, E_varS, E_C, E_bin, E_test, E_kB, E_anil, E_acons, E_tup, E_lst, E_b, E_call, E_callK, E_neg, E_kNeg, E_tand, E_tor, E_tnot, E_and, E_or, E_kAnd, E_kOr, E_not, E_kNot, E_ifE, E_chain, E_kCh, E_isN, E_isN0, E_isNt, E_isNi, E_isNs, E_isNl, E_snil, E_scons, E_pass, E_brk, E_cnt, E_ret, E_retN, E_expr, E_if, E_asg, E_set, E_par, E_kPar, E_par3, E_kPar3, E_aug, E_kAug, E_gN, E_gN0, E_gNC, E_gT, E_gS, E_kS, E_kS0, E_kS1, E_kS2, E_sub, E_iadd, E_mul, E_div, E_mod, E_pow, E_lt, E_le, E_gt, E_ge, E_addi, E_adds, E_addt, E_eqi, E_eqs, E_eqb, E_nei, E_nes, E_kAt, E_ixt, E_ixr, E_ixl, E_kAtL, at0, at1, at2, at3, E_abs, E_max, E_min, E_inti, E_intb, E_str, E_dm, E_lent, E_lenr, E_lenl, E_kLen, E_gcd, E_sqrt, E_lcm2, E_lcm3, E_all, E_kAll, E_isii, E_isit, isi_ii, isi_ib, isi_tt, E_iQ, E_kIt, E_kIr, E_kIl, E_kIl', E_iR1, E_kR1, E_for, E_lc, E_lc0, E_lcS, E_kLc, E_yes, E_f0, E_fS, E_stN, E_stS, E_s0, E_sS, E_g0, E_gSx, E_w0, E_wS,
  Mem.put_same, Mem.put_put, Zq.fD, Zq.E_ord10, Zq.E_ord0, E_wSlice, E_oNone, E_kO, E_oSome, List.map_cons, List.map_nil, List.cons_append, List.nil_append, List.replicate, List.length_cons, List.length_nil, decide_eq_true_eq, Bool.false_eq_true, if_false, if_true, Nat.reduceAdd, Nat.reduceLeDiff, true_and, and_true, Option.map_some, Bool.not_true, Bool.not_false])
local macro_rules | `(tactic| walk_at "zr") => `(tactic| simp only [E_body, E_app, E_star, E_starT, E_gTLt, E_gTLl, E_kTL, E_isL, E_appK, E_kApp, E_fSl, E_kSl2, E_addl, E_kAddL, E_var0, E_varS, E_C, E_bin, E_test, E_kB, E_anil, E_acons, E_tup, E_lst, E_b, E_call, E_callK, E_neg, E_kNeg, E_tand, E_tor, E_tnot, E_and, E_or, E_kAnd, E_kOr, E_not, E_kNot, E_ifE, E_chain, E_kCh, E_isN, E_isN0, E_isNt, E_isNi, E_isNs, E_isNl, E_snil, E_scons, E_pass, E_brk, E_cnt, E_ret, E_retN, E_expr, E_if, E_asg, E_set, E_par, E_kPar, E_par3, E_kPar3, E_aug, E_kAug, E_gN, E_gN0, E_gNC, E_gT, E_gS, E_kS, E_kS0, E_kS1, E_kS2, E_sub, E_iadd, E_mul, E_div, E_mod, E_pow, E_lt, E_le, E_gt, E_ge, E_addi, E_adds, E_addt, E_eqi, E_eqs, E_eqb, E_nei, E_nes, E_kAt, E_ixt, E_ixr, E_ixl, E_kAtL, at0, at1, at2, at3, E_abs, E_max, E_min, E_inti, E_intb, E_str, E_dm, E_lent, E_lenr, E_lenl, E_kLen, E_gcd, E_sqrt, E_lcm2, E_lcm3, E_all, E_kAll, E_isii, E_isit, isi_ii, isi_ib, isi_tt, E_iQ, E_kIt, E_kIr, E_kIl, E_kIl', E_iR1, E_kR1, E_for, E_lc, E_lc0, E_lcS, E_kLc, E_yes, E_stN, E_stS, E_s0, E_sS, E_g0, E_gSx, E_w0, E_wS,
  Mem.put_same, Mem.put_put, Zq.fD, Zq.E_ord10, Zq.E_ord0, E_wSlice, E_oNone, E_kO, E_oSome, List.map_cons, List.map_nil, List.cons_append, List.nil_append, List.replicate, List.length_cons, List.length_nil, decide_eq_true_eq, Bool.false_eq_true, if_false, if_true, Nat.reduceAdd, Nat.reduceLeDiff, true_and, and_true, Option.map_some, Bool.not_true, Bool.not_false])
variable {M : Mem} {R : DK} {p : Addr} {n : Nat} {f g q r : Fr}
def s3 (e n m : Fr) : Int := lc (lc (lc 1 e.d) n.d) m.d
theorem s3_ok {e n m : Fr} (he : 0 < e.d) (hn : 0 < n.d) (hm : 0 < m.d) : 0 < s3 e n m ∧ e.d ∣ s3 e n m ∧ n.d ∣ s3 e n m ∧ m.d ∣ s3 e n m := by
  unfold s3
  obtain ⟨a1, _, a3⟩ := lc_ok (b := 1) (by decide) he
  obtain ⟨b1, b2, b3⟩ := lc_ok a1 hn
  obtain ⟨c1, c2, c3⟩ := lc_ok b1 hm
  exact ⟨c1, Int.dvd_trans a3 (Int.dvd_trans b2 c2), Int.dvd_trans b3 c2, c3⟩
theorem s3_bd {e n m : Fr} {j k : Nat} (be : Bn j k e) (bn : Bn j k n) (bm : Bn j k m) : (s3 e n m).natAbs < 2 ^ (1 + 3 * k) := by
  unfold s3
  exact lt_pow_add (lc_bd (lc_bd (lc_bd (show (1 : Int).natAbs < 2 ^ 1 by decide) be.2) bn.2) bm.2) (by omega)
theorem one_bottom_ret {e n m : Fr} {j k : Nat} {L : Addr} (hL : M L = some [fD e, fD n, fD m]) (he : 0 < e.d) (hn : 0 < n.d) (hm : 0 < m.d) (be : Bn j k e) (bn : Bn j k n) (bm : Bn j k m) (hk : 3 * k < 5000) (hj : j < 100000)
    (h : ∀ L2 M', Grow M M' → M' L2 = some [.int (e.n * (s3 e n m / e.d)), .int (n.n * (s3 e n m / n.d)), .int (m.n * (s3 e n m / m.d))] → R (.tup [.lst L2, .int (s3 e n m)]) M') : K6.W_on_one_bottom [.lst L] M R := by
  unfold K6.W_on_one_bottom
  walk_at "zr"
  rw [hL]
  walk_at "zq"
  obtain ⟨s0, _, _, _⟩ := s3_ok he hn hm
  have sb := s3_bd be bn bm
  have l1 := lc_bd (show (1 : Int).natAbs < 2 ^ 1 by decide) be.2
  have l2 := lc_bd l1 bn.2
  have hL' : M L = some [D.tup [.int e.n, .int e.d], D.tup [.int n.n, .int n.d], D.tup [.int m.n, .int m.d]] := hL
  refine ⟨hL', by decide, log_of be.2 (by omega), hL', log_of l1 (by omega), log_of bn.2 (by omega), hL', log_of l2 (by omega), log_of bm.2 (by omega), hL', ?_⟩
  rw [hL']
  walk_at "zq"
  intro Da hD
  have ne : L ≠ Da := by
    rintro rfl
    rw [hL'] at hD
    cases hD
  have st : ∀ x, (M.put Da x) L = some [D.tup [.int e.n, .int e.d], D.tup [.int n.n, .int n.d], D.tup [.int m.n, .int m.d]] := fun x => by rw [Mem.put_ne ne]; exact hL'
  have dv : ∀ {d : Int} {i : Nat}, 0 < d → d.natAbs < 2 ^ i → i < 8999 → CDivW (s3 e n m) d := fun {d i} h0 h1 h2 => divW_of h0 h1 (by omega)
  have w : ∀ {f : Fr} {d : Int}, f.n.natAbs < 2 ^ j → 0 < d → CMulW f.n (s3 e n m / d) := fun {f d} hf hd => mulW_of hf (quot_bd sb (by omega) hd) (by omega)
  exact ⟨st _, dv he be.2 (by omega), w be.1 he, st _, dv hn bn.2 (by omega), w bn.1 hn, st _, dv hm bm.2 (by omega), w bm.1 hm, st _, h Da _ (.put hD) Mem.put_same⟩
theorem sgn_eq {k x y : Rl} (h : 0 < k) (e : x = k * y) : Rl.sgn x = Rl.sgn y := by rw [e, Rl.sgn_scale h]
theorem sgn_pos_iff {x : Rl} : 0 < Rl.sgn x ↔ 0 < x := by
  rcases Rl.sgn_cases x with ⟨a, e⟩ | ⟨a, e⟩ | ⟨a, e⟩ <;> rw [e] <;> constructor <;> intro h
  · exact a
  · decide
  · omega
  · grind
  · omega
  · grind
theorem quad {x y t xf yf tf sq w B vx vy vt : Rl} (hw : w * w = sq) (e1 : x + xf * w = B * vx) (e2 : y + yf * w = B * vy) (e3 : t + tf * w = B * vt) :
    x * x + y * y - t * t + (xf * xf + yf * yf - tf * tf) * sq + 2 * (x * xf + y * yf - t * tf) * w = B * B * (vx * vx + vy * vy - vt * vt) := by
  have z : x * x + y * y - t * t + (xf * xf + yf * yf - tf * tf) * sq + 2 * (x * xf + y * yf - t * tf) * w = (x + xf * w) * (x + xf * w) + (y + yf * w) * (y + yf * w) - (t + tf * w) * (t + tf * w) := by
    rw [← hw]
    clear e1 e2 e3 hw
    grind
  rw [z, e1, e2, e3]
  clear z e1 e2 e3 hw
  grind
set_option maxHeartbeats 1000000 in
theorem sign_heard_ret {a : Pt} {e n m : Fr} {j k l i j' k' : Nat} (ha : OkP j k l i a) (he : 0 < e.d) (hn : 0 < n.d) (hm : 0 < m.d) (be : Bn j' k' e) (bn : Bn j' k' n) (bm : Bn j' k' m) (h1 : 6 * k + 3 * i < 5000) (h2 : j + l < 10000) (h3 : 3 * k' < 5000) (h4 : j' < 10000)
    (h : ∀ M', Grow M M' → R (.int (hsg a (fR e) (fR n) (fR m))) M') : K6.W_sign_heard [ptD a, .tup [fD e, fD n], fD m] M R := by
  unfold K6.W_sign_heard
  walk_at "zr"
  intro L0 hL0
  refine one_bottom_ret (e := e) (n := n) (m := m) Mem.put_same he hn hm be bn bm h3 (by omega) fun L2 M2 g2 hL2 => ?_
  walk_at "zr"
  refine spot_ret ha h1 (by omega) fun L M1 hLn g1 hL' => ?_
  try walk_at "zr"
  unfold K6.W_sign_heard_at
  replace hL2 := g1 _ _ hL2
  have g12 : Grow M M1 := (Grow.put hL0).trans (g2.trans g1)
  obtain ⟨b0, d1, d2, d3, d4, d5, d6⟩ := b3_ok ha
  have bb := b3_bd ha
  obtain ⟨s0, t1, t2, t3⟩ := s3_ok he hn hm
  have sb := s3_bd be bn bm
  have q := ha.r.1
  have vX := div_ok ha.xp.1 d1
  have vXf := rt_part ha.xq.1 q ha.r0 d2
  have vY := div_ok ha.yp.1 d3
  have vYf := rt_part ha.yq.1 q ha.r0 d4
  have vT := div_ok ha.tp.1 d5
  have vTf := rt_part ha.tq.1 q ha.r0 d6
  have vE := div_ok he t1
  have vN := div_ok hn t2
  have vM := div_ok hm t3
  have bX := bd_mul ha.bxp.1 (quot_bd bb (by omega) ha.xp.1)
  have bXf := bd_mul ha.bxq.1 (quot_bd bb (by omega) (Int.mul_pos ha.xq.1 q))
  have bY := bd_mul ha.byp.1 (quot_bd bb (by omega) ha.yp.1)
  have bYf := bd_mul ha.byq.1 (quot_bd bb (by omega) (Int.mul_pos ha.yq.1 q))
  have bT := bd_mul ha.btp.1 (quot_bd bb (by omega) ha.tp.1)
  have bTf := bd_mul ha.btq.1 (quot_bd bb (by omega) (Int.mul_pos ha.tq.1 q))
  have bE := bd_mul be.1 (quot_bd sb (by omega) he)
  have bN := bd_mul bn.1 (quot_bd sb (by omega) hn)
  have bM := bd_mul bm.1 (quot_bd sb (by omega) hm)
  have bsq := bd_mul ha.br.1 ha.br.2
  have sq0 : 0 ≤ a.r.n * a.r.d := Int.mul_nonneg ha.r0 (by omega)
  have w1 := Rl.rt_sq (Rl.iR_nn.mpr sq0)
  generalize a.xp.n * (b3 a / a.xp.d) = X at *
  generalize a.xq.n * (b3 a / (a.xq.d * a.r.d)) = Xf at *
  generalize a.yp.n * (b3 a / a.yp.d) = Y at *
  generalize a.yq.n * (b3 a / (a.yq.d * a.r.d)) = Yf at *
  generalize a.tp.n * (b3 a / a.tp.d) = T at *
  generalize a.tq.n * (b3 a / (a.tq.d * a.r.d)) = Tf at *
  generalize e.n * (s3 e n m / e.d) = E at *
  generalize n.n * (s3 e n m / n.d) = Nn' at *
  generalize m.n * (s3 e n m / m.d) = Mm at *
  generalize s3 e n m = s at *
  generalize b3 a = b at *
  generalize a.r.n * a.r.d = sq at *
  walk_at "zr"
  rw [hL2]
  walk_at "zr"
  rw [hL']
  walk_at "zq"
  intro Da hD
  have ne : L ≠ Da := by
    rintro rfl
    rw [hL'] at hD
    cases hD
  have st : ∀ x, (M1.put Da x) L = some [D.tup [.int X, .int Xf], D.tup [.int Y, .int Yf], D.tup [.int T, .int Tf]] := fun x => by rw [Mem.put_ne ne]; exact hL'
  have Bb : ∃ B, B = 1 + 6 * k + 3 * i := ⟨_, rfl⟩
  obtain ⟨B, hB⟩ := Bb
  have Ss : ∃ S, S = 1 + 3 * k' := ⟨_, rfl⟩
  obtain ⟨S, hS⟩ := Ss
  rw [← hB] at bb bX bXf bY bYf bT bTf
  rw [← hS] at sb bE bN bM
  have hNN : ∃ N, N = j + j' + B + S := ⟨_, rfl⟩
  obtain ⟨N, hN⟩ := hNN
  have xs : ∀ {Z : Int}, Z.natAbs < 2 ^ (j + B) → (Z * s).natAbs < 2 ^ N := fun hz => lt_pow_add (bd_mul hz sb) (by omega)
  have es : ∀ {Z : Int}, Z.natAbs < 2 ^ (j' + S) → (Z * b).natAbs < 2 ^ N := fun hz => lt_pow_add (bd_mul hz bb) (by omega)
  have ms : ∀ {Z : Int}, Z.natAbs < 2 ^ (j + B) → CMulW Z s := fun hz => mulW_of hz sb (by omega)
  have me : ∀ {Z : Int}, Z.natAbs < 2 ^ (j' + S) → CMulW Z b := fun hz => mulW_of hz bb (by omega)
  have bx := bd_sub (xs bX) (es bE)
  have by' := bd_sub (xs bY) (es bN)
  have bt := bd_sub (xs bT) (es bM)
  have bxf := xs bXf
  have byf := xs bYf
  have btf := xs bTf
  refine ⟨st _, ms bX, ms bXf, st _, ms bY, ms bYf, st _, ms bT, ms bTf, st _, me bE, me bN, me bM, ?_⟩
  -- the three, as reals
  have B0 := Rl.iR_pos.mpr b0
  have S0 := Rl.iR_pos.mpr s0
  have K0 := Rl.mul_pos B0 S0
  have rx : Rl.iR (X * s - E * b) + Rl.iR (Xf * s) * Rl.rt (Rl.iR sq) = Rl.iR b * Rl.iR s * (rX a - fR e) := by
    simp only [Rl.iR_sub, Rl.iR_mul]
    unfold rX
    grind
  have ry : Rl.iR (Y * s - Nn' * b) + Rl.iR (Yf * s) * Rl.rt (Rl.iR sq) = Rl.iR b * Rl.iR s * (rY a - fR n) := by
    simp only [Rl.iR_sub, Rl.iR_mul]
    unfold rY
    grind
  have rt' : Rl.iR (T * s - Mm * b) + Rl.iR (Tf * s) * Rl.rt (Rl.iR sq) = Rl.iR b * Rl.iR s * (rT a - fR m) := by
    simp only [Rl.iR_sub, Rl.iR_mul]
    unfold rT
    grind
  generalize X * s - E * b = x at *
  generalize Y * s - Nn' * b = y at *
  generalize T * s - Mm * b = t at *
  generalize Xf * s = xf at *
  generalize Yf * s = yf at *
  generalize Tf * s = tf at *
  have G : Grow M (M1.put Da [D.tup [.int (X * s), .int xf], D.tup [.int (Y * s), .int yf], D.tup [.int (T * s), .int tf]]) := g12.trans (.put hD)
  have fin := h _ G
  refine with_root_ret bt btf bsq (by omega) (by omega) (by omega) ?_
  rw [Rl.s1_real _ _ sq0, sgn_eq K0 rt']
  walk_at "zq"
  unfold hsg at fin
  by_cases c : 0 < rT a - fR m
  · rw [if_pos (sgn_pos_iff.mpr c)]
    rw [if_pos c] at fin
    exact fin
  · rw [if_neg (fun z => c (sgn_pos_iff.mp z))]
    rw [if_neg c] at fin
    have bx2 := lt_pow_add bxf (show N ≤ N + 1 by omega)
    have by2 := lt_pow_add byf (show N ≤ N + 1 by omega)
    have bt2 := lt_pow_add btf (show N ≤ N + 1 by omega)
    have mm : ∀ {u v : Int}, u.natAbs < 2 ^ (N + 1) → v.natAbs < 2 ^ (N + 1) → CMulW u v := fun hu hv => mulW_of hu hv (by omega)
    have p1 := bd_sub (bd_add (bd_mul bx bx) (bd_mul by' by')) (lt_pow_add (bd_mul bt bt) (show _ ≤ N + 1 + (N + 1) + 1 by omega))
    have p2 := bd_sub (bd_add (bd_mul bx2 bx2) (bd_mul by2 by2)) (lt_pow_add (bd_mul bt2 bt2) (show _ ≤ N + 1 + (N + 1) + 1 by omega))
    have p3 := bd_sub (bd_add (bd_mul bx bx2) (bd_mul by' by2)) (lt_pow_add (bd_mul bt bt2) (show _ ≤ N + 1 + (N + 1) + 1 by omega))
    have p4 := bd_mul p2 bsq
    refine ⟨mm bx bx, mm by' by', mm bt bt, mm bx2 bx2, mm by2 by2, mm bt2 bt2, mulW_of p2 bsq (by omega), mm bx bx2, mm by' by2, mm bt bt2, mulW_of (a := 2) (by decide) p3 (by omega), ?_⟩
    refine with_root_ret (i := N + 1 + (N + 1) + 1 + 1 + (l + i) + 1) (bd_add (lt_pow_add p1 (by omega)) (lt_pow_add p4 (by omega))) (bd_mul (j := 2) (by decide) p3) bsq (by omega) (by omega) (by omega) ?_
    rw [Rl.s1_real _ _ sq0]
    have tot : Rl.iR (x * x + y * y - t * t + (xf * xf + yf * yf - tf * tf) * sq) + Rl.iR (2 * (x * xf + y * yf - t * tf)) * Rl.rt (Rl.iR sq) =
        Rl.iR b * Rl.iR s * (Rl.iR b * Rl.iR s) * ((rX a - fR e) * (rX a - fR e) + (rY a - fR n) * (rY a - fR n) - (rT a - fR m) * (rT a - fR m)) := by
      simp only [Rl.iR_sub, Rl.iR_mul, Rl.iR_add, Rl.iR_two]
      exact quad w1 rx ry rt'
    rw [sgn_eq (Rl.mul_pos K0 K0) tot]
    exact fin
end K1


set_option Elab.async false
set_option linter.all false
set_option maxRecDepth 100000
set_option exponentiation.threshold 10000
namespace K1
open PySem PySem.Spec PyProof.Rows L2 Zq Zr
local macro_rules | `(tactic| walk_at "zq") => `(tactic| simp only [E_body, E_app, E_star, E_starT, E_gTLt, E_gTLl, E_kTL, E_isL, E_appK, E_kApp, E_fSl, E_kSl2, E_addl, E_kAddL, E_var0, E_varS, E_C, E_bin, E_test, E_kB, E_anil, E_acons, E_tup, E_lst, E_b, E_call, E_callK, E_neg, E_kNeg, E_tand, E_tor, E_tnot, E_and, E_or, E_kAnd, E_kOr, E_not, E_kNot, E_ifE, E_chain, E_kCh, E_isN, E_isN0, E_isNt, E_isNi, E_isNs, E_isNl, E_snil, E_scons, E_pass, E_brk, E_cnt, E_ret, E_retN, E_expr, E_if, E_asg, E_set, E_par, E_kPar, E_par3, E_kPar3, E_aug, E_kAug, E_gN, E_gN0, E_gNC, E_gT, E_gS, E_kS, E_kS0, E_kS1, E_kS2, E_sub, E_iadd, E_mul, E_div, E_mod, E_pow, E_lt, E_le, E_gt, E_ge, E_addi, E_adds, E_addt, E_eqi, E_eqs, E_eqb, E_nei, E_nes, E_kAt, E_ixt, E_ixr, E_ixl, E_kAtL, at0, at1, at2, at3, E_abs, E_max, E_min, E_inti, E_intb, E_str, E_dm, E_lent, E_lenr, E_lenl, E_kLen, E_gcd, E_sqrt, E_lcm2, E_lcm3, E_all, E_kAll, E_isii, E_isit, isi_ii, isi_ib, isi_tt, E_iQ, E_kIt, E_kIr, E_kIl, E_kIl', E_iR1, E_kR1, E_for, E_lc, E_lc0, E_lcS, E_kLc, E_yes, E_f0, E_fS, E_stN, E_stS, E_s0, E_sS, E_g0, E_gSx, E_w0, E_wS,
  Mem.put_same, Mem.put_put, Zq.fD, Zq.E_ord10, Zq.E_ord0, E_wSlice, E_oNone, E_kO, E_oSome, List.map_cons, List.map_nil, List.cons_append, List.nil_append, List.replicate, List.length_cons, List.length_nil, decide_eq_true_eq, Bool.false_eq_true, if_false, if_true, Nat.reduceAdd, Nat.reduceLeDiff, true_and, and_true, Option.map_some, Bool.not_true, Bool.not_false])
local macro_rules | `(tactic| walk_at "zr") => `(tactic| simp only [E_body, E_app, E_star, E_starT, E_gTLt, E_gTLl, E_kTL, E_isL, E_appK, E_kApp, E_fSl, E_kSl2, E_addl, E_kAddL, E_var0, E_varS, E_C, E_bin, E_test, E_kB, E_anil, E_acons, E_tup, E_lst, E_b, E_call, E_callK, E_neg, E_kNeg, E_tand, E_tor, E_tnot, E_and, E_or, E_kAnd, E_kOr, E_not, E_kNot, E_ifE, E_chain, E_kCh, E_isN, E_isN0, E_isNt, E_isNi, E_isNs, E_isNl, E_snil, E_scons, E_pass, E_brk, E_cnt, E_ret, E_retN, E_expr, E_if, E_asg, E_set, E_par, E_kPar, E_par3, E_kPar3, E_aug, E_kAug, E_gN, E_gN0, E_gNC, E_gT, E_gS, E_kS, E_kS0, E_kS1, E_kS2, E_sub, E_iadd, E_mul, E_div, E_mod, E_pow, E_lt, E_le, E_gt, E_ge, E_addi, E_adds, E_addt, E_eqi, E_eqs, E_eqb, E_nei, E_nes, E_kAt, E_ixt, E_ixr, E_ixl, E_kAtL, at0, at1, at2, at3, E_abs, E_max, E_min, E_inti, E_intb, E_str, E_dm, E_lent, E_lenr, E_lenl, E_kLen, E_gcd, E_sqrt, E_lcm2, E_lcm3, E_all, E_kAll, E_isii, E_isit, isi_ii, isi_ib, isi_tt, E_iQ, E_kIt, E_kIr, E_kIl, E_kIl', E_iR1, E_kR1, E_for, E_lc, E_lc0, E_lcS, E_kLc, E_yes, E_stN, E_stS, E_s0, E_sS, E_g0, E_gSx, E_w0, E_wS,
  Mem.put_same, Mem.put_put, Zq.fD, Zq.E_ord10, Zq.E_ord0, E_wSlice, E_oNone, E_kO, E_oSome, List.map_cons, List.map_nil, List.cons_append, List.nil_append, List.replicate, List.length_cons, List.length_nil, decide_eq_true_eq, Bool.false_eq_true, if_false, if_true, Nat.reduceAdd, Nat.reduceLeDiff, true_and, and_true, Option.map_some, Bool.not_true, Bool.not_false])
variable {M : Mem} {R : DK} {p : Addr} {n : Nat} {f g q r : Fr}
theorem heard_sign_ret {a : Pt} {e n m : Fr} {j k l i j' k' : Nat} (ha : OkP j k l i a) (he : IsF e) (hn : IsF n) (hm : IsF m) (be : Bn j' k' e) (bn : Bn j' k' n) (bm : Bn j' k' m) (h1 : 6 * k + 3 * i < 5000) (h2 : j + l < 10000) (h3 : 3 * k' < 5000) (h4 : j' < 10000)
    (h : ∀ M', Grow M M' → R (.int (hsg a (fR e) (fR n) (fR m))) M') : K6.W_heard_sign [ptD a, fD e, fD n, fD m] M R := by
  unfold K6.W_heard_sign
  walk_at "zr"
  refine need_point_ret ha fun M1 g1 => need_fraction_ret he (need_fraction_ret hn (need_fraction_ret hm ?_))
  exact sign_heard_ret ha he.1 hn.1 hm.1 be bn bm h1 h2 h3 h4 fun M2 g2 => h M2 (g1.trans g2)
theorem pair_times_bt {p q p' q' r : Fr} {i k l m : Nat} (bp : Bn i k p) (bq : Bn i k q) (bp' : Bn i k p') (bq' : Bn i k q') (br : Bn l m r) (hp : 0 < p.d) (hq : 0 < q.d) (hp' : 0 < p'.d) (hq' : 0 < q'.d) (hr : 0 < r.d) (hk : 8 * k + 2 * m < 8990) (hj : 8 * i + 8 * k + 2 * l + 2 * m < 400000)
    (h : ∀ A B : Fr, 0 < A.d → 0 < B.d → Bn (2 * i + 2 * k + l + m + 1) (4 * k + m) A → Bn (2 * i + 2 * k + 1) (4 * k) B → fR A = fR p * fR p' + fR q * fR q' * fR r → fR B = fR p * fR q' + fR q * fR p' → R (.tup [fD A, fD B]) M) : K3.W_law_pair_times [.tup [fD p, fD q], .tup [fD p', fD q'], fD r] M R := by
  unfold K3.W_law_pair_times
  walk_at "zq"
  have d1 := by_d hp hp'
  have d2 := by_d (by_d hq hq') hr
  have d3 := by_d hp hq'
  have d4 := by_d hq hp'
  have b1 := by_bn bp bp' hp hp'
  have b2 := by_bn (by_bn bq bq' hq hq') br (by_d hq hq') hr
  have b3 := by_bn bp bq' hp hq'
  have b4 := by_bn bq bp' hq hp'
  refine by_bt bp bp' hp hp' (by omega) (by omega) (by_bt bq bq' hq hq' (by omega) (by omega) (by_bt (by_bn bq bq' hq hq') br (by_d hq hq') hr (by omega) (by omega) (plus_bt b1 b2 d1 d2 (by omega) (by omega) ?_)))
  walk_at "zq"
  refine by_bt bp bq' hp hq' (by omega) (by omega) (by_bt bq bp' hq hp' (by omega) (by omega) (plus_bt b3 b4 d3 d4 (by omega) (by omega) ?_))
  refine h _ _ (plus_d d1 d2) (plus_d d3 d4) ((plus_bn (J := 2 * i + 2 * k + l + m) b1 b2 d1 d2 (by omega) (by omega)).mono (Nat.le_refl _) (by omega)) ((plus_bn (J := 2 * i + 2 * k) b3 b4 d3 d4 (by omega) (by omega)).mono (Nat.le_refl _) (by omega)) ?_ ?_
  · rw [fR_plus d1 d2, fR_by hp hp', fR_by (by_d hq hq') hr, fR_by hq hq']
  · rw [fR_plus d3 d4, fR_by hp hq', fR_by hq hp']
theorem law_heard_ret {a : Pt} {e n m : Fr} {j k l i j' k' : Nat} (ha : OkP j k l i a) (he : 0 < e.d) (hn : 0 < n.d) (hm : 0 < m.d) (be : Bn j' k' e) (bn : Bn j' k' n) (bm : Bn j' k' m) (h1 : 48 * (k + k') + 7 * i < 8990) (h2 : j + j' + l < 10000)
    (h : R (.int (hsg a (fR e) (fR n) (fR m))) M) : K6.W_law_heard [ptD a, fD e, fD n, fD m] M R := by
  unfold K6.W_law_heard ptD
  walk_at "zr"
  have dt := less_d ha.tp.1 hm
  have dx := less_d ha.xp.1 he
  have dy := less_d ha.yp.1 hn
  have q := ha.r.1
  obtain ⟨I, hI⟩ : ∃ I, I = j + j' + k + k' + 1 := ⟨_, rfl⟩
  obtain ⟨K, hK⟩ : ∃ K, K = k + k' := ⟨_, rfl⟩
  have bt : Bn I K (lessV a.tp m) := (less_bn (J := j + j' + k + k') ha.btp bm ha.tp.1 hm (by omega) (by omega)).mono (by omega) (by omega)
  have bx : Bn I K (lessV a.xp e) := (less_bn (J := j + j' + k + k') ha.bxp be ha.xp.1 he (by omega) (by omega)).mono (by omega) (by omega)
  have by' : Bn I K (lessV a.yp n) := (less_bn (J := j + j' + k + k') ha.byp bn ha.yp.1 hn (by omega) (by omega)).mono (by omega) (by omega)
  have bxq := ha.bxq.mono (show j ≤ I by omega) (show k ≤ K by omega)
  have byq := ha.byq.mono (show j ≤ I by omega) (show k ≤ K by omega)
  have btq := ha.btq.mono (show j ≤ I by omega) (show k ≤ K by omega)
  have vt := fR_less ha.tp.1 hm
  have vx := fR_less ha.xp.1 he
  have vy := fR_less ha.yp.1 hn
  refine less_bt ha.btp bm ha.tp.1 hm (by omega) (by omega) ?_
  generalize lessV a.tp m = t at *
  walk_at "zr"
  refine root_sign_bt (p1 := t) (q := a.tq) (r := a.r) bt btq ha.br dt ha.tq.1 q ha.r0 (by omega) (by omega) ?_
  have et : fR t + fR a.tq * Rl.rt (fR a.r) = rT a - fR m := by
    rw [vt]
    unfold rT
    grind
  rw [et]
  walk_at "zr"
  unfold hsg at h
  by_cases c : 0 < rT a - fR m
  · rw [if_pos (sgn_pos_iff.mpr c)]
    rw [if_pos c] at h
    exact h
  · rw [if_neg (fun z => c (sgn_pos_iff.mp z))]
    rw [if_neg c] at h
    refine less_bt (f := a.xp) (g := e) ha.bxp be ha.xp.1 he (by omega) (by omega) ?_
    generalize lessV a.xp e = x at *
    walk_at "zr"
    refine less_bt (f := a.yp) (g := n) ha.byp bn ha.yp.1 hn (by omega) (by omega) ?_
    generalize lessV a.yp n = y at *
    walk_at "zr"
    refine pair_times_bt (p := x) (q := a.xq) (p' := x) (q' := a.xq) (r := a.r) bx bxq bx bxq ha.br dx ha.xq.1 dx ha.xq.1 q (by omega) (by omega) fun A1 B1 da1 db1 ba1 bb1 va1 vb1 => ?_
    refine pair_times_bt (p := y) (q := a.yq) (p' := y) (q' := a.yq) (r := a.r) by' byq by' byq ha.br dy ha.yq.1 dy ha.yq.1 q (by omega) (by omega) fun A2 B2 da2 db2 ba2 bb2 va2 vb2 => ?_
    refine pair_times_bt (p := t) (q := a.tq) (p' := t) (q' := a.tq) (r := a.r) bt btq bt btq ha.br dt ha.tq.1 dt ha.tq.1 q (by omega) (by omega) fun A3 B3 da3 db3 ba3 bb3 va3 vb3 => ?_
    walk_at "zr"
    have ba := plus_bn (J := 2 * I + 6 * K + l + 2 * i + 1) ba1 ba2 da1 da2 (by omega) (by omega)
    have bb := plus_bn (J := 2 * I + 6 * K + 1) bb1 bb2 db1 db2 (by omega) (by omega)
    have dA := plus_d da1 da2
    have dB := plus_d db1 db2
    refine plus_bt ba1 ba2 da1 da2 (by omega) (by omega) (less_bt ba ba3 dA da3 (by omega) (by omega) ?_)
    walk_at "zr"
    refine plus_bt bb1 bb2 db1 db2 (by omega) (by omega) (less_bt bb bb3 dB db3 (by omega) (by omega) ?_)
    have bA := less_bn (J := 2 * I + 12 * K + l + 4 * i + 2) ba ba3 dA da3 (by omega) (by omega)
    have bB := less_bn (J := 2 * I + 12 * K + 2) bb bb3 dB db3 (by omega) (by omega)
    refine root_sign_bt bA bB ha.br (less_d dA da3) (less_d dB db3) q ha.r0 (by omega) (by omega) ?_
    rw [fR_less dA da3, fR_less dB db3, fR_plus da1 da2, fR_plus db1 db2, va1, va2, va3, vb1, vb2, vb3, vx, vy, vt]
    have w := Rl.rt_sq ((fR_nn q).mpr ha.r0)
    have tot : (fR a.xp - fR e) * (fR a.xp - fR e) + fR a.xq * fR a.xq * fR a.r + ((fR a.yp - fR n) * (fR a.yp - fR n) + fR a.yq * fR a.yq * fR a.r) - ((fR a.tp - fR m) * (fR a.tp - fR m) + fR a.tq * fR a.tq * fR a.r) +
        ((fR a.xp - fR e) * fR a.xq + fR a.xq * (fR a.xp - fR e) + ((fR a.yp - fR n) * fR a.yq + fR a.yq * (fR a.yp - fR n)) - ((fR a.tp - fR m) * fR a.tq + fR a.tq * (fR a.tp - fR m))) * Rl.rt (fR a.r) =
        (rX a - fR e) * (rX a - fR e) + (rY a - fR n) * (rY a - fR n) - (rT a - fR m) * (rT a - fR m) := by
      unfold rX rY rT
      generalize Rl.rt (fR a.r) = w' at *
      rw [← w]
      clear vx vy vt va1 va2 va3 vb1 vb2 vb3 et
      grind
    rw [tot]
    exact h
end K1


set_option Elab.async false
set_option linter.all false
set_option maxRecDepth 100000
set_option exponentiation.threshold 10000
namespace K1
open PySem PySem.Spec PyProof.Rows L2 Zq Zr
local macro_rules | `(tactic| walk_at "zq") => `(tactic| simp only [E_body, E_app, E_star, E_starT, E_gTLt, E_gTLl, E_kTL, E_isL, E_appK, E_kApp, E_fSl, E_kSl2, E_addl, E_kAddL, E_var0, E_varS, E_C, E_bin, E_test, E_kB, E_anil, E_acons, E_tup, E_lst, E_b, E_call, E_callK, E_neg, E_kNeg, E_tand, E_tor, E_tnot, E_and, E_or, E_kAnd, E_kOr, E_not, E_kNot, E_ifE, E_chain, E_kCh, E_isN, E_isN0, E_isNt, E_isNi, E_isNs, E_isNl, E_snil, E_scons, E_pass, E_brk, E_cnt, E_ret, E_retN, E_expr, E_if, E_asg, E_set, E_par, E_kPar, E_par3, E_kPar3, E_aug, E_kAug, E_gN, E_gN0, E_gNC, E_gT, E_gS, E_kS, E_kS0, E_kS1, E_kS2, E_sub, E_iadd, E_mul, E_div, E_mod, E_pow, E_lt, E_le, E_gt, E_ge, E_addi, E_adds, E_addt, E_eqi, E_eqs, E_eqb, E_nei, E_nes, E_kAt, E_ixt, E_ixr, E_ixl, E_kAtL, at0, at1, at2, at3, E_abs, E_max, E_min, E_inti, E_intb, E_str, E_dm, E_lent, E_lenr, E_lenl, E_kLen, E_gcd, E_sqrt, E_lcm2, E_lcm3, E_all, E_kAll, E_isii, E_isit, isi_ii, isi_ib, isi_tt, E_iQ, E_kIt, E_kIr, E_kIl, E_kIl', E_iR1, E_kR1, E_for, E_lc, E_lc0, E_lcS, E_kLc, E_yes, E_f0, E_fS, E_stN, E_stS, E_s0, E_sS, E_g0, E_gSx, E_w0, E_wS,
  Mem.put_same, Mem.put_put, Zq.fD, Zq.E_ord10, Zq.E_ord0, E_wSlice, E_oNone, E_kO, E_oSome, List.map_cons, List.map_nil, List.cons_append, List.nil_append, List.replicate, List.length_cons, List.length_nil, decide_eq_true_eq, Bool.false_eq_true, if_false, if_true, Nat.reduceAdd, Nat.reduceLeDiff, true_and, and_true, Option.map_some, Bool.not_true, Bool.not_false])
local macro_rules | `(tactic| walk_at "zr") => `(tactic| simp only [E_body, E_app, E_star, E_starT, E_gTLt, E_gTLl, E_kTL, E_isL, E_appK, E_kApp, E_fSl, E_kSl2, E_addl, E_kAddL, E_var0, E_varS, E_C, E_bin, E_test, E_kB, E_anil, E_acons, E_tup, E_lst, E_b, E_call, E_callK, E_neg, E_kNeg, E_tand, E_tor, E_tnot, E_and, E_or, E_kAnd, E_kOr, E_not, E_kNot, E_ifE, E_chain, E_kCh, E_isN, E_isN0, E_isNt, E_isNi, E_isNs, E_isNl, E_snil, E_scons, E_pass, E_brk, E_cnt, E_ret, E_retN, E_expr, E_if, E_asg, E_set, E_par, E_kPar, E_par3, E_kPar3, E_aug, E_kAug, E_gN, E_gN0, E_gNC, E_gT, E_gS, E_kS, E_kS0, E_kS1, E_kS2, E_sub, E_iadd, E_mul, E_div, E_mod, E_pow, E_lt, E_le, E_gt, E_ge, E_addi, E_adds, E_addt, E_eqi, E_eqs, E_eqb, E_nei, E_nes, E_kAt, E_ixt, E_ixr, E_ixl, E_kAtL, at0, at1, at2, at3, E_abs, E_max, E_min, E_inti, E_intb, E_str, E_dm, E_lent, E_lenr, E_lenl, E_kLen, E_gcd, E_sqrt, E_lcm2, E_lcm3, E_all, E_kAll, E_isii, E_isit, isi_ii, isi_ib, isi_tt, E_iQ, E_kIt, E_kIr, E_kIl, E_kIl', E_iR1, E_kR1, E_for, E_lc, E_lc0, E_lcS, E_kLc, E_yes, E_stN, E_stS, E_s0, E_sS, E_g0, E_gSx, E_w0, E_wS,
  Mem.put_same, Mem.put_put, Zq.fD, Zq.E_ord10, Zq.E_ord0, E_wSlice, E_oNone, E_kO, E_oSome, List.map_cons, List.map_nil, List.cons_append, List.nil_append, List.replicate, List.length_cons, List.length_nil, decide_eq_true_eq, Bool.false_eq_true, if_false, if_true, Nat.reduceAdd, Nat.reduceLeDiff, true_and, and_true, Option.map_some, Bool.not_true, Bool.not_false])
variable {M : Mem} {R : DK} {p : Addr} {n : Nat} {f g q r : Fr}
theorem floor_bt {P Q r : Fr} {m : Int} {i kp j kq k kr l c B : Nat} (hP : 0 < P.d) (hQ : 0 < Q.d) (hr : 0 < r.d) (r0 : 0 ≤ r.n) (bP : Bn i kp P) (bQ : Bn j kq Q) (br : Bn k kr r) (m0 : 0 < m) (m1 : m.natAbs < 2 ^ l) (l0 : 1 ≤ l) (hc : 2 * (j + l) + k ≤ 2 * c) (hB1 : i + l + 3 ≤ B) (hB2 : c + 3 ≤ B) (hs : 2 * c < 200000) (hk : 2 * (kp + 2) + 2 * (kq + 1) + kr + 10 < 8990) (hj : 2 * (i + l + B + kp + 4) + (2 * (j + l) + k) < 300000)
    (h : ∀ y : Int, Rl.iR y ≤ (fR P + fR Q * Rl.rt (fR r)) * Rl.iR m → (fR P + fR Q * Rl.rt (fR r)) * Rl.iR m < Rl.iR y + 1 → y.natAbs < 2 ^ B → R (.int y) M) : W_law_floor [.tup [fD P, fD Q, fD r], .int m] M R := by
  unfold W_law_floor
  walk_at "zr"
  have bm : Bn l 1 ⟨m, 1⟩ := bn_int m1 (by decide)
  have dm : (0 : Int) < (⟨m, 1⟩ : Fr).d := by show (0 : Int) < 1; decide
  refine by_bt (f := P) (g := ⟨m, 1⟩) bP bm hP dm (by omega) (by omega) ?_
  refine by_bt (f := Q) (g := ⟨m, 1⟩) bQ bm hQ dm (by omega) (by omega) ?_
  have bp := by_bn bP bm hP dm
  have bq := by_bn bQ bm hQ dm
  have dp := by_d (f := P) (g := ⟨m, 1⟩) hP dm
  have dq := by_d (f := Q) (g := ⟨m, 1⟩) hQ dm
  have vp : fR (byV P ⟨m, 1⟩) = fR P * Rl.iR m := by rw [fR_by hP dm, fR_int]
  have vq : fR (byV Q ⟨m, 1⟩) = fR Q * Rl.iR m := by rw [fR_by hQ dm, fR_int]
  have V : (fR P + fR Q * Rl.rt (fR r)) * Rl.iR m = fR (byV P ⟨m, 1⟩) + fR (byV Q ⟨m, 1⟩) * Rl.rt (fR r) := by
    rw [vp, vq]
    grind
  rw [V] at h
  clear vp vq V
  generalize byV P ⟨m, 1⟩ = x at *
  generalize byV Q ⟨m, 1⟩ = y at *
  try walk_at "zr"
  refine by_bt (f := y) (g := y) bq bq dq dq (by omega) (by omega) (by_bt (g := r) (by_bn bq bq dq dq) br (by_d dq dq) hr (by omega) (by omega) ?_)
  have sb : Bn (2 * c) (2 * (kq + 1) + kr) (byV (byV y y) r) := (by_bn (by_bn bq bq dq dq) br (by_d dq dq) hr).mono (by omega) (by omega)
  have sd := by_d (by_d dq dq) hr
  have sn : 0 ≤ (byV (byV y y) r).n := frac_nn (Int.mul_pos (by_d dq dq) hr) (Int.mul_nonneg (frac_nn (Int.mul_pos dq dq) (nn_mul_self _)) r0)
  have sv : fR (byV (byV y y) r) = fR y * fR y * fR r := by rw [fR_by (by_d dq dq) hr, fR_by dq dq]
  generalize byV (byV y y) r = s at *
  try walk_at "zr"
  have b2 := quot_bd sb.1 sn sd
  have n0 : 0 ≤ s.n / s.d := Int.ediv_nonneg sn (by omega)
  refine ⟨divW_of sd sb.2 (by omega), floor_root_isq n0 b2 (by omega) ?_⟩
  obtain ⟨i0, i1, i2⟩ := isq_spec n0
  have bz : (isq (s.n / s.d)).natAbs < 2 ^ c := root_bd i0 i1 b2
  obtain ⟨r1, r2⟩ := rt_floor sd sn
  obtain ⟨f1, f2⟩ := fR_floor dp
  have w1 : 0 ≤ fR r := (fR_nn hr).mpr r0
  have w2 := Rl.rt_sq w1
  have w3 := Rl.rt_nn (fR r)
  have big : 2 ^ c * 8 ≤ 2 ^ B := by
    rw [show 2 ^ c * 8 = 2 ^ (c + 3) by rw [Nat.pow_add]]
    exact Nat.pow_le_pow_right (by decide) hB2
  have big2 : 2 ^ (i + l) * 8 ≤ 2 ^ B := by
    rw [show 2 ^ (i + l) * 8 = 2 ^ (i + l + 3) from (Nat.pow_add 2 (i + l) 3).symm]
    exact Nat.pow_le_pow_right (by decide) hB1
  have pc : 0 < 2 ^ c := Nat.pow_pos (by decide)
  have pil : 2 ≤ 2 ^ (i + l) := Nat.le_trans (show 2 ≤ 2 ^ 1 by decide) (Nat.pow_le_pow_right (by decide) (by omega))
  have bx : (x.n / x.d).natAbs < 2 ^ (i + l) := Nat.lt_of_le_of_lt (Int.natAbs_ediv_le_natAbs x.n x.d) bp.1
  generalize isq (s.n / s.d) = z at *
  generalize x.n / x.d = xf at *
  try walk_at "zr"
  have main : ∀ (ds : List D) (i' : Nat) (v : Int) (o : Option D), ds.length + i' = 6 → v.natAbs < 2 ^ c + 2 ^ (i + l) + 2 + i' → Rl.iR v ≤ fR x + fR y * Rl.rt (fR r) → fR x + fR y * Rl.rt (fR r) < Rl.iR (v + (if i' < 2 then 3 - (i' : Int) else 1)) →
      forGo none (rangeD 0 (6 : Int).toNat) (gN 9) (sCons (sIf (wTest (wBin fGe (wCall W_law_root_sign (aCons (wCall W_law_less (aCons (wVar 3) (aCons (wTup (aCons (wBin fAdd (wVar 8) (wC (.int 1))) (aCons (wC (.int 1)) aNil))) aNil))) (aCons (wVar 4) (aCons (wVar 5) aNil)))) (wC (.int 0)))) (sCons (sSet 8 (wBin fAdd (wVar 8) (wC (.int 1)))) sNil) sNil) sNil)
        { nx := fun ρ' M' => sCons (sRet (wVar 8)) sNil { nx := fun _ M' => R .non M', rt := R } ρ' M', rt := R } ds
        [some (.tup [fD P, fD Q, fD r]), some (.int m), some (fD ⟨m, 1⟩), some (fD x), some (fD y), some (fD r), some (fD s), some (.int z), some (.int v), o] M := by
    intro ds
    induction ds with
    | nil =>
      intro i' v o hi hv v1 v2
      have : i' = 6 := by simpa using hi
      subst this
      walk_at "zq"
      refine h v v1 ?_ (bd_aux big big2 pil pc (by omega) hv).2
      rw [if_neg (by decide), Rl.iR_add, Rl.iR_one] at v2
      exact v2
    | cons d ds ih =>
      intro i' v o hi hv v1 v2
      rw [List.length_cons] at hi
      have ih' := fun v' hv' => ih (i' + 1) v' (some d) (by omega) hv'
      simp only [fD] at ih'
      walk_at "zq"
      have bv : Bn B 1 ⟨v + 1, 1⟩ := bn_int (bd_aux big big2 pil pc (by omega) hv).1 (by decide)
      have dv : (0 : Int) < (⟨v + 1, 1⟩ : Fr).d := by show (0 : Int) < 1; decide
      refine less_bt (f := x) (g := ⟨v + 1, 1⟩) bp bv dp dv (by omega) (by omega) ?_
      refine root_sign_bt (p1 := lessV x ⟨v + 1, 1⟩) (q := y) (r := r) (less_bn (J := i + l + B + kp + 2) bp bv dp dv (by omega) (by omega)) bq br (less_d dp dv) dq hr r0 (by omega) (by omega) ?_
      have sg : Rl.sgn (fR (lessV x ⟨v + 1, 1⟩) + fR y * Rl.rt (fR r)) = Rl.sgn (fR x + fR y * Rl.rt (fR r) - Rl.iR (v + 1)) := by
        rw [fR_less dp dv, fR_int]
        congr 1
        grind
      rw [sg]
      walk_at "zq"
      split
      · rename_i hge
        have hge := sgn_ge.mp hge
        refine ih' (v + 1) (bd_aux2 hv).1 (by grind) ?_
        have e : v + 1 + (if i' + 1 < 2 then 3 - ((i' + 1 : Nat) : Int) else 1) = v + (if i' < 2 then 3 - (i' : Int) else 1) ∨ (2 ≤ i') := by
          by_cases c0 : i' < 2
          · refine .inl ?_
            by_cases c1 : i' + 1 < 2
            · rw [if_pos c0, if_pos c1]
              omega
            · rw [if_pos c0, if_neg c1]
              omega
          · exact .inr (by omega)
        rcases e with e | e
        · rw [e]
          exact v2
        · rw [if_neg (by omega)] at v2
          exfalso
          grind
      · rename_i hge
        have hlt : fR x + fR y * Rl.rt (fR r) < Rl.iR (v + 1) := by
          have := fun z => hge (sgn_ge.mpr z)
          grind
        refine ih' v (bd_aux2 hv).2 v1 ?_
        have e : v + 1 ≤ v + (if i' + 1 < 2 then 3 - ((i' + 1 : Nat) : Int) else 1) := by split <;> omega
        have := Rl.iR_le.mpr e
        grind
  have fin : ∀ v : Int, v.natAbs < 2 ^ c + 2 ^ (i + l) + 2 → Rl.iR v ≤ fR x + fR y * Rl.rt (fR r) → fR x + fR y * Rl.rt (fR r) < Rl.iR (v + 3) → -(2 ^ 62) ≤ (6 : Int) ∧ (6 : Int) < 2 ^ 62 ∧ forGo none (rangeD 0 (6 : Int).toNat) (gN 9) (sCons (sIf (wTest (wBin fGe (wCall W_law_root_sign (aCons (wCall W_law_less (aCons (wVar 3) (aCons (wTup (aCons (wBin fAdd (wVar 8) (wC (.int 1))) (aCons (wC (.int 1)) aNil))) aNil))) (aCons (wVar 4) (aCons (wVar 5) aNil)))) (wC (.int 0)))) (sCons (sSet 8 (wBin fAdd (wVar 8) (wC (.int 1)))) sNil) sNil) sNil)
        { nx := fun ρ' M' => sCons (sRet (wVar 8)) sNil { nx := fun _ M' => R .non M', rt := R } ρ' M', rt := R } (rangeD 0 (6 : Int).toNat)
        [some (.tup [fD P, fD Q, fD r]), some (.int m), some (fD ⟨m, 1⟩), some (fD x), some (fD y), some (fD r), some (fD s), some (.int z), some (.int v), none] M := fun v hv v1 v2 =>
    ⟨by decide, by decide, main _ 0 v none (by rw [rangeD_length]; rfl) hv v1 (by rw [if_pos (by decide)]; exact v2)⟩
  simp only [fD] at fin
  refine ⟨divW_of dp bp.2 (by omega), ?_⟩
  have rts : Rl.rt (fR s) * Rl.rt (fR s) = fR s := Rl.rt_sq ((fR_nn sd).mpr sn)
  have rt0 := Rl.rt_nn (fR s)
  split
  · rename_i hy
    have y0 : 0 ≤ fR y := (fR_nn dq).mpr (by omega)
    have e : fR y * Rl.rt (fR r) = Rl.rt (fR s) := Rl.eq_of_sq (Rl.mul_nn y0 w3) rt0 (by grind)
    rw [e] at fin
    refine fin (xf + z - 1) (bd_aux3 bx bz).1 ?_ ?_
    · simp only [Rl.iR_add, Rl.iR_sub, Rl.iR_one]
      grind
    · have : xf + z - 1 + 3 = xf + z + 2 := by omega
      rw [this]
      simp only [Rl.iR_add, Rl.iR_two]
      grind
  · rename_i hy
    have y0 : 0 ≤ -fR y := by
      rcases sg_cases y.n with ⟨b, u⟩ | ⟨b, u⟩ | ⟨b, u⟩
      · omega
      · have := sgn_fR dq
        rw [u] at this
        rcases Rl.sgn_cases (fR y) with ⟨b', u'⟩ | ⟨b', u'⟩ | ⟨b', u'⟩ <;> grind
      · rw [(fR_zero dq).mpr b]
        grind
    have e : -fR y * Rl.rt (fR r) = Rl.rt (fR s) := Rl.eq_of_sq (Rl.mul_nn y0 w3) rt0 (by grind)
    have e2 : fR y * Rl.rt (fR r) = -Rl.rt (fR s) := by grind
    rw [e2] at fin
    refine fin (xf + (0 - z - 1) - 1) (bd_aux3 bx bz).2 ?_ ?_
    · simp only [Rl.iR_add, Rl.iR_sub, Rl.iR_one, Rl.iR_zero]
      grind
    · have : xf + (0 - z - 1) - 1 + 3 = xf - z + 1 := by omega
      rw [this]
      simp only [Rl.iR_add, Rl.iR_sub, Rl.iR_one]
      grind
end K1


set_option Elab.async false
set_option linter.all false
set_option maxRecDepth 100000
set_option exponentiation.threshold 10000
namespace K1
open PySem PySem.Spec PyProof.Rows L2 Zq Zr
local macro_rules | `(tactic| walk_at "zq") => `(tactic| simp only [E_body, E_app, E_star, E_starT, E_gTLt, E_gTLl, E_kTL, E_isL, E_appK, E_kApp, E_fSl, E_kSl2, E_addl, E_kAddL, E_var0, E_varS, E_C, E_bin, E_test, E_kB, E_anil, E_acons, E_tup, E_lst, E_b, E_call, E_callK, E_neg, E_kNeg, E_tand, E_tor, E_tnot, E_and, E_or, E_kAnd, E_kOr, E_not, E_kNot, E_ifE, E_chain, E_kCh, E_isN, E_isN0, E_isNt, E_isNi, E_isNs, E_isNl, E_snil, E_scons, E_pass, E_brk, E_cnt, E_ret, E_retN, E_expr, E_if, E_asg, E_set, E_par, E_kPar, E_par3, E_kPar3, E_aug, E_kAug, E_gN, E_gN0, E_gNC, E_gT, E_gS, E_kS, E_kS0, E_kS1, E_kS2, E_sub, E_iadd, E_mul, E_div, E_mod, E_pow, E_lt, E_le, E_gt, E_ge, E_addi, E_adds, E_addt, E_eqi, E_eqs, E_eqb, E_nei, E_nes, E_kAt, E_ixt, E_ixr, E_ixl, E_kAtL, at0, at1, at2, at3, E_abs, E_max, E_min, E_inti, E_intb, E_str, E_dm, E_lent, E_lenr, E_lenl, E_kLen, E_gcd, E_sqrt, E_lcm2, E_lcm3, E_all, E_kAll, E_isii, E_isit, isi_ii, isi_ib, isi_tt, E_iQ, E_kIt, E_kIr, E_kIl, E_kIl', E_iR1, E_kR1, E_for, E_lc, E_lc0, E_lcS, E_kLc, E_yes, E_f0, E_fS, E_stN, E_stS, E_s0, E_sS, E_g0, E_gSx, E_w0, E_wS,
  Mem.put_same, Mem.put_put, Zq.fD, Zq.E_ord10, Zq.E_ord0, E_wSlice, E_oNone, E_kO, E_oSome, List.map_cons, List.map_nil, List.cons_append, List.nil_append, List.replicate, List.length_cons, List.length_nil, decide_eq_true_eq, Bool.false_eq_true, if_false, if_true, Nat.reduceAdd, Nat.reduceLeDiff, true_and, and_true, Option.map_some, Bool.not_true, Bool.not_false])
local macro_rules | `(tactic| walk_at "zr") => `(tactic| simp only [E_body, E_app, E_star, E_starT, E_gTLt, E_gTLl, E_kTL, E_isL, E_appK, E_kApp, E_fSl, E_kSl2, E_addl, E_kAddL, E_var0, E_varS, E_C, E_bin, E_test, E_kB, E_anil, E_acons, E_tup, E_lst, E_b, E_call, E_callK, E_neg, E_kNeg, E_tand, E_tor, E_tnot, E_and, E_or, E_kAnd, E_kOr, E_not, E_kNot, E_ifE, E_chain, E_kCh, E_isN, E_isN0, E_isNt, E_isNi, E_isNs, E_isNl, E_snil, E_scons, E_pass, E_brk, E_cnt, E_ret, E_retN, E_expr, E_if, E_asg, E_set, E_par, E_kPar, E_par3, E_kPar3, E_aug, E_kAug, E_gN, E_gN0, E_gNC, E_gT, E_gS, E_kS, E_kS0, E_kS1, E_kS2, E_sub, E_iadd, E_mul, E_div, E_mod, E_pow, E_lt, E_le, E_gt, E_ge, E_addi, E_adds, E_addt, E_eqi, E_eqs, E_eqb, E_nei, E_nes, E_kAt, E_ixt, E_ixr, E_ixl, E_kAtL, at0, at1, at2, at3, E_abs, E_max, E_min, E_inti, E_intb, E_str, E_dm, E_lent, E_lenr, E_lenl, E_kLen, E_gcd, E_sqrt, E_lcm2, E_lcm3, E_all, E_kAll, E_isii, E_isit, isi_ii, isi_ib, isi_tt, E_iQ, E_kIt, E_kIr, E_kIl, E_kIl', E_iR1, E_kR1, E_for, E_lc, E_lc0, E_lcS, E_kLc, E_yes, E_stN, E_stS, E_s0, E_sS, E_g0, E_gSx, E_w0, E_wS,
  Mem.put_same, Mem.put_put, Zq.fD, Zq.E_ord10, Zq.E_ord0, E_wSlice, E_oNone, E_kO, E_oSome, List.map_cons, List.map_nil, List.cons_append, List.nil_append, List.replicate, List.length_cons, List.length_nil, decide_eq_true_eq, Bool.false_eq_true, if_false, if_true, Nat.reduceAdd, Nat.reduceLeDiff, true_and, and_true, Option.map_some, Bool.not_true, Bool.not_false])
variable {M : Mem} {R : DK} {p : Addr} {n : Nat} {f g q r : Fr}
theorem hsg_ge {a : Pt} {e n m : Rl} : 0 ≤ hsg a e n m ↔ m ≤ rT a + Rl.rt ((rX a - e) * (rX a - e) + (rY a - n) * (rY a - n)) := by
  have d0 : 0 ≤ (rX a - e) * (rX a - e) + (rY a - n) * (rY a - n) := by
    have h1 := Rl.sq_nn (rX a - e)
    have h2 := Rl.sq_nn (rY a - n)
    grind
  have w1 := Rl.rt_sq d0
  have w0 := Rl.rt_nn ((rX a - e) * (rX a - e) + (rY a - n) * (rY a - n))
  unfold hsg
  generalize (rX a - e) * (rX a - e) + (rY a - n) * (rY a - n) = d at *
  generalize Rl.rt d = w at *
  by_cases c : 0 < rT a - m
  · rw [if_pos c]
    constructor
    · intro _
      grind
    · intro _
      decide
  · rw [if_neg c, sgn_ge]
    constructor
    · intro h
      have := Rl.le_of_sq (a := m - rT a) (b := w) w0 (by grind)
      grind
    · intro h
      by_cases k : m - rT a = w
      · rw [← k] at w1
        grind
      · have := Rl.sq_lt (a := m - rT a) (b := w) (by grind) (by grind)
        grind
theorem point_ret (j : Jar M p n) (hn : n + 200 < 2 ^ 100) (h : ∀ a M', OkP 124 17 248 34 a → Jar M' p (n + 200) → GrowX p M M' → R (ptD a) M') : K6.W_law_point [.lst p] M R := by
  unfold K6.W_law_point
  walk_at "zr"
  refine rootable_bn j (by omega) fun r M1 hr br r0 j1 g1 => ?_
  walk_at "zr"
  refine some_bn j1 (by omega) fun x M2 hx bx j2 g2 => some_bn j2 (by omega) fun xq M3 hxq bxq j3 g3 => ?_
  walk_at "zr"
  refine some_bn j3 (by omega) fun y M4 hy by' j4 g4 => some_bn j4 (by omega) fun yq M5 hyq byq j5 g5 => ?_
  walk_at "zr"
  refine dip_ret' j5 (by omega) (by decide) (by decide) fun v M6 v0 v1 j6 g6 => ?_
  walk_at "zr"
  have g16 := g1.trans (g2.trans (g3.trans (g4.trans (g5.trans g6))))
  have last : ∀ xq yq : Fr, IsF xq → IsF yq → Bn 124 17 xq → Bn 124 17 yq → W_law_some [.lst p] M6 (fun d M1 => W_law_some [.lst p] M1 fun d_1 M2 => ∀ q, M2 q = none → W_law_one_of [.lst p, .lst q] (M2.put q [.tup [.int 0, .int 1], .tup [.int 1, .int 1], .tup [.int (-1), .int 1], .tup [.int 1, .int 2], d_1]) fun d_2 M1 =>
      R (.tup [.tup [fD x, fD xq], .tup [fD y, fD yq], .tup [d, d_2], fD r]) M1) := fun xq yq hxq hyq bxq byq => by
    refine some_bn j6 (by omega) fun t M7 ht bt j7 g7 => some_bn j7 (by omega) fun tq M8 htq btq j8 g8 => fun q hq => ?_
    refine one_of_new j8 (by omega) hq (by simp) (by simp) fun d M9 hd j9 g9 => ?_
    have : ∃ z : Fr, d = fD z ∧ IsF z ∧ Bn 124 17 z := by
      simp only [List.mem_cons, List.not_mem_nil, or_false] at hd
      rcases hd with rfl | rfl | rfl | rfl | rfl
      · exact ⟨⟨0, 1⟩, rfl, isF_one _, bn_int (by decide) (by decide)⟩
      · exact ⟨⟨1, 1⟩, rfl, isF_one _, bn_int (by decide) (by decide)⟩
      · exact ⟨⟨-1, 1⟩, rfl, isF_one _, bn_int (by decide) (by decide)⟩
      · exact ⟨⟨1, 2⟩, rfl, ⟨by decide, by decide⟩, ⟨by decide, by decide⟩⟩
      · exact ⟨tq, rfl, htq, btq⟩
    obtain ⟨z, rfl, hz, bz⟩ := this
    exact h ⟨x, xq, y, yq, t, z, r⟩ M9 ⟨hx, hxq, hy, hyq, ht, hz, hr, r0, bx, bxq, by', byq, bt, bz, br⟩ (j9.mono (by omega)) (g16.trans (g7.trans (g8.trans g9)))
  split
  · exact last ⟨0, 1⟩ ⟨0, 1⟩ (isF_one 0) (isF_one 0) (bn_int (by decide) (by decide)) (bn_int (by decide) (by decide))
  · exact last xq yq hxq hyq bxq byq
/-- when it is heard, in whole parts -/
theorem heard_floor_ret {a : Pt} {e n : Fr} {m : Int} {l B : Nat} (ha : OkP 124 17 248 34 a) (he : IsF e) (hn : IsF n) (be : Bn 124 17 e) (bn : Bn 124 17 n) (m0 : 0 < m) (m1 : m.natAbs < 2 ^ l) (l0 : 1 ≤ l) (hl : l ≤ 140) (hB : B = 1100)
    (h : ∀ y : Int, Rl.iR y ≤ (rT a + Rl.rt ((rX a - fR e) * (rX a - fR e) + (rY a - fR n) * (rY a - fR n))) * Rl.iR m → (rT a + Rl.rt ((rX a - fR e) * (rX a - fR e) + (rY a - fR n) * (rY a - fR n))) * Rl.iR m < Rl.iR y + 1 → y.natAbs < 2 ^ B → R (.int y) M) : K6.W_law_heard_floor [ptD a, fD e, fD n, .int m] M R := by
  unfold K6.W_law_heard_floor ptD
  walk_at "zr"
  have dx := less_d ha.xp.1 he.1
  have dy := less_d ha.yp.1 hn.1
  have q := ha.r.1
  have bx := less_bn (J := 141) ha.bxp be ha.xp.1 he.1 (by decide) (by decide)
  have by' := less_bn (J := 141) ha.byp bn ha.yp.1 hn.1 (by decide) (by decide)
  have vx := fR_less ha.xp.1 he.1
  have vy := fR_less ha.yp.1 hn.1
  refine less_bt (f := a.xp) (g := e) ha.bxp be ha.xp.1 he.1 (by decide) (by decide) ?_
  generalize lessV a.xp e = x at *
  walk_at "zr"
  refine less_bt (f := a.yp) (g := n) ha.byp bn ha.yp.1 hn.1 (by decide) (by decide) ?_
  generalize lessV a.yp n = y at *
  walk_at "zr"
  have bxq := ha.bxq.mono (show 124 ≤ 142 by decide) (show 17 ≤ 34 by decide)
  have byq := ha.byq.mono (show 124 ≤ 142 by decide) (show 17 ≤ 34 by decide)
  refine pair_times_bt (p := x) (q := a.xq) (p' := x) (q' := a.xq) (r := a.r) bx bxq bx bxq ha.br dx ha.xq.1 dx ha.xq.1 q (by decide) (by decide) fun A1 B1 da1 db1 ba1 bb1 va1 vb1 => ?_
  refine pair_times_bt (p := y) (q := a.yq) (p' := y) (q' := a.yq) (r := a.r) by' byq by' byq ha.br dy ha.yq.1 dy ha.yq.1 q (by decide) (by decide) fun A2 B2 da2 db2 ba2 bb2 va2 vb2 => ?_
  walk_at "zr"
  refine plus_bt ba1 ba2 da1 da2 (by decide) (by decide) ?_
  refine plus_bt bb1 bb2 db1 db2 (by decide) (by decide) ?_
  have dA := plus_d da1 da2
  have dB := plus_d db1 db2
  have bA := plus_bn (J := 1000) ba1 ba2 da1 da2 (by decide) (by decide)
  have bB := plus_bn (J := 1000) bb1 bb2 db1 db2 (by decide) (by decide)
  have vA := fR_plus da1 da2
  have vB := fR_plus db1 db2
  generalize plusV A1 A2 = A at *
  generalize plusV B1 B2 = Bq at *
  walk_at "zr"
  refine ⟨mulW_of m1 m1 (by omega), ?_⟩
  have mm0 : 0 < m * m := Int.mul_pos m0 m0
  have mm1 : (m * m).natAbs < 2 ^ 280 := lt_pow_add (bd_mul m1 m1) (by omega)
  refine floor_bt (P := A) (Q := Bq) (r := a.r) (l := 280) (c := 1500) (B := 1600) dA dB q ha.r0 bA bB ha.br mm0 mm1 (by decide) (by decide) (by decide) (by decide) (by decide) (by decide) (by decide) fun s s1 s2 s3 => ?_
  refine floor_bt (P := a.tp) (Q := a.tq) (r := a.r) (l := 140) (c := 600) (B := 700) ha.tp.1 ha.tq.1 q ha.r0 ha.btp ha.btq ha.br m0 (lt_pow_add m1 hl) (by decide) (by decide) (by decide) (by decide) (by decide) (by decide) (by decide) fun t t1 t2 t3 => ?_
  walk_at "zr"
  have w1 := Rl.rt_sq ((fR_nn q).mpr ha.r0)
  have d0 : 0 ≤ (rX a - fR e) * (rX a - fR e) + (rY a - fR n) * (rY a - fR n) := by
    have h1 := Rl.sq_nn (rX a - fR e)
    have h2 := Rl.sq_nn (rY a - fR n)
    grind
  have eD : fR A + fR Bq * Rl.rt (fR a.r) = (rX a - fR e) * (rX a - fR e) + (rY a - fR n) * (rY a - fR n) := by
    rw [vA, vB, va1, va2, vb1, vb2, vx, vy]
    unfold rX rY
    clear s1 s2 t1 t2 vA vB va1 va2 vb1 vb2 vx vy d0 h
    generalize Rl.rt (fR a.r) = w' at *
    rw [← w1]
    grind
  have eT : fR a.tp + fR a.tq * Rl.rt (fR a.r) = rT a := rfl
  rw [eD] at s1 s2
  rw [eT] at t1 t2
  have r1 := Rl.rt_sq d0
  have r0 := Rl.rt_nn ((rX a - fR e) * (rX a - fR e) + (rY a - fR n) * (rY a - fR n))
  have hge : ∀ mm : Rl, 0 ≤ hsg a (fR e) (fR n) mm ↔ mm ≤ rT a + Rl.rt ((rX a - fR e) * (rX a - fR e) + (rY a - fR n) * (rY a - fR n)) := fun mm => hsg_ge
  generalize (rX a - fR e) * (rX a - fR e) + (rY a - fR n) * (rY a - fR n) = D2 at *
  generalize Rl.rt D2 = w at *
  have M0 : 0 < Rl.iR m := Rl.iR_pos.mpr m0
  rw [Rl.iR_mul] at s1 s2
  have D0 : 0 ≤ D2 * (Rl.iR m * Rl.iR m) := Rl.mul_nn d0 (Rl.sq_nn _)
  have sp : 0 ≤ s := by
    have : Rl.iR 0 < Rl.iR (s + 1) := by
      rw [Rl.iR_zero, Rl.iR_add, Rl.iR_one]
      grind
    have := Rl.iR_lt.mp this
    omega
  have emax : (if s > 0 then s else 0) = s := by split <;> omega
  rw [emax]
  refine floor_root_isq sp s3 (by decide) ?_
  walk_at "zr"
  obtain ⟨z0, z1, z2⟩ := isq_spec sp
  have zb : (isq s).natAbs < 2 ^ 800 := root_bd z0 z1 s3
  have wm0 : 0 ≤ w * Rl.iR m := Rl.mul_nn r0 (by grind)
  have wm : w * Rl.iR m * (w * Rl.iR m) = D2 * (Rl.iR m * Rl.iR m) := by
    rw [← r1]
    grind
  have k1 := Rl.iR_le.mpr z1
  have k2 := Rl.iR_le.mpr (show s + 1 ≤ (isq s + 1) * (isq s + 1) by omega)
  have k0 := Rl.iR_nn.mpr z0
  generalize isq s = z at *
  simp only [Rl.iR_mul, Rl.iR_add, Rl.iR_one] at k1 k2
  have u1 : Rl.iR z ≤ w * Rl.iR m := Rl.le_of_sq wm0 (by rw [wm]; grind)
  have u2 : w * Rl.iR m < Rl.iR z + 1 := Rl.lt_of_sq (by grind) (by rw [wm]; grind)
  refine ⟨by decide, by decide, ?_⟩
  have main : ∀ (ds : List D) (i' : Nat) (v : Int) (o : Option D) (W : WEnds) (o8 o9 o10 o11 o12 : Option D) (all : List D), ds.length + i' = 4 → v.natAbs < 2 ^ 1000 + i' → Rl.iR v ≤ (rT a + w) * Rl.iR m → (rT a + w) * Rl.iR m < Rl.iR (v + (if i' < 2 then 3 - (i' : Int) else 1)) →
      (∀ v o, Rl.iR v ≤ (rT a + w) * Rl.iR m → (rT a + w) * Rl.iR m < Rl.iR v + 1 → v.natAbs < 2 ^ B → W.nx [some (ptD a), some (fD e), some (fD n), some (.int m), some (.tup [fD a.xp, fD a.xq]), some (.tup [fD a.yp, fD a.yq]), some (.tup [fD a.tp, fD a.tq]), some (fD a.r), o8, o9, o10, o11, o12, some (.int v), o] M) →
      forGo none all (gN 14) (sCons (sIf (wTest (wBin fGe (wCall K6.W_law_heard (aCons (wVar 0) (aCons (wVar 1) (aCons (wVar 2) (aCons (wCall K1.W_law_frac (aCons (wBin fAdd (wVar 13) (wC (.int 1))) (aCons (wVar 3) aNil))) aNil))))) (wC (.int 0)))) (sCons (sSet 13 (wBin fAdd (wVar 13) (wC (.int 1))))
    sNil) sNil)
    sNil) W ds
        [some (ptD a), some (fD e), some (fD n), some (.int m), some (.tup [fD a.xp, fD a.xq]), some (.tup [fD a.yp, fD a.yq]), some (.tup [fD a.tp, fD a.tq]), some (fD a.r), o8, o9, o10, o11, o12, some (.int v), o] M := by
    intro ds
    induction ds with
    | nil =>
      intro i' v o W o8 o9 o10 o11 o12 all hi hv v1 v2 hW
      have : i' = 4 := by simpa using hi
      subst this
      rw [E_f0]
      rw [if_neg (by decide), Rl.iR_add, Rl.iR_one] at v2
      refine ⟨trivial, hW v o v1 v2 ?_⟩
      rw [hB]
      exact Nat.lt_of_lt_of_le hv (Nat.le_trans (show 2 ^ 1000 + 4 ≤ 2 ^ 1001 by decide) (Nat.pow_le_pow_right (by decide) (by decide)))
    | cons d ds ih =>
      intro i' v o W o8 o9 o10 o11 o12 all hi hv v1 v2 hW
      rw [List.length_cons] at hi
      have hv1 : (v + 1).natAbs < 2 ^ 1001 := by
        refine Nat.lt_of_lt_of_le (show (v + 1).natAbs < 2 ^ 1000 + 5 by generalize 2 ^ 1000 = zz at *; omega) (by decide)
      have hfr := frac_bn (a := v + 1) (b := m) (j := 1001) (k := 141) (by omega) hv1 (lt_pow_add m1 (by omega))
      have dfr : 0 < (fracV (v + 1) m).d := d_of (by omega)
      have vfr := frac_fR (a := v + 1) (b := m) (by omega)
      rw [E_fS]
      refine ⟨trivial, ?_⟩
      rw [E_gN]
      walk_at "zr"
      refine frac_ret (by omega) (lt_pow_add m1 (by omega)) ?_
      refine law_heard_ret (e := e) (n := n) ha he.1 hn.1 dfr (be.mono (by decide) (by decide)) (bn.mono (by decide) (by decide)) hfr (by decide) (by decide) ?_
      walk_at "zr"
      have cmp : (0 ≤ hsg a (fR e) (fR n) (fR (fracV (v + 1) m))) ↔ Rl.iR (v + 1) ≤ (rT a + w) * Rl.iR m := by
        rw [hge, ← vfr]
        constructor
        · intro hle
          have := Rl.mul_nn (show 0 ≤ rT a + w - fR (fracV (v + 1) m) by grind) (show 0 ≤ Rl.iR m by grind)
          grind
        · intro hle
          refine Classical.byContradiction fun c => ?_
          have := Rl.mul_lt (show rT a + w < fR (fracV (v + 1) m) by grind) M0
          grind
      by_cases hc : 0 ≤ hsg a (fR e) (fR n) (fR (fracV (v + 1) m))
      · rw [if_pos hc]
        have hge := cmp.mp hc
        refine ih (i' + 1) (v + 1) _ W _ _ _ _ _ all (by omega) (by generalize 2 ^ 1000 = zz at *; omega) hge ?_ hW
        have e : v + 1 + (if i' + 1 < 2 then 3 - ((i' + 1 : Nat) : Int) else 1) = v + (if i' < 2 then 3 - (i' : Int) else 1) ∨ (2 ≤ i') := by
          by_cases c0 : i' < 2
          · refine .inl ?_
            by_cases c1 : i' + 1 < 2
            · rw [if_pos c0, if_pos c1]
              omega
            · rw [if_pos c0, if_neg c1]
              omega
          · exact .inr (by omega)
        rcases e with e | e
        · rw [e]
          exact v2
        · rw [if_neg (by omega)] at v2
          exfalso
          grind
      · rw [if_neg hc]
        have hlt : (rT a + w) * Rl.iR m < Rl.iR (v + 1) := by
          have := fun z => hc (cmp.mpr z)
          grind
        refine ih (i' + 1) v _ W _ _ _ _ _ all (by omega) (by omega) v1 ?_ hW
        have e : v + 1 ≤ v + (if i' + 1 < 2 then 3 - ((i' + 1 : Nat) : Int) else 1) := by split <;> omega
        have := Rl.iR_le.mpr e
        grind
  have hv0 : (t + z - 1).natAbs < 2 ^ 1000 + 0 := by
    have e1 : 2 ^ 700 ≤ 2 ^ 998 := Nat.pow_le_pow_right (by decide) (by decide)
    have e2 : 2 ^ 800 ≤ 2 ^ 998 := Nat.pow_le_pow_right (by decide) (by decide)
    have e3 : 2 ^ 1000 = 2 ^ 998 * 4 := by rw [show 1000 = 998 + 2 by rfl, Nat.pow_add]
    have e4 : 1 ≤ 2 ^ 998 := Nat.pow_pos (by decide)
    rw [e3]
    generalize 2 ^ 998 = zz at *
    generalize 2 ^ 700 = za at *
    generalize 2 ^ 800 = zb' at *
    omega
  refine main _ 0 (t + z - 1) none _ _ _ _ _ _ _ (by rw [rangeD_length]; rfl) hv0 ?_ ?_ fun v o k1 k2 k3 => ?_
  · simp only [Rl.iR_sub, Rl.iR_add, Rl.iR_one]
    grind
  · rw [if_pos (by decide), show t + z - 1 + (3 - ((0 : Nat) : Int)) = t + z + 2 by omega]
    simp only [Rl.iR_add, Rl.iR_two]
    grind
  · walk_at "zr"
    exact h v k1 k2 k3
end K1


set_option Elab.async false
set_option linter.all false
set_option maxRecDepth 100000
set_option exponentiation.threshold 10000
namespace K1
open PySem PySem.Spec PyProof.Rows L2 Zq Zr
local macro_rules | `(tactic| walk_at "zq") => `(tactic| simp only [E_body, E_app, E_star, E_starT, E_gTLt, E_gTLl, E_kTL, E_isL, E_appK, E_kApp, E_fSl, E_kSl2, E_addl, E_kAddL, E_var0, E_varS, E_C, E_bin, E_test, E_kB, E_anil, E_acons, E_tup, E_lst, E_b, E_call, E_callK, E_neg, E_kNeg, E_tand, E_tor, E_tnot, E_and, E_or, E_kAnd, E_kOr, E_not, E_kNot, E_ifE, E_chain, E_kCh, E_isN, E_isN0, E_isNt, E_isNi, E_isNs, E_isNl, E_snil, E_scons, E_pass, E_brk, E_cnt, E_ret, E_retN, E_expr, E_if, E_asg, E_set, E_par, E_kPar, E_par3, E_kPar3, E_aug, E_kAug, E_gN, E_gN0, E_gNC, E_gT, E_gS, E_kS, E_kS0, E_kS1, E_kS2, E_sub, E_iadd, E_mul, E_div, E_mod, E_pow, E_lt, E_le, E_gt, E_ge, E_addi, E_adds, E_addt, E_eqi, E_eqs, E_eqb, E_nei, E_nes, E_kAt, E_ixt, E_ixr, E_ixl, E_kAtL, at0, at1, at2, at3, E_abs, E_max, E_min, E_inti, E_intb, E_str, E_dm, E_lent, E_lenr, E_lenl, E_kLen, E_gcd, E_sqrt, E_lcm2, E_lcm3, E_all, E_kAll, E_isii, E_isit, isi_ii, isi_ib, isi_tt, E_iQ, E_kIt, E_kIr, E_kIl, E_kIl', E_iR1, E_kR1, E_for, E_lc, E_lc0, E_lcS, E_kLc, E_yes, E_f0, E_fS, E_stN, E_stS, E_s0, E_sS, E_g0, E_gSx, E_w0, E_wS,
  Mem.put_same, Mem.put_put, Zq.fD, Zq.E_ord10, Zq.E_ord0, E_wSlice, E_oNone, E_kO, E_oSome, List.map_cons, List.map_nil, List.cons_append, List.nil_append, List.replicate, List.length_cons, List.length_nil, decide_eq_true_eq, Bool.false_eq_true, if_false, if_true, Nat.reduceAdd, Nat.reduceLeDiff, true_and, and_true, Option.map_some, Bool.not_true, Bool.not_false])
local macro_rules | `(tactic| walk_at "zr") => `(tactic| simp only [E_body, E_app, E_star, E_starT, E_gTLt, E_gTLl, E_kTL, E_isL, E_appK, E_kApp, E_fSl, E_kSl2, E_addl, E_kAddL, E_var0, E_varS, E_C, E_bin, E_test, E_kB, E_anil, E_acons, E_tup, E_lst, E_b, E_call, E_callK, E_neg, E_kNeg, E_tand, E_tor, E_tnot, E_and, E_or, E_kAnd, E_kOr, E_not, E_kNot, E_ifE, E_chain, E_kCh, E_isN, E_isN0, E_isNt, E_isNi, E_isNs, E_isNl, E_snil, E_scons, E_pass, E_brk, E_cnt, E_ret, E_retN, E_expr, E_if, E_asg, E_set, E_par, E_kPar, E_par3, E_kPar3, E_aug, E_kAug, E_gN, E_gN0, E_gNC, E_gT, E_gS, E_kS, E_kS0, E_kS1, E_kS2, E_sub, E_iadd, E_mul, E_div, E_mod, E_pow, E_lt, E_le, E_gt, E_ge, E_addi, E_adds, E_addt, E_eqi, E_eqs, E_eqb, E_nei, E_nes, E_kAt, E_ixt, E_ixr, E_ixl, E_kAtL, at0, at1, at2, at3, E_abs, E_max, E_min, E_inti, E_intb, E_str, E_dm, E_lent, E_lenr, E_lenl, E_kLen, E_gcd, E_sqrt, E_lcm2, E_lcm3, E_all, E_kAll, E_isii, E_isit, isi_ii, isi_ib, isi_tt, E_iQ, E_kIt, E_kIr, E_kIl, E_kIl', E_iR1, E_kR1, E_for, E_lc, E_lc0, E_lcS, E_kLc, E_yes, E_stN, E_stS, E_s0, E_sS, E_g0, E_gSx, E_w0, E_wS,
  Mem.put_same, Mem.put_put, Zq.fD, Zq.E_ord10, Zq.E_ord0, E_wSlice, E_oNone, E_kO, E_oSome, List.map_cons, List.map_nil, List.cons_append, List.nil_append, List.replicate, List.length_cons, List.length_nil, decide_eq_true_eq, Bool.false_eq_true, if_false, if_true, Nat.reduceAdd, Nat.reduceLeDiff, true_and, and_true, Option.map_some, Bool.not_true, Bool.not_false])
variable {M : Mem} {R : DK} {p : Addr} {n : Nat} {f g q r : Fr}
theorem hsg3 (a : Pt) (e n m : Rl) : hsg a e n m = 1 ∨ hsg a e n m = -1 ∨ hsg a e n m = 0 := by
  unfold hsg
  split
  · exact .inl rfl
  · exact Rl.sgn3 _
theorem E_ord3210 {x y z w : D} : ordD [3, 2, 1, 0] [x, y, z, w] = [w, z, y, x] := rfl
theorem rep3 {x : Int} (h : x = 1 ∨ x = -1 ∨ x = 0) : Rep 1922 0 (.int x) := by
  refine rep_int ?_
  rcases h with e | e | e <;> rw [e] <;> exact Nat.lt_of_lt_of_le (show _ < 2 ^ 2 by decide) (Nat.pow_le_pow_right (by decide) (by decide))
theorem pyD_list' {l : Addr} {L : List D} {P : List PyData} (h : M l = some L) (hL : pyDs M 199 L = some P) : pyD M 200 (.lst l) = some (.list P) := by
  show pyD M (199 + 1) (.lst l) = _
  unfold pyD
  rw [h]
  simp only [hL, Option.map_some]
theorem same_ints2 {l q : Addr} {x y : Int} (h1 : M l = some [.int x, .int y]) (h2 : M q = some [.int x, .int y]) (hx : x = 1 ∨ x = -1 ∨ x = 0) (hy : y = 1 ∨ y = -1 ∨ y = 0) (h : R (.bl true) M) : W_law_same [.lst l, .lst q] M R := by
  have hL : pyDs M 199 [.int x, .int y] = some [.int x, .int y] := by simp [pyD, pyDs]
  exact same_ret (pyD_list' h1 hL) (pyD_list' h2 hL) (rep_lst (repAll_cons (rep3 hx) (repAll_cons (rep3 hy) repAll_nil))) (by decide) (by decide) h
theorem same_int1 {x : Int} (hx : x = 1 ∨ x = -1 ∨ x = 0) (h : R (.bl true) M) : W_law_same [.int x, .int x] M R := same_ret (pyD_int _) (pyD_int _) (rep3 hx) (by decide) (by decide) h
/-- a point that is heard just so -/
theorem hsg_tight {b : Pt} {e n m d : Rl} (h : rT b = m - Rl.rt ((rX b - e) * (rX b - e) + (rY b - n) * (rY b - n))) : hsg b e n (m + d) = -Rl.sgn d := by
  have d0 : 0 ≤ (rX b - e) * (rX b - e) + (rY b - n) * (rY b - n) := by
    have h1 := Rl.sq_nn (rX b - e)
    have h2 := Rl.sq_nn (rY b - n)
    grind
  have w1 := Rl.rt_sq d0
  have w0 := Rl.rt_nn ((rX b - e) * (rX b - e) + (rY b - n) * (rY b - n))
  unfold hsg
  rw [h]
  generalize (rX b - e) * (rX b - e) + (rY b - n) * (rY b - n) = dd at *
  generalize Rl.rt dd = w at *
  have e1 : m - w - (m + d) = -(w + d) := by grind
  rw [e1]
  have e2 : dd - -(w + d) * -(w + d) = -(d * (w + (w + d))) := by
    rw [← w1]
    grind
  rw [e2]
  rcases Rl.sgn_cases d with ⟨c, k⟩ | ⟨c, k⟩ | ⟨c, k⟩
  · rw [if_neg (by grind), k, Rl.sgn_neg]
    have := Rl.mul_pos c (show 0 < w + (w + d) by grind)
    grind
  · rw [k]
    by_cases z : 0 < -(w + d)
    · rw [if_pos z]
      rfl
    · rw [if_neg z, Rl.sgn_pos]
      · rfl
      · by_cases z2 : 0 < w + (w + d)
        · have := Rl.mul_pos (show 0 < -d by grind) z2
          grind
        · exfalso
          grind
  · rw [c, if_neg (by grind), Rl.sgn_zero, show -((0 : Rl) * (w + (w + 0))) = 0 by grind, Rl.sgn_zero]
    rfl
theorem is_told_ret {a : Pt} {e n m : Fr} {j k l i j' k' : Nat} (ha : OkP j k l i a) (he : IsF e) (hn : IsF n) (hm : IsF m) (be : Bn j' k' e) (bn : Bn j' k' n) (bm : Bn j' k' m) (h1 : 48 * (k + k') + 7 * i < 8990) (h2 : j + j' + l < 10000) (h3 : 6 * k + 3 * i < 5000) (h4 : 3 * k' < 5000)
    (h : ∀ M', Grow M M' → R (.bl true) M') : K6.W_law_is_told [ptD a, fD e, fD n, fD m] M R := by
  unfold K6.W_law_is_told
  try walk_at "zr"
  refine law_heard_ret ha he.1 hn.1 hm.1 be bn bm h1 h2 ?_
  try skip
  try walk_at "zr"
  refine heard_sign_ret ha he hn hm be bn bm h3 (by omega) h4 (by omega) fun M1 g1 => ?_
  rw [E_ord3210]
  refine heard_sign_ret ha he hn hm be bn bm h3 (by omega) h4 (by omega) fun M2 g2 => ?_
  intro l1 hl1 l2 hl2
  have ga := Grow.put (ds := [.int (hsg a (fR e) (fR n) (fR m)), .int (hsg a (fR e) (fR n) (fR m))]) hl1
  have gb := Grow.put (ds := [.int (hsg a (fR e) (fR n) (fR m)), .int (hsg a (fR e) (fR n) (fR m))]) hl2
  have s1 := gb _ _ (show (M2.put l1 [.int (hsg a (fR e) (fR n) (fR m)), .int (hsg a (fR e) (fR n) (fR m))]) l1 = _ from Mem.put_same)
  exact same_ints2 s1 Mem.put_same (hsg3 _ _ _ _) (hsg3 _ _ _ _) (h _ (g1.trans (g2.trans (ga.trans gb))))
theorem tight_ret {e n' m : Fr} (j : Jar M p n) (hn : n + 60 < 2 ^ 100) (he : IsF e) (hn' : IsF n') (hm : IsF m) (be : Bn 124 17 e) (bn : Bn 124 17 n') (bm : Bn 124 17 m)
    (h : ∀ b M', OkP 124 17 400 136 b → rT b = fR m - Rl.rt ((rX b - fR e) * (rX b - fR e) + (rY b - fR n') * (rY b - fR n')) → Jar M' p (n + 60) → GrowX p M M' → R (ptD b) M') : K6.W_law_tight_point [.lst p, fD e, fD n', fD m] M R := by
  unfold K6.W_law_tight_point
  try walk_at "zr"
  refine some_bn j (by omega) fun x M1 hx bx j1 g1 => some_bn j1 (by omega) fun y M2 hy by' j2 g2 => ?_
  try walk_at "zr"
  have d1 := less_d hx.1 he.1
  have d2 := less_d hy.1 hn'.1
  have b1 := less_bn (J := 141) bx be hx.1 he.1 (by decide) (by decide)
  have b2 := less_bn (J := 141) by' bn hy.1 hn'.1 (by decide) (by decide)
  refine less_bt (f := x) (g := e) bx be hx.1 he.1 (by decide) (by decide) (less_bt (f := y) (g := n') by' bn hy.1 hn'.1 (by decide) (by decide) ?_)
  try walk_at "zr"
  have v1 := fR_less hx.1 he.1
  have v2 := fR_less hy.1 hn'.1
  refine by_bt (f := lessV x e) (g := lessV x e) b1 b1 d1 d1 (by decide) (by decide) (by_bt (f := lessV y n') (g := lessV y n') b2 b2 d2 d2 (by decide) (by decide) (plus_bt (by_bn b1 b1 d1 d1) (by_bn b2 b2 d2 d2) (by_d d1 d1) (by_d d2 d2) (by decide) (by decide) ?_))
  try walk_at "zr"
  have bs := plus_bn (J := 360) (by_bn b1 b1 d1 d1) (by_bn b2 b2 d2 d2) (by_d d1 d1) (by_d d2 d2) (by decide) (by decide)
  have fs : IsF (plusV (byV (lessV x e) (lessV x e)) (byV (lessV y n') (lessV y n'))) := frac_isF (mul_ne (by_d d1 d1) (by_d d2 d2))
  have vs : fR (plusV (byV (lessV x e) (lessV x e)) (byV (lessV y n') (lessV y n'))) = (fR x - fR e) * (fR x - fR e) + (fR y - fR n') * (fR y - fR n') := by
    rw [fR_plus (by_d d1 d1) (by_d d2 d2), fR_by d1 d1, fR_by d2 d2, v1, v2]
  generalize plusV (byV (lessV x e) (lessV x e)) (byV (lessV y n') (lessV y n')) = s at *
  have z0 : fR ⟨0, 1⟩ = 0 := fR_zero_int
  have zm : fR ⟨-1, 1⟩ = -1 := by
    rw [fR_int, Rl.iR_neg, Rl.iR_one]
  have s0 : 0 ≤ fR s := by
    rw [vs]
    have h1 := Rl.sq_nn (fR x - fR e)
    have h2 := Rl.sq_nn (fR y - fR n')
    grind
  refine h ⟨x, ⟨0, 1⟩, y, ⟨0, 1⟩, m, ⟨-1, 1⟩, s⟩ M2 ⟨hx, isF_one 0, hy, isF_one 0, hm, isF_one (-1), fs, (fR_nn fs.1).mp s0, bx, bn_int (by decide) (by decide), by', bn_int (by decide) (by decide), bm, bn_int (by decide) (by decide), bs.mono (by decide) (by decide)⟩ ?_ (j2.mono (by omega)) (g1.trans g2)
  have ex : rX ⟨x, ⟨0, 1⟩, y, ⟨0, 1⟩, m, ⟨-1, 1⟩, s⟩ = fR x := by
    show fR x + fR ⟨0, 1⟩ * _ = _
    rw [z0]
    grind
  have ey : rY ⟨x, ⟨0, 1⟩, y, ⟨0, 1⟩, m, ⟨-1, 1⟩, s⟩ = fR y := by
    show fR y + fR ⟨0, 1⟩ * _ = _
    rw [z0]
    grind
  rw [ex, ey, ← vs]
  show fR m + fR ⟨-1, 1⟩ * Rl.rt (fR s) = _
  rw [zm]
  grind
theorem sg1_ret {d : D} (h : d ∈ ([.int 1, .int (-1)] : List D)) : ∃ x : Int, d = .int x ∧ x * x = 1 ∧ x.natAbs = 1 := by
  simp only [List.mem_cons, List.not_mem_nil, or_false] at h
  rcases h with rfl | rfl <;> exact ⟨_, rfl, by decide, by decide⟩
theorem pyth_ret (j : Jar M p n) (hn : n + 60 < 2 ^ 100) (h : ∀ (o u l : Fr) M', IsF o → IsF u → IsF l → Bn 40 10 o → Bn 40 10 u → Bn 40 10 l → 0 < fR l → fR o * fR o + fR u * fR u = fR l * fR l → Jar M' p (n + 60) → GrowX p M M' → R (.tup [fD o, fD u, fD l]) M') : K6.W_law_pythagoras [.lst p] M R := by
  unfold K6.W_law_pythagoras
  try walk_at "zr"
  refine dip_ret' j (by omega) (by decide) (by decide) fun m M1 m0 m1 j1 g1 => ?_
  try walk_at "zr"
  refine dip_ret' j1 (by omega) (by omega) (by omega) fun k M2 k0 k1 j2 g2 => ?_
  try walk_at "zr"
  have mm : (1 + m).natAbs < 2 ^ 10 := by omega
  have kk : k.natAbs < 2 ^ 10 := by omega
  have c1 := mulW_of mm mm (by decide)
  have c2 := mulW_of kk kk (by decide)
  refine ⟨c1, c2, mulW_of (a := 2) (by decide) mm (by decide), mulW_of (bd_mul (j := 2) (by decide) mm) kk (by decide), c1, c2, ?_⟩
  have pyt : ((1 + m) * (1 + m) - k * k) * ((1 + m) * (1 + m) - k * k) + 2 * (1 + m) * k * (2 * (1 + m) * k) = ((1 + m) * (1 + m) + k * k) * ((1 + m) * (1 + m) + k * k) := by grind
  have cp : 0 < (1 + m) * (1 + m) + k * k := by
    have h1 := Int.mul_pos (show 0 < 1 + m by omega) (show 0 < 1 + m by omega)
    have h2 := Int.mul_nonneg k0 k0
    omega
  have ba : ((1 + m) * (1 + m) - k * k).natAbs < 2 ^ 24 := lt_pow_add (bd_sub (bd_mul mm mm) (bd_mul kk kk)) (by decide)
  have bb : (2 * (1 + m) * k).natAbs < 2 ^ 24 := lt_pow_add (bd_mul (bd_mul (j := 2) (by decide) mm) kk) (by decide)
  have bc : ((1 + m) * (1 + m) + k * k).natAbs < 2 ^ 24 := lt_pow_add (bd_add (bd_mul mm mm) (bd_mul kk kk)) (by decide)
  generalize (1 + m) * (1 + m) - k * k = a at *
  generalize 2 * (1 + m) * k = b at *
  generalize (1 + m) * (1 + m) + k * k = c at *
  refine dip_ret' j2 (by omega) (by decide) (by decide) fun v M3 v0 v1 j3 g3 => ?_
  try walk_at "zr"
  have rest : ∀ a b : Int, a * a + b * b = c * c → a.natAbs < 2 ^ 24 → b.natAbs < 2 ^ 24 → W_law_dip [.lst p, .int 4] M3 (fun y M2 => fAdd (.int 1) y M2 fun d M1 => ∀ q, M1 q = none → W_law_one_of [.lst p, .lst q] (M1.put q [.int 1, .int 1, .int 2, .int 3]) fun d_1 M1 => W_law_frac [d, d_1] M1 fun d M1 =>
      ∀ q, M1 q = none → W_law_one_of [.lst p, .lst q] (M1.put q [.int 1, .int (-1)]) fun y M2 => fMul (.int a) y M2 fun d_2 M1 => ∀ q, M1 q = none → W_law_one_of [.lst p, .lst q] (M1.put q [.int 1, .int (-1)]) fun y M2 => fMul (.int b) y M2 fun d_3 M1 =>
      W_law_by [.tup [d_2, .int 1], d] M1 fun d_4 M1 => W_law_by [.tup [d_3, .int 1], d] M1 fun d_5 M1 => W_law_by [.tup [.int c, .int 1], d] M1 fun d_6 M1 => R (.tup [d_4, d_5, d_6]) M1) := fun a b pyt ba bb => by
    refine dip_ret' j3 (by omega) (by decide) (by decide) fun w M4 w0 w1 j4 g4 => ?_
    try walk_at "zr"
    intro q1 hq1
    refine one_of_new j4 (by omega) hq1 (by simp) (by simp) fun d M5 hd j5 g5 => ?_
    have : ∃ x : Int, d = .int x ∧ 0 < x ∧ x < 4 := by
      simp only [List.mem_cons, List.not_mem_nil, or_false] at hd
      rcases hd with rfl | rfl | rfl | rfl <;> exact ⟨_, rfl, by decide, by decide⟩
    obtain ⟨x, rfl, x0, x1⟩ := this
    refine frac_ret (by omega) (by omega) ?_
    have fz := frac_isF (a := 1 + w) (b := x) (by omega)
    have bz := frac_bn (a := 1 + w) (b := x) (j := 4) (k := 4) (by omega) (by omega) (by omega)
    have vz := frac_fR (a := 1 + w) (b := x) (by omega)
    have zp : 0 < fR (fracV (1 + w) x) := by
      have h1 := Rl.iR_pos.mpr (show 0 < 1 + w by omega)
      have h2 := Rl.iR_pos.mpr x0
      rw [← vz] at h1
      refine Classical.byContradiction fun c => ?_
      have := Rl.mul_nn (show 0 ≤ -fR (fracV (1 + w) x) by grind) (show 0 ≤ Rl.iR x by grind)
      grind
    generalize fracV (1 + w) x = z at *
    intro q2 hq2
    refine one_of_new j5 (by omega) hq2 (by simp) (by simp) fun d M6 hd j6 g6 => ?_
    obtain ⟨s1, rfl, s2, s3⟩ := sg1_ret hd
    try walk_at "zr"
    refine ⟨mulW_of ba (b := 2) (by omega) (by decide), fun q3 hq3 => ?_⟩
    refine one_of_new j6 (by omega) hq3 (by simp) (by simp) fun d M7 hd j7 g7 => ?_
    obtain ⟨t1, rfl, t2, t3⟩ := sg1_ret hd
    try walk_at "zr"
    refine ⟨mulW_of bb (b := 2) (by omega) (by decide), ?_⟩
    have one : ∀ x : Int, (0 : Int) < (⟨x, 1⟩ : Fr).d := fun x => by show (0 : Int) < 1; decide
    have o1 : Bn 28 1 ⟨a * s1, 1⟩ := bn_int (lt_pow_add (bd_mul ba (show s1.natAbs < 2 ^ 1 by omega)) (by decide)) (by decide)
    have o2 : Bn 28 1 ⟨b * t1, 1⟩ := bn_int (lt_pow_add (bd_mul bb (show t1.natAbs < 2 ^ 1 by omega)) (by decide)) (by decide)
    have o3 : Bn 28 1 ⟨c, 1⟩ := bn_int (lt_pow_add bc (by decide)) (by decide)
    refine by_bt (f := ⟨a * s1, 1⟩) (g := z) o1 bz (one _) fz.1 (by decide) (by decide) (by_bt (f := ⟨b * t1, 1⟩) (g := z) o2 bz (one _) fz.1 (by decide) (by decide) (by_bt (f := ⟨c, 1⟩) (g := z) o3 bz (one _) fz.1 (by decide) (by decide) ?_))
    refine h _ _ _ M7 (frac_isF (mul_ne (one _) fz.1)) (frac_isF (mul_ne (one _) fz.1)) (frac_isF (mul_ne (one _) fz.1)) ((by_bn o1 bz (one _) fz.1).mono (by decide) (by decide)) ((by_bn o2 bz (one _) fz.1).mono (by decide) (by decide)) ((by_bn o3 bz (one _) fz.1).mono (by decide) (by decide)) ?_ ?_ (j7.mono (by omega)) (g1.trans (g2.trans (g3.trans (g4.trans (g5.trans (g6.trans g7))))))
    · rw [fR_by (one _) fz.1, fR_int]
      exact Rl.mul_pos (Rl.iR_pos.mpr cp) zp
    · rw [fR_by (one _) fz.1, fR_by (one _) fz.1, fR_by (one _) fz.1, fR_int, fR_int, fR_int]
      have e1 := congrArg Rl.iR s2
      have e2 := congrArg Rl.iR t2
      have e3 := congrArg Rl.iR pyt
      simp only [Rl.iR_mul, Rl.iR_add, Rl.iR_one] at e1 e2 e3 ⊢
      clear vz
      grind
  split
  · try walk_at "zr"
    have := rest a b pyt ba bb
    exact this
  · try walk_at "zr"
    have := rest b a (by omega) bb ba
    exact this
end K1


set_option Elab.async false
set_option linter.all false
set_option maxRecDepth 100000
set_option exponentiation.threshold 10000
namespace K1
open PySem PySem.Spec PyProof.Rows L2 Zq Zr
local macro_rules | `(tactic| walk_at "zq") => `(tactic| simp only [E_body, E_var0, E_varS, E_C, E_bin, E_test, E_kB, E_anil, E_acons, E_tup, E_lst, E_b, E_call, E_callK, E_neg, E_kNeg, E_tand, E_tor, E_tnot, E_and, E_or, E_kAnd, E_kOr, E_not, E_kNot, E_ifE, E_chain, E_kCh, E_isN, E_isN0, E_isNt, E_isNi, E_isNs, E_isNl, E_snil, E_scons, E_pass, E_brk, E_cnt, E_ret, E_retN, E_expr, E_if, E_asg, E_set, E_par, E_kPar, E_par3, E_kPar3, E_aug, E_kAug, E_gN, E_gN0, E_gNC, E_gT, E_gS, E_kS, E_kS0, E_kS1, E_kS2, E_sub, E_iadd, E_mul, E_div, E_mod, E_pow, E_lt, E_le, E_gt, E_ge, E_addi, E_adds, E_addt, E_eqi, E_eqs, E_eqb, E_nei, E_nes, E_kAt, E_ixt, E_ixr, E_ixl, E_kAtL, at0, at1, at2, at3, E_abs, E_max, E_min, E_inti, E_intb, E_str, E_dm, E_lent, E_lenr, E_lenl, E_kLen, E_gcd, E_sqrt, E_lcm2, E_lcm3, E_all, E_kAll, E_isii, E_isit, isi_ii, isi_ib, isi_tt, E_iQ, E_kIt, E_kIr, E_kIl, E_kIl', E_iR1, E_kR1, E_for, E_lc, E_lc0, E_lcS, E_kLc, E_yes, E_f0, E_fS, E_stN, E_stS, E_s0, E_sS, E_g0, E_gSx, E_w0, E_wS,
  Mem.put_same, Mem.put_put, Zq.fD, Zq.E_ord10, Zq.E_ord0, E_wSlice, E_oNone, E_kO, E_oSome, List.map_cons, List.map_nil, List.cons_append, List.nil_append, List.replicate, List.length_cons, List.length_nil, decide_eq_true_eq, Bool.false_eq_true, if_false, if_true, Nat.reduceAdd, Nat.reduceLeDiff, true_and, and_true, Option.map_some, Bool.not_true, Bool.not_false])
local macro_rules | `(tactic| walk_at "zr") => `(tactic| simp only [E_body, E_var0, E_varS, E_C, E_bin, E_test, E_kB, E_anil, E_acons, E_tup, E_lst, E_b, E_call, E_callK, E_neg, E_kNeg, E_tand, E_tor, E_tnot, E_and, E_or, E_kAnd, E_kOr, E_not, E_kNot, E_ifE, E_chain, E_kCh, E_isN, E_isN0, E_isNt, E_isNi, E_isNs, E_isNl, E_snil, E_scons, E_pass, E_brk, E_cnt, E_ret, E_retN, E_expr, E_if, E_asg, E_set, E_par, E_kPar, E_par3, E_kPar3, E_aug, E_kAug, E_gN, E_gN0, E_gNC, E_gT, E_gS, E_kS, E_kS0, E_kS1, E_kS2, E_sub, E_iadd, E_mul, E_div, E_mod, E_pow, E_lt, E_le, E_gt, E_ge, E_addi, E_adds, E_addt, E_eqi, E_eqs, E_eqb, E_nei, E_nes, E_kAt, E_ixt, E_ixr, E_ixl, E_kAtL, at0, at1, at2, at3, E_abs, E_max, E_min, E_inti, E_intb, E_str, E_dm, E_lent, E_lenr, E_lenl, E_kLen, E_gcd, E_sqrt, E_lcm2, E_lcm3, E_all, E_kAll, E_isii, E_isit, isi_ii, isi_ib, isi_tt, E_iQ, E_kIt, E_kIr, E_kIl, E_kIl', E_iR1, E_kR1, E_for, E_lc, E_lc0, E_lcS, E_kLc, E_yes, E_stN, E_stS, E_s0, E_sS, E_g0, E_gSx, E_w0, E_wS,
  Mem.put_same, Mem.put_put, Zq.fD, Zq.E_ord10, Zq.E_ord0, E_wSlice, E_oNone, E_kO, E_oSome, List.map_cons, List.map_nil, List.cons_append, List.nil_append, List.replicate, List.length_cons, List.length_nil, decide_eq_true_eq, Bool.false_eq_true, if_false, if_true, Nat.reduceAdd, Nat.reduceLeDiff, true_and, and_true, Option.map_some, Bool.not_true, Bool.not_false])
variable {M : Mem} {R : DK} {p : Addr} {n : Nat} {f g : Fr}
/-! ### figures -/
theorem tl_cut (z : Str) (lo hi : Option Int) : TL.tl (cutS z lo hi) = ((TL.tl z).drop (HT.sIx z.length 0 lo)).take (HT.sIx z.length z.length hi - HT.sIx z.length 0 lo) := by
  unfold cutS TL.tl
  simp
theorem cut_neg {z : Str} {k : Nat} (hk : 0 < k) (hl : k ≤ z.length) : cutS z none (some (-(k : Int))) = cutS z none (some ((z.length : Int) - k)) ∧ cutS z (some (-(k : Int))) none = cutS z (some ((z.length : Int) - k)) none := by
  have e1 : ∀ d, HT.sIx z.length d (some (-(k : Int))) = z.length - k := fun d => by
    show (if -(k : Int) < 0 then (-(k : Int) + (z.length : Int)).toNat else min (-(k : Int)).toNat z.length) = z.length - k
    rw [if_pos (by omega)]
    omega
  have e2 : ∀ d, HT.sIx z.length d (some ((z.length : Int) - k)) = z.length - k := fun d => by
    rw [show (z.length : Int) - k = ((z.length - k : Nat) : Int) by omega, HT.sIx_nat]
    omega
  constructor
  · unfold cutS
    rw [e1, e2]
  · unfold cutS
    rw [e1, e2]
/-- noughts ahead of a text -/
def noughts (k : Nat) (z : Str) : Str := ⟨(List.replicate k 48 ++ TL.tl z).toArray⟩
theorem tl_noughts (k : Nat) (z : Str) : TL.tl (noughts k z) = List.replicate k 48 ++ TL.tl z := by
  unfold noughts TL.tl
  simp
theorem len_noughts (k : Nat) (z : Str) : (noughts k z).length = k + z.length := by
  rw [TL.len_tl, tl_noughts, List.length_append, List.length_replicate, TL.len_tl]
theorem noughts_zero (z : Str) : noughts 0 z = z := by
  apply TL.ext_tl
  rw [tl_noughts]
  rfl
def numS (a : Nat) : Str := Str.ofString (toString ((a : Nat) : Int))
theorem numS_pos (a : Nat) : 0 < (numS a).length := by
  rw [TL.len_tl]
  unfold numS
  rw [TL.tl_num]
  exact List.length_pos_iff.mpr (TL.numL_ne a)
theorem zfill_num (a k : Nat) : Txt.zfill (numS a) ((k : Int) + 1) = noughts (k + 1 - (numS a).length) (numS a) := by
  unfold Txt.zfill
  by_cases h : (k : Int) + 1 ≤ ((numS a).length : Int)
  · rw [if_pos h, show k + 1 - (numS a).length = 0 by omega, noughts_zero]
  · rw [if_neg h]
    have e : ((k : Int) + 1).toNat - (numS a).length = k + 1 - (numS a).length := by omega
    rw [e]
    generalize k + 1 - (numS a).length = m
    have hne := TL.numL_ne a
    have hd := TL.numL_digits a
    have t := TL.tl_num a
    have e0 : (numS a).cps[0]? = (TL.numL a)[0]? := by
      rw [← t]
      unfold numS TL.tl
      simp
    apply TL.ext_tl
    rw [tl_noughts]
    unfold zfilled
    rw [e0]
    cases q : TL.numL a with
    | nil => exact absurd q hne
    | cons c cs =>
      have hc := hd c (by rw [q]; exact List.mem_cons_self ..)
      simp only [List.getElem?_cons_zero]
      split
      · rename_i heq
        cases heq
        omega
      · rename_i heq
        cases heq
        omega
      · unfold Builtin.Str.padded TL.tl
        simp
theorem mul_nought (m : Int) : TL.tl (PySem.Txt.mul "0" m) = List.replicate m.toNat 48 := by
  unfold PySem.Txt.mul
  by_cases h : m < 1
  · rw [if_pos h, show m.toNat = 0 by omega]
    rfl
  · rw [if_neg h]
    have z : (("0" : Str).length == 0) = false := by decide +kernel
    rw [z, Bool.or_false]
    by_cases h1 : m = 1
    · subst h1
      decide +kernel
    · have : (m == 1) = false := by
        rw [beq_eq_false_iff_ne]
        exact h1
      rw [this, if_neg (by decide)]
      unfold TL.tl
      have main : ∀ (k : Nat) (acc : Array Nat), ((List.replicate k ("0" : Str).cps).foldl (· ++ ·) acc).toList = acc.toList ++ List.replicate k 48 := by
        intro k
        induction k with
        | zero => intro acc; simp
        | succ k ih =>
          intro acc
          rw [List.replicate_succ, List.foldl_cons, ih, List.replicate_succ]
          have : (("0" : Str).cps : Array Nat).toList = [48] := by decide +kernel
          simp [this]
      have := main m.toNat #[]
      simpa using this
theorem mul_cat (m : Int) (z : Str) : PySem.Txt.mul "0" m ++ z = noughts m.toNat z := by
  apply TL.ext_tl
  rw [TL.tl_append, tl_noughts, mul_nought]
theorem mul_ok {m : Int} (h : m ≤ 1000) (h0 : -1000000 ≤ m) : PySem.MulOk "0" m := by
  have l1 : ("0" : Str).length = 1 := by decide +kernel
  unfold PySem.MulOk
  rw [l1]
  refine ⟨?_, fun h1 _ => ?_, fun h1 _ => ?_⟩
  · rw [Bool.or_eq_false_iff, decide_eq_false_iff_not, decide_eq_false_iff_not]
    omega
  · have : (1000 : Int) ≤ (2 ^ 63 - 1) / m := by
      refine Int.le_ediv_of_mul_le (by omega) ?_
      omega
    omega
  · show PySem.Builtin.Str.tooLong _ = false
    unfold PySem.Builtin.Str.tooLong
    have : 1 * m.toNat ≤ 1000 := by omega
    rw [decide_eq_false_iff_not]
    have : (1000 : Nat) ≤ sizeLine := by decide
    omega
theorem E_zf {ρ : Zq.Env} {a b : WE} : wZf a b ρ M R = a ρ M fun x M1 => isS x ∧ b ρ M1 (zfK x R) := (rfl)
theorem E_isS {z : Str} : isS (.str z) = True := (rfl)
theorem E_zfK {z : Str} {i : Int} : zfK (.str z) R (.int i) M = (PadOk i = true ∧ R (.str (Txt.zfill z i)) M) := (rfl)
theorem E_sls {z : Str} {lo hi : Option Int} : fSlice (.str z) lo hi M R = (z.length ≤ sizeLine ∧ R (.str (cutS z lo hi)) M) := (rfl)
theorem E_lens {z : Str} : bLen [.str z] M R = (z.length ≤ sizeLine ∧ R (.int z.length) M) := (rfl)
end K1


set_option Elab.async false
set_option linter.all false
set_option maxRecDepth 100000
set_option exponentiation.threshold 10000
namespace K1
open PySem PySem.Spec PyProof.Rows L2 Zq Zr
local macro_rules | `(tactic| walk_at "zq") => `(tactic| simp only [E_body, E_app, E_isL, E_appK, E_kApp, E_fSl, E_kSl2, E_addl, E_kAddL, E_var0, E_varS, E_C, E_bin, E_test, E_kB, E_anil, E_acons, E_tup, E_lst, E_b, E_call, E_callK, E_neg, E_kNeg, E_tand, E_tor, E_tnot, E_and, E_or, E_kAnd, E_kOr, E_not, E_kNot, E_ifE, E_chain, E_kCh, E_isN, E_isN0, E_isNt, E_isNi, E_isNs, E_isNl, E_snil, E_scons, E_pass, E_brk, E_cnt, E_ret, E_retN, E_expr, E_if, E_asg, E_set, E_par, E_kPar, E_par3, E_kPar3, E_aug, E_kAug, E_gN, E_gN0, E_gNC, E_gT, E_gS, E_kS, E_kS0, E_kS1, E_kS2, E_sub, E_iadd, E_mul, E_div, E_mod, E_pow, E_lt, E_le, E_gt, E_ge, E_addi, E_adds, E_addt, E_eqi, E_eqs, E_eqb, E_nei, E_nes, E_kAt, E_ixt, E_ixr, E_ixl, E_kAtL, at0, at1, at2, at3, E_abs, E_max, E_min, E_inti, E_intb, E_str, E_dm, E_lent, E_lenr, E_lenl, E_kLen, E_gcd, E_sqrt, E_lcm2, E_lcm3, E_all, E_kAll, E_isii, E_isit, isi_ii, isi_ib, isi_tt, E_iQ, E_kIt, E_kIr, E_kIl, E_kIl', E_iR1, E_kR1, E_for, E_lc, E_lc0, E_lcS, E_kLc, E_yes, E_f0, E_fS, E_stN, E_stS, E_s0, E_sS, E_g0, E_gSx, E_w0, E_wS,
  Mem.put_same, Mem.put_put, Zq.fD, Zq.E_ord10, Zq.E_ord0, E_wSlice, E_oNone, E_kO, E_oSome, List.map_cons, List.map_nil, List.cons_append, List.nil_append, List.replicate, List.length_cons, List.length_nil, decide_eq_true_eq, Bool.false_eq_true, if_false, if_true, Nat.reduceAdd, Nat.reduceLeDiff, true_and, and_true, Option.map_some, Bool.not_true, Bool.not_false])
local macro_rules | `(tactic| walk_at "zr") => `(tactic| simp only [E_body, E_app, E_isL, E_appK, E_kApp, E_fSl, E_kSl2, E_addl, E_kAddL, E_var0, E_varS, E_C, E_bin, E_test, E_kB, E_anil, E_acons, E_tup, E_lst, E_b, E_call, E_callK, E_neg, E_kNeg, E_tand, E_tor, E_tnot, E_and, E_or, E_kAnd, E_kOr, E_not, E_kNot, E_ifE, E_chain, E_kCh, E_isN, E_isN0, E_isNt, E_isNi, E_isNs, E_isNl, E_snil, E_scons, E_pass, E_brk, E_cnt, E_ret, E_retN, E_expr, E_if, E_asg, E_set, E_par, E_kPar, E_par3, E_kPar3, E_aug, E_kAug, E_gN, E_gN0, E_gNC, E_gT, E_gS, E_kS, E_kS0, E_kS1, E_kS2, E_sub, E_iadd, E_mul, E_div, E_mod, E_pow, E_lt, E_le, E_gt, E_ge, E_addi, E_adds, E_addt, E_eqi, E_eqs, E_eqb, E_nei, E_nes, E_kAt, E_ixt, E_ixr, E_ixl, E_kAtL, at0, at1, at2, at3, E_abs, E_max, E_min, E_inti, E_intb, E_str, E_dm, E_lent, E_lenr, E_lenl, E_kLen, E_gcd, E_sqrt, E_lcm2, E_lcm3, E_all, E_kAll, E_isii, E_isit, isi_ii, isi_ib, isi_tt, E_iQ, E_kIt, E_kIr, E_kIl, E_kIl', E_iR1, E_kR1, E_for, E_lc, E_lc0, E_lcS, E_kLc, E_yes, E_stN, E_stS, E_s0, E_sS, E_g0, E_gSx, E_w0, E_wS,
  Mem.put_same, Mem.put_put, Zq.fD, Zq.E_ord10, Zq.E_ord0, E_wSlice, E_oNone, E_kO, E_oSome, List.map_cons, List.map_nil, List.cons_append, List.nil_append, List.replicate, List.length_cons, List.length_nil, decide_eq_true_eq, Bool.false_eq_true, if_false, if_true, Nat.reduceAdd, Nat.reduceLeDiff, true_and, and_true, Option.map_some, Bool.not_true, Bool.not_false])
variable {M : Mem} {R : DK} {p : Addr} {n : Nat} {f g : Fr}
/-! ### the program's floors -/
theorem fwr_ret {a b s d : Int} {i j k l : Nat} (ha : a.natAbs < 2 ^ i) (hb : b.natAbs < 2 ^ j) (hs : s.natAbs < 2 ^ k) (hd : d.natAbs < 2 ^ l) (s0 : 0 ≤ s) (d0 : 0 < d) (hi : i < 400000) (hj : 2 * j + k < 12000) (hl : l < 8999)
    (h : ∀ y : Int, Rl.iR y * Rl.iR d ≤ Rl.iR a + Rl.iR b * Rl.rt (Rl.iR s) → Rl.iR a + Rl.iR b * Rl.rt (Rl.iR s) < (Rl.iR y + 1) * Rl.iR d → y.natAbs < 2 ^ (i + (2 * j + k) + 2) → R (.int y) M) : K4.W_floor_with_root [.int a, .int b, .int s, .int d] M R := by
  unfold K4.W_floor_with_root
  walk_at "zq"
  have b2 := bd_mul (bd_mul hb hb) hs
  have nn : 0 ≤ b * b * s := Int.mul_nonneg (nn_mul_self b) s0
  have div : ∀ x : Int, CDivW x d := fun x => divW_of d0 hd (by omega)
  refine ⟨mulW_of hb hb (by omega), mulW_of (bd_mul hb hb) hs (by omega), nn, log_sq b2 (by omega), ?_⟩
  show if b < 0 then _ else _
  obtain ⟨q0, q1, q2⟩ := isq_spec nn
  have hq := isq_bd nn b2
  -- the root, as a real
  have w1 := Rl.rt_sq (Rl.iR_nn.mpr s0)
  have w0 := Rl.rt_nn (Rl.iR s)
  have k1 := Rl.iR_le.mpr q1
  have k2 := Rl.iR_lt.mpr q2
  have k0 := Rl.iR_nn.mpr q0
  simp only [Rl.iR_mul, Rl.iR_add, Rl.iR_one] at k1 k2
  have D0 := Rl.iR_pos.mpr d0
  -- whatever whole lies less than 1 below the root's part
  have fin : ∀ w : Int, Rl.iR w ≤ Rl.iR b * Rl.rt (Rl.iR s) → Rl.iR b * Rl.rt (Rl.iR s) < Rl.iR w + 1 → w.natAbs ≤ (isq (b * b * s)).natAbs + 1 → R (.int ((a + w) / d)) M := fun w h1 h2 h3 => by
    have e1 : (a + w) / d * d ≤ a + w := Int.ediv_mul_le _ (by omega)
    have e2 : a + w + 1 ≤ ((a + w) / d + 1) * d := Int.lt_ediv_add_one_mul_self _ d0
    have f1 := Rl.iR_le.mpr e1
    have f2 := Rl.iR_le.mpr e2
    simp only [Rl.iR_mul, Rl.iR_add, Rl.iR_one] at f1 f2
    refine h _ (by grind) (by grind) (Nat.lt_of_le_of_lt (Int.natAbs_ediv_le_natAbs _ _) ?_)
    have x1 := lt_pow_add ha (show i ≤ i + (2 * j + k) by omega)
    have x2 := lt_pow_add hq (show j + j + k ≤ i + (2 * j + k) by omega)
    have x3 : 2 ^ (i + (2 * j + k) + 2) = 2 ^ (i + (2 * j + k)) * 4 := Nat.pow_add 2 _ 2
    rw [x3]
    generalize 2 ^ (i + (2 * j + k)) = zz at *
    omega
  by_cases hn : b < 0
  · rw [if_pos hn]
    have bn : 0 < -Rl.iR b := by
      have := Rl.iR_lt.mpr hn
      rw [Rl.iR_zero] at this
      grind
    have u0 : 0 ≤ -Rl.iR b * Rl.rt (Rl.iR s) := Rl.mul_nn (by grind) w0
    have u1 : -Rl.iR b * Rl.rt (Rl.iR s) * (-Rl.iR b * Rl.rt (Rl.iR s)) = Rl.iR b * Rl.iR b * Rl.iR s := by grind
    refine ⟨mulW_of hq hq (by omega), ?_⟩
    show if isq (b * b * s) * isq (b * b * s) = b * b * s then _ else _
    by_cases he : isq (b * b * s) * isq (b * b * s) = b * b * s
    · rw [if_pos he]
      refine ⟨div _, fin (-isq (b * b * s)) ?_ ?_ (by omega)⟩
      · have e : Rl.iR (isq (b * b * s)) * Rl.iR (isq (b * b * s)) = Rl.iR b * Rl.iR b * Rl.iR s := by
          rw [← Rl.iR_mul, he, Rl.iR_mul, Rl.iR_mul]
        have := Rl.eq_of_sq u0 k0 (by rw [u1, e])
        rw [Rl.iR_neg]
        grind
      · have e : Rl.iR (isq (b * b * s)) * Rl.iR (isq (b * b * s)) = Rl.iR b * Rl.iR b * Rl.iR s := by
          rw [← Rl.iR_mul, he, Rl.iR_mul, Rl.iR_mul]
        have := Rl.eq_of_sq u0 k0 (by rw [u1, e])
        rw [Rl.iR_neg]
        grind
    · rw [if_neg he]
      refine ⟨div _, fin (-isq (b * b * s) - 1) ?_ ?_ (by omega)⟩
      · have := Rl.lt_of_sq (a := -Rl.iR b * Rl.rt (Rl.iR s)) (b := Rl.iR (isq (b * b * s)) + 1) (by grind) (by rw [u1]; exact k2)
        rw [Rl.iR_sub, Rl.iR_neg, Rl.iR_one]
        grind
      · have l1 : isq (b * b * s) * isq (b * b * s) < b * b * s := by omega
        have l2 := Rl.iR_lt.mpr l1
        simp only [Rl.iR_mul] at l2
        have := Rl.lt_of_sq (a := Rl.iR (isq (b * b * s))) (b := -Rl.iR b * Rl.rt (Rl.iR s)) u0 (by rw [u1]; exact l2)
        rw [Rl.iR_sub, Rl.iR_neg, Rl.iR_one]
        grind
  · rw [if_neg hn]
    have bn : 0 ≤ Rl.iR b := Rl.iR_nn.mpr (by omega)
    have u0 : 0 ≤ Rl.iR b * Rl.rt (Rl.iR s) := Rl.mul_nn bn w0
    have u1 : Rl.iR b * Rl.rt (Rl.iR s) * (Rl.iR b * Rl.rt (Rl.iR s)) = Rl.iR b * Rl.iR b * Rl.iR s := by grind
    refine ⟨div _, fin (isq (b * b * s)) ?_ ?_ (by omega)⟩
    · exact Rl.le_of_sq u0 (by rw [u1]; exact k1)
    · exact Rl.lt_of_sq (by grind) (by rw [u1]; exact k2)
/-- a number in whole numbers, as a real -/
theorem wholes_real {e : Nm} (he : Nn e) : Rl.iR (partV e) = fR e.p * Rl.iR (botV e) ∧ Rl.iR (factV e) * Rl.rt (Rl.iR (e.r.n * e.r.d)) = fR e.q * Rl.rt (fR e.r) * Rl.iR (botV e) := by
  obtain ⟨b0, b1, b2⟩ := bot_facts he.p he.q he.r
  have f1 := fR_mul he.p
  have f2 := fR_mul he.q
  rw [rt_fR he.r he.r0]
  have c1 := congrArg Rl.iR b1
  have c2 := congrArg Rl.iR b2
  simp only [Rl.iR_mul] at c1 c2
  constructor
  · refine rl_cancel (Rl.iR_pos.mpr he.p) ?_
    grind
  · refine rl_cancel (Rl.iR_pos.mpr he.q) ?_
    grind
theorem floor_of_ret {e : Nm} {k l : Nat} {m : Int} (he : Ok k e) (m0 : 0 < m) (m1 : m.natAbs < 2 ^ l) (hk : 10 * k + 2 * l < 12000) (hk2 : k < 1500) (h : ∀ y M', Grow M M' → Rl.iR y ≤ nR e * Rl.iR m → nR e * Rl.iR m < Rl.iR y + 1 → R (.int y) M') : K4.W_floor_of [nD e, .int m] M R := by
  unfold K4.W_floor_of
  walk_at "zq"
  refine in_wholes_ret he hk2 fun M1 g1 => ?_
  walk_at "zq"
  have b0 := (bot_facts he.p.1 he.q.1 he.r.1).1
  refine ⟨mulW_of (part_bd he) m1 (by omega), mulW_of (fact_bd he) m1 (by omega), ?_⟩
  refine fwr_ret (bd_mul (part_bd he) m1) (bd_mul (fact_bd he) m1) (bd_mul he.br.1 he.br.2) (bot_bd he) (Int.mul_nonneg he.r0 (Int.le_of_lt he.r.1)) b0 (by omega) (by omega) (by omega) fun y h1 h2 _ => ?_
  obtain ⟨v1, v2⟩ := wholes_real he.nn
  have B0 := Rl.iR_pos.mpr b0
  have tot : Rl.iR (partV e * m) + Rl.iR (factV e * m) * Rl.rt (Rl.iR (e.r.n * e.r.d)) = Rl.iR (botV e) * (nR e * Rl.iR m) := by
    rw [Rl.iR_mul, Rl.iR_mul]
    unfold nR
    rw [v1]
    grind
  rw [tot] at h1 h2
  refine h y M1 g1 ?_ ?_
  · refine Classical.byContradiction fun c => ?_
    have := Rl.mul_lt (show nR e * Rl.iR m < Rl.iR y by grind) B0
    grind
  · refine Classical.byContradiction fun c => ?_
    by_cases c2 : nR e * Rl.iR m = Rl.iR y + 1
    · rw [c2] at h2
      grind
    · have := Rl.mul_lt (show Rl.iR y + 1 < nR e * Rl.iR m by grind) B0
      grind
theorem need_many_ret {m : Int} (m0 : 0 < m) (h : R .non M) : K4.W_need_many [.int m] M R := by
  unfold K4.W_need_many
  walk_at "zq"
  refine whole_ret ?_
  walk_at "zq"
  rw [if_neg (by omega)]
  exact h
theorem need_places_ret {k : Nat} (hk : k ≤ 40) (h : R .non M) : K4.W_need_places [.int k] M R := by
  unfold K4.W_need_places
  walk_at "zq"
  refine whole_ret ?_
  walk_at "zq"
  rw [if_neg (by omega), if_neg (by omega)]
  exact h
theorem ten_bd {k : Nat} (hk : k ≤ 40) : ((10 : Int) ^ k).natAbs < 2 ^ 140 := by
  rw [Int.natAbs_pow]
  exact Nat.lt_of_le_of_lt (Nat.pow_le_pow_right (by decide) hk) (by decide)
theorem ten_ret {k : Nat} (hk : k ≤ 40) (h : R (.int (10 ^ k)) M) : K4.W_ten_to [.int k] M R := by
  unfold K4.W_ten_to
  walk_at "zr"
  refine ⟨by omega, by omega, ?_⟩
  rw [Int.toNat_natCast]
  have main : ∀ (ds : List D) (i : Nat) (o : Option D) (all : List D), ds.length + i = k →
      forGo none all (gN 2) (sCons (sAug 1 fMul (wC (.int 10))) sNil) { nx := fun ρ' M' => wVar 1 ρ' M' R, rt := R } ds [some (.int k), some (.int (10 ^ i)), o] M := by
    intro ds
    induction ds with
    | nil =>
      intro i o all hi
      have : i = k := by simpa using hi
      subst this
      walk_at "zq"
      exact h
    | cons d ds ih =>
      intro i o all hi
      rw [List.length_cons] at hi
      walk_at "zq"
      refine ⟨mulW_of (ten_bd (k := i) (by omega)) (b := 4) (by decide) (by decide), ?_⟩
      have := ih (i + 1) (some d) all (by omega)
      rw [Int.pow_succ] at this
      exact this
  exact main _ 0 none _ (by rw [rangeD_length]; rfl)
theorem law_ten_ret {k : Nat} (hk : k ≤ 40) (h : R (.int (10 ^ k)) M) : K4.W_law_ten [.int k] M R := by
  unfold K4.W_law_ten
  walk_at "zr"
  refine ⟨by omega, by omega, ?_⟩
  rw [Int.toNat_natCast]
  have main : ∀ (ds : List D) (i : Nat) (o : Option D) (all : List D), ds.length + i = k →
      forGo none all (gN 2) (sCons (sSet 1 (wBin fMul (wC (.int 10)) (wVar 1))) sNil) { nx := fun ρ' M' => wVar 1 ρ' M' R, rt := R } ds [some (.int k), some (.int (10 ^ i)), o] M := by
    intro ds
    induction ds with
    | nil =>
      intro i o all hi
      have : i = k := by simpa using hi
      subst this
      walk_at "zq"
      exact h
    | cons d ds ih =>
      intro i o all hi
      rw [List.length_cons] at hi
      walk_at "zq"
      refine ⟨mulW_of (a := 4) (by decide) (ten_bd (k := i) (by omega)) (by decide), ?_⟩
      have := ih (i + 1) (some d) all (by omega)
      rw [Int.pow_succ, Int.mul_comm] at this
      exact this
  exact main _ 0 none _ (by rw [rangeD_length]; rfl)
end K1


set_option Elab.async false
set_option linter.all false
set_option maxRecDepth 100000
set_option exponentiation.threshold 10000
namespace K1
open PySem PySem.Spec PyProof.Rows L2 Zq Zr
local macro_rules | `(tactic| walk_at "zq") => `(tactic| simp only [E_body, E_app, E_zf, E_isS, E_zfK, E_sls, E_mulS, E_lens, E_isL, E_appK, E_kApp, E_fSl, E_kSl2, E_addl, E_kAddL, E_var0, E_varS, E_C, E_bin, E_test, E_kB, E_anil, E_acons, E_tup, E_lst, E_b, E_call, E_callK, E_neg, E_kNeg, E_tand, E_tor, E_tnot, E_and, E_or, E_kAnd, E_kOr, E_not, E_kNot, E_ifE, E_chain, E_kCh, E_isN, E_isN0, E_isNt, E_isNi, E_isNs, E_isNl, E_snil, E_scons, E_pass, E_brk, E_cnt, E_ret, E_retN, E_expr, E_if, E_asg, E_set, E_par, E_kPar, E_par3, E_kPar3, E_aug, E_kAug, E_gN, E_gN0, E_gNC, E_gT, E_gS, E_kS, E_kS0, E_kS1, E_kS2, E_sub, E_iadd, E_mul, E_div, E_mod, E_pow, E_lt, E_le, E_gt, E_ge, E_addi, E_adds, E_addt, E_eqi, E_eqs, E_eqb, E_nei, E_nes, E_kAt, E_ixt, E_ixr, E_ixl, E_kAtL, at0, at1, at2, at3, E_abs, E_max, E_min, E_inti, E_intb, E_str, E_dm, E_lent, E_lenr, E_lenl, E_kLen, E_gcd, E_sqrt, E_lcm2, E_lcm3, E_all, E_kAll, E_isii, E_isit, isi_ii, isi_ib, isi_tt, E_iQ, E_kIt, E_kIr, E_kIl, E_kIl', E_iR1, E_kR1, E_for, E_lc, E_lc0, E_lcS, E_kLc, E_yes, E_f0, E_fS, E_stN, E_stS, E_s0, E_sS, E_g0, E_gSx, E_w0, E_wS,
  Mem.put_same, Mem.put_put, Zq.fD, Zq.E_ord10, Zq.E_ord0, E_wSlice, E_oNone, E_kO, E_oSome, List.map_cons, List.map_nil, List.cons_append, List.nil_append, List.replicate, List.length_cons, List.length_nil, decide_eq_true_eq, Bool.false_eq_true, if_false, if_true, Nat.reduceAdd, Nat.reduceLeDiff, true_and, and_true, Option.map_some, Bool.not_true, Bool.not_false])
local macro_rules | `(tactic| walk_at "zr") => `(tactic| simp only [E_body, E_app, E_zf, E_isS, E_zfK, E_sls, E_mulS, E_lens, E_isL, E_appK, E_kApp, E_fSl, E_kSl2, E_addl, E_kAddL, E_var0, E_varS, E_C, E_bin, E_test, E_kB, E_anil, E_acons, E_tup, E_lst, E_b, E_call, E_callK, E_neg, E_kNeg, E_tand, E_tor, E_tnot, E_and, E_or, E_kAnd, E_kOr, E_not, E_kNot, E_ifE, E_chain, E_kCh, E_isN, E_isN0, E_isNt, E_isNi, E_isNs, E_isNl, E_snil, E_scons, E_pass, E_brk, E_cnt, E_ret, E_retN, E_expr, E_if, E_asg, E_set, E_par, E_kPar, E_par3, E_kPar3, E_aug, E_kAug, E_gN, E_gN0, E_gNC, E_gT, E_gS, E_kS, E_kS0, E_kS1, E_kS2, E_sub, E_iadd, E_mul, E_div, E_mod, E_pow, E_lt, E_le, E_gt, E_ge, E_addi, E_adds, E_addt, E_eqi, E_eqs, E_eqb, E_nei, E_nes, E_kAt, E_ixt, E_ixr, E_ixl, E_kAtL, at0, at1, at2, at3, E_abs, E_max, E_min, E_inti, E_intb, E_str, E_dm, E_lent, E_lenr, E_lenl, E_kLen, E_gcd, E_sqrt, E_lcm2, E_lcm3, E_all, E_kAll, E_isii, E_isit, isi_ii, isi_ib, isi_tt, E_iQ, E_kIt, E_kIr, E_kIl, E_kIl', E_iR1, E_kR1, E_for, E_lc, E_lc0, E_lcS, E_kLc, E_yes, E_stN, E_stS, E_s0, E_sS, E_g0, E_gSx, E_w0, E_wS,
  Mem.put_same, Mem.put_put, Zq.fD, Zq.E_ord10, Zq.E_ord0, E_wSlice, E_oNone, E_kO, E_oSome, List.map_cons, List.map_nil, List.cons_append, List.nil_append, List.replicate, List.length_cons, List.length_nil, decide_eq_true_eq, Bool.false_eq_true, if_false, if_true, Nat.reduceAdd, Nat.reduceLeDiff, true_and, and_true, Option.map_some, Bool.not_true, Bool.not_false])
variable {M : Mem} {R : DK} {p : Addr} {n : Nat} {f g : Fr}
theorem len_cut (z : Str) (lo hi : Option Int) : (cutS z lo hi).length ≤ z.length := by
  rw [TL.len_tl, tl_cut, TL.len_tl, List.length_take, List.length_drop]
  omega
theorem len_app (x y : Str) : (x ++ y).length = x.length + y.length := by
  rw [TL.len_tl, TL.tl_append, List.length_append, TL.len_tl, TL.len_tl]
theorem numS_len {a : Nat} (h : a < 2 ^ 1919) : (numS a).length ≤ 1921 := by
  have h2 : ((a : Nat) : Int).natAbs.log2 < 1920 := by
    have : ((a : Nat) : Int).natAbs.log2 ≤ 1918 := log_of_lt (k := 1918) (by simpa using h)
    omega
  exact int_text_len_1921 h2
def ptV (w : Str) (k : Nat) : Str := if 0 < k then cutS w none (some ((w.length : Int) - k)) ++ "." ++ cutS w (some ((w.length : Int) - k)) none else w
def wpV (y : Int) (k : Nat) : Str := if y < 0 then "-" ++ ptV (noughts (k + 1 - (numS y.natAbs).length) (numS y.natAbs)) k else ptV (noughts (k + 1 - (numS y.natAbs).length) (numS y.natAbs)) k
theorem line5 {n : Nat} (h : n ≤ 10000) : n ≤ sizeLine := Nat.le_trans h (by decide)
theorem ptV_len {w : Str} {k : Nat} (h : w.length ≤ 2000) : (ptV w k).length ≤ 4001 := by
  unfold ptV
  split
  · rw [len_app, len_app]
    have h1 := len_cut w none (some ((w.length : Int) - k))
    have h2 := len_cut w (some ((w.length : Int) - k)) none
    have h3 : ("." : Str).length = 1 := by decide +kernel
    omega
  · omega
theorem abs_of (y : Int) : (if y < 0 then -y else y) = ((y.natAbs : Nat) : Int) := by split <;> omega
theorem empty_app (z : Str) : ("" : Str) ++ z = z := by
  apply TL.ext_tl
  rw [TL.tl_append]
  have : TL.tl ("" : Str) = [] := by decide +kernel
  rw [this]
  rfl
theorem pad_ok {k : Nat} (hk : k ≤ 40) : PadOk ((k : Int) + 1) = true := by
  have key : ∀ k : Fin 41, PadOk ((k.val : Int) + 1) = true := by decide +kernel
  exact key ⟨k, by omega⟩
theorem with_point_ret {y : Int} {k : Nat} (hy : y.natAbs < 2 ^ 1919) (hk : k ≤ 40) (h : R (.str (wpV y k)) M) : K4.W_with_point [.int y, .int k] M R := by
  unfold K4.W_with_point
  walk_at "zq"
  rw [abs_of]
  have l1 := numS_len hy
  have l0 := numS_pos y.natAbs
  have hlog : ((y.natAbs : Nat) : Int).natAbs.log2 < 1920 := by
    have : ((y.natAbs : Nat) : Int).natAbs.log2 ≤ 1918 := log_of_lt (k := 1918) (by simpa using hy)
    omega
  refine ⟨hlog, pad_ok hk, ?_⟩
  have ew : Txt.zfill (Str.ofString (toString ((y.natAbs : Nat) : Int))) ((k : Int) + 1) = noughts (k + 1 - (numS y.natAbs).length) (numS y.natAbs) := zfill_num y.natAbs k
  rw [ew]
  unfold wpV at h
  have len := len_noughts (k + 1 - (numS y.natAbs).length) (numS y.natAbs)
  generalize noughts (k + 1 - (numS y.natAbs).length) (numS y.natAbs) = w at *
  have lw1 : k + 1 ≤ w.length := by omega
  have lw2 : w.length ≤ 2000 := by omega
  have d1 : ("." : Str).length = 1 := by decide +kernel
  have d2 : ("-" : Str).length = 1 := by decide +kernel
  have pl := ptV_len (k := k) lw2
  by_cases k0 : 0 < k
  · rw [if_pos (by omega)]
    obtain ⟨c1, c2⟩ := cut_neg k0 (show k ≤ w.length by omega)
    rw [c1, c2]
    have c3 := len_cut w none (some ((w.length : Int) - k))
    have c4 := len_cut w (some ((w.length : Int) - k)) none
    have ep : cutS w none (some ((w.length : Int) - k)) ++ Str.ofString "." ++ cutS w (some ((w.length : Int) - k)) none = ptV w k := by
      unfold ptV
      rw [if_pos k0]
    rw [ep]
    refine ⟨line5 (by omega), line5 (by omega), line5 (by omega), line5 ?_, ?_⟩
    · rw [len_app]
      omega
    · split
      · rename_i hn
        rw [if_pos hn] at h
        exact ⟨line5 (by omega), h⟩
      · rename_i hn
        rw [if_neg hn] at h
        exact h
  · rw [if_neg (by omega)]
    have ep : ptV w k = w := by
      unfold ptV
      rw [if_neg k0]
    rw [ep] at h
    split
    · rename_i hn
      rw [if_pos hn] at h
      exact ⟨line5 (by omega), h⟩
    · rename_i hn
      rw [if_neg hn] at h
      exact h
theorem law_figures_ret {y : Int} {k : Nat} (hy : y.natAbs < 2 ^ 1919) (hk : k ≤ 40) (h : R (.str (wpV y k)) M) : K4.W_law_figures [.int y, .int k] M R := by
  unfold K4.W_law_figures
  walk_at "zq"
  rw [abs_of]
  have l1 := numS_len hy
  have l0 := numS_pos y.natAbs
  have hlog : ((y.natAbs : Nat) : Int).natAbs.log2 < 1920 := by
    have : ((y.natAbs : Nat) : Int).natAbs.log2 ≤ 1918 := log_of_lt (k := 1918) (by simpa using hy)
    omega
  refine ⟨hlog, ?_⟩
  have es : Str.ofString (toString ((y.natAbs : Nat) : Int)) = numS y.natAbs := rfl
  rw [es]
  unfold wpV at h
  have len := len_noughts (k + 1 - (numS y.natAbs).length) (numS y.natAbs)
  have d1 : ("." : Str).length = 1 := by decide +kernel
  have d2 : ("-" : Str).length = 1 := by decide +kernel
  have d3 : ("" : Str).length = 0 := by decide +kernel
  by_cases k0 : 0 < k
  · rw [if_pos (by omega)]
    refine ⟨line5 (by omega), mul_ok (by omega) (by omega), ?_⟩
    have lm : (PySem.Txt.mul "0" ((k : Int) + 1 - ((numS y.natAbs).length : Int))).length ≤ 41 := by
      rw [TL.len_tl, mul_nought, List.length_replicate]
      omega
    have em : PySem.Txt.mul "0" ((k : Int) + 1 - ((numS y.natAbs).length : Int)) ++ numS y.natAbs = noughts (k + 1 - (numS y.natAbs).length) (numS y.natAbs) := by
      rw [mul_cat]
      congr 1
      omega
    refine ⟨line5 (by omega), ?_⟩
    rw [em]
    generalize noughts (k + 1 - (numS y.natAbs).length) (numS y.natAbs) = w at *
    have lw2 : w.length ≤ 2000 := by omega
    have pl := ptV_len (k := k) lw2
    have c3 := len_cut w none (some ((w.length : Int) - k))
    have c4 := len_cut w (some ((w.length : Int) - k)) none
    have ep : cutS w none (some ((w.length : Int) - k)) ++ Str.ofString "." ++ cutS w (some ((w.length : Int) - k)) none = ptV w k := by
      unfold ptV
      rw [if_pos k0]
    rw [ep]
    refine ⟨line5 (by omega), line5 (by omega), line5 (by omega), line5 (by omega), line5 (by omega), line5 ?_, ?_⟩
    · rw [len_app]
      omega
    · split
      · rename_i hn
        rw [if_pos hn] at h
        exact ⟨line5 (by omega), h⟩
      · rename_i hn
        rw [if_neg hn] at h
        rw [empty_app]
        exact ⟨line5 (by omega), h⟩
  · rw [if_neg (by omega)]
    have e0 : k + 1 - (numS y.natAbs).length = 0 := by omega
    rw [e0, noughts_zero] at h
    have ep : ptV (numS y.natAbs) k = numS y.natAbs := by
      unfold ptV
      rw [if_neg k0]
    rw [ep] at h
    split
    · rename_i hn
      rw [if_pos hn] at h
      exact ⟨line5 (by omega), h⟩
    · rename_i hn
      rw [if_neg hn] at h
      rw [empty_app]
      exact ⟨line5 (by omega), h⟩
end K1


set_option Elab.async false
set_option linter.all false
set_option maxRecDepth 100000
set_option exponentiation.threshold 10000
namespace K1
open PySem PySem.Spec PyProof.Rows L2 Zq Zr
local macro_rules | `(tactic| walk_at "zq") => `(tactic| simp only [E_body, E_app, E_zf, E_isS, E_zfK, E_sls, E_mulS, E_lens, E_ord3210, E_star, E_starT, E_gTLt, E_gTLl, E_kTL, E_isL, E_appK, E_kApp, E_fSl, E_kSl2, E_addl, E_kAddL, E_var0, E_varS, E_C, E_bin, E_test, E_kB, E_anil, E_acons, E_tup, E_lst, E_b, E_call, E_callK, E_neg, E_kNeg, E_tand, E_tor, E_tnot, E_and, E_or, E_kAnd, E_kOr, E_not, E_kNot, E_ifE, E_chain, E_kCh, E_isN, E_isN0, E_isNt, E_isNi, E_isNs, E_isNl, E_snil, E_scons, E_pass, E_brk, E_cnt, E_ret, E_retN, E_expr, E_if, E_asg, E_set, E_par, E_kPar, E_par3, E_kPar3, E_aug, E_kAug, E_gN, E_gN0, E_gNC, E_gT, E_gS, E_kS, E_kS0, E_kS1, E_kS2, E_sub, E_iadd, E_mul, E_div, E_mod, E_pow, E_lt, E_le, E_gt, E_ge, E_addi, E_adds, E_addt, E_eqi, E_eqs, E_eqb, E_nei, E_nes, E_kAt, E_ixt, E_ixr, E_ixl, E_kAtL, at0, at1, at2, at3, E_abs, E_max, E_min, E_inti, E_intb, E_str, E_dm, E_lent, E_lenr, E_lenl, E_kLen, E_gcd, E_sqrt, E_lcm2, E_lcm3, E_all, E_kAll, E_isii, E_isit, isi_ii, isi_ib, isi_tt, E_iQ, E_kIt, E_kIr, E_kIl, E_kIl', E_iR1, E_kR1, E_for, E_lc, E_lc0, E_lcS, E_kLc, E_yes, E_f0, E_fS, E_stN, E_stS, E_s0, E_sS, E_g0, E_gSx, E_w0, E_wS,
  Mem.put_same, Mem.put_put, Zq.fD, Zq.E_ord10, Zq.E_ord0, E_wSlice, E_oNone, E_kO, E_oSome, List.map_cons, List.map_nil, List.cons_append, List.nil_append, List.replicate, List.length_cons, List.length_nil, decide_eq_true_eq, Bool.false_eq_true, if_false, if_true, Nat.reduceAdd, Nat.reduceLeDiff, true_and, and_true, Option.map_some, Bool.not_true, Bool.not_false])
local macro_rules | `(tactic| walk_at "zr") => `(tactic| simp only [E_body, E_app, E_zf, E_isS, E_zfK, E_sls, E_mulS, E_lens, E_ord3210, E_star, E_starT, E_gTLt, E_gTLl, E_kTL, E_isL, E_appK, E_kApp, E_fSl, E_kSl2, E_addl, E_kAddL, E_var0, E_varS, E_C, E_bin, E_test, E_kB, E_anil, E_acons, E_tup, E_lst, E_b, E_call, E_callK, E_neg, E_kNeg, E_tand, E_tor, E_tnot, E_and, E_or, E_kAnd, E_kOr, E_not, E_kNot, E_ifE, E_chain, E_kCh, E_isN, E_isN0, E_isNt, E_isNi, E_isNs, E_isNl, E_snil, E_scons, E_pass, E_brk, E_cnt, E_ret, E_retN, E_expr, E_if, E_asg, E_set, E_par, E_kPar, E_par3, E_kPar3, E_aug, E_kAug, E_gN, E_gN0, E_gNC, E_gT, E_gS, E_kS, E_kS0, E_kS1, E_kS2, E_sub, E_iadd, E_mul, E_div, E_mod, E_pow, E_lt, E_le, E_gt, E_ge, E_addi, E_adds, E_addt, E_eqi, E_eqs, E_eqb, E_nei, E_nes, E_kAt, E_ixt, E_ixr, E_ixl, E_kAtL, at0, at1, at2, at3, E_abs, E_max, E_min, E_inti, E_intb, E_str, E_dm, E_lent, E_lenr, E_lenl, E_kLen, E_gcd, E_sqrt, E_lcm2, E_lcm3, E_all, E_kAll, E_isii, E_isit, isi_ii, isi_ib, isi_tt, E_iQ, E_kIt, E_kIr, E_kIl, E_kIl', E_iR1, E_kR1, E_for, E_lc, E_lc0, E_lcS, E_kLc, E_yes, E_stN, E_stS, E_s0, E_sS, E_g0, E_gSx, E_w0, E_wS,
  Mem.put_same, Mem.put_put, Zq.fD, Zq.E_ord10, Zq.E_ord0, E_wSlice, E_oNone, E_kO, E_oSome, List.map_cons, List.map_nil, List.cons_append, List.nil_append, List.replicate, List.length_cons, List.length_nil, decide_eq_true_eq, Bool.false_eq_true, if_false, if_true, Nat.reduceAdd, Nat.reduceLeDiff, true_and, and_true, Option.map_some, Bool.not_true, Bool.not_false])
variable {M : Mem} {R : DK} {p : Addr} {n : Nat} {f g q r : Fr}
def s2' (e n : Fr) : Int := lc (lc 1 e.d) n.d
theorem s2_ok {e n : Fr} (he : 0 < e.d) (hn : 0 < n.d) : 0 < s2' e n ∧ e.d ∣ s2' e n ∧ n.d ∣ s2' e n := by
  unfold s2'
  obtain ⟨a1, _, a3⟩ := lc_ok (b := 1) (by decide) he
  obtain ⟨b1, b2, b3⟩ := lc_ok a1 hn
  exact ⟨b1, Int.dvd_trans a3 b2, b3⟩
theorem s2_bd {e n : Fr} {j k : Nat} (be : Bn j k e) (bn : Bn j k n) : (s2' e n).natAbs < 2 ^ (1 + 2 * k) := by
  unfold s2'
  exact lt_pow_add (lc_bd (lc_bd (show (1 : Int).natAbs < 2 ^ 1 by decide) be.2) bn.2) (by omega)
theorem one_bottom2_ret {e n : Fr} {j k : Nat} (he : 0 < e.d) (hn : 0 < n.d) (be : Bn j k e) (bn : Bn j k n) (hk : 3 * k < 5000) (hj : j < 100000)
    (h : ∀ L2 M', Grow M M' → M' L2 = some [.int (e.n * (s2' e n / e.d)), .int (n.n * (s2' e n / n.d))] → R (.tup [.lst L2, .int (s2' e n)]) M') : K6.W_on_one_bottom [.tup [fD e, fD n]] M R := by
  unfold K6.W_on_one_bottom
  walk_at "zq"
  obtain ⟨s0, _, _⟩ := s2_ok he hn
  have sb := s2_bd be bn
  have l1 := lc_bd (show (1 : Int).natAbs < 2 ^ 1 by decide) be.2
  have dv : ∀ {d : Int} {i : Nat}, 0 < d → d.natAbs < 2 ^ i → i < 8999 → CDivW (s2' e n) d := fun {d i} h0 h1 h2 => divW_of h0 h1 (by omega)
  have w : ∀ {f : Fr} {d : Int}, f.n.natAbs < 2 ^ j → 0 < d → CMulW f.n (s2' e n / d) := fun {f d} hf hd => mulW_of hf (quot_bd sb (by omega) hd) (by omega)
  refine ⟨by decide, log_of be.2 (by omega), log_of l1 (by omega), log_of bn.2 (by omega), fun Da hD => ?_⟩
  exact ⟨dv he be.2 (by omega), w be.1 he, dv hn bn.2 (by omega), w bn.1 hn, h Da _ (.put hD) Mem.put_same⟩
theorem quad2 {x y xf yf sq w B vx vy : Rl} (hw : w * w = sq) (e1 : x + xf * w = B * vx) (e2 : y + yf * w = B * vy) :
    x * x + y * y + (xf * xf + yf * yf) * sq + 2 * (x * xf + y * yf) * w = B * B * (vx * vx + vy * vy) := by
  have z : x * x + y * y + (xf * xf + yf * yf) * sq + 2 * (x * xf + y * yf) * w = (x + xf * w) * (x + xf * w) + (y + yf * w) * (y + yf * w) := by
    rw [← hw]
    clear e1 e2 hw
    grind
  rw [z, e1, e2]
  clear z e1 e2 hw
  grind
theorem le_cancel {k x y : Rl} (h : 0 < k) (e : k * x ≤ k * y) : x ≤ y := by
  refine Classical.byContradiction fun c => ?_
  have := Rl.mul_lt (show y < x by grind) h
  grind
theorem lt_cancel {k x y : Rl} (h : 0 < k) (e : k * x < k * y) : x < y := by
  refine Classical.byContradiction fun c => ?_
  by_cases z : x = y
  · rw [z] at e
    grind
  · have := Rl.mul_lt (show y < x by grind) h
    grind
theorem eG_aux {t tf w b v m : Rl} (h : t + tf * w = b * v) : t * m + tf * m * w = b * (v * m) := by
  have : t * m + tf * m * w = (t + tf * w) * m := by grind
  rw [this, h]
  grind
theorem eF_aux {P Q w b s v m : Rl} (h : P + Q * w = b * s * (b * s) * v) : P * (m * m) + Q * (m * m) * w = b * b * s * s * (v * (m * m)) := by
  have : P * (m * m) + Q * (m * m) * w = (P + Q * w) * (m * m) := by grind
  rw [this, h]
  grind
/-- when it is heard, as a real -/
noncomputable def hT (a : Pt) (e n : Rl) : Rl := rT a + Rl.rt ((rX a - e) * (rX a - e) + (rY a - n) * (rY a - n))
set_option maxHeartbeats 1000000 in
theorem floor_heard_ret {a : Pt} {e n : Fr} {m : Int} (ha : OkP 145 30 250 35 a) (he : 0 < e.d) (hn : 0 < n.d) (be : Bn 130 20 e) (bn : Bn 130 20 n) (m0 : 0 < m) (m1 : m.natAbs < 2 ^ 140)
    (h : ∀ y M', Grow M M' → Rl.iR y ≤ hT a (fR e) (fR n) * Rl.iR m → hT a (fR e) (fR n) * Rl.iR m < Rl.iR y + 1 → R (.int y) M') : K7.W_floor_heard [ptD a, .tup [fD e, fD n], .int m] M R := by
  unfold K7.W_floor_heard
  walk_at "zr"
  refine spot_ret ha (by decide) (by decide) fun L M1 hLn g1 hL => ?_
  try walk_at "zr"
  refine one_bottom2_ret (e := e) (n := n) he hn be bn (by decide) (by decide) fun L2 M2 g2 hL2 => ?_
  try walk_at "zr"
  have hL' := g2 _ _ hL
  obtain ⟨b0, d1, d2, d3, d4, d5, d6⟩ := b3_ok ha
  have bb := b3_bd ha
  obtain ⟨s0, t1, t2⟩ := s2_ok he hn
  have sb := s2_bd be bn
  have q := ha.r.1
  have vX := div_ok ha.xp.1 d1
  have vXf := rt_part ha.xq.1 q ha.r0 d2
  have vY := div_ok ha.yp.1 d3
  have vYf := rt_part ha.yq.1 q ha.r0 d4
  have vT := div_ok ha.tp.1 d5
  have vTf := rt_part ha.tq.1 q ha.r0 d6
  have vE := div_ok he t1
  have vN := div_ok hn t2
  have bX := bd_mul ha.bxp.1 (quot_bd bb (by omega) ha.xp.1)
  have bXf := bd_mul ha.bxq.1 (quot_bd bb (by omega) (Int.mul_pos ha.xq.1 q))
  have bY := bd_mul ha.byp.1 (quot_bd bb (by omega) ha.yp.1)
  have bYf := bd_mul ha.byq.1 (quot_bd bb (by omega) (Int.mul_pos ha.yq.1 q))
  have bT := bd_mul ha.btp.1 (quot_bd bb (by omega) ha.tp.1)
  have bTf := bd_mul ha.btq.1 (quot_bd bb (by omega) (Int.mul_pos ha.tq.1 q))
  have bE := bd_mul be.1 (quot_bd sb (by omega) he)
  have bN := bd_mul bn.1 (quot_bd sb (by omega) hn)
  have bsq := bd_mul ha.br.1 ha.br.2
  have sq0 : 0 ≤ a.r.n * a.r.d := Int.mul_nonneg ha.r0 (by omega)
  have w1 := Rl.rt_sq (Rl.iR_nn.mpr sq0)
  generalize a.xp.n * (b3 a / a.xp.d) = X at *
  generalize a.xq.n * (b3 a / (a.xq.d * a.r.d)) = Xf at *
  generalize a.yp.n * (b3 a / a.yp.d) = Y at *
  generalize a.yq.n * (b3 a / (a.yq.d * a.r.d)) = Yf at *
  generalize a.tp.n * (b3 a / a.tp.d) = T at *
  generalize a.tq.n * (b3 a / (a.tq.d * a.r.d)) = Tf at *
  generalize e.n * (s2' e n / e.d) = E at *
  generalize n.n * (s2' e n / n.d) = Nn' at *
  generalize s2' e n = s at *
  generalize b3 a = b at *
  generalize a.r.n * a.r.d = sq at *
  rw [hL2]
  try walk_at "zr"
  rw [hL']
  try walk_at "zq"
  have bx : (X * s - E * b).natAbs < 2 ^ 473 := bd_sub (k := 472) (lt_pow_add (bd_mul bX sb) (by decide)) (lt_pow_add (bd_mul bE bb) (by decide))
  have by' : (Y * s - Nn' * b).natAbs < 2 ^ 473 := bd_sub (k := 472) (lt_pow_add (bd_mul bY sb) (by decide)) (lt_pow_add (bd_mul bN bb) (by decide))
  have bxf : (Xf * s).natAbs < 2 ^ 473 := lt_pow_add (bd_mul bXf sb) (by decide)
  have byf : (Yf * s).natAbs < 2 ^ 473 := lt_pow_add (bd_mul bYf sb) (by decide)
  have c1 := mulW_of bX sb (by decide)
  have c2 := mulW_of bXf sb (by decide)
  have c3 := mulW_of bY sb (by decide)
  have c4 := mulW_of bYf sb (by decide)
  have c5 := mulW_of bE bb (by decide)
  have c6 := mulW_of bN bb (by decide)
  refine ⟨c1, c2, c3, c4, c5, c6, ?_⟩
  have B0 := Rl.iR_pos.mpr b0
  have S0 := Rl.iR_pos.mpr s0
  have K0 := Rl.mul_pos B0 S0
  have rx : Rl.iR (X * s - E * b) + Rl.iR (Xf * s) * Rl.rt (Rl.iR sq) = Rl.iR b * Rl.iR s * (rX a - fR e) := by
    simp only [Rl.iR_sub, Rl.iR_mul]
    unfold rX
    grind
  have ry : Rl.iR (Y * s - Nn' * b) + Rl.iR (Yf * s) * Rl.rt (Rl.iR sq) = Rl.iR b * Rl.iR s * (rY a - fR n) := by
    simp only [Rl.iR_sub, Rl.iR_mul]
    unfold rY
    grind
  have rt' : Rl.iR T + Rl.iR Tf * Rl.rt (Rl.iR sq) = Rl.iR b * rT a := by
    unfold rT
    grind
  generalize X * s - E * b = x at *
  generalize Y * s - Nn' * b = y at *
  generalize Xf * s = xf at *
  generalize Yf * s = yf at *
  have mm : ∀ {u v : Int}, u.natAbs < 2 ^ 473 → v.natAbs < 2 ^ 473 → CMulW u v := fun hu hv => mulW_of hu hv (by decide)
  have p2 := bd_add (bd_mul bxf bxf) (bd_mul byf byf)
  have p1 := bd_add (lt_pow_add (bd_add (bd_mul bx bx) (bd_mul by' by')) (show 473 + 473 + 1 ≤ 1300 by decide)) (lt_pow_add (bd_mul p2 bsq) (show _ ≤ 1300 by decide))
  have p3 := bd_mul (j := 2) (x := 2) (by decide) (bd_add (bd_mul bx bxf) (bd_mul by' byf))
  have pm := bd_mul m1 m1
  have pb := bd_mul bb bb
  have pbs := bd_mul pb sb
  refine ⟨mm bx bx, mm by' by', mm bxf bxf, mm byf byf, mulW_of p2 bsq (by decide), mm bx bxf, mm by' byf, mulW_of (a := 2) (by decide) (bd_add (bd_mul bx bxf) (bd_mul by' byf)) (by decide), mulW_of m1 m1 (by decide), mulW_of p1 pm (by decide), mulW_of p3 pm (by decide), mulW_of bb bb (by decide), mulW_of pb sb (by decide), mulW_of pbs sb (by decide), ?_⟩
  have bbss : 0 < b * b * s * s := Int.mul_pos (Int.mul_pos (Int.mul_pos b0 b0) s0) s0
  refine fwr_ret (bd_mul p1 pm) (bd_mul p3 pm) bsq (bd_mul pbs sb) sq0 bbss (by decide) (by decide) (by decide) fun F f1 f2 f3 => ?_
  -- the square of the distance
  have d0 : 0 ≤ (rX a - fR e) * (rX a - fR e) + (rY a - fR n) * (rY a - fR n) := by
    have h1 := Rl.sq_nn (rX a - fR e)
    have h2 := Rl.sq_nn (rY a - fR n)
    grind
  have r1 := Rl.rt_sq d0
  have r0 := Rl.rt_nn ((rX a - fR e) * (rX a - fR e) + (rY a - fR n) * (rY a - fR n))
  have tot := quad2 w1 rx ry
  have M0 : 0 < Rl.iR m := Rl.iR_pos.mpr m0
  have hge : ∀ mm : Rl, 0 ≤ hsg a (fR e) (fR n) mm ↔ mm ≤ hT a (fR e) (fR n) := fun mm => hsg_ge
  have hTe : hT a (fR e) (fR n) = rT a + Rl.rt ((rX a - fR e) * (rX a - fR e) + (rY a - fR n) * (rY a - fR n)) := rfl
  generalize (rX a - fR e) * (rX a - fR e) + (rY a - fR n) * (rY a - fR n) = D2 at *
  generalize Rl.rt D2 = w at *
  have eF : Rl.iR ((x * x + y * y + (xf * xf + yf * yf) * sq) * (m * m)) + Rl.iR (2 * (x * xf + y * yf) * (m * m)) * Rl.rt (Rl.iR sq) = Rl.iR (b * b * s * s) * (D2 * (Rl.iR m * Rl.iR m)) := by
    simp only [Rl.iR_mul, Rl.iR_add, Rl.iR_two]
    exact eF_aux tot
  rw [eF] at f1 f2
  have BS := Rl.iR_pos.mpr bbss
  have g1' : Rl.iR F ≤ D2 * (Rl.iR m * Rl.iR m) := le_cancel BS (by grind)
  have g2' : D2 * (Rl.iR m * Rl.iR m) < Rl.iR F + 1 := lt_cancel BS (by grind)
  have D0 : 0 ≤ D2 * (Rl.iR m * Rl.iR m) := Rl.mul_nn d0 (Rl.sq_nn _)
  have F0 : 0 ≤ F := by
    have : Rl.iR 0 < Rl.iR (F + 1) := by
      rw [Rl.iR_zero, Rl.iR_add, Rl.iR_one]
      grind
    have := Rl.iR_lt.mp this
    omega
  walk_at "zq"
  refine ⟨F0, log_sq f3 (by decide), mulW_of bT m1 (by decide), mulW_of bTf m1 (by decide), ?_⟩
  refine fwr_ret (bd_mul bT m1) (bd_mul bTf m1) bsq bb sq0 b0 (by decide) (by decide) (by decide) fun G e1 e2 e3 => ?_
  have eG : Rl.iR (T * m) + Rl.iR (Tf * m) * Rl.rt (Rl.iR sq) = Rl.iR b * (rT a * Rl.iR m) := by
    simp only [Rl.iR_mul]
    exact eG_aux rt'
  rw [eG] at e1 e2
  have h1' : Rl.iR G ≤ rT a * Rl.iR m := le_cancel B0 (by grind)
  have h2' : rT a * Rl.iR m < Rl.iR G + 1 := lt_cancel B0 (by grind)
  have ed : (((PySem.Float64.isqrt F.toNat : Nat) : Int)) = isq F := rfl
  rw [ed]
  obtain ⟨z0, z1, z2⟩ := isq_spec F0
  have zb := isq_bd F0 f3
  have wm0 : 0 ≤ w * Rl.iR m := Rl.mul_nn r0 (by grind)
  have wm : w * Rl.iR m * (w * Rl.iR m) = D2 * (Rl.iR m * Rl.iR m) := by
    rw [← r1]
    grind
  have k1 := Rl.iR_le.mpr z1
  have k2 := Rl.iR_le.mpr (show F + 1 ≤ (isq F + 1) * (isq F + 1) by omega)
  have k0 := Rl.iR_nn.mpr z0
  generalize isq F = z at *
  simp only [Rl.iR_mul, Rl.iR_add, Rl.iR_one] at k1 k2
  have u1 : Rl.iR z ≤ w * Rl.iR m := Rl.le_of_sq wm0 (by rw [wm]; grind)
  have u2 : w * Rl.iR m < Rl.iR z + 1 := Rl.lt_of_sq (by grind) (by rw [wm]; grind)
  walk_at "zq"
  have lowb : (G + z + 1).natAbs < 2 ^ 5000 := by
    have x1 := lt_pow_add e3 (show _ ≤ 4990 by decide)
    have x2 := lt_pow_add zb (show _ ≤ 4990 by decide)
    rw [show 2 ^ 5000 = 2 ^ 4990 * 1024 by rw [show 5000 = 4990 + 10 by rfl, Nat.pow_add]]
    have x3 : 1 ≤ 2 ^ 4990 := Nat.pow_pos (by decide)
    generalize 2 ^ 4990 = zz at *
    omega
  have b1 : Bn 5000 141 ⟨G + z + 1, m⟩ := ⟨lowb, lt_pow_add m1 (by decide)⟩
  have dm : 0 < (⟨G + z + 1, m⟩ : Fr).d := m0
  refine sign_heard_ret (e := e) (n := n) (m := ⟨G + z + 1, m⟩) ha he hn dm (be.mono (by decide) (by decide)) (bn.mono (by decide) (by decide)) b1 (by decide) (by decide) (by decide) (by decide) fun M3 g3 => ?_
  have vfr := fR_mul dm
  have vfr : fR ⟨G + z + 1, m⟩ * Rl.iR m = Rl.iR (G + z + 1) := vfr
  have cmp : (0 ≤ hsg a (fR e) (fR n) (fR ⟨G + z + 1, m⟩)) ↔ Rl.iR (G + z + 1) ≤ hT a (fR e) (fR n) * Rl.iR m := by
    rw [hge, ← vfr]
    constructor
    · intro hle
      have := Rl.mul_nn (show 0 ≤ hT a (fR e) (fR n) - fR ⟨G + z + 1, m⟩ by grind) (show 0 ≤ Rl.iR m by grind)
      grind
    · intro hle
      refine le_cancel M0 ?_
      grind
  have V : hT a (fR e) (fR n) * Rl.iR m = rT a * Rl.iR m + w * Rl.iR m := by
    rw [hTe]
    grind
  walk_at "zq"
  have gg := g1.trans (g2.trans g3)
  by_cases hc : 0 ≤ hsg a (fR e) (fR n) (fR ⟨G + z + 1, m⟩)
  · rw [if_pos hc]
    refine h _ M3 gg (cmp.mp hc) ?_
    rw [V]
    simp only [Rl.iR_add, Rl.iR_one]
    grind
  · rw [if_neg hc]
    refine h _ M3 gg ?_ ?_
    · rw [V]
      simp only [Rl.iR_add]
      grind
    · have := fun c => hc (cmp.mpr c)
      simp only [Rl.iR_add, Rl.iR_one] at this ⊢
      grind
end K1


set_option Elab.async false
set_option linter.all false
set_option maxRecDepth 100000
set_option exponentiation.threshold 10000
namespace K1
open PySem PySem.Spec PyProof.Rows L2 Zq Zr
local macro_rules | `(tactic| walk_at "zq") => `(tactic| simp only [E_body, E_app, E_zf, E_isS, E_zfK, E_sls, E_mulS, E_lens, E_isL, E_appK, E_kApp, E_fSl, E_kSl2, E_addl, E_kAddL, E_var0, E_varS, E_C, E_bin, E_test, E_kB, E_anil, E_acons, E_tup, E_lst, E_b, E_call, E_callK, E_neg, E_kNeg, E_tand, E_tor, E_tnot, E_and, E_or, E_kAnd, E_kOr, E_not, E_kNot, E_ifE, E_chain, E_kCh, E_isN, E_isN0, E_isNt, E_isNi, E_isNs, E_isNl, E_snil, E_scons, E_pass, E_brk, E_cnt, E_ret, E_retN, E_expr, E_if, E_asg, E_set, E_par, E_kPar, E_par3, E_kPar3, E_aug, E_kAug, E_gN, E_gN0, E_gNC, E_gT, E_gS, E_kS, E_kS0, E_kS1, E_kS2, E_sub, E_iadd, E_mul, E_div, E_mod, E_pow, E_lt, E_le, E_gt, E_ge, E_addi, E_adds, E_addt, E_eqi, E_eqs, E_eqb, E_nei, E_nes, E_kAt, E_ixt, E_ixr, E_ixl, E_kAtL, at0, at1, at2, at3, E_abs, E_max, E_min, E_inti, E_intb, E_str, E_dm, E_lent, E_lenr, E_lenl, E_kLen, E_gcd, E_sqrt, E_lcm2, E_lcm3, E_all, E_kAll, E_isii, E_isit, isi_ii, isi_ib, isi_tt, E_iQ, E_kIt, E_kIr, E_kIl, E_kIl', E_iR1, E_kR1, E_for, E_lc, E_lc0, E_lcS, E_kLc, E_yes, E_f0, E_fS, E_stN, E_stS, E_s0, E_sS, E_g0, E_gSx, E_w0, E_wS,
  Mem.put_same, Mem.put_put, Zq.fD, Zq.E_ord10, Zq.E_ord0, E_wSlice, E_oNone, E_kO, E_oSome, List.map_cons, List.map_nil, List.cons_append, List.nil_append, List.replicate, List.length_cons, List.length_nil, decide_eq_true_eq, Bool.false_eq_true, if_false, if_true, Nat.reduceAdd, Nat.reduceLeDiff, true_and, and_true, Option.map_some, Bool.not_true, Bool.not_false])
local macro_rules | `(tactic| walk_at "zr") => `(tactic| simp only [E_body, E_app, E_zf, E_isS, E_zfK, E_sls, E_mulS, E_lens, E_isL, E_appK, E_kApp, E_fSl, E_kSl2, E_addl, E_kAddL, E_var0, E_varS, E_C, E_bin, E_test, E_kB, E_anil, E_acons, E_tup, E_lst, E_b, E_call, E_callK, E_neg, E_kNeg, E_tand, E_tor, E_tnot, E_and, E_or, E_kAnd, E_kOr, E_not, E_kNot, E_ifE, E_chain, E_kCh, E_isN, E_isN0, E_isNt, E_isNi, E_isNs, E_isNl, E_snil, E_scons, E_pass, E_brk, E_cnt, E_ret, E_retN, E_expr, E_if, E_asg, E_set, E_par, E_kPar, E_par3, E_kPar3, E_aug, E_kAug, E_gN, E_gN0, E_gNC, E_gT, E_gS, E_kS, E_kS0, E_kS1, E_kS2, E_sub, E_iadd, E_mul, E_div, E_mod, E_pow, E_lt, E_le, E_gt, E_ge, E_addi, E_adds, E_addt, E_eqi, E_eqs, E_eqb, E_nei, E_nes, E_kAt, E_ixt, E_ixr, E_ixl, E_kAtL, at0, at1, at2, at3, E_abs, E_max, E_min, E_inti, E_intb, E_str, E_dm, E_lent, E_lenr, E_lenl, E_kLen, E_gcd, E_sqrt, E_lcm2, E_lcm3, E_all, E_kAll, E_isii, E_isit, isi_ii, isi_ib, isi_tt, E_iQ, E_kIt, E_kIr, E_kIl, E_kIl', E_iR1, E_kR1, E_for, E_lc, E_lc0, E_lcS, E_kLc, E_yes, E_stN, E_stS, E_s0, E_sS, E_g0, E_gSx, E_w0, E_wS,
  Mem.put_same, Mem.put_put, Zq.fD, Zq.E_ord10, Zq.E_ord0, E_wSlice, E_oNone, E_kO, E_oSome, List.map_cons, List.map_nil, List.cons_append, List.nil_append, List.replicate, List.length_cons, List.length_nil, decide_eq_true_eq, Bool.false_eq_true, if_false, if_true, Nat.reduceAdd, Nat.reduceLeDiff, true_and, and_true, Option.map_some, Bool.not_true, Bool.not_false])
variable {M : Mem} {R : DK} {p : Addr} {n : Nat} {f g : Fr}
theorem floor_at_ret {e : Nm} {m y0 : Int} (he : Ok 320 e) (m0 : 0 < m) (m1 : m.natAbs < 2 ^ 200) (h1 : Rl.iR y0 ≤ nR e * Rl.iR m) (h2 : nR e * Rl.iR m < Rl.iR y0 + 1) (h : ∀ M', Grow M M' → R (.int y0) M') : K4.W_floor_at [nD e, .int m] M R := by
  unfold K4.W_floor_at
  walk_at "zq"
  refine need_ret he.p he.q he.r he.r0 fun M1 g1 => need_many_ret m0 (floor_of_ret he m0 m1 (by decide) (by decide) fun y M2 g2 k1 k2 => ?_)
  rw [floor_uniq k1 k2 h1 h2]
  exact h M2 (g1.trans g2)
theorem ten_pos (k : Nat) : (0 : Int) < 10 ^ k := Int.pow_pos (by decide)
theorem figures_ret {e : Nm} {k : Nat} {y0 : Int} (he : Ok 320 e) (hk : k ≤ 40) (hy : y0.natAbs < 2 ^ 1919) (h1 : Rl.iR y0 ≤ nR e * Rl.iR (10 ^ k)) (h2 : nR e * Rl.iR (10 ^ k) < Rl.iR y0 + 1) (h : ∀ M', Grow M M' → R (.str (wpV y0 k)) M') : K4.W_figures [nD e, .int k] M R := by
  unfold K4.W_figures
  walk_at "zq"
  refine need_ret he.p he.q he.r he.r0 fun M1 g1 => need_places_ret hk (ten_ret hk (floor_of_ret he (ten_pos k) (ten_bd hk) (by decide) (by decide) fun y M2 g2 k1 k2 => ?_))
  rw [floor_uniq k1 k2 h1 h2]
  exact with_point_ret hy hk (h M2 (g1.trans g2))
theorem law_floor_ret {a : Nm} {m : Int} (da : Dn a) (m0 : 0 < m) (m1 : m.natAbs < 2 ^ 200) (h : ∀ y : Int, Rl.iR y ≤ nR a * Rl.iR m → nR a * Rl.iR m < Rl.iR y + 1 → y.natAbs < 2 ^ 487 → R (.int y) M) : W_law_floor [nD a, .int m] M R :=
  floor_ex (i := 284) (j := 124) (k := 248) (l := 200) (c := 448) (B := 487) ⟨da.p, da.q, da.r, da.r0, da.bp, da.bq, da.br⟩ m0 m1 (by decide) (by decide) (by decide) (by decide) (by decide) (by decide) h
/-- its signs are plain ones -/
def Asc (z : Str) : Prop := ∀ c ∈ TL.tl z, c < 128
theorem Asc.app {x y : Str} (a : Asc x) (b : Asc y) : Asc (x ++ y) := fun c hc => by
  rw [TL.tl_append] at hc
  rcases List.mem_append.mp hc with h | h
  · exact a c h
  · exact b c h
theorem Asc.cut {x : Str} (a : Asc x) (lo hi : Option Int) : Asc (cutS x lo hi) := fun c hc => by
  rw [tl_cut] at hc
  exact a c (List.mem_of_mem_drop (List.mem_of_mem_take hc))
theorem asc_wp (y : Int) (k : Nat) : Asc (wpV y k) := by
  have num : Asc (noughts (k + 1 - (numS y.natAbs).length) (numS y.natAbs)) := fun c hc => by
    rw [tl_noughts] at hc
    rcases List.mem_append.mp hc with h | h
    · have := (List.mem_replicate.mp h).2
      omega
    · have e : TL.tl (numS y.natAbs) = TL.numL y.natAbs := TL.tl_num _
      rw [e] at h
      have := TL.numL_digits y.natAbs c h
      omega
  have pt : Asc (ptV (noughts (k + 1 - (numS y.natAbs).length) (numS y.natAbs)) k) := by
    unfold ptV
    split
    · refine ((num.cut _ _).app ?_).app (num.cut _ _)
      unfold Asc
      decide +kernel
    · exact num
  unfold wpV
  split
  · refine Asc.app ?_ pt
    unfold Asc
    decide +kernel
  · exact pt
theorem wp_len {y : Int} {k : Nat} (hy : y.natAbs < 2 ^ 1919) (hk : k ≤ 40) : (wpV y k).length ≤ 4100 := by
  have l1 := numS_len hy
  have len := len_noughts (k + 1 - (numS y.natAbs).length) (numS y.natAbs)
  have pl := ptV_len (w := noughts (k + 1 - (numS y.natAbs).length) (numS y.natAbs)) (k := k) (by omega)
  have d2 : ("-" : Str).length = 1 := by decide +kernel
  unfold wpV
  split
  · rw [len_app]
    omega
  · omega
theorem rep_str {z : Str} {k : Nat} (h : z.length ≤ k) (a : Asc z) : Rep (10 * k + 2) 0 (.str z) := by
  have ok : PyData.strOk z = true := by
    unfold PyData.strOk
    rw [Array.all_eq_true']
    intro c hc
    have := a c (by unfold TL.tl; simpa using hc)
    simp only [decide_eq_true_eq]
    omega
  refine ⟨by simp [PyData.showable], by simp [PyData.canLay0, ok], by simp [PyData.depth], ?_⟩
  have := StrLaws.reprText_len z fun c hc => Nat.lt_trans (a c hc) (by decide)
  show (reprText z).length ≤ _
  omega
theorem many_mem {v : Int} {d : D} (v0 : 0 ≤ v) (v1 : v < 1000000) (h : d ∈ ([.int 1, .int 1, .int 2, .int 3, .int 7, .int 10, .int 1000, .int (10 ^ (12 : Int).toNat), .int (1 + v), .int (10 ^ (60 : Int).toNat)] : List D)) : ∃ m : Int, d = .int m ∧ 0 < m ∧ m.natAbs < 2 ^ 200 := by
  simp only [List.mem_cons, List.not_mem_nil, or_false] at h
  rcases h with rfl | rfl | rfl | rfl | rfl | rfl | rfl | rfl | rfl | rfl
  · exact ⟨_, rfl, by decide, by decide⟩
  · exact ⟨_, rfl, by decide, by decide⟩
  · exact ⟨_, rfl, by decide, by decide⟩
  · exact ⟨_, rfl, by decide, by decide⟩
  · exact ⟨_, rfl, by decide, by decide⟩
  · exact ⟨_, rfl, by decide, by decide⟩
  · exact ⟨_, rfl, by decide, by decide⟩
  · exact ⟨_, rfl, by decide, by decide⟩
  · exact ⟨_, rfl, by omega, by omega⟩
  · exact ⟨_, rfl, by decide, by decide⟩
theorem places_mem {d : D} (h : d ∈ ([.int 0, .int 0, .int 1, .int 2, .int 3, .int 6, .int 17, .int 40] : List D)) : ∃ k : Nat, d = .int k ∧ k ≤ 40 := by
  simp only [List.mem_cons, List.not_mem_nil, or_false] at h
  rcases h with rfl | rfl | rfl | rfl | rfl | rfl | rfl | rfl
  · exact ⟨0, rfl, by decide⟩
  · exact ⟨0, rfl, by decide⟩
  · exact ⟨1, rfl, by decide⟩
  · exact ⟨2, rfl, by decide⟩
  · exact ⟨3, rfl, by decide⟩
  · exact ⟨6, rfl, by decide⟩
  · exact ⟨17, rfl, by decide⟩
  · exact ⟨40, rfl, by decide⟩
theorem pyD_list {l : Addr} {L : List D} {P : List PyData} (h : M l = some L) (hL : pyDs M 199 L = some P) : pyD M 200 (.lst l) = some (.list P) := by
  show pyD M (199 + 1) (.lst l) = _
  unfold pyD
  rw [h]
  simp only [hL, Option.map_some]
/-- two lists alike -/
theorem same2_ret {l q : Addr} {x : D} {P : PyData} {k m : Nat} (h1 : M l = some [x, x]) (h2 : M q = some [x, x]) (e : pyD M 198 x = some P) (e2 : pyD M 197 x = some P) (r : Rep k m P) (hk : k ≤ 1000000) (hm : m ≤ 60) (h : R (.bl true) M) : W_law_same [.lst l, .lst q] M R := by
  have hL : pyDs M 199 [x, x] = some [P, P] := by
    simp only [pyDs, e, e2, Option.map_some]
  refine same_ret (pyD_list h1 hL) (pyD_list h2 hL) (rep_lst (repAll_cons r (repAll_cons r repAll_nil))) (by omega) (by omega) h
theorem cps {P : DK → Prop} {K : DK} {C : DK → Prop} (h1 : ∀ K, C K → P K) (h2 : C K) : P K := h1 K h2
theorem len6 {α : Type} {os : List α} (h : os.length = 6) : ∃ o1 o2 o3 o4 o5 o6, os = [o1, o2, o3, o4, o5, o6] := match os, h with | [o1, o2, o3, o4, o5, o6], _ => ⟨o1, o2, o3, o4, o5, o6, rfl⟩
theorem k4_turn {W : WEnds} {t : D} {os : List (Option D)} (hl : os.length = 6) (j : Jar M p n) (hn : n + 300 < 2 ^ 100) (h : ∀ M' os', os'.length = 6 → Jar M' p (n + 300) → GrowX p M M' → W.nx (some (.lst p) :: os') M') :
    (sCons (sSet 2 (wIf (wTest (wBin fGt (wCall K1.W_law_dip (aCons (wVar 0) (aCons (wC (.int 4)) aNil))) (wC (.int 0)))) (wCall K1.W_law_number (aCons (wVar 0) aNil)) (wTup (aCons (wCall K1.W_law_some (aCons (wVar 0) aNil)) (aCons (wTup (aCons (wC (.int 0)) (aCons (wC (.int 1)) aNil))) (aCons (wCall K1.W_law_rootable (aCons (wVar 0) aNil)) aNil))))))
    (sCons (sSet 3 (wCall K1.W_law_one_of (aCons (wVar 0) (aCons (wLst (aCons (wC (.int 1)) (aCons (wC (.int 1)) (aCons (wC (.int 2)) (aCons (wC (.int 3)) (aCons (wC (.int 7)) (aCons (wC (.int 10)) (aCons (wC (.int 1000)) (aCons (wBin fPow (wC (.int 10)) (wC (.int 12))) (aCons (wBin fAdd (wC (.int 1)) (wCall K1.W_law_dip (aCons (wVar 0) (aCons (wBin fPow (wC (.int 10)) (wC (.int 6))) aNil)))) (aCons (wBin fPow (wC (.int 10)) (wC (.int 60))) aNil))))))))))) aNil))))
    (sCons (sSet 4 (wCall K1.W_law_one_of (aCons (wVar 0) (aCons (wLst (aCons (wC (.int 0)) (aCons (wC (.int 0)) (aCons (wC (.int 1)) (aCons (wC (.int 2)) (aCons (wC (.int 3)) (aCons (wC (.int 6)) (aCons (wC (.int 17)) (aCons (wC (.int 40)) aNil))))))))) aNil))))
    (sCons (sSet 5 (wCall K1.W_law_floor (aCons (wVar 2) (aCons (wVar 3) aNil))))
    (sCons (sIf (tNot' (wTest (wCall K1.W_law_same (aCons (wLst (aCons (wCall K4.W_floor_at (aCons (wVar 2) (aCons (wVar 3) aNil))) (aCons (wCallK 2 [1, 0] K4.W_floor_at (aCons (wVar 3) (aCons (wCall K1.W_law_twin (aCons (wVar 0) (aCons (wVar 2) aNil))) aNil))) aNil))) (aCons (wLst (aCons (wVar 5) (aCons (wVar 5) aNil))) aNil))))) (sCons (sRet (wC (.bl false)))
    sNil) sNil)
    (sCons (sSet 6 (wCall K4.W_law_figures (aCons (wCall K1.W_law_floor (aCons (wVar 2) (aCons (wCall K4.W_law_ten (aCons (wVar 4) aNil)) aNil))) (aCons (wVar 4) aNil))))
    (sCons (sIf (tNot' (wTest (wCall K1.W_law_same (aCons (wLst (aCons (wCall K4.W_figures (aCons (wVar 2) (aCons (wVar 4) aNil))) (aCons (wCallK 2 [1, 0] K4.W_figures (aCons (wVar 4) (aCons (wVar 2) aNil))) aNil))) (aCons (wLst (aCons (wVar 6) (aCons (wVar 6) aNil))) aNil))))) (sCons (sRet (wC (.bl false)))
    sNil) sNil)
    sNil))))))) W (some (.lst p) :: os.set 0 (some t)) M := by
  obtain ⟨o1, o2, o3, o4, o5, o6, rfl⟩ := len6 hl
  rw [E_scons, E_set]
  refine cps (P := wIf _ _ _ _ M) (C := fun K => ∀ a M2, Dn a → Jar M2 p (n + 100) → GrowX p M M2 → K (nD a) M2) (fun K hK => ?_) (fun a M2 da j2 g2 => ?_)
  · walk_at "zr"
    refine dip_ret' j (by omega) (by decide) (by decide) fun w M1 w0 w1 j1 g1 => ?_
    walk_at "zr"
    split
    · exact number_ret j1 (by omega) fun a M2 da j2 g2 => hK a M2 da (j2.mono (by omega)) (g1.trans g2)
    · refine some_ret j1 (by omega) fun f M2 hf bf j2 g2 => rootable_ret j2 (by omega) fun r M3 hr br r0 j3 g3 => ?_
      exact hK ⟨f, ⟨0, 1⟩, r⟩ M3 ⟨hf, isF_one 0, hr, r0, bf.mono (by decide), bd_of (by decide) (by decide), br⟩ (j3.mono (by omega)) (g1.trans (g2.trans g3))
  · walk_at "zr"
    refine ⟨⟨by decide, by decide, by decide⟩, ⟨by decide, by decide, by decide⟩, ?_⟩
    refine dip_ret' j2 (by omega) (by decide) (by decide) fun v M3 v0 v1 j3 g3 => ?_
    walk_at "zr"
    refine ⟨⟨by decide, by decide, by decide⟩, fun q hq => ?_⟩
    refine one_of_new j3 (by omega) hq (by simp) (by simp) fun d M4 hd j4 g4 => ?_
    obtain ⟨m, rfl, m0, m1⟩ := many_mem v0 v1 hd
    intro q2 hq2
    refine one_of_new j4 (by omega) hq2 (by simp) (by simp) fun d M5 hd j5 g5 => ?_
    obtain ⟨k, rfl, hk⟩ := places_mem hd
    refine law_floor_ret da m0 m1 fun y1 y2 y3 y4 => ?_
    have ha := da.ok
    refine floor_at_ret ha m0 m1 y2 y3 fun M6 g6 => ?_
    refine twin_w da (j5.grow g6) (by omega) fun b M7 hb tb j7 g7 => ?_
    have hb' : Ok 320 b := hb.ok (by decide) (by decide) (by decide)
    refine floor_at_ret hb' m0 m1 (by rw [tb.v]; exact y2) (by rw [tb.v]; exact y3) fun M8 g8 => ?_
    intro l1 hl1 l2 hl2
    have j8 := j7.grow g8
    have ga : Grow M8 (M8.put l1 [.int y1, .int y1]) := .put hl1
    have gb : Grow (M8.put l1 [.int y1, .int y1]) ((M8.put l1 [.int y1, .int y1]).put l2 [.int y1, .int y1]) := .put hl2
    have s1 := gb _ _ (show (M8.put l1 [.int y1, .int y1]) l1 = some [.int y1, .int y1] from Mem.put_same)
    have ri : Rep 1922 0 (.int y1) := rep_int (Nat.lt_trans y4 (Nat.pow_lt_pow_right (by decide) (by decide)))
    refine same2_ret s1 Mem.put_same (P := .int y1) (by simp [pyD]) (by simp [pyD]) ri (by decide) (by decide) ?_
    have j9 := (j8.grow ga).grow gb
    have g9 : GrowX p M ((M8.put l1 [.int y1, .int y1]).put l2 [.int y1, .int y1]) := g2.trans (g3.trans (g4.trans (g5.trans (g6.x.trans (g7.trans (g8.x.trans (ga.x.trans gb.x)))))))
    generalize (M8.put l1 [.int y1, .int y1]).put l2 [.int y1, .int y1] = M9 at *
    walk_at "zr"
    refine law_ten_ret hk ?_
    have t1 := Nat.lt_of_lt_of_le (ten_bd hk) (show 2 ^ 140 ≤ 2 ^ 200 from Nat.pow_le_pow_right (by decide) (by decide))
    refine law_floor_ret da (ten_pos k) t1 fun z1 z2 z3 z4 => ?_
    have z5 : z1.natAbs < 2 ^ 1919 := Nat.lt_trans z4 (Nat.pow_lt_pow_right (by decide) (by decide))
    refine law_figures_ret z5 hk ?_
    refine figures_ret ha hk z5 z2 z3 fun M10 g10 => figures_ret ha hk z5 z2 z3 fun M11 g11 => ?_
    intro l3 hl3 l4 hl4
    have gc : Grow M11 (M11.put l3 [.str (wpV z1 k), .str (wpV z1 k)]) := .put hl3
    have gd : Grow (M11.put l3 [.str (wpV z1 k), .str (wpV z1 k)]) ((M11.put l3 [.str (wpV z1 k), .str (wpV z1 k)]).put l4 [.str (wpV z1 k), .str (wpV z1 k)]) := .put hl4
    have s3 := gd _ _ (show (M11.put l3 [.str (wpV z1 k), .str (wpV z1 k)]) l3 = some [.str (wpV z1 k), .str (wpV z1 k)] from Mem.put_same)
    refine same2_ret s3 Mem.put_same (P := .str (wpV z1 k)) (by simp [pyD]) (by simp [pyD]) (rep_str (wp_len z5 hk) (asc_wp z1 k)) (by decide) (by decide) ?_
    walk_at "zr"
    have j11 := (((j9.grow g10).grow g11).grow gc).grow gd
    exact h _ _ rfl (j11.mono (by omega)) (g9.trans (g10.x.trans (g11.x.trans (gc.x.trans gd.x))))
theorem k4_right (M : Mem) (R : DK) (p : Addr) (j : Jar M p 0) (h : ∀ M', GrowX p M M' → R (.bl true) M') : K4.W_law_right [.lst p] M R := by
  unfold K4.W_law_right
  exact right_of (per := 300) (by decide) (by decide) (fun W M n t os hl j hn h => k4_turn hl j hn h) (by decide) j h
theorem k4_law (ns : List Int) (hl : ns.length ≤ 63) : K4.W_law [.ro (ns.map D.int)] (fun _ => none) fun d _ => d = .bl true :=
  law_of (jarf := K4.W_law_jar) (rightf := K4.W_law_right) (K := 4) (by decide) (by decide) (fun ns k M R hk h => jarW_ret (c := 6131) (by decide) (by decide) hk h) (fun p M R j h => k4_right M R p j h) ns hl
end K1


set_option Elab.async false
set_option linter.all false
set_option maxRecDepth 100000
set_option exponentiation.threshold 10000
namespace K1
open PySem PySem.Spec PyProof.Rows L2 Zq Zr
local macro_rules | `(tactic| walk_at "zq") => `(tactic| simp only [E_body, E_app, E_zf, E_isS, E_zfK, E_sls, E_mulS, E_lens, E_isL, E_appK, E_kApp, E_fSl, E_kSl2, E_addl, E_kAddL, E_var0, E_varS, E_C, E_bin, E_test, E_kB, E_anil, E_acons, E_tup, E_lst, E_b, E_call, E_callK, E_neg, E_kNeg, E_tand, E_tor, E_tnot, E_and, E_or, E_kAnd, E_kOr, E_not, E_kNot, E_ifE, E_chain, E_kCh, E_isN, E_isN0, E_isNt, E_isNi, E_isNs, E_isNl, E_snil, E_scons, E_pass, E_brk, E_cnt, E_ret, E_retN, E_expr, E_if, E_asg, E_set, E_par, E_kPar, E_par3, E_kPar3, E_aug, E_kAug, E_gN, E_gN0, E_gNC, E_gT, E_gS, E_kS, E_kS0, E_kS1, E_kS2, E_sub, E_iadd, E_mul, E_div, E_mod, E_pow, E_lt, E_le, E_gt, E_ge, E_addi, E_adds, E_addt, E_eqi, E_eqs, E_eqb, E_nei, E_nes, E_kAt, E_ixt, E_ixr, E_ixl, E_kAtL, at0, at1, at2, at3, E_abs, E_max, E_min, E_inti, E_intb, E_str, E_dm, E_lent, E_lenr, E_lenl, E_kLen, E_gcd, E_sqrt, E_lcm2, E_lcm3, E_all, E_kAll, E_isii, E_isit, isi_ii, isi_ib, isi_tt, E_iQ, E_kIt, E_kIr, E_kIl, E_kIl', E_iR1, E_kR1, E_for, E_lc, E_lc0, E_lcS, E_kLc, E_yes, E_f0, E_fS, E_stN, E_stS, E_s0, E_sS, E_g0, E_gSx, E_w0, E_wS,
  Mem.put_same, Mem.put_put, Zq.fD, Zq.E_ord10, Zq.E_ord0, E_wSlice, E_oNone, E_kO, E_oSome, List.map_cons, List.map_nil, List.cons_append, List.nil_append, List.replicate, List.length_cons, List.length_nil, decide_eq_true_eq, Bool.false_eq_true, if_false, if_true, Nat.reduceAdd, Nat.reduceLeDiff, true_and, and_true, Option.map_some, Bool.not_true, Bool.not_false])
local macro_rules | `(tactic| walk_at "zr") => `(tactic| simp only [E_body, E_app, E_zf, E_isS, E_zfK, E_sls, E_mulS, E_lens, E_isL, E_appK, E_kApp, E_fSl, E_kSl2, E_addl, E_kAddL, E_var0, E_varS, E_C, E_bin, E_test, E_kB, E_anil, E_acons, E_tup, E_lst, E_b, E_call, E_callK, E_neg, E_kNeg, E_tand, E_tor, E_tnot, E_and, E_or, E_kAnd, E_kOr, E_not, E_kNot, E_ifE, E_chain, E_kCh, E_isN, E_isN0, E_isNt, E_isNi, E_isNs, E_isNl, E_snil, E_scons, E_pass, E_brk, E_cnt, E_ret, E_retN, E_expr, E_if, E_asg, E_set, E_par, E_kPar, E_par3, E_kPar3, E_aug, E_kAug, E_gN, E_gN0, E_gNC, E_gT, E_gS, E_kS, E_kS0, E_kS1, E_kS2, E_sub, E_iadd, E_mul, E_div, E_mod, E_pow, E_lt, E_le, E_gt, E_ge, E_addi, E_adds, E_addt, E_eqi, E_eqs, E_eqb, E_nei, E_nes, E_kAt, E_ixt, E_ixr, E_ixl, E_kAtL, at0, at1, at2, at3, E_abs, E_max, E_min, E_inti, E_intb, E_str, E_dm, E_lent, E_lenr, E_lenl, E_kLen, E_gcd, E_sqrt, E_lcm2, E_lcm3, E_all, E_kAll, E_isii, E_isit, isi_ii, isi_ib, isi_tt, E_iQ, E_kIt, E_kIr, E_kIl, E_kIl', E_iR1, E_kR1, E_for, E_lc, E_lc0, E_lcS, E_kLc, E_yes, E_stN, E_stS, E_s0, E_sS, E_g0, E_gSx, E_w0, E_wS,
  Mem.put_same, Mem.put_put, Zq.fD, Zq.E_ord10, Zq.E_ord0, E_wSlice, E_oNone, E_kO, E_oSome, List.map_cons, List.map_nil, List.cons_append, List.nil_append, List.replicate, List.length_cons, List.length_nil, decide_eq_true_eq, Bool.false_eq_true, if_false, if_true, Nat.reduceAdd, Nat.reduceLeDiff, true_and, and_true, Option.map_some, Bool.not_true, Bool.not_false])
variable {M : Mem} {R : DK} {p : Addr} {n : Nat} {f g : Fr}
theorem ten2_bd {k : Nat} (hk : k ≤ 1000) : ((10 : Int) ^ k).natAbs < 2 ^ 3400 := by
  rw [Int.natAbs_pow]
  exact Nat.lt_of_le_of_lt (Nat.pow_le_pow_right (by decide) hk) (by decide +kernel)
theorem ten2_ret {k : Nat} (hk : k ≤ 1000) (h : R (.int (10 ^ k)) M) : K4.W_ten_to [.int k] M R := by
  unfold K4.W_ten_to
  try walk_at "zr"
  refine ⟨by omega, by omega, ?_⟩
  rw [Int.toNat_natCast]
  have main : ∀ (ds : List D) (i : Nat) (o : Option D) (all : List D), ds.length + i = k →
      forGo none all (gN 2) (sCons (sAug 1 fMul (wC (.int 10))) sNil) { nx := fun ρ' M' => wVar 1 ρ' M' R, rt := R } ds [some (.int k), some (.int (10 ^ i)), o] M := by
    intro ds
    induction ds with
    | nil =>
      intro i o all hi
      have : i = k := by simpa using hi
      subst this
      walk_at "zq"
      exact h
    | cons d ds ih =>
      intro i o all hi
      rw [List.length_cons] at hi
      walk_at "zq"
      refine ⟨mulW_of (ten2_bd (k := i) (by omega)) (b := 4) (by decide) (by decide), ?_⟩
      have := ih (i + 1) (some d) all (by omega)
      rw [Int.pow_succ] at this
      exact this
  exact main _ 0 none _ (by rw [rangeD_length]; rfl)
theorem count2_ret {k : Nat} (hk : k ≤ 40) (h : R .non M) : K4n.W_need_places [.int k] M R := by
  unfold K4n.W_need_places
  try walk_at "zr"
  unfold K4n.W_is_count
  try walk_at "zr"
  refine whole_ret ?_
  try walk_at "zr"
  rw [if_pos (by omega)]
  rw [decide_eq_true (show (k : Int) ≤ 40 by omega)]
  try walk_at "zr"
  exact h
theorem app_empty (z : Str) : z ++ ("" : Str) = z := by
  apply TL.ext_tl
  rw [TL.tl_append]
  have : TL.tl ("" : Str) = [] := by decide +kernel
  rw [this]
  simp
theorem in_figures2_ret {y : Int} (hy : y.natAbs < 2 ^ 1919) (h : R (.str (numS y.natAbs)) M) : K4n.W_in_figures [.int (y.natAbs : Nat)] M R := by
  unfold K4n.W_in_figures
  try walk_at "zr"
  have lt : ((y.natAbs : Nat) : Int) < 10 ^ 1000 := by
    have : (2 : Nat) ^ 1919 ≤ 10 ^ 1000 := by decide +kernel
    have e : ((10 : Int) ^ 1000) = ((10 ^ 1000 : Nat) : Int) := (Int.natCast_pow 10 1000).symm
    rw [e]
    exact Int.ofNat_lt.mpr (Nat.lt_of_lt_of_le hy this)
  have t : ∀ R : DK, R (.int (10 ^ 1000)) M → K4.W_ten_to [.int 1000] M R := fun R h => ten2_ret (k := 1000) (by decide) h
  generalize hB : (10 : Int) ^ 1000 = B at *
  refine t _ ?_
  clear t
  try walk_at "zr"
  refine ⟨fun k ρ' M' => ρ' = [some (.int (y.natAbs : Nat)), some (.str ""), some (.int B), none] ∧ M' = M, ⟨0, rfl, rfl⟩, ?_⟩
  rintro k ρ1 M1 ⟨rfl, rfl⟩
  try walk_at "zr"
  rw [if_neg (by omega)]
  have l1 := numS_len hy
  have hlog : ((y.natAbs : Nat) : Int).natAbs.log2 < 1920 := by
    have : ((y.natAbs : Nat) : Int).natAbs.log2 ≤ 1918 := log_of_lt (k := 1918) (by simpa using hy)
    omega
  try walk_at "zr"
  refine ⟨hlog, line5 (show (numS y.natAbs).length + ("" : Str).length ≤ 10000 by rw [show ("" : Str).length = 0 by decide +kernel]; omega), ?_⟩
  show R (.str (numS y.natAbs ++ ("" : Str))) M1
  rw [app_empty]
  exact h
theorem with_point2_ret {y : Int} {k : Nat} (hy : y.natAbs < 2 ^ 1919) (hk : k ≤ 40) (h : R (.str (wpV y k)) M) : K4n.W_with_point [.int y, .int k] M R := by
  unfold K4n.W_with_point
  walk_at "zq"
  rw [abs_of]
  refine in_figures2_ret hy ?_
  try walk_at "zr"
  have l1 := numS_len hy
  have l0 := numS_pos y.natAbs
  refine ⟨pad_ok hk, ?_⟩
  have ew : Txt.zfill (numS y.natAbs) ((k : Int) + 1) = noughts (k + 1 - (numS y.natAbs).length) (numS y.natAbs) := zfill_num y.natAbs k
  rw [ew]
  unfold wpV at h
  have len := len_noughts (k + 1 - (numS y.natAbs).length) (numS y.natAbs)
  generalize noughts (k + 1 - (numS y.natAbs).length) (numS y.natAbs) = w at *
  have lw1 : k + 1 ≤ w.length := by omega
  have lw2 : w.length ≤ 2000 := by omega
  have d1 : ("." : Str).length = 1 := by decide +kernel
  have d2 : ("-" : Str).length = 1 := by decide +kernel
  have pl := ptV_len (k := k) lw2
  by_cases k0 : 0 < k
  · rw [if_pos (by omega)]
    obtain ⟨c1, c2⟩ := cut_neg k0 (show k ≤ w.length by omega)
    rw [c1, c2]
    have c3 := len_cut w none (some ((w.length : Int) - k))
    have c4 := len_cut w (some ((w.length : Int) - k)) none
    have ep : cutS w none (some ((w.length : Int) - k)) ++ Str.ofString "." ++ cutS w (some ((w.length : Int) - k)) none = ptV w k := by
      unfold ptV
      rw [if_pos k0]
    rw [ep]
    refine ⟨line5 (by omega), line5 (by omega), line5 (by omega), line5 ?_, ?_⟩
    · rw [len_app]
      omega
    · split
      · rename_i hn
        rw [if_pos hn] at h
        exact ⟨line5 (by omega), h⟩
      · rename_i hn
        rw [if_neg hn] at h
        exact h
  · rw [if_neg (by omega)]
    have ep : ptV w k = w := by
      unfold ptV
      rw [if_neg k0]
    rw [ep] at h
    split
    · rename_i hn
      rw [if_pos hn] at h
      exact ⟨line5 (by omega), h⟩
    · rename_i hn
      rw [if_neg hn] at h
      exact h
end K1


set_option Elab.async false
set_option linter.all false
set_option maxRecDepth 100000
set_option exponentiation.threshold 10000
namespace K1
open PySem PySem.Spec PyProof.Rows L2 Zq Zr
local macro_rules | `(tactic| walk_at "zq") => `(tactic| simp only [E_body, E_app, E_zf, E_isS, E_zfK, E_sls, E_mulS, E_lens, E_isL, E_appK, E_kApp, E_fSl, E_kSl2, E_addl, E_kAddL, E_var0, E_varS, E_C, E_bin, E_test, E_kB, E_anil, E_acons, E_tup, E_lst, E_b, E_call, E_callK, E_neg, E_kNeg, E_tand, E_tor, E_tnot, E_and, E_or, E_kAnd, E_kOr, E_not, E_kNot, E_ifE, E_chain, E_kCh, E_isN, E_isN0, E_isNt, E_isNi, E_isNs, E_isNl, E_snil, E_scons, E_pass, E_brk, E_cnt, E_ret, E_retN, E_expr, E_if, E_asg, E_set, E_par, E_kPar, E_par3, E_kPar3, E_aug, E_kAug, E_gN, E_gN0, E_gNC, E_gT, E_gS, E_kS, E_kS0, E_kS1, E_kS2, E_sub, E_iadd, E_mul, E_div, E_mod, E_pow, E_lt, E_le, E_gt, E_ge, E_addi, E_adds, E_addt, E_eqi, E_eqs, E_eqb, E_nei, E_nes, E_kAt, E_ixt, E_ixr, E_ixl, E_kAtL, at0, at1, at2, at3, E_abs, E_max, E_min, E_inti, E_intb, E_str, E_dm, E_lent, E_lenr, E_lenl, E_kLen, E_gcd, E_sqrt, E_lcm2, E_lcm3, E_all, E_kAll, E_isii, E_isit, isi_ii, isi_ib, isi_tt, E_iQ, E_kIt, E_kIr, E_kIl, E_kIl', E_iR1, E_kR1, E_for, E_lc, E_lc0, E_lcS, E_kLc, E_yes, E_f0, E_fS, E_stN, E_stS, E_s0, E_sS, E_g0, E_gSx, E_w0, E_wS,
  Mem.put_same, Mem.put_put, Zq.fD, Zq.E_ord10, Zq.E_ord0, E_wSlice, E_oNone, E_kO, E_oSome, List.map_cons, List.map_nil, List.cons_append, List.nil_append, List.replicate, List.length_cons, List.length_nil, decide_eq_true_eq, Bool.false_eq_true, if_false, if_true, Nat.reduceAdd, Nat.reduceLeDiff, true_and, and_true, Option.map_some, Bool.not_true, Bool.not_false])
local macro_rules | `(tactic| walk_at "zr") => `(tactic| simp only [E_body, E_app, E_zf, E_isS, E_zfK, E_sls, E_mulS, E_lens, E_isL, E_appK, E_kApp, E_fSl, E_kSl2, E_addl, E_kAddL, E_var0, E_varS, E_C, E_bin, E_test, E_kB, E_anil, E_acons, E_tup, E_lst, E_b, E_call, E_callK, E_neg, E_kNeg, E_tand, E_tor, E_tnot, E_and, E_or, E_kAnd, E_kOr, E_not, E_kNot, E_ifE, E_chain, E_kCh, E_isN, E_isN0, E_isNt, E_isNi, E_isNs, E_isNl, E_snil, E_scons, E_pass, E_brk, E_cnt, E_ret, E_retN, E_expr, E_if, E_asg, E_set, E_par, E_kPar, E_par3, E_kPar3, E_aug, E_kAug, E_gN, E_gN0, E_gNC, E_gT, E_gS, E_kS, E_kS0, E_kS1, E_kS2, E_sub, E_iadd, E_mul, E_div, E_mod, E_pow, E_lt, E_le, E_gt, E_ge, E_addi, E_adds, E_addt, E_eqi, E_eqs, E_eqb, E_nei, E_nes, E_kAt, E_ixt, E_ixr, E_ixl, E_kAtL, at0, at1, at2, at3, E_abs, E_max, E_min, E_inti, E_intb, E_str, E_dm, E_lent, E_lenr, E_lenl, E_kLen, E_gcd, E_sqrt, E_lcm2, E_lcm3, E_all, E_kAll, E_isii, E_isit, isi_ii, isi_ib, isi_tt, E_iQ, E_kIt, E_kIr, E_kIl, E_kIl', E_iR1, E_kR1, E_for, E_lc, E_lc0, E_lcS, E_kLc, E_yes, E_stN, E_stS, E_s0, E_sS, E_g0, E_gSx, E_w0, E_wS,
  Mem.put_same, Mem.put_put, Zq.fD, Zq.E_ord10, Zq.E_ord0, E_wSlice, E_oNone, E_kO, E_oSome, List.map_cons, List.map_nil, List.cons_append, List.nil_append, List.replicate, List.length_cons, List.length_nil, decide_eq_true_eq, Bool.false_eq_true, if_false, if_true, Nat.reduceAdd, Nat.reduceLeDiff, true_and, and_true, Option.map_some, Bool.not_true, Bool.not_false])
variable {M : Mem} {R : DK} {p : Addr} {n : Nat} {f g : Fr}
theorem figures2_ret {e : Nm} {k : Nat} {y0 : Int} (he : Ok 320 e) (hk : k ≤ 40) (hy : y0.natAbs < 2 ^ 1919) (h1 : Rl.iR y0 ≤ nR e * Rl.iR (10 ^ k)) (h2 : nR e * Rl.iR (10 ^ k) < Rl.iR y0 + 1) (h : ∀ M', Grow M M' → R (.str (wpV y0 k)) M') : K4n.W_figures [nD e, .int k] M R := by
  unfold K4n.W_figures
  walk_at "zq"
  refine need_ret he.p he.q he.r he.r0 fun M1 g1 => count2_ret hk (ten_ret hk (floor_of_ret he (ten_pos k) (ten_bd hk) (by decide) (by decide) fun y M2 g2 k1 k2 => ?_))
  rw [floor_uniq k1 k2 h1 h2]
  exact with_point2_ret hy hk (h M2 (g1.trans g2))
theorem lenn6 {α : Type} {os : List α} (h : os.length = 6) : ∃ o1 o2 o3 o4 o5 o6, os = [o1, o2, o3, o4, o5, o6] := match os, h with | [o1, o2, o3, o4, o5, o6], _ => ⟨o1, o2, o3, o4, o5, o6, rfl⟩
theorem k4n_turn {W : WEnds} {t : D} {os : List (Option D)} (hl : os.length = 6) (j : Jar M p n) (hn : n + 300 < 2 ^ 100) (h : ∀ M' os', os'.length = 6 → Jar M' p (n + 300) → GrowX p M M' → W.nx (some (.lst p) :: os') M') :
    (sCons (sSet 2 (wIf (wTest (wBin fGt (wCall K1.W_law_dip (aCons (wVar 0) (aCons (wC (.int 4)) aNil))) (wC (.int 0)))) (wCall K1.W_law_number (aCons (wVar 0) aNil)) (wTup (aCons (wCall K1.W_law_some (aCons (wVar 0) aNil)) (aCons (wTup (aCons (wC (.int 0)) (aCons (wC (.int 1)) aNil))) (aCons (wCall K1.W_law_rootable (aCons (wVar 0) aNil)) aNil))))))
    (sCons (sSet 3 (wCall K1.W_law_one_of (aCons (wVar 0) (aCons (wLst (aCons (wC (.int 1)) (aCons (wC (.int 1)) (aCons (wC (.int 2)) (aCons (wC (.int 3)) (aCons (wC (.int 7)) (aCons (wC (.int 10)) (aCons (wC (.int 1000)) (aCons (wBin fPow (wC (.int 10)) (wC (.int 12))) (aCons (wBin fAdd (wC (.int 1)) (wCall K1.W_law_dip (aCons (wVar 0) (aCons (wBin fPow (wC (.int 10)) (wC (.int 6))) aNil)))) (aCons (wBin fPow (wC (.int 10)) (wC (.int 60))) aNil))))))))))) aNil))))
    (sCons (sSet 4 (wCall K1.W_law_one_of (aCons (wVar 0) (aCons (wLst (aCons (wC (.int 0)) (aCons (wC (.int 0)) (aCons (wC (.int 1)) (aCons (wC (.int 2)) (aCons (wC (.int 3)) (aCons (wC (.int 6)) (aCons (wC (.int 17)) (aCons (wC (.int 40)) aNil))))))))) aNil))))
    (sCons (sSet 5 (wCall K1.W_law_floor (aCons (wVar 2) (aCons (wVar 3) aNil))))
    (sCons (sIf (tNot' (wTest (wCall K1.W_law_same (aCons (wLst (aCons (wCall K4.W_floor_at (aCons (wVar 2) (aCons (wVar 3) aNil))) (aCons (wCallK 2 [1, 0] K4.W_floor_at (aCons (wVar 3) (aCons (wCall K1.W_law_twin (aCons (wVar 0) (aCons (wVar 2) aNil))) aNil))) aNil))) (aCons (wLst (aCons (wVar 5) (aCons (wVar 5) aNil))) aNil))))) (sCons (sRet (wC (.bl false)))
    sNil) sNil)
    (sCons (sSet 6 (wCall K4.W_law_figures (aCons (wCall K1.W_law_floor (aCons (wVar 2) (aCons (wCall K4.W_law_ten (aCons (wVar 4) aNil)) aNil))) (aCons (wVar 4) aNil))))
    (sCons (sIf (tNot' (wTest (wCall K1.W_law_same (aCons (wLst (aCons (wCall K4n.W_figures (aCons (wVar 2) (aCons (wVar 4) aNil))) (aCons (wCallK 2 [1, 0] K4n.W_figures (aCons (wVar 4) (aCons (wVar 2) aNil))) aNil))) (aCons (wLst (aCons (wVar 6) (aCons (wVar 6) aNil))) aNil))))) (sCons (sRet (wC (.bl false)))
    sNil) sNil)
    sNil))))))) W (some (.lst p) :: os.set 0 (some t)) M := by
  obtain ⟨o1, o2, o3, o4, o5, o6, rfl⟩ := lenn6 hl
  rw [E_scons, E_set]
  refine cps (P := wIf _ _ _ _ M) (C := fun K => ∀ a M2, Dn a → Jar M2 p (n + 100) → GrowX p M M2 → K (nD a) M2) (fun K hK => ?_) (fun a M2 da j2 g2 => ?_)
  · walk_at "zr"
    refine dip_ret' j (by omega) (by decide) (by decide) fun w M1 w0 w1 j1 g1 => ?_
    walk_at "zr"
    split
    · exact number_ret j1 (by omega) fun a M2 da j2 g2 => hK a M2 da (j2.mono (by omega)) (g1.trans g2)
    · refine some_ret j1 (by omega) fun f M2 hf bf j2 g2 => rootable_ret j2 (by omega) fun r M3 hr br r0 j3 g3 => ?_
      exact hK ⟨f, ⟨0, 1⟩, r⟩ M3 ⟨hf, isF_one 0, hr, r0, bf.mono (by decide), bd_of (by decide) (by decide), br⟩ (j3.mono (by omega)) (g1.trans (g2.trans g3))
  · walk_at "zr"
    refine ⟨⟨by decide, by decide, by decide⟩, ⟨by decide, by decide, by decide⟩, ?_⟩
    refine dip_ret' j2 (by omega) (by decide) (by decide) fun v M3 v0 v1 j3 g3 => ?_
    walk_at "zr"
    refine ⟨⟨by decide, by decide, by decide⟩, fun q hq => ?_⟩
    refine one_of_new j3 (by omega) hq (by simp) (by simp) fun d M4 hd j4 g4 => ?_
    obtain ⟨m, rfl, m0, m1⟩ := many_mem v0 v1 hd
    intro q2 hq2
    refine one_of_new j4 (by omega) hq2 (by simp) (by simp) fun d M5 hd j5 g5 => ?_
    obtain ⟨k, rfl, hk⟩ := places_mem hd
    refine law_floor_ret da m0 m1 fun y1 y2 y3 y4 => ?_
    have ha := da.ok
    refine floor_at_ret ha m0 m1 y2 y3 fun M6 g6 => ?_
    refine twin_w da (j5.grow g6) (by omega) fun b M7 hb tb j7 g7 => ?_
    have hb' : Ok 320 b := hb.ok (by decide) (by decide) (by decide)
    refine floor_at_ret hb' m0 m1 (by rw [tb.v]; exact y2) (by rw [tb.v]; exact y3) fun M8 g8 => ?_
    intro l1 hl1 l2 hl2
    have j8 := j7.grow g8
    have ga : Grow M8 (M8.put l1 [.int y1, .int y1]) := .put hl1
    have gb : Grow (M8.put l1 [.int y1, .int y1]) ((M8.put l1 [.int y1, .int y1]).put l2 [.int y1, .int y1]) := .put hl2
    have s1 := gb _ _ (show (M8.put l1 [.int y1, .int y1]) l1 = some [.int y1, .int y1] from Mem.put_same)
    have ri : Rep 1922 0 (.int y1) := rep_int (Nat.lt_trans y4 (Nat.pow_lt_pow_right (by decide) (by decide)))
    refine same2_ret s1 Mem.put_same (P := .int y1) (by simp [pyD]) (by simp [pyD]) ri (by decide) (by decide) ?_
    have j9 := (j8.grow ga).grow gb
    have g9 : GrowX p M ((M8.put l1 [.int y1, .int y1]).put l2 [.int y1, .int y1]) := g2.trans (g3.trans (g4.trans (g5.trans (g6.x.trans (g7.trans (g8.x.trans (ga.x.trans gb.x)))))))
    generalize (M8.put l1 [.int y1, .int y1]).put l2 [.int y1, .int y1] = M9 at *
    walk_at "zr"
    refine law_ten_ret hk ?_
    have t1 := Nat.lt_of_lt_of_le (ten_bd hk) (show 2 ^ 140 ≤ 2 ^ 200 from Nat.pow_le_pow_right (by decide) (by decide))
    refine law_floor_ret da (ten_pos k) t1 fun z1 z2 z3 z4 => ?_
    have z5 : z1.natAbs < 2 ^ 1919 := Nat.lt_trans z4 (Nat.pow_lt_pow_right (by decide) (by decide))
    refine law_figures_ret z5 hk ?_
    refine figures2_ret ha hk z5 z2 z3 fun M10 g10 => figures2_ret ha hk z5 z2 z3 fun M11 g11 => ?_
    intro l3 hl3 l4 hl4
    have gc : Grow M11 (M11.put l3 [.str (wpV z1 k), .str (wpV z1 k)]) := .put hl3
    have gd : Grow (M11.put l3 [.str (wpV z1 k), .str (wpV z1 k)]) ((M11.put l3 [.str (wpV z1 k), .str (wpV z1 k)]).put l4 [.str (wpV z1 k), .str (wpV z1 k)]) := .put hl4
    have s3 := gd _ _ (show (M11.put l3 [.str (wpV z1 k), .str (wpV z1 k)]) l3 = some [.str (wpV z1 k), .str (wpV z1 k)] from Mem.put_same)
    refine same2_ret s3 Mem.put_same (P := .str (wpV z1 k)) (by simp [pyD]) (by simp [pyD]) (rep_str (wp_len z5 hk) (asc_wp z1 k)) (by decide) (by decide) ?_
    walk_at "zr"
    have j11 := (((j9.grow g10).grow g11).grow gc).grow gd
    exact h _ _ rfl (j11.mono (by omega)) (g9.trans (g10.x.trans (g11.x.trans (gc.x.trans gd.x))))
theorem k4n_right (M : Mem) (R : DK) (p : Addr) (j : Jar M p 0) (h : ∀ M', GrowX p M M' → R (.bl true) M') : K4n.W_law_right [.lst p] M R := by
  unfold K4n.W_law_right
  exact right_of (per := 300) (by decide) (by decide) (fun W M n t os hl j hn h => k4n_turn hl j hn h) (by decide) j h
theorem k4n_law (ns : List Int) (hl : ns.length ≤ 63) : K4n.W_law [.ro (ns.map D.int)] (fun _ => none) fun d _ => d = .bl true :=
  law_of (jarf := K4.W_law_jar) (rightf := K4n.W_law_right) (K := 4) (by decide) (by decide) (fun ns k M R hk h => jarW_ret (c := 6131) (by decide) (by decide) hk h) (fun p M R j h => k4n_right M R p j h) ns hl
end K1


set_option Elab.async false
set_option linter.all false
set_option maxRecDepth 100000
set_option exponentiation.threshold 10000
namespace K1
open PySem PySem.Spec PyProof.Rows L2 Zq Zr
local macro_rules | `(tactic| walk_at "zq") => `(tactic| simp only [E_body, E_app, E_zf, E_isS, E_zfK, E_sls, E_mulS, E_lens, E_ord3210, E_star, E_starT, E_gTLt, E_gTLl, E_kTL, E_isL, E_appK, E_kApp, E_fSl, E_kSl2, E_addl, E_kAddL, E_var0, E_varS, E_C, E_bin, E_test, E_kB, E_anil, E_acons, E_tup, E_lst, E_b, E_call, E_callK, E_neg, E_kNeg, E_tand, E_tor, E_tnot, E_and, E_or, E_kAnd, E_kOr, E_not, E_kNot, E_ifE, E_chain, E_kCh, E_isN, E_isN0, E_isNt, E_isNi, E_isNs, E_isNl, E_snil, E_scons, E_pass, E_brk, E_cnt, E_ret, E_retN, E_expr, E_if, E_asg, E_set, E_par, E_kPar, E_par3, E_kPar3, E_aug, E_kAug, E_gN, E_gN0, E_gNC, E_gT, E_gS, E_kS, E_kS0, E_kS1, E_kS2, E_sub, E_iadd, E_mul, E_div, E_mod, E_pow, E_lt, E_le, E_gt, E_ge, E_addi, E_adds, E_addt, E_eqi, E_eqs, E_eqb, E_nei, E_nes, E_kAt, E_ixt, E_ixr, E_ixl, E_kAtL, at0, at1, at2, at3, E_abs, E_max, E_min, E_inti, E_intb, E_str, E_dm, E_lent, E_lenr, E_lenl, E_kLen, E_gcd, E_sqrt, E_lcm2, E_lcm3, E_all, E_kAll, E_isii, E_isit, isi_ii, isi_ib, isi_tt, E_iQ, E_kIt, E_kIr, E_kIl, E_kIl', E_iR1, E_kR1, E_for, E_lc, E_lc0, E_lcS, E_kLc, E_yes, E_f0, E_fS, E_stN, E_stS, E_s0, E_sS, E_g0, E_gSx, E_w0, E_wS,
  Mem.put_same, Mem.put_put, Zq.fD, Zq.E_ord10, Zq.E_ord0, E_wSlice, E_oNone, E_kO, E_oSome, List.map_cons, List.map_nil, List.cons_append, List.nil_append, List.replicate, List.length_cons, List.length_nil, decide_eq_true_eq, Bool.false_eq_true, if_false, if_true, Nat.reduceAdd, Nat.reduceLeDiff, true_and, and_true, Option.map_some, Bool.not_true, Bool.not_false])
local macro_rules | `(tactic| walk_at "zr") => `(tactic| simp only [E_body, E_app, E_zf, E_isS, E_zfK, E_sls, E_mulS, E_lens, E_ord3210, E_star, E_starT, E_gTLt, E_gTLl, E_kTL, E_isL, E_appK, E_kApp, E_fSl, E_kSl2, E_addl, E_kAddL, E_var0, E_varS, E_C, E_bin, E_test, E_kB, E_anil, E_acons, E_tup, E_lst, E_b, E_call, E_callK, E_neg, E_kNeg, E_tand, E_tor, E_tnot, E_and, E_or, E_kAnd, E_kOr, E_not, E_kNot, E_ifE, E_chain, E_kCh, E_isN, E_isN0, E_isNt, E_isNi, E_isNs, E_isNl, E_snil, E_scons, E_pass, E_brk, E_cnt, E_ret, E_retN, E_expr, E_if, E_asg, E_set, E_par, E_kPar, E_par3, E_kPar3, E_aug, E_kAug, E_gN, E_gN0, E_gNC, E_gT, E_gS, E_kS, E_kS0, E_kS1, E_kS2, E_sub, E_iadd, E_mul, E_div, E_mod, E_pow, E_lt, E_le, E_gt, E_ge, E_addi, E_adds, E_addt, E_eqi, E_eqs, E_eqb, E_nei, E_nes, E_kAt, E_ixt, E_ixr, E_ixl, E_kAtL, at0, at1, at2, at3, E_abs, E_max, E_min, E_inti, E_intb, E_str, E_dm, E_lent, E_lenr, E_lenl, E_kLen, E_gcd, E_sqrt, E_lcm2, E_lcm3, E_all, E_kAll, E_isii, E_isit, isi_ii, isi_ib, isi_tt, E_iQ, E_kIt, E_kIr, E_kIl, E_kIl', E_iR1, E_kR1, E_for, E_lc, E_lc0, E_lcS, E_kLc, E_yes, E_stN, E_stS, E_s0, E_sS, E_g0, E_gSx, E_w0, E_wS,
  Mem.put_same, Mem.put_put, Zq.fD, Zq.E_ord10, Zq.E_ord0, E_wSlice, E_oNone, E_kO, E_oSome, List.map_cons, List.map_nil, List.cons_append, List.nil_append, List.replicate, List.length_cons, List.length_nil, decide_eq_true_eq, Bool.false_eq_true, if_false, if_true, Nat.reduceAdd, Nat.reduceLeDiff, true_and, and_true, Option.map_some, Bool.not_true, Bool.not_false])
variable {M : Mem} {R : DK} {p : Addr} {n : Nat} {f g q r : Fr}
theorem cpsN {P : (Zq.Env → Mem → Prop) → Prop} {K : Zq.Env → Mem → Prop} {C : (Zq.Env → Mem → Prop) → Prop} (h1 : ∀ K, C K → P K) (h2 : C K) : P K := h1 K h2
theorem heard_floor_p {a : Pt} {e n : Fr} {m y0 : Int} (ha : OkP 145 30 250 35 a) (he : IsF e) (hn : IsF n) (be : Bn 130 20 e) (bn : Bn 130 20 n) (m0 : 0 < m) (m1 : m.natAbs < 2 ^ 140)
    (h1 : Rl.iR y0 ≤ hT a (fR e) (fR n) * Rl.iR m) (h2 : hT a (fR e) (fR n) * Rl.iR m < Rl.iR y0 + 1) (h : ∀ M', Grow M M' → R (.int y0) M') : K7.W_heard_floor [ptD a, fD e, fD n, .int m] M R := by
  unfold K7.W_heard_floor
  walk_at "zr"
  refine need_point_ret ha fun M1 g1 => need_fraction_ret he (need_fraction_ret hn (need_many_ret m0 ?_))
  refine floor_heard_ret ha he.1 hn.1 be bn m0 m1 fun y M2 g2 k1 k2 => ?_
  rw [floor_uniq k1 k2 h1 h2]
  exact h M2 (g1.trans g2)
theorem heard_figures_p {a : Pt} {e n : Fr} {k : Nat} {y0 : Int} (ha : OkP 145 30 250 35 a) (he : IsF e) (hn : IsF n) (be : Bn 130 20 e) (bn : Bn 130 20 n) (hk : k ≤ 40) (hy : y0.natAbs < 2 ^ 1919)
    (h1 : Rl.iR y0 ≤ hT a (fR e) (fR n) * Rl.iR (10 ^ k)) (h2 : hT a (fR e) (fR n) * Rl.iR (10 ^ k) < Rl.iR y0 + 1) (h : ∀ M', Grow M M' → R (.str (wpV y0 k)) M') : K7n.W_heard_figures [ptD a, fD e, fD n, .int k] M R := by
  unfold K7n.W_heard_figures
  walk_at "zr"
  refine need_point_ret ha fun M1 g1 => need_fraction_ret he (need_fraction_ret hn (count2_ret hk (ten_ret hk ?_)))
  refine floor_heard_ret ha he.1 hn.1 be bn (ten_pos k) (ten_bd hk) fun y M2 g2 k1 k2 => ?_
  rw [floor_uniq k1 k2 h1 h2]
  exact with_point2_ret hy hk (h M2 (g1.trans g2))
theorem many7_mem {d : D} (h : d ∈ ([.int 1, .int 2, .int 7, .int 10, .int 100, .int (10 ^ (9 : Int).toNat), .int (10 ^ (30 : Int).toNat)] : List D)) : ∃ m : Int, d = .int m ∧ 0 < m ∧ m.natAbs < 2 ^ 140 := by
  simp only [List.mem_cons, List.not_mem_nil, or_false] at h
  rcases h with rfl | rfl | rfl | rfl | rfl | rfl | rfl
  all_goals exact ⟨_, rfl, by decide, by decide⟩
theorem places7_mem {d : D} (h : d ∈ ([.int 0, .int 1, .int 2, .int 5, .int 20, .int 40] : List D)) : ∃ k : Nat, d = .int k ∧ k ≤ 40 := by
  simp only [List.mem_cons, List.not_mem_nil, or_false] at h
  rcases h with rfl | rfl | rfl | rfl | rfl | rfl
  · exact ⟨0, rfl, by decide⟩
  · exact ⟨1, rfl, by decide⟩
  · exact ⟨2, rfl, by decide⟩
  · exact ⟨5, rfl, by decide⟩
  · exact ⟨20, rfl, by decide⟩
  · exact ⟨40, rfl, by decide⟩
def q7s14 (S : WS) : WS := (sCons (sIf (tNot' (wTest (wCall K1.W_law_same (aCons (wCall K7.W_heard_floor (aCons (wVar 15) (aCons (wVar 3) (aCons (wVar 4) (aCons (wVar 5) aNil))))) (aCons (wBin fDiv (wBin fMul (wBin fIx (wVar 16) (wC (.int 0))) (wVar 5)) (wBin fIx (wVar 16) (wC (.int 1)))) aNil))))) (sCons (sRet (wC (.bl false)))
    sNil) sNil)
    S)
def k7c14 : WS := q7s14 sNil
def q7s13 (S : WS) : WS := (sCons (sSet 16 (wCall K1.W_law_plus (aCons (wVar 13) (aCons (wVar 12) aNil))))
    S)
def k7c13 : WS := q7s13 k7c14
def q7s12 (S : WS) : WS := (sCons (sSet 15 (wTup (aCons (wTup (aCons (wCall K1.W_law_plus (aCons (wVar 3) (aCons (wVar 10) aNil))) (aCons (wVar 14) aNil))) (aCons (wTup (aCons (wCall K1.W_law_plus (aCons (wVar 4) (aCons (wVar 11) aNil))) (aCons (wVar 14) aNil))) (aCons (wTup (aCons (wVar 13) (aCons (wVar 14) aNil))) (aCons (wVar 14) aNil))))))
    S)
def k7c12 : WS := q7s12 k7c13
def q7s11 (S : WS) : WS := (sCons (sPar 13 14 (aCons (wCall K1.W_law_some (aCons (wVar 0) aNil)) (aCons (wTup (aCons (wC (.int 0)) (aCons (wC (.int 1)) aNil))) aNil)))
    S)
def k7c11 : WS := q7s11 k7c12
def q7s10 (S : WS) : WS := (sCons (sAsg (wCall K6.W_law_pythagoras (aCons (wVar 0) aNil)) (gT 3 (gNC (gN 10) (gNC (gN 11) (gNC (gN 12) gN0)))))
    S)
def k7c10 : WS := q7s10 k7c11
def q7s9 (S : WS) : WS := (sCons (sIf (tNot' (wTest (wCall K1.W_law_same (aCons (wVar 8) (aCons (wLst (aCons (wVar 9) (aCons (wVar 9) aNil))) aNil))))) (sCons (sRet (wC (.bl false)))
    sNil) sNil)
    S)
def k7c9 : WS := q7s9 k7c10
def q7s8 (S : WS) : WS := (sCons (sExpr (wApp (wVar 8) (wCallK 4 [3, 2, 1, 0] K7n.W_heard_figures (aCons (wVar 6) (aCons (wVar 4) (aCons (wVar 3) (aCons (wVar 2) aNil)))))))
    S)
def k7c8 : WS := q7s8 k7c9
def q7s7 (S : WS) : WS := (sCons (sSet 8 (wLst (aCons (wCall K7n.W_heard_figures (aCons (wVar 2) (aCons (wVar 3) (aCons (wVar 4) (aCons (wVar 6) aNil))))) aNil)))
    S)
def k7c7 : WS := q7s7 k7c8
def q7s6 (S : WS) : WS := (sCons (sSet 9 (wCall K4.W_law_figures (aCons (wCall K6.W_law_heard_floor (aCons (wVar 2) (aCons (wVar 3) (aCons (wVar 4) (aCons (wCall K4.W_law_ten (aCons (wVar 6) aNil)) aNil))))) (aCons (wVar 6) aNil))))
    S)
def k7c6 : WS := q7s6 k7c7
def q7s5 (S : WS) : WS := (sCons (sIf (tNot' (wTest (wCall K1.W_law_same (aCons (wVar 8) (aCons (wLst (aCons (wVar 7) (aCons (wVar 7) aNil))) aNil))))) (sCons (sRet (wC (.bl false)))
    sNil) sNil)
    S)
def k7c5 : WS := q7s5 k7c6
def q7s4 (S : WS) : WS := (sCons (sSet 8 (wLst (aCons (wCall K7.W_heard_floor (aCons (wVar 2) (aCons (wVar 3) (aCons (wVar 4) (aCons (wVar 5) aNil))))) (aCons (wCallK 4 [3, 2, 1, 0] K7.W_heard_floor (aCons (wVar 5) (aCons (wVar 4) (aCons (wVar 3) (aCons (wVar 2) aNil))))) aNil))))
    S)
def k7c4 : WS := q7s4 k7c5
def q7s3 (S : WS) : WS := (sCons (sSet 7 (wCall K6.W_law_heard_floor (aCons (wVar 2) (aCons (wVar 3) (aCons (wVar 4) (aCons (wVar 5) aNil))))))
    S)
def k7c3 : WS := q7s3 k7c4
def q7s2 (S : WS) : WS := (sCons (sPar 5 6 (aCons (wCall K1.W_law_one_of (aCons (wVar 0) (aCons (wLst (aCons (wC (.int 1)) (aCons (wC (.int 2)) (aCons (wC (.int 7)) (aCons (wC (.int 10)) (aCons (wC (.int 100)) (aCons (wBin fPow (wC (.int 10)) (wC (.int 9))) (aCons (wBin fPow (wC (.int 10)) (wC (.int 30))) aNil)))))))) aNil))) (aCons (wCall K1.W_law_one_of (aCons (wVar 0) (aCons (wLst (aCons (wC (.int 0)) (aCons (wC (.int 1)) (aCons (wC (.int 2)) (aCons (wC (.int 5)) (aCons (wC (.int 20)) (aCons (wC (.int 40)) aNil))))))) aNil))) aNil)))
    S)
def k7c2 : WS := q7s2 k7c3
def q7s1 (S : WS) : WS := (sCons (sIf (wTest (wBin (fEq false) (wCall K1.W_law_dip (aCons (wVar 0) (aCons (wC (.int 4)) aNil))) (wC (.int 0)))) (sCons (sPar 3 4 (aCons (wBin fIx (wBin fIx (wVar 2) (wC (.int 0))) (wC (.int 0))) (aCons (wBin fIx (wBin fIx (wVar 2) (wC (.int 1))) (wC (.int 0))) aNil)))
    sNil) sNil)
    S)
def k7c1 : WS := q7s1 k7c2
def q7s0 (S : WS) : WS := (sCons (sPar3 2 3 4 (aCons (wCall K6.W_law_point (aCons (wVar 0) aNil)) (aCons (wCall K1.W_law_some (aCons (wVar 0) aNil)) (aCons (wCall K1.W_law_some (aCons (wVar 0) aNil)) aNil))))
    S)
def k7c0 : WS := q7s0 k7c1

theorem up7 {y : Int} (hy : y.natAbs < 2 ^ 1100) : y.natAbs < 2 ^ 1919 := Nat.lt_trans hy (Nat.pow_lt_pow_right (by decide) (by decide))
theorem floor_int_ret {f : Fr} {m y : Int} (hf : 0 < f.d) (h1 : Rl.iR y ≤ fR f * Rl.iR m) (h2 : fR f * Rl.iR m < Rl.iR y + 1) : f.n * m / f.d = y := by
  have e1 : f.n * m / f.d * f.d ≤ f.n * m := Int.ediv_mul_le _ (by omega)
  have e2 : f.n * m + 1 ≤ (f.n * m / f.d + 1) * f.d := Int.lt_ediv_add_one_mul_self _ hf
  have k1 := Rl.iR_le.mpr e1
  have k2 := Rl.iR_le.mpr e2
  have e := fR_mul hf
  have D0 := Rl.iR_pos.mpr hf
  simp only [Rl.iR_mul, Rl.iR_add, Rl.iR_one] at k1 k2
  rw [← e] at k1 k2
  refine floor_uniq (v := fR f * Rl.iR m) ?_ ?_ h1 h2
  · exact le_cancel D0 (by grind)
  · exact lt_cancel D0 (by grind)
theorem k7c3_ret {S10 S11 S12 S13 S14 : WS} (e10 : S10 = q7s10 S11) (e11 : S11 = q7s11 S12) (e12 : S12 = q7s12 S13) (e13 : S13 = q7s13 S14) (e14 : S14 = q7s14 sNil) {W : WEnds} {t : Option D} {e n' : Fr} {m : Int} {pd : Option D} {o6 o7 o8 o9 o10 o11 o12 o13 o14 o15 o16 : Option D} (j : Jar M p n) (hn : n + 200 < 2 ^ 100) (he : IsF e) (hn' : IsF n') (be : Bn 124 17 e) (bn : Bn 124 17 n') (m0 : 0 < m) (m1 : m.natAbs < 2 ^ 140)
    (h : ∀ M' u10 u11 u12 u13 u14 u15 u16, Jar M' p (n + 200) → GrowX p M M' → W.nx [some (.lst p), t, pd, some (fD e), some (fD n'), some (.int m), o6, o7, o8, o9, u10, u11, u12, u13, u14, u15, u16] M') :
    S10 W [some (.lst p), t, pd, some (fD e), some (fD n'), some (.int m), o6, o7, o8, o9, o10, o11, o12, o13, o14, o15, o16] M := by
  rw [e10]
  unfold q7s10
  walk_at "zr"
  refine pyth_ret j (by omega) fun o u l M1 fo fu fl bo bu bl lp pyt j1 g1 => ?_
  try walk_at "zr"
  rw [e11]
  unfold q7s11
  try walk_at "zr"
  refine some_bn j1 (by omega) fun mo M2 hmo bmo j2 g2 => ?_
  try walk_at "zr"
  rw [e12]
  unfold q7s12
  try walk_at "zr"
  refine plus_bt (f := e) (g := o) be bo he.1 fo.1 (by decide) (by decide) ?_
  have fx : IsF (plusV e o) := frac_isF (mul_ne he.1 fo.1)
  have bx := plus_bn (J := 140) be bo he.1 fo.1 (by decide) (by decide)
  have vx := fR_plus he.1 fo.1
  generalize plusV e o = x at *
  try walk_at "zr"
  refine plus_bt (f := n') (g := u) bn bu hn'.1 fu.1 (by decide) (by decide) ?_
  have fy : IsF (plusV n' u) := frac_isF (mul_ne hn'.1 fu.1)
  have by' := plus_bn (J := 140) bn bu hn'.1 fu.1 (by decide) (by decide)
  have vy := fR_plus hn'.1 fu.1
  generalize plusV n' u = yy at *
  try walk_at "zr"
  rw [e13]
  unfold q7s13
  try walk_at "zr"
  refine plus_bt (f := mo) (g := l) bmo bl hmo.1 fl.1 (by decide) (by decide) ?_
  have fs : IsF (plusV mo l) := frac_isF (mul_ne hmo.1 fl.1)
  have bs := plus_bn (J := 140) bmo bl hmo.1 fl.1 (by decide) (by decide)
  have vs := fR_plus hmo.1 fl.1
  generalize plusV mo l = su at *
  obtain ⟨c, hc⟩ : ∃ c : Pt, c = ⟨x, ⟨0, 1⟩, yy, ⟨0, 1⟩, mo, ⟨0, 1⟩, ⟨0, 1⟩⟩ := ⟨_, rfl⟩
  have okc : OkP 145 30 250 35 c := by
    rw [hc]
    exact ⟨fx, isF_one 0, fy, isF_one 0, hmo, isF_one 0, isF_one 0, Int.le_refl 0, bx.mono (by decide) (by decide), bn_int (by decide) (by decide), by'.mono (by decide) (by decide), bn_int (by decide) (by decide), bmo.mono (by decide) (by decide), bn_int (by decide) (by decide), bn_int (by decide) (by decide)⟩
  have z0 : fR ⟨0, 1⟩ = 0 := fR_zero_int
  have ex : rX c = fR e + fR o := by
    rw [hc]
    show fR x + fR ⟨0, 1⟩ * _ = _
    rw [z0, vx]
    grind
  have ey : rY c = fR n' + fR u := by
    rw [hc]
    show fR yy + fR ⟨0, 1⟩ * _ = _
    rw [z0, vy]
    grind
  have et : rT c = fR mo := by
    rw [hc]
    show fR mo + fR ⟨0, 1⟩ * _ = _
    rw [z0]
    grind
  have hh : hT c (fR e) (fR n') = fR su := by
    unfold hT
    rw [ex, ey, et, vs]
    congr 1
    refine Rl.rt_of (by grind) ?_
    rw [← pyt]
    grind
  have be' := be.mono (show 124 ≤ 130 by decide) (show 17 ≤ 20 by decide)
  have bn' := bn.mono (show 124 ≤ 130 by decide) (show 17 ≤ 20 by decide)
  have dc : ptD c = .tup [.tup [fD x, fD ⟨0, 1⟩], .tup [fD yy, fD ⟨0, 1⟩], .tup [fD mo, fD ⟨0, 1⟩], fD ⟨0, 1⟩] := by rw [hc]; rfl
  have dc' := dc.symm
  simp only [fD] at dc'
  have D0 := Rl.iR_pos.mpr fs.1
  obtain ⟨y1, k1, k2⟩ : ∃ y : Int, Rl.iR y ≤ fR su * Rl.iR m ∧ fR su * Rl.iR m < Rl.iR y + 1 := by
    have e1 : su.n * m / su.d * su.d ≤ su.n * m := Int.ediv_mul_le _ (by have := fs.1; omega)
    have e2 : su.n * m + 1 ≤ (su.n * m / su.d + 1) * su.d := Int.lt_ediv_add_one_mul_self _ fs.1
    have k1 := Rl.iR_le.mpr e1
    have k2 := Rl.iR_le.mpr e2
    have e := fR_mul fs.1
    simp only [Rl.iR_mul, Rl.iR_add, Rl.iR_one] at k1 k2
    rw [← e] at k1 k2
    exact ⟨su.n * m / su.d, le_cancel D0 (by grind), lt_cancel D0 (by grind)⟩
  have ey1 := floor_int_ret fs.1 k1 k2
  have yb : y1.natAbs < 2 ^ 400 := by
    rw [← ey1]
    exact Nat.lt_of_le_of_lt (Int.natAbs_ediv_le_natAbs _ _) (lt_pow_add (bd_mul bs.1 m1) (by decide))
  try walk_at "zr"
  rw [e14]
  unfold q7s14
  try walk_at "zr"
  simp only [dc']
  refine heard_floor_p okc he hn' be' bn' m0 m1 (by rw [hh]; exact k1) (by rw [hh]; exact k2) fun M3 g3 => ?_
  try walk_at "zr"
  refine ⟨mulW_of bs.1 m1 (by decide), divW_of fs.1 bs.2 (by decide), ?_⟩
  rw [ey1]
  refine same_ret (pyD_int y1) (pyD_int y1) (rep_int (Nat.lt_trans yb (Nat.pow_lt_pow_right (by decide) (by decide)))) (by decide) (by decide) ?_
  try walk_at "zr"
  exact h M3 _ _ _ _ _ _ _ ((j2.grow g3).mono (by omega)) (g1.trans (g2.trans g3.x))
theorem k7c2_ret {S6 S7 S8 S9 S10 S11 S12 S13 S14 : WS} (e6 : S6 = q7s6 S7) (e7 : S7 = q7s7 S8) (e8 : S8 = q7s8 S9) (e9 : S9 = q7s9 S10) (e10 : S10 = q7s10 S11) (e11 : S11 = q7s11 S12) (e12 : S12 = q7s12 S13) (e13 : S13 = q7s13 S14) (e14 : S14 = q7s14 sNil) {W : WEnds} {t : Option D} {a : Pt} {e n' : Fr} {m : Int} {k : Nat} {o7 o8 o9 o10 o11 o12 o13 o14 o15 o16 : Option D} (j : Jar M p n) (hn : n + 400 < 2 ^ 100) (ha : OkP 124 17 248 34 a) (he : IsF e) (hn' : IsF n') (be : Bn 124 17 e) (bn : Bn 124 17 n') (m0 : 0 < m) (m1 : m.natAbs < 2 ^ 140) (hk : k ≤ 40)
    (h : ∀ M' u8 u9 u10 u11 u12 u13 u14 u15 u16, Jar M' p (n + 400) → GrowX p M M' → W.nx [some (.lst p), t, some (ptD a), some (fD e), some (fD n'), some (.int m), some (.int k), o7, u8, u9, u10, u11, u12, u13, u14, u15, u16] M') :
    S6 W [some (.lst p), t, some (ptD a), some (fD e), some (fD n'), some (.int m), some (.int k), o7, o8, o9, o10, o11, o12, o13, o14, o15, o16] M := by
  rw [e6]
  unfold q7s6
  have ha' := ha.mono (show 124 ≤ 145 by decide) (show 17 ≤ 30 by decide) (show 248 ≤ 250 by decide) (show 34 ≤ 35 by decide)
  have be' := be.mono (show 124 ≤ 130 by decide) (show 17 ≤ 20 by decide)
  have bn' := bn.mono (show 124 ≤ 130 by decide) (show 17 ≤ 20 by decide)
  walk_at "zr"
  refine law_ten_ret hk ?_
  refine heard_floor_ret (l := 140) ha he hn' be bn (ten_pos k) (ten_bd hk) (by decide) (by decide) rfl fun z1 z2 z3 z4 => ?_
  refine law_figures_ret (up7 z4) hk ?_
  try walk_at "zr"
  rw [e7]
  unfold q7s7
  try walk_at "zr"
  refine heard_figures_p ha' he hn' be' bn' hk (up7 z4) z2 z3 fun M10 g10 => ?_
  intro l3 hl3
  try walk_at "zr"
  rw [e8]
  unfold q7s8
  try walk_at "zr"
  refine ⟨rfl, ?_⟩
  have gc := Grow.put (ds := [.str (wpV z1 k)]) hl3
  refine heard_figures_p ha' he hn' be' bn' hk (up7 z4) z2 z3 fun M11 g11 => ?_
  rw [g11 _ _ Mem.put_same, E_kApp]
  refine ⟨by simp, ?_⟩
  have j11 := ((j.grow g10).grow gc).grow g11
  have n3 : l3 ≠ p := jar_ne (j.grow g10) hl3
  have g12 : GrowX p M (M11.put l3 [.str (wpV z1 k), .str (wpV z1 k)]) := fun q ds n1 e => by
    have e10 := g10 _ _ e
    have n3 : q ≠ l3 := by
      rintro rfl
      rw [hl3] at e10
      cases e10
    rw [Mem.put_ne n3]
    exact g11 _ _ (gc _ _ e10)
  have j12 : Jar (M11.put l3 [.str (wpV z1 k), .str (wpV z1 k)]) p n := by
    obtain ⟨u, v, w, e, rest⟩ := j11
    exact ⟨u, v, w, by rw [Mem.put_ne (Ne.symm n3)]; exact e, rest⟩
  have s12 : (M11.put l3 [.str (wpV z1 k), .str (wpV z1 k)]) l3 = some [.str (wpV z1 k), .str (wpV z1 k)] := Mem.put_same
  have ee12 : M11.put l3 ([D.str (wpV z1 k)] ++ [D.str (wpV z1 k)]) = M11.put l3 [.str (wpV z1 k), .str (wpV z1 k)] := rfl
  rw [ee12]
  generalize M11.put l3 [.str (wpV z1 k), .str (wpV z1 k)] = M12 at *
  try walk_at "zr"
  rw [e9]
  unfold q7s9
  try walk_at "zr"
  intro l4 hl4
  have gd := Grow.put (ds := [.str (wpV z1 k), .str (wpV z1 k)]) hl4
  refine same2_ret (gd _ _ s12) Mem.put_same (P := .str (wpV z1 k)) (by simp [pyD]) (by simp [pyD]) (rep_str (wp_len (up7 z4) hk) (asc_wp z1 k)) (by decide) (by decide) ?_
  try walk_at "zr"
  refine k7c3_ret e10 e11 e12 e13 e14 (j12.grow gd) (by omega) he hn' be bn m0 m1 fun M' u10 u11 u12 u13 u14 u15 u16 j' g' => ?_
  exact h M' _ _ _ _ _ _ _ _ _ (j'.mono (by omega)) (g12.trans (gd.x.trans g'))
theorem k7c1_ret {S2 S3 S4 S5 S6 S7 S8 S9 S10 S11 S12 S13 S14 : WS} (e2 : S2 = q7s2 S3) (e3 : S3 = q7s3 S4) (e4 : S4 = q7s4 S5) (e5 : S5 = q7s5 S6) (e6 : S6 = q7s6 S7) (e7 : S7 = q7s7 S8) (e8 : S8 = q7s8 S9) (e9 : S9 = q7s9 S10) (e10 : S10 = q7s10 S11) (e11 : S11 = q7s11 S12) (e12 : S12 = q7s12 S13) (e13 : S13 = q7s13 S14) (e14 : S14 = q7s14 sNil) {W : WEnds} {t : Option D} {a : Pt} {e n' : Fr} {o5 o6 o7 o8 o9 o10 o11 o12 o13 o14 o15 o16 : Option D} (j : Jar M p n) (hn : n + 500 < 2 ^ 100) (ha : OkP 124 17 248 34 a) (he : IsF e) (hn' : IsF n') (be : Bn 124 17 e) (bn : Bn 124 17 n')
    (h : ∀ M' u3 u4 u5 u6 u7 u8 u9 u10 u11 u12 u13 u14 u15 u16, Jar M' p (n + 500) → GrowX p M M' → W.nx [some (.lst p), t, some (ptD a), u3, u4, u5, u6, u7, u8, u9, u10, u11, u12, u13, u14, u15, u16] M') :
    S2 W [some (.lst p), t, some (ptD a), some (fD e), some (fD n'), o5, o6, o7, o8, o9, o10, o11, o12, o13, o14, o15, o16] M := by
  rw [e2]
  unfold q7s2
  have ha' := ha.mono (show 124 ≤ 145 by decide) (show 17 ≤ 30 by decide) (show 248 ≤ 250 by decide) (show 34 ≤ 35 by decide)
  have be' := be.mono (show 124 ≤ 130 by decide) (show 17 ≤ 20 by decide)
  have bn' := bn.mono (show 124 ≤ 130 by decide) (show 17 ≤ 20 by decide)
  walk_at "zr"
  refine ⟨⟨by decide, by decide, by decide⟩, ⟨by decide, by decide, by decide⟩, fun q1 hq1 => ?_⟩
  refine one_of_new j (by omega) hq1 (by simp) (by simp) fun d M5 hd j5 g5 => ?_
  obtain ⟨m, rfl, m0, m1⟩ := many7_mem hd
  intro q2 hq2
  refine one_of_new j5 (by omega) hq2 (by simp) (by simp) fun d M6 hd j6 g6 => ?_
  obtain ⟨k, rfl, hk⟩ := places7_mem hd
  try walk_at "zr"
  rw [e3]
  unfold q7s3
  try walk_at "zr"
  refine heard_floor_ret (l := 140) ha he hn' be bn m0 m1 (by decide) (by decide) rfl fun y1 y2 y3 y4 => ?_
  try walk_at "zr"
  rw [e4]
  unfold q7s4
  try walk_at "zr"
  refine heard_floor_p ha' he hn' be' bn' m0 m1 y2 y3 fun M7 g7 => ?_
  refine heard_floor_p ha' he hn' be' bn' m0 m1 y2 y3 fun M8 g8 => ?_
  try walk_at "zr"
  intro l1 hl1
  have ga := Grow.put (ds := [.int y1, .int y1]) hl1
  try walk_at "zr"
  rw [e5]
  unfold q7s5
  try walk_at "zr"
  intro l2 hl2
  have gb := Grow.put (ds := [.int y1, .int y1]) hl2
  have s1 := gb _ _ (show (M8.put l1 [.int y1, .int y1]) l1 = _ from Mem.put_same)
  refine same2_ret s1 Mem.put_same (P := .int y1) (by simp [pyD]) (by simp [pyD]) (rep_int (up7 y4)) (by decide) (by decide) ?_
  try walk_at "zr"
  have j8 := (((j6.grow g7).grow g8).grow ga).grow gb
  refine k7c2_ret e6 e7 e8 e9 e10 e11 e12 e13 e14 j8 (by omega) ha he hn' be bn m0 m1 hk fun M' u8 u9 u10 u11 u12 u13 u14 u15 u16 j' g' => ?_
  exact h M' _ _ _ _ _ _ _ _ _ _ _ _ _ _ (j'.mono (by omega)) (g5.trans (g6.trans (g7.x.trans (g8.x.trans (ga.x.trans (gb.x.trans g'))))))
theorem len16 {α : Type} {os : List α} (h : os.length = 16) : ∃ o1 o2 o3 o4 o5 o6 o7 o8 o9 o10 o11 o12 o13 o14 o15 o16, os = [o1, o2, o3, o4, o5, o6, o7, o8, o9, o10, o11, o12, o13, o14, o15, o16] := match os, h with | [o1, o2, o3, o4, o5, o6, o7, o8, o9, o10, o11, o12, o13, o14, o15, o16], _ => ⟨o1, o2, o3, o4, o5, o6, o7, o8, o9, o10, o11, o12, o13, o14, o15, o16, rfl⟩
theorem k7_turn {S0 S1 S2 S3 S4 S5 S6 S7 S8 S9 S10 S11 S12 S13 S14 : WS} (e0 : S0 = q7s0 S1) (e1 : S1 = q7s1 S2) (e2 : S2 = q7s2 S3) (e3 : S3 = q7s3 S4) (e4 : S4 = q7s4 S5) (e5 : S5 = q7s5 S6) (e6 : S6 = q7s6 S7) (e7 : S7 = q7s7 S8) (e8 : S8 = q7s8 S9) (e9 : S9 = q7s9 S10) (e10 : S10 = q7s10 S11) (e11 : S11 = q7s11 S12) (e12 : S12 = q7s12 S13) (e13 : S13 = q7s13 S14) (e14 : S14 = q7s14 sNil) {W : WEnds} {t : D} {os : List (Option D)} (hl : os.length = 16) (j : Jar M p n) (hn : n + 1000 < 2 ^ 100) (h : ∀ M' os', os'.length = 16 → Jar M' p (n + 1000) → GrowX p M M' → W.nx (some (.lst p) :: os') M') :
    S0 W (some (.lst p) :: os.set 0 (some t)) M := by
  obtain ⟨o1, o2, o3, o4, o5, o6, o7, o8, o9, o10, o11, o12, o13, o14, o15, o16, rfl⟩ := len16 hl
  rw [e0]
  unfold q7s0
  walk_at "zr"
  refine point_ret j (by omega) fun a M1 ha j1 g1 => some_bn j1 (by omega) fun e M2 he be j2 g2 => some_bn j2 (by omega) fun n' M3 hn' bn j3 g3 => ?_
  try walk_at "zr"
  rw [e1]
  unfold q7s1
  try walk_at "zr"
  refine dip_ret' j3 (by omega) (by decide) (by decide) fun v M4 v0 v1 j4 g4 => ?_
  have g14 := g1.trans (g2.trans (g3.trans g4))
  try walk_at "zr"
  split
  · unfold ptD
    try walk_at "zr"
    refine k7c1_ret (a := a) (e := a.xp) (n' := a.yp) e2 e3 e4 e5 e6 e7 e8 e9 e10 e11 e12 e13 e14 j4 (by omega) ha ha.xp ha.yp ha.bxp ha.byp fun M' u3 u4 u5 u6 u7 u8 u9 u10 u11 u12 u13 u14 u15 u16 j' g' => ?_
    exact h M' _ rfl (j'.mono (by omega)) (g14.trans g')
  · skip
    refine k7c1_ret (a := a) (e := e) (n' := n') e2 e3 e4 e5 e6 e7 e8 e9 e10 e11 e12 e13 e14 j4 (by omega) ha he hn' be bn fun M' u3 u4 u5 u6 u7 u8 u9 u10 u11 u12 u13 u14 u15 u16 j' g' => ?_
    exact h M' _ rfl (j'.mono (by omega)) (g14.trans g')
theorem k7n_right (M : Mem) (R : DK) (p : Addr) (j : Jar M p 0) (h : ∀ M', GrowX p M M' → R (.bl true) M') : K7n.W_law_right [.lst p] M R := by
  unfold K7n.W_law_right
  exact right_of (body := k7c0) (per := 1000) (by decide) (by decide) (fun W M n t os hl j hn h => k7_turn rfl rfl rfl rfl rfl rfl rfl rfl rfl rfl rfl rfl rfl rfl rfl hl j hn h) (by decide) j h
theorem k7n_law (ns : List Int) (hl : ns.length ≤ 63) : K7n.W_law [.ro (ns.map D.int)] (fun _ => none) fun d _ => d = .bl true :=
  law_of (jarf := K7.W_law_jar) (rightf := K7n.W_law_right) (K := 3) (by decide) (by decide) (fun ns k M R hk h => jarW_ret (c := 6151) (by decide) (by decide) hk h) (fun p M R j h => k7n_right M R p j h) ns hl
end K1


open PySem PySem.Spec PyProof.Rows L2 in
set_option maxRecDepth 100000 in
set_option maxHeartbeats 0 in
theorem PySem.Challenge.cw_latestshake_k07_whole_heard_floors_holds : PySem.Challenge.rw_latestshake_k07_whole_heard_floors.Holds := by
  exact K7n.holds_of K1.k7n_law
