import PyProof.Rows.All
import Wide.All
import OpenK.AllK
import Wide.FinOn
import HandS.ForMost
import HandS.ForExc
import HandS.Deep
import HandS.Lambda
import HandS.Flow
import HandS.Conv
import HandS.TupAny
import HandS.TupMul
import HandS.IsInst
import HandS.Style
import HandS.Wide
import HandS.Zip
import HandS.Iter
import HandS.Text
import HandS.Star
import KE.SortData
import KE.LtData
import KE.DataEq
import KE.DataCmp
import KE.DataFind
import KE.DataIsa
import KE.DataAny
import KE.DatumIndex
import HandS.FStr
import PyProof.ReprRoads
import PyProof.StrBlock2
import HandS.ExcIs
import HandS.ExcValue
import KE.KExcIs
import KE.KIsAll
import PyProof.EqKinds
import PyProof.FactsAll.dict_1
import HandS.Exc
import KE.KExcSuper
import PyProof.FString
import PyProof.FString4
import HandS.ExcField
import HandS.EndTab
import PySem.Challenge.RW_flushtold_k01_logs
set_option Elab.async false
set_option autoImplicit false
set_option linter.all false
set_option maxRecDepth 100000
set_option maxHeartbeats 4000000
/-! Fl1: plain data in variables, lists that a def owns, and what an expression or a statement makes of them. -/
namespace Fl
open PySem PySem.Spec PyProof.Rows L2

/-- what a name holds: data that no one changes, or a list that this def alone changes -/
inductive Arg where
  | d (x : PyData)
  | o (xs : List PyData)
abbrev Rho := List (Option Arg)
/-- an error of the program: its class's name, and the number that it bears -/
structure ExcD where
  name : Str
  fld : Option Int
inductive Out where
  | ok (d : PyData) (r : Rho)
  | er (x : ExcD) (r : Rho)
  | no
inductive SOut where
  | nx (r : Rho)
  | rt (d : PyData) (r : Rho)
  | bk (r : Rho)
  | ct (r : Rho)
  | er (x : ExcD) (r : Rho)
  | no

/-! ### data over a heap that stays -/
/-- an error held as a value: its class's name, and the number that it bears (or none) -/
abbrev excD (n : Str) (z : PyData) : PyData := .dict [(.list [], .str n), (.none, z)]
/-- the object at a is an error of the class cls -/
def ExV (cls : Value) (d : Option Addr) (a : Addr) : HO := .ext fun h => ∃ (oe : Obj) (vs : Array Value), h.get? a = some oe ∧ Zc cls d oe ∧ oe.data = .fields vs
def NumAt (F : Hp) (d : Option Addr) (z : PyData) : Prop := (z = .none ∧ d = none) ∨ ∃ (i : Int) (q : Addr), z = .int i ∧ d = some q ∧ F q = some (.xd [(("line" : Str), .int i)])
theorem NumAt.mono {F F' : Hp} {d : Option Addr} {z : PyData} (h : NumAt F d z) (e : Same F F') : NumAt F' d z := by
  rcases h with h | ⟨i, q, h1, h2, h3⟩
  · exact .inl h
  · exact .inr ⟨i, q, h1, h2, e _ _ h3⟩
mutual
inductive Rp (K : PySem.W.Frag) (F : Hp) : V → PyData → Prop
  | non : Rp K F .non .none
  | bl (b : Bool) : Rp K F (.bl b) (.bool b)
  | int (i : Int) : Rp K F (.int i) (.int i)
  | str (x : Str) : Rp K F (.str x) (.str x)
  | lst {a : Addr} {xs : List V} {ds : List PyData} : F a = some (.lst xs) → Rps K F xs ds → Rp K F (.ref a) (.list ds)
  | tup {a : Addr} {xs : List V} {ds : List PyData} : SqT K F a xs → Rps K F xs ds → Rp K F (.ref a) (.tuple ds)
  | dct {a : Addr} : F a = some (.dK []) → Rp K F (.ref a) (.dict [])
  | exc {a C : Addr} {n : Str} {d : Option Addr} {z : PyData} : PySem.W.nsIn K mainGlobals n = some (some (.ref C)) → F a = some (ExV (.ref C) d a) → NumAt F d z → Rp K F (.ref a) (excD n z)
inductive Rps (K : PySem.W.Frag) (F : Hp) : List V → List PyData → Prop
  | nil : Rps K F [] []
  | cons {v : V} {vs : List V} {d : PyData} {ds : List PyData} : Rp K F v d → Rps K F vs ds → Rps K F (v :: vs) (d :: ds)
end
section
variable {K : PySem.W.Frag} {F F' H : Hp}
theorem sameT {a : Addr} {xs : List V} (e : Same F F') (h : SqT K F a xs) : SqT K F' a xs := by
  rcases h with (h | ⟨o, h⟩) | h
  · exact .inl (.inl (e _ _ h))
  · exact .inl (.inr ⟨o, e _ _ h⟩)
  · exact .inr h
mutual
theorem Rp.mono (e : Same F F') : ∀ {d : PyData} {v : V}, Rp K F v d → Rp K F' v d
  | .none, _, h => by cases h; exact .non
  | .bool _, _, h => by cases h; exact .bl _
  | .int _, _, h => by cases h; exact .int _
  | .str _, _, h => by cases h; exact .str _
  | .list _, _, h => by cases h with | lst h1 h2 => exact .lst (e _ _ h1) (Rps.mono e h2)
  | .tuple _, _, h => by cases h with | tup h1 h2 => exact .tup (sameT e h1) (Rps.mono e h2)
  | .dict _, _, h => by
    cases h with
    | dct h1 => exact .dct (e _ _ h1)
    | exc h1 h2 h3 => exact .exc h1 (e _ _ h2) (h3.mono e)
theorem Rps.mono (e : Same F F') : ∀ {ds : List PyData} {vs : List V}, Rps K F vs ds → Rps K F' vs ds
  | [], _, h => by cases h; exact .nil
  | _ :: _, _, h => by cases h with | cons h1 h2 => exact .cons (Rp.mono e h1) (Rps.mono e h2)
end
mutual
theorem Rp.dp : ∀ {d : PyData} {v : V}, Rp K F v d → d.hasDict = false → Dp K F v d
  | .none, _, h, _ => by cases h; exact .non
  | .bool _, _, h, _ => by cases h; exact .bl _
  | .int _, _, h, _ => by cases h; exact .int _
  | .str _, _, h, _ => by cases h; exact .str _
  | .list _, _, h, n => by cases h with | lst h1 h2 => exact .lst (SqL.of h1) (Rps.dp h2 (by simpa [PyData.hasDict] using n))
  | .tuple _, _, h, n => by cases h with | tup h1 h2 => exact .tup h1 (Rps.dp h2 (by simpa [PyData.hasDict] using n))
  | .dict _, _, h, n => by simp [PyData.hasDict] at n
theorem Rps.dp : ∀ {ds : List PyData} {vs : List V}, Rps K F vs ds → PyData.hasDictAll ds = false → DpAll K F vs ds
  | [], _, h, _ => by cases h; exact .nil
  | _ :: _, _, h, n => by
    simp only [PyData.hasDictAll, Bool.or_eq_false_iff] at n
    cases h with | cons h1 h2 => exact .cons (Rp.dp h1 n.1) (Rps.dp h2 n.2)
end
theorem Rps.length : ∀ {ds : List PyData} {vs : List V}, Rps K F vs ds → vs.length = ds.length
  | [], _, h => by cases h; rfl
  | _ :: _, _, h => by cases h with | cons h1 h2 => simp [Rps.length h2]
theorem Rps.get : ∀ {ds : List PyData} {vs : List V} {i : Nat} {d : PyData}, Rps K F vs ds → ds[i]? = some d → ∃ v, vs[i]? = some v ∧ Rp K F v d
  | [], _, _, _, h, e => by simp at e
  | _ :: _, _, 0, _, h, e => by
    cases h with | cons h1 h2 =>
      simp at e; subst e
      exact ⟨_, rfl, h1⟩
  | _ :: _, _, i + 1, _, h, e => by
    cases h with | cons h1 h2 =>
      obtain ⟨v, e1, e2⟩ := Rps.get (i := i) h2 (by simpa using e)
      exact ⟨v, by simpa using e1, e2⟩
theorem Rps.get' : ∀ {ds : List PyData} {vs : List V} {i : Nat} {v : V}, Rps K F vs ds → vs[i]? = some v → ∃ d, ds[i]? = some d ∧ Rp K F v d
  | [], _, _, _, h, e => by cases h; simp at e
  | _ :: _, _, 0, _, h, e => by
    cases h with | cons h1 h2 =>
      simp at e; subst e
      exact ⟨_, rfl, h1⟩
  | _ :: _, _, i + 1, _, h, e => by
    cases h with | cons h1 h2 =>
      obtain ⟨v, e1, e2⟩ := Rps.get' (i := i) h2 (by simpa using e)
      exact ⟨v, by simpa using e1, e2⟩
theorem Rps.append : ∀ {ds es : List PyData} {vs us : List V}, Rps K F vs ds → Rps K F us es → Rps K F (vs ++ us) (ds ++ es)
  | [], _, _, _, h, k => by cases h; exact k
  | _ :: _, _, _, _, h, k => by cases h with | cons h1 h2 => exact .cons h1 (Rps.append h2 k)
theorem Rps.set {v : V} {d : PyData} (r : Rp K F v d) : ∀ {ds : List PyData} {vs : List V} (i : Nat), Rps K F vs ds → Rps K F (vs.set i v) (ds.set i d)
  | [], _, _, h => by cases h; exact .nil
  | _ :: _, _, 0, h => by cases h with | cons h1 h2 => exact .cons r h2
  | _ :: _, _, i + 1, h => by cases h with | cons h1 h2 => exact .cons h1 (Rps.set r i h2)
theorem Rps.take : ∀ {ds : List PyData} {vs : List V} (n : Nat), Rps K F vs ds → Rps K F (vs.take n) (ds.take n)
  | _, _, 0, _ => .nil
  | [], _, n + 1, h => by cases h; exact .nil
  | _ :: _, _, n + 1, h => by cases h with | cons h1 h2 => exact .cons h1 (Rps.take n h2)
theorem Rps.drop : ∀ {ds : List PyData} {vs : List V} (n : Nat), Rps K F vs ds → Rps K F (vs.drop n) (ds.drop n)
  | _, _, 0, h => h
  | [], _, n + 1, h => by cases h; exact .nil
  | _ :: _, _, n + 1, h => by cases h with | cons h1 h2 => exact Rps.drop n h2
theorem Rps.eraseIdx : ∀ {ds : List PyData} {vs : List V} (i : Nat), Rps K F vs ds → Rps K F (vs.eraseIdx i) (ds.eraseIdx i)
  | [], _, _, h => by cases h; exact .nil
  | _ :: _, _, 0, h => by cases h with | cons h1 h2 => exact h2
  | _ :: _, _, i + 1, h => by cases h with | cons h1 h2 => exact .cons h1 (Rps.eraseIdx i h2)
theorem Rps.reverse : ∀ {ds : List PyData} {vs : List V}, Rps K F vs ds → Rps K F vs.reverse ds.reverse
  | [], _, h => by cases h; exact .nil
  | _ :: _, _, h => by cases h with | cons h1 h2 => rw [List.reverse_cons, List.reverse_cons]; exact Rps.append (Rps.reverse h2) (.cons h1 .nil)
theorem same_upd {p : Addr} {o : HO} (h : H p = none) : Same H (upd H p o) := fun b x e => by
  rw [upd_ne (ne_of_none e h)]
  exact e
end

/-! ### the state of a def -/
/-- the ground: the heap and the frozen heap at the entry, the list that the caller handed on in slot 0 (none, or one), what is held for an iterator or a display under way -/
structure Gd where
  H0 : Hp
  F0 : Hp
  pins : List Addr
  held : List (Addr × HO)
def SlotOk (K : PySem.W.Frag) (F H : Hp) (sv : Option (Option V)) : Arg → Prop
  | .d x => ∃ v, sv = some (some v) ∧ Rp K F v x
  | .o xs => ∃ a vs, sv = some (some (.ref a)) ∧ H a = some (.lst vs) ∧ Rps K F vs xs ∧ F a = none
/-- the def at a, if it stands under its own name: with its code object and the table of that -/
def recAt (K : PySem.W.Frag) (a : Addr) : Option (Addr × Addr × Str × Addr) := match K.lookup a with
  | some ⟨_, _, .func fd, _⟩ => (match PySem.W.nsIn K mainGlobals fd.qualname with
    | some (some (.ref b)) => if b = a then (match fd.code with
      | .ref c => (match K.lookup c with
        | some ⟨_, _, .fields vs, _⟩ => (match (vs : Array Value)[11]? with
          | some (Value.ref P) => some (a, c, fd.qualname, P)
          | _ => none)
        | _ => none)
      | _ => none) else none
    | _ => none)
  | _ => none
def tabRec (K : PySem.W.Frag) : List (Addr × Addr × Str × Addr) := K.filterMap fun p => recAt K p.1
/-- the tables, and the name that a lambda of each bears -/
def tabsOf (K : PySem.W.Frag) : List (Addr × Str) := (tabRec K).map fun t => (t.2.2.2, t.2.2.1 ++ ".<locals>." ++ "<lambda>")
theorem TabS.but {H H' : Hp} {p P : Addr} {q : Str} {vs : List V} (t : LamX.TabS H P q) (hp : H p = some (.lst vs)) (k : ∀ a o, H a = some o → a ≠ p → H' a = some o) : LamX.TabS H' P q := by
  obtain ⟨ps, h1, h2, h3⟩ := t
  refine ⟨ps, k _ _ h1 (fun z => by rw [z, hp] at h1; cases h1), h2, fun pos cv hc => ?_⟩
  obtain ⟨c, e1, e2⟩ := h3 pos cv hc
  exact ⟨c, e1, k _ _ e2 (fun z => by rw [z, hp] at e2; unfold LamX.CodeO at e2; cases e2)⟩
theorem Tabs.but {H H' : Hp} {p : Addr} {vs : List V} {T : List (Addr × Str)} (t : LamX.Tabs T H) (hp : H p = some (.lst vs)) (k : ∀ a o, H a = some o → a ≠ p → H' a = some o) : LamX.Tabs T H' := fun u hu => TabS.but (t u hu) hp k
/-- nothing stands at a but a table of code objects, perhaps -/
def Fre (H : Hp) (a : Addr) : Prop := ∀ o, H a = some o → ∃ ps, o = .tbl ps
theorem Fre.none {H : Hp} {a : Addr} (h : H a = .none) : Fre H a := fun o e => by rw [h] at e; cases e
/-- the tables stand in H, none in F -/
structure TabF (K : PySem.W.Frag) (F H : Hp) : Prop where
  t : LamX.Tabs (tabsOf K) H
  n : ∀ a ps, F a ≠ some (.tbl ps)
theorem TabF.upd {K : PySem.W.Frag} {F H : Hp} {a : Addr} {o : HO} (h : TabF K F H) (no : ∀ ps, o ≠ .tbl ps := by intro ps z; cases z) : TabF K (upd F a o) H := ⟨h.t, fun b ps e => by
  by_cases hb : b = a
  · subst hb; rw [upd_same] at e; cases e; exact no ps rfl
  · rw [upd_ne hb] at e; exact h.n b ps e⟩
structure R (K : PySem.W.Frag) (g : Gd) (F H : Hp) (σ : L2.St) (ρ : Rho) : Prop where
  sF : Same F H
  s0 : Same g.F0 F
  fresh : ∀ a o, F a = some o → g.F0 a = some o ∨ Fre g.H0 a ∨ a ∈ g.pins
  keep : ∀ a o, g.H0 a = some o → a ∉ g.pins → (∀ ps, o ≠ .tbl ps) → H a = some o
  pin : ∀ p ∈ g.pins, ∀ xs, ρ[0]? = some (some (.o xs)) → σ[0]? = some (some (.ref p))
  pinH : ∀ p ∈ g.pins, ∃ vs, H p = some (.lst vs)
  held : ∀ q ∈ g.held, H q.1 = some q.2 ∧ F q.1 = none ∧ Fre g.H0 q.1 ∧ ∀ (i : Nat) (xs : List PyData), ρ[i]? = some (some (.o xs)) → σ[i]? ≠ some (some (.ref q.1))
  slot : ∀ (i : Nat) (x : Arg), ρ[i]? = some (some x) → SlotOk K F H σ[i]? x
  own : ∀ (i : Nat) (a : Addr) (xs : List PyData), ρ[i]? = some (some (.o xs)) → σ[i]? = some (some (.ref a)) → Fre g.H0 a ∨ a ∈ g.pins
  inj : ∀ (i j : Nat) (a : Addr) (xs ys : List PyData), ρ[i]? = some (some (.o xs)) → ρ[j]? = some (some (.o ys)) → σ[i]? = some (some (.ref a)) → σ[j]? = some (some (.ref a)) → i = j
  len : σ.length = ρ.length
  heldN : ∀ q ∈ g.held, ∀ ps, q.2 ≠ .tbl ps
  tab : TabF K F H

def ExcIs (mg : Str → Option Value) (F : Hp) (x : ExcD) (cls : Value) (dd : Option Addr) : Prop :=
  ∃ C, mg x.name = some (.ref C) ∧ cls = .ref C ∧ match x.fld with
    | none => dd = none
    | some z => ∃ q, dd = some q ∧ F q = some (.xd [(("line" : Str), .int z)])

section
variable (K : PySem.W.Frag) (mg : Str → Option Value) (W : WX)
def AfE (g : Gd) (F : Hp) (σ : L2.St) (o : Out) (Q : VK) : Prop :=
  match o with
  | .ok d ρ => ∀ v F' H', Same F F' → R K g F' H' σ ρ → Rp K F' v d → Q v H'
  | .er x ρ => ∀ cls dd F' H', Same F F' → R K g F' H' σ ρ → ExcIs mg F' x cls dd → W cls dd σ H'
  | .no => False
def RE (f : Rho → Out) : TE := fun σ H Q => ∃ g F ρ, R K g F H σ ρ ∧ AfE K mg W g F σ (f ρ) Q
/-- truth -/
def truth : PyData → Bool
  | .none => false
  | .bool b => b
  | .int i => i != 0
  | .str x => x.length != 0
  | .list xs => !xs.isEmpty
  | .tuple xs => !xs.isEmpty
  | .dict kvs => !kvs.isEmpty
def truthOk : PyData → Bool
  | .str x => decide (x.length ≤ sizeLine)
  | .dict kvs => kvs.isEmpty
  | _ => true
def AfT (g : Gd) (F : Hp) (σ : L2.St) (o : Out) (Q : Bool → Hp → Prop) : Prop :=
  match o with
  | .ok d ρ => ∀ F' H', Same F F' → R K g F' H' σ ρ → Q (truth d) H'
  | .er x ρ => ∀ cls dd F' H', Same F F' → R K g F' H' σ ρ → ExcIs mg F' x cls dd → W cls dd σ H'
  | .no => False
def RT (f : Rho → Out) : TT := fun σ H Q => ∃ g F ρ, R K g F H σ ρ ∧ AfT K mg W g F σ (f ρ) Q
def AfS (g : Gd) (F : Hp) (o : SOut) (D : Ends) : Prop :=
  match o with
  | .nx ρ => ∀ σ' F' H', Same F F' → R K g F' H' σ' ρ → D.nx σ' H'
  | .bk ρ => ∀ σ' F' H', Same F F' → R K g F' H' σ' ρ → D.bk σ' H'
  | .ct ρ => ∀ σ' F' H', Same F F' → R K g F' H' σ' ρ → D.ct σ' H'
  | .rt d ρ => ∀ v σ' F' H', Same F F' → R K g F' H' σ' ρ → Rp K F' v d → D.rt v H'
  | .er x ρ => ∀ cls dd σ' F' H', Same F F' → R K g F' H' σ' ρ → ExcIs mg F' x cls dd → W cls dd σ' H'
  | .no => False
def RS (f : Rho → SOut) : TS := fun D σ H => ∃ g F ρ, R K g F H σ ρ ∧ AfS K mg W g F (f ρ) D
end
section
variable {K : PySem.W.Frag} {mg : Str → Option Value} {W : WX} {g : Gd} {F F' H : Hp} {σ : L2.St} {o : Out}
theorem AfE.mono {Q : VK} (s : Same F F') (h : AfE K mg W g F σ o Q) : AfE K mg W g F' σ o Q := by
  cases o with
  | ok d ρ => exact fun v F1 H1 s1 => h v F1 H1 (s.trans s1)
  | er x ρ => exact fun c dd F1 H1 s1 => h c dd F1 H1 (s.trans s1)
  | no => exact h
theorem AfT.mono {Q : Bool → Hp → Prop} (s : Same F F') (h : AfT K mg W g F σ o Q) : AfT K mg W g F' σ o Q := by
  cases o with
  | ok d ρ => exact fun F1 H1 s1 => h F1 H1 (s.trans s1)
  | er x ρ => exact fun c dd F1 H1 s1 => h c dd F1 H1 (s.trans s1)
  | no => exact h
theorem AfS.mono {o : SOut} {D : Ends} (s : Same F F') (h : AfS K mg W g F o D) : AfS K mg W g F' o D := by
  cases o with
  | nx ρ => exact fun σ' F1 H1 s1 => h σ' F1 H1 (s.trans s1)
  | bk ρ => exact fun σ' F1 H1 s1 => h σ' F1 H1 (s.trans s1)
  | ct ρ => exact fun σ' F1 H1 s1 => h σ' F1 H1 (s.trans s1)
  | rt d ρ => exact fun v σ' F1 H1 s1 => h v σ' F1 H1 (s.trans s1)
  | er x ρ => exact fun c dd σ' F1 H1 s1 => h c dd σ' F1 H1 (s.trans s1)
  | no => exact h
end

/-! ### the judgements -/
abbrev SE (X : Cx) (W : WX) (e : Expr) (f : Rho → Out) : Prop := PE X e (RE X.K X.mg W f)
abbrev ST (X : Cx) (W : WX) (e : Expr) (f : Rho → Out) : Prop := PT X e (RT X.K X.mg W f)
abbrev SS (X : Cx) (W : WX) (s : Stmt) (f : Rho → SOut) : Prop := PS X s (RS X.K X.mg W f)
abbrev SB (X : Cx) (W : WX) (s : List Stmt) (f : Rho → SOut) : Prop := PSs X s (RS X.K X.mg W f)

/-- a reading by a stronger one -/
theorem pe_imp {X : Cx} {e : Expr} {t u : TE} (h : PE X e t) (k : ∀ σ H Q, u σ H Q → t σ H Q) : PE X e u := ⟨fun pins s σ H Q I q => h.run pins s σ H Q I (k σ H Q q)⟩
theorem pt_imp {X : Cx} {e : Expr} {t u : TT} (h : PT X e t) (k : ∀ σ H Q, u σ H Q → t σ H Q) : PT X e u := ⟨fun pins s σ H Q I q => h.run pins s σ H Q I (k σ H Q q)⟩
theorem pw_imp {X : Cx} {e : Expr} {t u : TT} (h : PW X e t) (k : ∀ σ H Q, u σ H Q → t σ H Q) : PW X e u := ⟨fun wh pins s σ H Q I q => h.run wh pins s σ H Q I (k σ H Q q)⟩
theorem ps_imp {X : Cx} {e : Stmt} {t u : TS} (h : PS X e t) (k : ∀ D σ H, u D σ H → t D σ H) : PS X e u := ⟨fun pins s σ H D I q => h.run pins s σ H D I (k D σ H q)⟩
theorem pss_imp {X : Cx} {e : List Stmt} {t u : TS} (h : PSs X e t) (k : ∀ D σ H, u D σ H → t D σ H) : PSs X e u := ⟨fun pins s σ H D I q => h.run pins s σ H D I (k D σ H q)⟩

/-! ### names and constants -/
/-- data at slot i -/
def eV (i : Nat) : Rho → Out := fun ρ => match ρ[i]? with
  | some (some (.d x)) => .ok x ρ
  | some (some (.o xs)) => .ok (.list xs) (ρ.set i (some (.d (.list xs))))
  | _ => .no
def eC (d : PyData) : Rho → Out := fun ρ => .ok d ρ

section
variable {X : Cx} {W : WX} {K : PySem.W.Frag} {g : Gd} {F H : Hp} {σ : L2.St} {ρ : Rho}
theorem own_of_set {ρ : Rho} {i j : Nat} {x : PyData} {xs : List PyData} (e : (ρ.set i (some (.d x)))[j]? = some (some (.o xs))) : i ≠ j ∧ ρ[j]? = some (some (.o xs)) := by
  have hj : i ≠ j := fun hj => by
    subst hj
    have hl : i < ρ.length := by
      have := (List.getElem?_eq_some_iff.mp e).1
      simpa using this
    rw [List.getElem?_set_self hl] at e
    cases e
  rw [List.getElem?_set_ne hj] at e
  exact ⟨hj, e⟩
theorem R.setD {i : Nat} {v : V} {x : PyData} (r : R K g F H σ ρ) (h : Rp K F v x) : R K g F H (σ.set i (some v)) (ρ.set i (some (.d x))) where
  sF := r.sF
  s0 := r.s0
  fresh := r.fresh
  keep := r.keep
  pin := fun p hm xs e => by
    obtain ⟨hj, e⟩ := own_of_set e
    rw [List.getElem?_set_ne hj]
    exact r.pin p hm xs e
  pinH := r.pinH
  held := fun q hq => by
    obtain ⟨h1, h2, h0, h3⟩ := r.held q hq
    refine ⟨h1, h2, h0, fun j xs e => ?_⟩
    obtain ⟨hj, e⟩ := own_of_set e
    rw [List.getElem?_set_ne hj]
    exact h3 j xs e
  slot := fun j y e => by
    by_cases hj : i = j
    · subst hj
      have hl : i < ρ.length := by
        have := (List.getElem?_eq_some_iff.mp e).1
        simpa using this
      rw [List.getElem?_set_self hl] at e
      cases e
      have hs : i < σ.length := by rw [r.len]; exact hl
      exact ⟨v, by rw [List.getElem?_set_self hs], h⟩
    · rw [List.getElem?_set_ne hj] at e ⊢
      exact r.slot j y e
  own := fun j a xs e e2 => by
    by_cases hj : i = j
    · subst hj
      have hl : i < ρ.length := by
        have := (List.getElem?_eq_some_iff.mp e).1
        simpa using this
      rw [List.getElem?_set_self hl] at e
      cases e
    · rw [List.getElem?_set_ne hj] at e e2
      exact r.own j a xs e e2
  inj := fun j k a xs ys e1 e2 e3 e4 => by
    have nj : ∀ {j : Nat} {xs}, (ρ.set i (some (.d x)))[j]? = some (some (.o xs)) → i ≠ j := fun {j xs} e hj => by
      subst hj
      have hl : i < ρ.length := by
        have := (List.getElem?_eq_some_iff.mp e).1
        simpa using this
      rw [List.getElem?_set_self hl] at e
      cases e
    have h1 := nj e1
    have h2 := nj e2
    rw [List.getElem?_set_ne h1] at e1 e3
    rw [List.getElem?_set_ne h2] at e2 e4
    exact r.inj j k a xs ys e1 e2 e3 e4
  len := by simpa using r.len
  heldN := r.heldN
  tab := r.tab
/-- a list that was owned is given away: no one changes it any more -/
theorem R.freeze {i : Nat} {xs : List PyData} (r : R K g F H σ ρ) (e : ρ[i]? = some (some (.o xs))) : ∃ a vs F', σ[i]? = some (some (.ref a)) ∧ H a = some (.lst vs) ∧ Same F F' ∧ R K g F' H σ (ρ.set i (some (.d (.list xs)))) ∧ Rp K F' (.ref a) (.list xs) := by
  obtain ⟨a, vs, es, hH, hr, hF⟩ := r.slot i _ e
  have hl : i < ρ.length := (List.getElem?_eq_some_iff.mp e).1
  have sm : Same F (upd F a (.lst vs)) := same_upd hF
  have rp : Rp K (upd F a (.lst vs)) (.ref a) (.list xs) := .lst upd_same (hr.mono sm)
  refine ⟨a, vs, upd F a (.lst vs), es, hH, sm, ⟨fun b o q => ?_, r.s0.trans sm, fun b o q => ?_, r.keep, fun p hp ys q => r.pin p hp ys (own_of_set q).2, r.pinH, fun q hq => ?_, fun j y q => ?_, fun j b ys q q2 => ?_, fun j k b ys zs q1 q2 q3 q4 => ?_, by simpa using r.len, r.heldN, r.tab.upd⟩, rp⟩
  · by_cases hb : b = a
    · subst hb; rw [upd_same] at q; cases q; exact hH
    · rw [upd_ne hb] at q; exact r.sF b o q
  · by_cases hb : b = a
    · subst hb
      exact .inr (r.own i b xs e es)
    · rw [upd_ne hb] at q; exact r.fresh b o q
  · obtain ⟨h1, h2, h0, h3⟩ := r.held q hq
    refine ⟨h1, ?_, h0, fun j ys z => h3 j ys (own_of_set z).2⟩
    rw [upd_ne (show q.1 ≠ a from fun z => h3 i xs e (by rw [z]; exact es))]
    exact h2
  · by_cases hj : i = j
    · subst hj
      rw [List.getElem?_set_self hl] at q
      cases q
      exact ⟨_, es, rp⟩
    · rw [List.getElem?_set_ne hj] at q
      have z := r.slot j y q
      cases y with
      | d x => obtain ⟨v, e1, e2⟩ := z; exact ⟨v, e1, e2.mono sm⟩
      | o ys =>
        obtain ⟨b, us, e1, e2, e3, e4⟩ := z
        refine ⟨b, us, e1, e2, e3.mono sm, ?_⟩
        rw [upd_ne (show b ≠ a from fun hb => hj (r.inj i j a _ _ e q es (by rw [← hb]; exact e1)))]
        exact e4
  · by_cases hj : i = j
    · subst hj
      rw [List.getElem?_set_self hl] at q; cases q
    · rw [List.getElem?_set_ne hj] at q
      exact r.own j b ys q q2
  · by_cases hj : i = j
    · subst hj
      rw [List.getElem?_set_self hl] at q1; cases q1
    · by_cases hk : i = k
      · subst hk
        rw [List.getElem?_set_self hl] at q2; cases q2
      · rw [List.getElem?_set_ne hj] at q1
        rw [List.getElem?_set_ne hk] at q2
        exact r.inj j k b ys zs q1 q2 q3 q4
theorem se_var {i : Nat} {x : Str} {pos : Pos} (hN : X.N[i]? = some x := by rfl) (hv : Vis X.env.scope x := by first | exact Or.inl rfl | exact Or.inr (Or.inl rfl) | exact Or.inr (Or.inr rfl)) (hd : (x == ("__debug__" : Str)) = false := by decide)
    (hcd : (x == ("__classdict__" : Str)) = false := by decide) : SE X W (.Name x pos) (eV i) := by
  refine pe_imp (pe_var (i := i) hN hv hd hcd) fun σ H Q ⟨g, F, ρ, r, h⟩ => ?_
  unfold eV at h
  split at h
  · rename_i y e
    obtain ⟨v, e1, e2⟩ := r.slot i _ e
    exact ⟨v, e1, h v F H (Same.refl _) r e2⟩
  · rename_i xs e
    obtain ⟨a, vs, F', es, hH, sm, r', rp⟩ := r.freeze e
    exact ⟨_, es, h _ F' H sm r' rp⟩
  · exact h.elim
theorem re_const {v : V} {d : PyData} (hd : ∀ K F, Rp K F v d) (σ : L2.St) (H : Hp) (Q : VK) (h : RE X.K X.mg W (eC d) σ H Q) : tC v σ H Q := by
  obtain ⟨g, F, ρ, r, h⟩ := h
  exact h v F H (Same.refl _) r (hd _ _)
theorem se_int {i j pos} : SE X W (.Constant (.int i) j pos) (eC (.int i)) := pe_imp pe_int (re_const fun _ _ => .int _)
theorem se_bl {b j pos} : SE X W (.Constant (.bool b) j pos) (eC (.bool b)) := pe_imp pe_bl (re_const fun _ _ => .bl _)
theorem se_non {j pos} : SE X W (.Constant .none j pos) (eC .none) := pe_imp pe_non (re_const fun _ _ => .non)
theorem se_str {x j pos} : SE X W (.Constant (.str x) j pos) (eC (.str x)) := pe_imp pe_str (re_const fun _ _ => .str _)
end
end Fl
set_option Elab.async false
set_option autoImplicit false
set_option linter.all false
set_option maxRecDepth 100000
set_option maxHeartbeats 4000000
/-! Fl2: expressions. -/
namespace Fl
open PySem PySem.Spec PyProof.Rows L2

/-! ### the heap grows -/
structure Grow (F H F' H' : Hp) : Prop where
  f : Same F F'
  fh : Same F' H'
  h : Same H H'
  new : ∀ a o, F' a = some o → F a = some o ∨ H a = none
  nt : ∀ a ps, F' a = some (.tbl ps) → F a = some (.tbl ps)
theorem Grow.refl {F H : Hp} (s : Same F H) : Grow F H F H := ⟨Same.refl _, s, Same.refl _, fun _ _ e => .inl e, fun _ _ e => e⟩
theorem Grow.new1 {F H : Hp} {p : Addr} {o : HO} (s : Same F H) (h : H p = none) (no : ∀ ps, o ≠ .tbl ps := by intro ps z; cases z) : Grow F H (upd F p o) (upd H p o) :=
  ⟨same_upd (s.free h), fun b x e => by
      by_cases hb : b = p
      · subst hb; rw [upd_same] at e ⊢; exact e
      · rw [upd_ne hb] at e ⊢; exact s _ _ e, same_upd h, fun b x e => by
      by_cases hb : b = p
      · subst hb; exact .inr h
      · rw [upd_ne hb] at e; exact .inl e, fun b ps e => by
      by_cases hb : b = p
      · subst hb; rw [upd_same] at e; cases e; exact absurd rfl (no ps)
      · rw [upd_ne hb] at e; exact e⟩
theorem Grow.trans {F H F1 H1 F2 H2 : Hp} (a : Grow F H F1 H1) (b : Grow F1 H1 F2 H2) : Grow F H F2 H2 :=
  ⟨a.f.trans b.f, b.fh, a.h.trans b.h, fun c o e => by
    rcases b.new c o e with h | h
    · exact a.new c o h
    · exact .inr (a.h.free h), fun c ps e => a.nt c ps (b.nt c ps e)⟩
section
variable {K : PySem.W.Frag} {mg : Str → Option Value} {W : WX} {g : Gd} {F F' H H' : Hp} {σ : L2.St} {ρ : Rho} {o : Out}
theorem R.free0 {a : Addr} (r : R K g F H σ ρ) (h : H a = none) (hp : a ∉ g.pins) : Fre g.H0 a := fun u q => by
  by_cases ht : ∃ ps, u = .tbl ps
  · exact ht
  · have := r.keep a u q hp fun ps z => ht ⟨ps, z⟩
    rw [h] at this; cases this
theorem R.grow (r : R K g F H σ ρ) (w : Grow F H F' H') : R K g F' H' σ ρ where
  sF := w.fh
  s0 := r.s0.trans w.f
  fresh := fun a o e => by
    rcases w.new a o e with h | h
    · exact r.fresh a o h
    · by_cases hp : a ∈ g.pins
      · exact .inr (.inr hp)
      · exact .inr (.inl (r.free0 h hp))
  keep := fun a o e n nt => w.h _ _ (r.keep a o e n nt)
  pin := r.pin
  pinH := fun p hp => let ⟨o, e⟩ := r.pinH p hp; ⟨o, w.h _ _ e⟩
  heldN := r.heldN
  tab := ⟨r.tab.t.ext w.h, fun a ps e => r.tab.n a ps (w.nt a ps e)⟩
  held := fun q hq => by
    obtain ⟨h1, h2, h0, h3⟩ := r.held q hq
    refine ⟨w.h _ _ h1, ?_, h0, h3⟩
    cases z : F' q.1 with
    | none => rfl
    | some u =>
      rcases w.new q.1 u z with h | h
      · rw [h2] at h; cases h
      · rw [h1] at h; cases h
  slot := fun i x e => by
    have z := r.slot i x e
    cases x with
    | d x => obtain ⟨v, e1, e2⟩ := z; exact ⟨v, e1, e2.mono w.f⟩
    | o xs =>
      obtain ⟨a, vs, e1, e2, e3, e4⟩ := z
      refine ⟨a, vs, e1, w.h _ _ e2, e3.mono w.f, ?_⟩
      cases q : F' a with
      | none => rfl
      | some u =>
        rcases w.new a u q with h | h
        · rw [e4] at h; cases h
        · rw [e2] at h; cases h
  own := r.own
  inj := r.inj
  len := r.len

def bnd (f : Rho → Out) (k : PyData → Rho → Out) : Rho → Out := fun ρ => match f ρ with
  | .ok d r => k d r
  | .er x r => .er x r
  | .no => .no
/-- f first, then what is wanted behind it -/
theorem re_then {f : Rho → Out} {k : PyData → Rho → Out} {Q Q' : VK} (r : R K g F H σ ρ) (h : AfE K mg W g F σ (bnd f k ρ) Q)
    (hk : ∀ v F1 H1 ρ1 d, Same F F1 → R K g F1 H1 σ ρ1 → Rp K F1 v d → AfE K mg W g F1 σ (k d ρ1) Q → Q' v H1) : RE K mg W f σ H Q' := by
  refine ⟨g, F, ρ, r, ?_⟩
  unfold bnd at h
  cases e : f ρ with
  | ok d ρ1 =>
    rw [e] at h
    exact fun v F1 H1 s1 r1 p1 => hk v F1 H1 ρ1 d s1 r1 p1 (h.mono s1)
  | er x ρ1 =>
    rw [e] at h
    exact h
  | no =>
    rw [e] at h
    exact h
theorem rt_then {f : Rho → Out} {k : PyData → Rho → Out} {Q : Bool → Hp → Prop} {Q' : VK} (r : R K g F H σ ρ) (h : AfT K mg W g F σ (bnd f k ρ) Q)
    (hk : ∀ v F1 H1 ρ1 d, Same F F1 → R K g F1 H1 σ ρ1 → Rp K F1 v d → AfT K mg W g F1 σ (k d ρ1) Q → Q' v H1) : RE K mg W f σ H Q' := by
  refine ⟨g, F, ρ, r, ?_⟩
  unfold bnd at h
  cases e : f ρ with
  | ok d ρ1 =>
    rw [e] at h
    exact fun v F1 H1 s1 r1 p1 => hk v F1 H1 ρ1 d s1 r1 p1 (h.mono s1)
  | er x ρ1 =>
    rw [e] at h
    exact h
  | no =>
    rw [e] at h
    exact h
def lift (o : Option PyData) : Rho → Out := fun ρ => match o with
  | some z => .ok z ρ
  | none => .no
def liftB (o : Option Bool) : Rho → Out := lift (o.map PyData.bool)
theorem lift_af {o : Option PyData} {Q : VK} (h : AfE K mg W g F σ (lift o ρ) Q) : ∃ z, o = some z ∧ ∀ v F' H', Same F F' → R K g F' H' σ ρ → Rp K F' v z → Q v H' := by
  cases o with
  | none => exact h.elim
  | some z => exact ⟨z, rfl, h⟩
theorem liftB_aft {o : Option Bool} {Q : Bool → Hp → Prop} (h : AfT K mg W g F σ (liftB o ρ) Q) : ∃ z, o = some z ∧ ∀ F' H', Same F F' → R K g F' H' σ ρ → Q z H' := by
  cases o with
  | none => exact h.elim
  | some z => exact ⟨z, rfl, h⟩
end

/-! ### rules by data -/
def D1 (K : PySem.W.Frag) (r : V → Hp → VK → Prop) (p : PyData → Option PyData) : Prop := ∀ (F H : Hp) (v : V) (x z : PyData) (Q : VK), Same F H → Rp K F v x → p x = some z →
  (∀ w F' H', Grow F H F' H' → Rp K F' w z → Q w H') → r v H Q
def D2 (K : PySem.W.Frag) (r : R2) (p : PyData → PyData → Option PyData) : Prop := ∀ (F H : Hp) (v u : V) (x y z : PyData) (Q : VK), Same F H → Rp K F v x → Rp K F u y → p x y = some z →
  (∀ w F' H', Grow F H F' H' → Rp K F' w z → Q w H') → r v u H Q
def DN (K : PySem.W.Frag) (r : List V → Hp → VK → Prop) (p : List PyData → Option PyData) : Prop := ∀ (F H : Hp) (vs : List V) (xs : List PyData) (z : PyData) (Q : VK), Same F H → Rps K F vs xs → p xs = some z →
  (∀ w F' H', Grow F H F' H' → Rp K F' w z → Q w H') → r vs H Q
def DM (K : PySem.W.Frag) (r : V → List V → Hp → VK → Prop) (p : PyData → List PyData → Option PyData) : Prop := ∀ (F H : Hp) (v : V) (vs : List V) (x : PyData) (xs : List PyData) (z : PyData) (Q : VK), Same F H → Rp K F v x → Rps K F vs xs → p x xs = some z →
  (∀ w F' H', Grow F H F' H' → Rp K F' w z → Q w H') → r v vs H Q
/-- comparisons: the answer is a bool -/
def DC (K : PySem.W.Frag) (r : R2) (p : PyData → PyData → Option Bool) : Prop := ∀ (F H : Hp) (v u : V) (x y : PyData) (z : Bool) (Q : VK), Same F H → Rp K F v x → Rp K F u y → p x y = some z →
  (∀ F' H', Grow F H F' H' → Q (.bl z) H') → r v u H Q

section
variable {X : Cx} {W : WX} {a b c e : Expr} {es : List Expr} {fa fb fc f : Rho → Out} {pos : Pos}
def eOp (p : PyData → PyData → Option PyData) (fa fb : Rho → Out) : Rho → Out := bnd fa fun x => bnd fb fun y => lift (p x y)
def eCmp (p : PyData → PyData → Option Bool) (fa fb : Rho → Out) : Rho → Out := bnd fa fun x => bnd fb fun y => liftB (p x y)
theorem op_core {r : R2} {p : PyData → PyData → Option PyData} (hd : D2 X.K r p) (σ : L2.St) (H : Hp) (Q : VK) (h : RE X.K X.mg W (eOp p fa fb) σ H Q) : tOp r (RE X.K X.mg W fa) (RE X.K X.mg W fb) σ H Q := by
  obtain ⟨g, F, ρ, rr, h⟩ := h
  refine re_then rr h fun v F1 H1 ρ1 x s1 r1 p1 h1 => ?_
  refine re_then r1 h1 fun u F2 H2 ρ2 y s2 r2 p2 h2 => ?_
  obtain ⟨z, e, q⟩ := lift_af h2
  exact hd F2 H2 v u x y z Q r2.sF (p1.mono s2) p2 e fun w F' H' gr pw => q w F' H' gr.f (r2.grow gr) pw
theorem se_op {op : Operator} {r : R2} {p : PyData → PyData → Option PyData} (ho : OpR X (binaryOp op) r) (hd : D2 X.K r p) (ha : SE X W a fa) (hb : SE X W b fb) : SE X W (.BinOp a op b pos) (eOp p fa fb) :=
  pe_imp (pe_op ho ha hb) (op_core hd)
theorem se_cmp {op : CmpOp} {r : R2} {p : PyData → PyData → Option Bool} (ho : OpR X (compareOp op) r) (hd : DC X.K r p) (ha : SE X W a fa) (hb : SE X W b fb) (hm : behindInMarks op b = false) : SE X W (.Compare a [op] [b] pos) (eCmp p fa fb) := by
  refine pe_imp (pe_cmpR ho ha hb hm) fun σ H Q ⟨g, F, ρ, rr, h⟩ => ?_
  refine re_then rr h fun v F1 H1 ρ1 x s1 r1 p1 h1 => ?_
  refine re_then r1 h1 fun u F2 H2 ρ2 y s2 r2 p2 h2 => ?_
  obtain ⟨z, e, q⟩ := lift_af h2
  cases e' : p x y with
  | none => rw [e'] at e; cases e
  | some k =>
    rw [e'] at e; cases e
    exact hd F2 H2 v u x y k Q r2.sF (p1.mono s2) p2 e' fun F' H' gr => q _ F' H' gr.f (r2.grow gr) (.bl _)
theorem st_cmp {op : CmpOp} {r : R2} {p : PyData → PyData → Option Bool} (ho : OpR X (compareOp op) r) (hd : DC X.K r p) (ha : SE X W a fa) (hb : SE X W b fb) (hm : behindInMarks op b = false) : ST X W (.Compare a [op] [b] pos) (eCmp p fa fb) := by
  refine pt_imp (pt_cmpR ho ha hb hm) fun σ H Q ⟨g, F, ρ, rr, h⟩ => ?_
  refine rt_then rr h fun v F1 H1 ρ1 x s1 r1 p1 h1 => ?_
  refine rt_then r1 h1 fun u F2 H2 ρ2 y s2 r2 p2 h2 => ?_
  obtain ⟨k, e, q⟩ := liftB_aft h2
  exact hd F2 H2 v u x y k _ r2.sF (p1.mono s2) p2 e fun F' H' gr => ⟨k, rfl, q F' H' gr.f (r2.grow gr)⟩
/-- a op b op' c -/
def eChain (p p' : PyData → PyData → Option Bool) (fa fb fc : Rho → Out) : Rho → Out := bnd fa fun x => bnd fb fun y ρ => match p x y with
  | some true => bnd fc (fun z => liftB (p' y z)) ρ
  | some false => .ok (.bool false) ρ
  | none => .no
theorem se_chain {op op' : CmpOp} {r r' : R2} {p p' : PyData → PyData → Option Bool} (ho : OpR X (compareOp op) r) (hd : DC X.K r p) (ho' : OpR X (compareOp op') r') (hd' : DC X.K r' p') (ha : SE X W a fa) (hb : SE X W b fb) (hc : SE X W c fc)
    (hm : lastMarks [op, op'] [b, c] = false := by with_unfolding_all rfl) : SE X W (.Compare a [op, op'] [b, c] pos) (eChain p p' fa fb fc) := by
  refine pe_imp (pe_chain ho ho' ha hb hc hm) fun σ H Q ⟨g, F, ρ, rr, h⟩ => ?_
  refine re_then rr h fun v F1 H1 ρ1 x s1 r1 p1 h1 => ?_
  refine re_then r1 h1 fun u F2 H2 ρ2 y s2 r2 p2 h2 => ?_
  cases e : p x y with
  | none => simp only [e] at h2; exact h2.elim
  | some k =>
    refine hd F2 H2 v u x y k _ r2.sF (p1.mono s2) p2 e fun F' H' gr => ⟨k, rfl, ?_⟩
    cases k with
    | false =>
      simp only [e] at h2
      exact iteF (h2 _ F' H' gr.f (r2.grow gr) (.bl _))
    | true =>
      simp only [e] at h2
      refine iteT ?_
      refine re_then (r2.grow gr) (h2.mono gr.f) fun w F3 H3 ρ3 z s3 r3 p3 h3 => ?_
      obtain ⟨zz, e3, q⟩ := lift_af h3
      cases e' : p' y z with
      | none => rw [e'] at e3; cases e3
      | some k =>
        rw [e'] at e3; cases e3
        exact hd' F3 H3 u w y z k Q r3.sF ((p2.mono gr.f).mono s3) p3 e' fun F' H' gr => q _ F' H' gr.f (r3.grow gr) (.bl _)

/-! ### truth -/
theorem truV {K : PySem.W.Frag} {F H : Hp} {v : V} {x : PyData} (s : Same F H) (h : Rp K F v x) (ok : truthOk x = true) : TruV K v H (truth x) := by
  cases h with
  | non => rfl
  | bl b => rfl
  | int i => rfl
  | str y =>
    refine ⟨of_decide_eq_true ok, ?_⟩
    show (y.length != 0) = ((y.length : Int) != 0)
    by_cases hz : y.length = 0
    · simp [hz]
    · rw [bne_iff_ne.mpr hz]
      exact (bne_iff_ne.mpr (by omega)).symm
  | lst h1 h2 =>
    refine .inl ⟨_, SqL.of (s _ _ h1), ?_⟩
    cases h2 <;> rfl
  | tup h1 h2 =>
    refine .inr (.inl ⟨_, sameT s h1, ?_⟩)
    cases h2 <;> rfl
  | dct h1 => exact .inr (.inr ⟨_, s _ _ h1, rfl⟩)
  | exc h1 h2 h3 => simp [truthOk] at ok
/-- a value as a test -/
def eTru (f : Rho → Out) : Rho → Out := bnd f fun x ρ => if truthOk x = true then .ok x ρ else .no
theorem st_tru (ha : SE X W a fa) (he : ∀ whole, isTrue a X.env whole = (do let v ← whole; standAt a.pos; holding [v] (truthy v)) := by intro _; rfl) : ST X W a (eTru fa) := by
  refine pt_imp (pt_truth ha he) fun σ H Q ⟨g, F, ρ, rr, h⟩ => ?_
  refine rt_then rr h fun v F1 H1 ρ1 x s1 r1 p1 h1 => ?_
  by_cases ok : truthOk x = true
  · simp only [ok, if_true] at h1
    exact ⟨_, truV r1.sF p1 ok, h1 F1 H1 (Same.refl _) r1⟩
  · simp only [ok, if_false] at h1
    exact h1.elim

/-! ### and, or, not, if -/
def eAnd (fa fb : Rho → Out) : Rho → Out := bnd fa fun x ρ => if truth x = true then fb ρ else .ok x ρ
def eOr (fa fb : Rho → Out) : Rho → Out := bnd fa fun x ρ => if truth x = true then .ok x ρ else fb ρ
def eNot (fa : Rho → Out) : Rho → Out := bnd fa fun x ρ => .ok (.bool (!truth x)) ρ
def eIf (fc fa fb : Rho → Out) : Rho → Out := bnd fc fun x ρ => if truth x = true then fa ρ else fb ρ
abbrev SW (X : Cx) (W : WX) (e : Expr) (f : Rho → Out) : Prop := PW X e (RT X.K X.mg W f)
section
variable {K : PySem.W.Frag} {mg : Str → Option Value} {g : Gd} {F H : Hp} {σ : L2.St} {ρ : Rho}
/-- a test first, then an expression; a test; a statement -/
theorem ct_then {f : Rho → Out} {k : PyData → Rho → Out} {Q : VK} {Q' : Bool → Hp → Prop} (r : R K g F H σ ρ) (h : AfE K mg W g F σ (bnd f k ρ) Q)
    (hk : ∀ F1 H1 ρ1 d, Same F F1 → R K g F1 H1 σ ρ1 → AfE K mg W g F1 σ (k d ρ1) Q → Q' (truth d) H1) : RT K mg W f σ H Q' := by
  refine ⟨g, F, ρ, r, ?_⟩
  unfold bnd at h
  cases e : f ρ with
  | ok d ρ1 =>
    rw [e] at h
    exact fun F1 H1 s1 r1 => hk F1 H1 ρ1 d s1 r1 (h.mono s1)
  | er x ρ1 =>
    rw [e] at h
    exact h
  | no =>
    rw [e] at h
    exact h
theorem tt_then {f : Rho → Out} {k : PyData → Rho → Out} {Q Q' : Bool → Hp → Prop} (r : R K g F H σ ρ) (h : AfT K mg W g F σ (bnd f k ρ) Q)
    (hk : ∀ F1 H1 ρ1 d, Same F F1 → R K g F1 H1 σ ρ1 → AfT K mg W g F1 σ (k d ρ1) Q → Q' (truth d) H1) : RT K mg W f σ H Q' := by
  refine ⟨g, F, ρ, r, ?_⟩
  unfold bnd at h
  cases e : f ρ with
  | ok d ρ1 =>
    rw [e] at h
    exact fun F1 H1 s1 r1 => hk F1 H1 ρ1 d s1 r1 (h.mono s1)
  | er x ρ1 =>
    rw [e] at h
    exact h
  | no =>
    rw [e] at h
    exact h
end
theorem st_and1 (ha : ST X W a fa) : SW X W (.BoolOp .And [a] pos) fa := pw_and1 ha
theorem st_or1 (ha : ST X W a fa) : SW X W (.BoolOp .Or [a] pos) fa := pw_or1 ha
theorem st_and {rest : List Expr} (ha : ST X W a fa) (hb : SW X W (.BoolOp .And (b :: rest) pos) fb) : SW X W (.BoolOp .And (a :: b :: rest) pos) (eAnd fa fb) := by
  refine pw_imp (pw_and ha hb) fun σ H Q ⟨g, F, ρ, rr, h⟩ => ?_
  refine tt_then rr h fun F1 H1 ρ1 x s1 r1 h1 => ?_
  cases hx : truth x with
  | true => simp only [hx, if_true] at h1; exact iteT ⟨g, F1, ρ1, r1, h1⟩
  | false =>
    simp only [hx, Bool.false_eq_true, if_false] at h1
    have := h1 F1 H1 (Same.refl _) r1
    rw [hx] at this
    exact iteF this
theorem st_or {rest : List Expr} (ha : ST X W a fa) (hb : SW X W (.BoolOp .Or (b :: rest) pos) fb) : SW X W (.BoolOp .Or (a :: b :: rest) pos) (eOr fa fb) := by
  refine pw_imp (pw_or ha hb) fun σ H Q ⟨g, F, ρ, rr, h⟩ => ?_
  refine tt_then rr h fun F1 H1 ρ1 x s1 r1 h1 => ?_
  cases hx : truth x with
  | true =>
    simp only [hx, if_true] at h1
    have := h1 F1 H1 (Same.refl _) r1
    rw [hx] at this
    exact iteT this
  | false => simp only [hx, Bool.false_eq_true, if_false] at h1; exact iteF ⟨g, F1, ρ1, r1, h1⟩
theorem st_not (ha : ST X W a fa) : ST X W (.UnaryOp .Not a pos) (eNot fa) := by
  refine pt_imp (pt_not ha) fun σ H Q ⟨g, F, ρ, rr, h⟩ => ?_
  refine tt_then rr h fun F1 H1 ρ1 x s1 r1 h1 => ?_
  exact h1 F1 H1 (Same.refl _) r1
theorem se_if (hc : ST X W c fc) (ha : SE X W a fa) (hb : SE X W b fb) : SE X W (.IfExp c a b pos) (eIf fc fa fb) := by
  refine pe_imp (pe_ifExp hc ha hb) fun σ H Q ⟨g, F, ρ, rr, h⟩ => ?_
  refine ct_then rr h fun F1 H1 ρ1 x s1 r1 h1 => ?_
  cases hx : truth x with
  | true => simp only [hx, if_true] at h1; exact iteT ⟨g, F1, ρ1, r1, h1⟩
  | false => simp only [hx, Bool.false_eq_true, if_false] at h1; exact iteF ⟨g, F1, ρ1, r1, h1⟩

/-! ### arguments, displays -/
inductive AOut where
  | ok (ds : List PyData) (r : Rho)
  | er (x : ExcD) (r : Rho)
  | no
def AfA (K : PySem.W.Frag) (mg : Str → Option Value) (W : WX) (g : Gd) (F : Hp) (σ : L2.St) (o : AOut) (Q : List V → Hp → Prop) : Prop :=
  match o with
  | .ok ds ρ => ∀ vs F' H', Same F F' → R K g F' H' σ ρ → Rps K F' vs ds → Q vs H'
  | .er x ρ => ∀ cls dd F' H', Same F F' → R K g F' H' σ ρ → ExcIs mg F' x cls dd → W cls dd σ H'
  | .no => False
def RA (K : PySem.W.Frag) (mg : Str → Option Value) (W : WX) (f : Rho → AOut) : TA := fun σ H Q => ∃ g F ρ, R K g F H σ ρ ∧ AfA K mg W g F σ (f ρ) Q
abbrev SA (X : Cx) (W : WX) (es : List Expr) (f : Rho → AOut) : Prop := PA X es (RA X.K X.mg W f)
theorem AfA.mono {K : PySem.W.Frag} {mg : Str → Option Value} {g : Gd} {F F' : Hp} {σ : L2.St} {o : AOut} {Q : List V → Hp → Prop} (s : Same F F') (h : AfA K mg W g F σ o Q) : AfA K mg W g F' σ o Q := by
  cases o with
  | ok d ρ => exact fun v F1 H1 s1 => h v F1 H1 (s.trans s1)
  | er x ρ => exact fun c dd F1 H1 s1 => h c dd F1 H1 (s.trans s1)
  | no => exact h
theorem pa_imp {es : List Expr} {t u : TA} (h : PA X es t) (k : ∀ σ H Q, u σ H Q → t σ H Q) : PA X es u := ⟨fun pos pins s σ H Q I q => h.run pos pins s σ H Q I (k σ H Q q)⟩
def aNil : Rho → AOut := fun ρ => .ok [] ρ
def aCons (f : Rho → Out) (t : Rho → AOut) : Rho → AOut := fun ρ => match f ρ with
  | .ok d ρ1 => (match t ρ1 with
    | .ok ds ρ2 => .ok (d :: ds) ρ2
    | .er x ρ2 => .er x ρ2
    | .no => .no)
  | .er x ρ1 => .er x ρ1
  | .no => .no
def aBnd (t : Rho → AOut) (k : List PyData → Rho → Out) : Rho → Out := fun ρ => match t ρ with
  | .ok ds r => k ds r
  | .er x r => .er x r
  | .no => .no
theorem sa_nil : SA X W [] aNil := pa_imp pa_nil fun σ H Q ⟨g, F, ρ, rr, h⟩ => h [] F H (Same.refl _) rr .nil
theorem sa_cons {t : Rho → AOut} (ha : SE X W e f) (hr : SA X W es t) (hs : starEach (e :: es) X.env = (false, eval e X.env) :: starEach es X.env := by rfl) : SA X W (e :: es) (aCons f t) := by
  refine pa_imp (pa_cons ha hr hs) fun σ H Q ⟨g, F, ρ, rr, h⟩ => ?_
  refine ⟨g, F, ρ, rr, ?_⟩
  unfold aCons at h
  cases e1 : f ρ with
  | ok d ρ1 =>
    rw [e1] at h
    intro v F1 H1 s1 r1 p1
    refine ⟨g, F1, ρ1, r1, ?_⟩
    replace h := AfA.mono s1 h
    cases e2 : t ρ1 with
    | ok ds ρ2 =>
      simp only [e2] at h
      exact fun vs F2 H2 s2 r2 p2 => h (v :: vs) F2 H2 s2 r2 (.cons (p1.mono s2) p2)
    | er x ρ2 => simp only [e2] at h; exact h
    | no => simp only [e2] at h; exact h
  | er x ρ1 => rw [e1] at h; exact h
  | no => rw [e1] at h; exact h
theorem ra_then {K : PySem.W.Frag} {mg : Str → Option Value} {g : Gd} {F H : Hp} {σ : L2.St} {ρ : Rho} {t : Rho → AOut} {k : List PyData → Rho → Out} {Q : VK} {Q' : List V → Hp → Prop} (r : R K g F H σ ρ) (h : AfE K mg W g F σ (aBnd t k ρ) Q)
    (hk : ∀ vs F1 H1 ρ1 ds, Same F F1 → R K g F1 H1 σ ρ1 → Rps K F1 vs ds → AfE K mg W g F1 σ (k ds ρ1) Q → Q' vs H1) : RA K mg W t σ H Q' := by
  refine ⟨g, F, ρ, r, ?_⟩
  unfold aBnd at h
  cases e : t ρ with
  | ok d ρ1 =>
    rw [e] at h
    exact fun v F1 H1 s1 r1 p1 => hk v F1 H1 ρ1 d s1 r1 p1 (h.mono s1)
  | er x ρ1 =>
    rw [e] at h
    exact h
  | no =>
    rw [e] at h
    exact h
def eTup (t : Rho → AOut) : Rho → Out := aBnd t fun ds ρ => if ds.length ≤ sizeLine then .ok (.tuple ds) ρ else .no
def eLst (t : Rho → AOut) : Rho → Out := aBnd t fun ds ρ => if ds.length ≤ sizeLine then .ok (.list ds) ρ else .no
theorem se_tup {x1} {t : Rho → AOut} (h : SA X W es t) : SE X W (.Tuple es x1 pos) (eTup t) := by
  refine pe_imp (pe_tup h) fun σ H Q ⟨g, F, ρ, rr, h⟩ => ?_
  refine ra_then rr h fun vs F1 H1 ρ1 ds s1 r1 p1 h1 => ?_
  by_cases hz : ds.length ≤ sizeLine
  · simp only [hz, if_true] at h1
    refine ⟨by rw [p1.length]; exact hz, fun p hp => ?_⟩
    have gr := Grow.new1 (o := .tup vs) r1.sF hp
    exact h1 _ _ _ gr.f (r1.grow gr) (.tup (.inl (.inl upd_same)) (p1.mono gr.f))
  · simp only [hz, if_false] at h1; exact h1.elim
theorem se_lst {t : Rho → AOut} (h : SA X W es t) : SE X W (.List es pos) (eLst t) := by
  refine pe_imp (pe_lst h) fun σ H Q ⟨g, F, ρ, rr, h⟩ => ?_
  refine ra_then rr h fun vs F1 H1 ρ1 ds s1 r1 p1 h1 => ?_
  by_cases hz : ds.length ≤ sizeLine
  · simp only [hz, if_true] at h1
    refine ⟨by rw [p1.length]; exact hz, fun p hp => ?_⟩
    have gr := Grow.new1 (o := .lst vs) r1.sF hp
    exact h1 _ _ _ gr.f (r1.grow gr) (.lst upd_same (p1.mono gr.f))
  · simp only [hz, if_false] at h1; exact h1.elim

/-! ### calls of built-ins, methods -/
def eFun (p : List PyData → Option PyData) (t : Rho → AOut) : Rho → Out := aBnd t fun ds => lift (p ds)
theorem cb_core {r : List V → Hp → VK → Prop} {p : List PyData → Option PyData} {t : Rho → AOut} (hd : DN X.K r p) (σ : L2.St) (H : Hp) (Q : VK) (h : RE X.K X.mg W (eFun p t) σ H Q) : tCB r (RA X.K X.mg W t) σ H Q := by
  obtain ⟨g, F, ρ, rr, h⟩ := h
  refine ra_then rr h fun vs F1 H1 ρ1 ds s1 r1 p1 h1 => ?_
  obtain ⟨z, e, q⟩ := lift_af h1
  exact hd F1 H1 vs ds z Q r1.sF p1 e fun w F' H' gr pw => q w F' H' gr.f (r1.grow gr) pw
theorem se_callB {x : Str} {p0 : Pos} {id : String} {r : List V → Hp → VK → Prop} {p : List PyData → Option PyData} {t : Rho → AOut} (hc : CallR X (.builtin id) r) (hd : DN X.K r p) (hg : Gl X x) (hm : X.mg x = none) (hv : bootBuiltins x = some (.builtin id)) (ha : SA X W (e :: es) t)
    (hn : x ≠ "__name__" := by decide) (hdb : (x == ("__debug__" : Str)) = false := by decide)
    (he : starEach (e :: es) X.env = (false, eval e X.env) :: starEach es X.env := by rfl) (hpl : (backTo pos (starEach es X.env)).any (·.1) = false := by rfl) : SE X W (.Call (.Name x p0) (e :: es) [] pos) (eFun p t) :=
  pe_imp (pe_callB hc hg hm hv ha hn hdb he hpl) (cb_core hd)
theorem se_callTy {x : Str} {p0 : Pos} {T : String} {r : List V → Hp → VK → Prop} {p : List PyData → Option PyData} {t : Rho → AOut} (hc : CallR X (.type T) r) (hd : DN X.K r p) (hg : Gl X x) (hm : X.mg x = none) (hv : bootBuiltins x = some (.type T)) (ha : SA X W (e :: es) t)
    (hn : x ≠ "__name__" := by decide) (hdb : (x == ("__debug__" : Str)) = false := by decide)
    (he : starEach (e :: es) X.env = (false, eval e X.env) :: starEach es X.env := by rfl) (hpl : (backTo pos (starEach es X.env)).any (·.1) = false := by rfl) : SE X W (.Call (.Name x p0) (e :: es) [] pos) (eFun p t) :=
  pe_imp (pe_callTy hc hg hm hv ha hn hdb he hpl) (cb_core hd)
/-- a[b] -/
theorem se_ix {r : R2} {p : PyData → PyData → Option PyData} (hr : IxR X r) (hd : D2 X.K r p) (ha : SE X W a fa) (hb : SE X W b fb) (hs : PlainIx b := by exact fun _ _ => rfl) : SE X W (.Subscript a b pos) (eOp p fa fb) :=
  pe_imp (pe_ix hr ha hb hs) (op_core hd)
end
end Fl
set_option Elab.async false
set_option autoImplicit false
set_option linter.all false
set_option maxRecDepth 100000
set_option maxHeartbeats 4000000
/-! Fl3: statements, defs and their calls. -/
namespace Fl
open PySem PySem.Spec PyProof.Rows L2

/-! ### statements -/
def sNil : Rho → SOut := fun ρ => .nx ρ
def sSeq (f h : Rho → SOut) : Rho → SOut := fun ρ => match f ρ with
  | .nx r => h r
  | o => o
def bndS (f : Rho → Out) (k : PyData → Rho → SOut) : Rho → SOut := fun ρ => match f ρ with
  | .ok d r => k d r
  | .er x r => .er x r
  | .no => .no
def sExpr (f : Rho → Out) : Rho → SOut := bndS f fun _ ρ => .nx ρ
def sRet (f : Rho → Out) : Rho → SOut := bndS f fun d ρ => .rt d ρ
def sRetN : Rho → SOut := fun ρ => .rt .none ρ
def sIf (c : Rho → Out) (t u : Rho → SOut) : Rho → SOut := bndS c fun x ρ => if truth x = true then t ρ else u ρ
def sSet (i : Nat) (f : Rho → Out) : Rho → SOut := bndS f fun d ρ => .nx (ρ.set i (some (.d d)))
def sRaise (n : Str) : Rho → SOut := fun ρ => .er ⟨n, none⟩ ρ
section
variable {X : Cx} {W : WX} {K : PySem.W.Frag} {mg : Str → Option Value} {g : Gd} {F F' H H' : Hp} {σ : L2.St} {ρ : Rho} {e : Expr} {st : Stmt} {rest a b : List Stmt} {f f1 f2 : Rho → Out} {s1 s2 : Rho → SOut} {pos : Pos}
theorem es_then {f : Rho → Out} {k : PyData → Rho → SOut} {D : Ends} {Q' : VK} (r : R K g F H σ ρ) (h : AfS K mg W g F (bndS f k ρ) D)
    (hk : ∀ v F1 H1 ρ1 d, Same F F1 → R K g F1 H1 σ ρ1 → Rp K F1 v d → AfS K mg W g F1 (k d ρ1) D → Q' v H1) : RE K mg W f σ H Q' := by
  refine ⟨g, F, ρ, r, ?_⟩
  unfold bndS at h
  cases e : f ρ with
  | ok d ρ1 =>
    rw [e] at h
    exact fun v F1 H1 s1 r1 p1 => hk v F1 H1 ρ1 d s1 r1 p1 (h.mono s1)
  | er x ρ1 =>
    rw [e] at h
    exact fun c dd F1 H1 s1 r1 x1 => h c dd σ F1 H1 s1 r1 x1
  | no =>
    rw [e] at h
    exact h
theorem ts_then {f : Rho → Out} {k : PyData → Rho → SOut} {D : Ends} {Q' : Bool → Hp → Prop} (r : R K g F H σ ρ) (h : AfS K mg W g F (bndS f k ρ) D)
    (hk : ∀ F1 H1 ρ1 d, Same F F1 → R K g F1 H1 σ ρ1 → AfS K mg W g F1 (k d ρ1) D → Q' (truth d) H1) : RT K mg W f σ H Q' := by
  refine ⟨g, F, ρ, r, ?_⟩
  unfold bndS at h
  cases e : f ρ with
  | ok d ρ1 =>
    rw [e] at h
    exact fun F1 H1 s1 r1 => hk F1 H1 ρ1 d s1 r1 (h.mono s1)
  | er x ρ1 =>
    rw [e] at h
    exact fun c dd F1 H1 s1 r1 x1 => h c dd σ F1 H1 s1 r1 x1
  | no =>
    rw [e] at h
    exact h
theorem sb_nil : SB X W [] sNil := pss_imp pss_nil fun D σ H ⟨g, F, ρ, r, h⟩ => h σ F H (Same.refl _) r
theorem sb_one (h : SS X W st s1) : SB X W [st] s1 := pss_one h
theorem sb_cons (h1 : SS X W st s1) (h2 : SB X W rest s2) : SB X W (st :: rest) (sSeq s1 s2) := by
  refine pss_imp (pss_cons h1 h2) fun D σ H ⟨g, F, ρ, r, h⟩ => ?_
  refine ⟨g, F, ρ, r, ?_⟩
  unfold sSeq at h
  cases e : s1 ρ with
  | nx ρ1 =>
    rw [e] at h
    exact fun σ' F' H' sm r' => ⟨g, F', ρ1, r', h.mono sm⟩
  | rt d ρ1 => rw [e] at h; exact h
  | bk ρ1 => rw [e] at h; exact h
  | ct ρ1 => rw [e] at h; exact h
  | er x ρ1 => rw [e] at h; exact h
  | no => rw [e] at h; exact h
theorem ss_expr (he : SE X W e f) (hs : swapsWith e none pos.line X.env = pure false := by rfl) : SS X W (.Expr e pos) (sExpr f) := by
  refine ps_imp (ps_expr he hs) fun D σ H ⟨g, F, ρ, r, h⟩ => ?_
  exact es_then r h fun v F1 H1 ρ1 d s r1 p1 h1 => h1 σ F1 H1 (Same.refl _) r1
theorem ss_ret (he : SE X W e f) : SS X W (.Return (some e) pos) (sRet f) := by
  refine ps_imp (ps_ret he) fun D σ H ⟨g, F, ρ, r, h⟩ => ?_
  exact es_then r h fun v F1 H1 ρ1 d s r1 p1 h1 => h1 v σ F1 H1 (Same.refl _) r1 p1
theorem ss_retN : SS X W (.Return none pos) sRetN := ps_imp ps_retN fun D σ H ⟨g, F, ρ, r, h⟩ => h _ σ F H (Same.refl _) r .non
theorem ss_pass : SS X W (.Pass pos) sNil := ps_imp ps_pass fun D σ H ⟨g, F, ρ, r, h⟩ => h σ F H (Same.refl _) r
theorem ss_doc {x j pos pos'} : SS X W (.Expr (.Constant (.str x) j pos) pos') sNil := ps_imp ps_doc fun D σ H ⟨g, F, ρ, r, h⟩ => h σ F H (Same.refl _) r
def sBreak : Rho → SOut := fun ρ => .bk ρ
def sCont : Rho → SOut := fun ρ => .ct ρ
theorem ss_break : SS X W (.Break pos) sBreak := ps_imp ps_break fun D σ H ⟨g, F, ρ, r, h⟩ => h σ F H (Same.refl _) r
theorem ss_cont : SS X W (.Continue pos) sCont := ps_imp ps_continue fun D σ H ⟨g, F, ρ, r, h⟩ => h σ F H (Same.refl _) r
theorem ss_if {c : Expr} (hc : ST X W c f) (ha : SB X W a s1) (hb : SB X W b s2) : SS X W (.If c a b pos) (sIf f s1 s2) := by
  refine ps_imp (ps_if hc ha hb) fun D σ H ⟨g, F, ρ, r, h⟩ => ?_
  refine ts_then r h fun F1 H1 ρ1 x s r1 h1 => ?_
  cases hx : truth x with
  | true => simp only [hx, if_true] at h1; exact iteT ⟨g, F1, ρ1, r1, h1⟩
  | false => simp only [hx, Bool.false_eq_true, if_false] at h1; exact iteF ⟨g, F1, ρ1, r1, h1⟩
theorem ss_set {i : Nat} {x : Str} {pos' : Pos} (hN : X.N.Nodup) (hi : X.N[i]? = some x) (hx : Loc X.env.scope x) (he : SE X W e f) (hs : swapsWith e (some (.Name x pos')) pos.line X.env = pure false := by rfl)
    (hf : X.fn x = true ∨ X.env.scope.names.lookup x = some .local := by first | exact .inl rfl | exact .inr rfl | assumption) : SS X W (.Assign [.Name x pos'] e pos) (sSet i f) := by
  refine ps_imp (ps_set hN hi hx he hs hf) fun D σ H ⟨g, F, ρ, r, h⟩ => ?_
  exact es_then r h fun v F1 H1 ρ1 d s r1 p1 h1 => h1 _ F1 H1 (Same.refl _) (r1.setD p1)
/-- raise X('..'), X a class of one's own without __init__ -/
theorem ss_raise {x m : Str} {j : Nat} {p p2 pos2 : Pos} {C : Addr} {bmB : List Value} {B newId initId : String} (hc : X.calm = true) (tk : Takes X W) (Fb : ExcBaseFacts B newId initId bmB) (q : PySem.W.excIn X.K C bmB newId = true) (gC : X.mg x = some (.ref C)) (kC : PySem.W.keepIn X.K (.ref C) = true)
    (rs : Raises X (.ref C)) (hg : Gl X x) (hdb : (x == ("__debug__" : Str)) = false := by decide) : SS X W (.Raise (some (.Call (.Name x p) [.Constant (.str m) j p2] [] pos)) none pos2) (sRaise x) := by
  refine ps_imp (ps_raise hc tk (pmk_own Fb q gC kC rs hg hdb)) fun D σ H ⟨g, F, ρ, r, h⟩ => ?_
  exact h _ none σ F H (Same.refl _) r ⟨C, gC, rfl, rfl⟩
end

/-! ### targets -/
/-- a target: a name's slot, or a tuple of targets -/
inductive Tgt where
  | nm (i : Nat)
  | tp (ts : List Tgt)
mutual
def gOf (K : PySem.W.Frag) : Tgt → TG
  | .nm i => gName i
  | .tp ts => gTup K ts.length (gsOf K ts)
def gsOf (K : PySem.W.Frag) : List Tgt → TGs
  | [] => gNil
  | t :: ts => gCons (gOf K t) (gsOf K ts)
end
mutual
def tset : Tgt → PyData → Rho → Option Rho
  | .nm i, d, ρ => some (ρ.set i (some (.d d)))
  | .tp ts, .tuple xs, ρ => tsets ts xs ρ
  | .tp _, _, _ => none
def tsets : List Tgt → List PyData → Rho → Option Rho
  | [], [], ρ => some ρ
  | t :: ts, x :: xs, ρ => match tset t x ρ with
    | some ρ1 => tsets ts xs ρ1
    | none => none
  | _, _, _ => none
end
mutual
def tslots : Tgt → List Nat
  | .nm i => [i]
  | .tp ts => tsslots ts
def tsslots : List Tgt → List Nat
  | [] => []
  | t :: ts => tslots t ++ tsslots ts
end
section
variable {K : PySem.W.Frag} {g : Gd} {F H : Hp}
mutual
theorem tset_ok : ∀ (t : Tgt) (d : PyData) (ρ ρ' : Rho) (v : V) (σ : L2.St), R K g F H σ ρ → Rp K F v d → tset t d ρ = some ρ' →
    ∃ σ' : L2.St, R K g F H σ' ρ' ∧ (∀ i, i ∉ tslots t → σ'[i]? = σ[i]?) ∧ ∀ Q : L2.St → Hp → Prop, Q σ' H → gOf K t v σ H Q
  | .nm i, d, ρ, ρ', v, σ, r, p, e => by
    simp only [tset, Option.some.injEq] at e
    subst e
    refine ⟨σ.set i (some v), r.setD p, fun j hj => ?_, fun Q q => by simp only [gOf]; exact q⟩
    rw [List.getElem?_set_ne]
    simpa [tslots, eq_comm] using hj
  | .tp ts, d, ρ, ρ', v, σ, r, p, e => by
    cases p with
    | tup h1 h2 =>
      simp only [tset] at e
      rename_i a vs ds
      obtain ⟨σ', r', k, q⟩ := tsets_ok ts ds ρ ρ' vs σ r h2 e
      refine ⟨σ', r', fun i hi => k i (by simpa only [tslots] using hi), fun Q hQ => ?_⟩
      simp only [gOf]
      have hl : vs.length = ts.length := by rw [h2.length]; exact (tsets_len ts ds ρ ρ' e).symm
      exact ⟨a, vs, rfl, sameT r.sF h1, hl, q Q hQ⟩
    | non => simp [tset] at e
    | bl b => simp [tset] at e
    | int i => simp [tset] at e
    | str x => simp [tset] at e
    | lst h1 h2 => simp [tset] at e
    | dct h => simp [tset] at e
    | exc h1 h2 h3 => simp [tset] at e
theorem tsets_ok : ∀ (ts : List Tgt) (ds : List PyData) (ρ ρ' : Rho) (vs : List V) (σ : L2.St), R K g F H σ ρ → Rps K F vs ds → tsets ts ds ρ = some ρ' →
    ∃ σ' : L2.St, R K g F H σ' ρ' ∧ (∀ i, i ∉ tsslots ts → σ'[i]? = σ[i]?) ∧ ∀ Q : L2.St → Hp → Prop, Q σ' H → gsOf K ts vs σ H Q
  | [], ds, ρ, ρ', vs, σ, r, p, e => by
    cases p with
    | nil =>
      simp only [tsets, Option.some.injEq] at e
      subst e
      exact ⟨σ, r, fun _ _ => rfl, fun Q q => by simp only [gsOf]; exact ⟨rfl, q⟩⟩
    | cons h1 h2 => simp [tsets] at e
  | t :: ts, ds, ρ, ρ', vs, σ, r, p, e => by
    cases p with
    | nil => simp [tsets] at e
    | cons h1 h2 =>
      rename_i v vs d ds
      simp only [tsets] at e
      cases e1 : tset t d ρ with
      | none => rw [e1] at e; cases e
      | some ρ1 =>
        rw [e1] at e
        obtain ⟨σ1, r1, k1, q1⟩ := tset_ok t d ρ ρ1 v σ r h1 e1
        obtain ⟨σ2, r2, k2, q2⟩ := tsets_ok ts ds ρ1 ρ' vs σ1 r1 h2 e
        refine ⟨σ2, r2, fun i hi => ?_, fun Q q => ?_⟩
        · simp only [tsslots, List.mem_append, not_or] at hi
          rw [k2 i hi.2, k1 i hi.1]
        · simp only [gsOf]
          exact ⟨v, vs, rfl, q1 _ (q2 Q q)⟩
theorem tsets_len : ∀ (ts : List Tgt) (ds : List PyData) (ρ ρ' : Rho), tsets ts ds ρ = some ρ' → ts.length = ds.length
  | [], [], _, _, _ => rfl
  | [], _ :: _, _, _, e => by simp [tsets] at e
  | _ :: _, [], _, _, e => by simp [tsets] at e
  | t :: ts, d :: ds, ρ, ρ', e => by
    simp only [tsets] at e
    cases e1 : tset t d ρ with
    | none => rw [e1] at e; cases e
    | some ρ1 =>
      rw [e1] at e
      simp [tsets_len ts ds ρ1 ρ' e]
end
end
section
variable {X : Cx} {W : WX} {e tg : Expr} {f : Rho → Out} {pos : Pos}
abbrev SG (X : Cx) (tg : Expr) (t : Tgt) : Prop := PG X tg (gOf X.K t)
abbrev SGs (X : Cx) (tgs : List Expr) (ts : List Tgt) : Prop := PGs X tgs (gsOf X.K ts)
theorem sg_nm {i : Nat} {x : Str} (hN : X.N.Nodup) (hi : X.N[i]? = some x) (hx : Loc X.env.scope x) (hf : X.fn x = true ∨ X.env.scope.names.lookup x = some .local := by first | exact .inl rfl | exact .inr rfl | assumption) : SG X (.Name x pos) (.nm i) := by
  show PG X (.Name x pos) (gOf X.K (.nm i))
  rw [gOf]
  exact pg_name hN hi hx hf
theorem sg_tp {es : List Expr} {ts : List Tgt} {k : Nat} (hc : X.calm = true) (h : SGs X es ts) (hn : (assignEach es X.env).length = ts.length := by rfl) (hst : (assignEach es X.env).findIdx? (·.1) = none := by rfl) : SG X (.Tuple es k pos) (.tp ts) := by
  show PG X (.Tuple es k pos) (gOf X.K (.tp ts))
  rw [gOf]
  exact pg_tup hc h hn hst
theorem sgs_nil : SGs X [] [] := by
  show PGs X [] (gsOf X.K [])
  rw [gsOf]
  exact pgs_nil
theorem sgs_cons {es : List Expr} {t : Tgt} {ts : List Tgt} (h1 : SG X e t) (h2 : SGs X es ts) (hs : (assignEach (e :: es) X.env).map (·.2) = assign e X.env :: (assignEach es X.env).map (·.2) := by rfl) : SGs X (e :: es) (t :: ts) := by
  show PGs X (e :: es) (gsOf X.K (t :: ts))
  rw [gsOf]
  exact pgs_cons h1 h2 hs
/-- target = value -/
def sAsg (t : Tgt) (f : Rho → Out) : Rho → SOut := bndS f fun d ρ => match tset t d ρ with
  | some ρ' => .nx ρ'
  | none => .no
theorem ss_asg {t : Tgt} (he : SE X W e f) (hg : SG X tg t) (hs : swapsWithSole [tg] e pos.line X.env = pure false := by rfl) (hw : swappedStores [tg] e X.env = pure none := by rfl)
    (h1 : (assignEach [tg] X.env).map (·.2) = [assign tg X.env] := by rfl) : SS X W (.Assign [tg] e pos) (sAsg t f) := by
  refine ps_imp (ps_asg he hg hs hw h1) fun D σ H ⟨g, F, ρ, r, h⟩ => ?_
  refine es_then r h fun v F1 H1 ρ1 d s r1 p1 h2 => ?_
  cases e1 : tset t d ρ1 with
  | none => simp only [e1] at h2; exact h2.elim
  | some ρ2 =>
    simp only [e1] at h2
    obtain ⟨σ', r', _, q⟩ := tset_ok t d ρ1 ρ2 v σ r1 p1 e1
    exact q _ (h2 σ' F1 H1 (Same.refl _) r')
end

/-! ### what is walked -/
inductive IOut where
  | ok (ds : List PyData) (r : Rho)
  | er (x : ExcD) (r : Rho)
  | no
/-- J yields ds, whatever comes to the heap meanwhile -/
def ItD (K : PySem.W.Frag) (J : It) (F : Hp) (ds : List PyData) : Prop := ∀ F' H', Same F F' → Same F' H' → ∀ i : Nat,
  (∀ d, ds[i]? = some d → J.go i H' ∧ ∀ x H'', J.yld i H' x H'' → ∃ F'', Grow F' H' F'' H'' ∧ Rp K F'' x d) ∧ (ds.length ≤ i → J.stop i H')
def AfI (K : PySem.W.Frag) (mg : Str → Option Value) (W : WX) (g : Gd) (F : Hp) (σ : L2.St) (o : IOut) (Q : It → Hp → Prop) : Prop :=
  match o with
  | .ok ds ρ => ∀ J F' H', Same F F' → R K g F' H' σ ρ → ItD K J F' ds → Q J H'
  | .er x ρ => ∀ cls dd F' H', Same F F' → R K g F' H' σ ρ → ExcIs mg F' x cls dd → W cls dd σ H'
  | .no => False
def RI (K : PySem.W.Frag) (mg : Str → Option Value) (W : WX) (f : Rho → IOut) : TI := fun σ H Q => ∃ g F ρ, R K g F H σ ρ ∧ AfI K mg W g F σ (f ρ) Q
abbrev SI (X : Cx) (W : WX) (tg e : Expr) (f : Rho → IOut) : Prop := PI X tg e (RI X.K X.mg W f)
theorem pi_imp {X : Cx} {tg e : Expr} {t u : TI} (h : PI X tg e t) (k : ∀ σ H Q, u σ H Q → t σ H Q) : PI X tg e u := ⟨fun pins s σ H Q I q => h.run pins s σ H Q I (k σ H Q q)⟩
theorem AfI.mono {K : PySem.W.Frag} {mg : Str → Option Value} {W : WX} {g : Gd} {F F' : Hp} {σ : L2.St} {o : IOut} {Q : It → Hp → Prop} (s : Same F F') (h : AfI K mg W g F σ o Q) : AfI K mg W g F' σ o Q := by
  cases o with
  | ok d ρ => exact fun v F1 H1 s1 => h v F1 H1 (s.trans s1)
  | er x ρ => exact fun c dd F1 H1 s1 => h c dd F1 H1 (s.trans s1)
  | no => exact h
/-- the items of a list, of a tuple -/
def iLst (f : Rho → Out) : Rho → IOut := fun ρ => match f ρ with
  | .ok (.list ds) r => .ok ds r
  | .er x r => .er x r
  | _ => .no
def iTpl (f : Rho → Out) : Rho → IOut := fun ρ => match f ρ with
  | .ok (.tuple ds) r => .ok ds r
  | .er x r => .er x r
  | _ => .no
/-- 0, 1, .. below n -/
def nums (lo : Int) : Nat → List PyData
  | 0 => []
  | n + 1 => .int lo :: nums (lo + 1) n
theorem nums_len : ∀ (n : Nat) (lo : Int), (nums lo n).length = n
  | 0, _ => rfl
  | n + 1, lo => by simp [nums, nums_len n]
theorem nums_get : ∀ (n : Nat) (lo : Int) (i : Nat), i < n → (nums lo n)[i]? = some (.int (lo + i))
  | 0, _, _, h => by omega
  | n + 1, lo, 0, _ => by simp [nums]
  | n + 1, lo, i + 1, h => by
    simp only [nums, List.getElem?_cons_succ]
    rw [nums_get n (lo + 1) i (by omega)]
    congr 2
    omega
def iRng (t : Rho → AOut) : Rho → IOut := fun ρ => match t ρ with
  | .ok [.int j] r => if -(2 ^ 62) ≤ j ∧ j < 2 ^ 62 then .ok (nums 0 j.toNat) r else .no
  | .er x r => .er x r
  | _ => .no
section
variable {X : Cx} {W : WX} {tg e : Expr} {f : Rho → Out} {pos : Pos}
theorem itd_list {K : PySem.W.Frag} {F : Hp} {a : Addr} {xs : List V} {ds : List PyData} (h : F a = some (.lst xs)) (p : Rps K F xs ds) (one : ∀ {F' H' : Hp}, Same F F' → Same F' H' → ∀ ys, SqL K H' a ys → True) : ItD K (Itl K a) F ds := by
  intro F' H' s1 s2 i
  have h' : SqL K H' a xs := SqL.of (s2 _ _ (s1 _ _ h))
  refine ⟨fun d e => ?_, fun hi => ⟨xs, h', by rw [p.length]; exact hi⟩⟩
  obtain ⟨v, e1, e2⟩ := p.get e
  refine ⟨⟨xs, v, h', e1⟩, fun x H'' y => ?_⟩
  obtain ⟨rfl, y⟩ := y
  have := y xs h'
  rw [e1] at this
  cases this
  exact ⟨F', Grow.refl s2, e2.mono s1⟩
theorem si_list (h : SE X W e f) : SI X W tg e (iLst f) := by
  refine pi_imp (pi_list h) fun σ H Q ⟨g, F, ρ, r, h⟩ => ?_
  refine ⟨g, F, ρ, r, ?_⟩
  unfold iLst at h
  split at h
  · rename_i ds ρ1 e1
    rw [e1]
    intro v F1 H1 s1 r1 p1
    cases p1 with
    | lst h1 h2 => exact ⟨_, rfl, ⟨_, SqL.of (r1.sF _ _ h1)⟩, h _ F1 H1 s1 r1 (itd_list h1 h2 fun _ _ _ _ => trivial)⟩
  · rename_i x ρ1 e1
    rw [e1]
    exact h
  · exact h.elim
theorem si_tup (h : SE X W e f) : SI X W tg e (iTpl f) := by
  refine pi_imp (pi_tup h) fun σ H Q ⟨g, F, ρ, r, h⟩ => ?_
  refine ⟨g, F, ρ, r, ?_⟩
  unfold iTpl at h
  split at h
  · rename_i ds ρ1 e1
    rw [e1]
    intro v F1 H1 s1 r1 p1
    cases p1 with
    | tup h1 h2 =>
      refine ⟨_, rfl, ⟨_, sameT r1.sF h1⟩, h _ F1 H1 s1 r1 ?_⟩
      intro F' H' t1 t2 i
      have h' := sameT t2 (sameT t1 h1)
      refine ⟨fun d e => ?_, fun hi => ⟨_, h', by rw [h2.length]; exact hi⟩⟩
      obtain ⟨v, e1, e2⟩ := h2.get e
      refine ⟨⟨_, v, h', e1⟩, fun x H'' y => ?_⟩
      obtain ⟨rfl, y⟩ := y
      have := y _ h'
      rw [e1] at this
      cases this
      exact ⟨F', Grow.refl t2, e2.mono t1⟩
  · rename_i x ρ1 e1
    rw [e1]
    exact h
  · exact h.elim
theorem itd_range {K : PySem.W.Frag} {F : Hp} (lo : Int) (n : Nat) : ItD K (Itr lo n) F (nums lo n) := by
  intro F' H' s1 s2 i
  refine ⟨fun d e => ?_, fun hi => by rw [nums_len] at hi; exact hi⟩
  have hi : i < n := by
    have := (List.getElem?_eq_some_iff.mp e).1
    rwa [nums_len] at this
  rw [nums_get n lo i hi] at e
  cases e
  refine ⟨hi, fun x H'' y => ?_⟩
  obtain ⟨rfl, rfl⟩ := y
  exact ⟨F', Grow.refl s2, .int _⟩
theorem si_range {a : Expr} {t : Rho → AOut} {p : Pos} (hg : Gl X "range") (hm : X.mg "range" = none) (ha : SA X W [a] t) (hs : starEach [a] X.env = [(false, eval a X.env)] := by rfl) : SI X W tg (.Call (.Name "range" p) [a] [] pos) (iRng t) := by
  refine pi_imp (pi_range1 hg hm ha hs) fun σ H Q ⟨g, F, ρ, r, h⟩ => ?_
  refine ⟨g, F, ρ, r, ?_⟩
  unfold iRng at h
  split at h
  · rename_i j ρ1 e1
    rw [e1]
    split at h
    · rename_i hj
      intro vs F1 H1 s1 r1 p1
      cases p1 with
      | cons q1 q2 =>
        cases q1
        cases q2
        exact ⟨j, rfl, hj.1, hj.2, h _ F1 H1 s1 r1 (itd_range 0 _)⟩
    · exact h.elim
  · rename_i x ρ1 e1
    rw [e1]
    exact h
  · exact h.elim
end
end Fl
set_option Elab.async false
set_option autoImplicit false
set_option linter.all false
set_option maxRecDepth 100000
set_option maxHeartbeats 4000000
/-! Fl4: loops, comprehensions, defs and their calls. -/
namespace Fl
open PySem PySem.Spec PyProof.Rows L2

/-! ### for -/
def loop (t : Tgt) (body : Rho → SOut) : List PyData → Rho → SOut
  | [], ρ => .nx ρ
  | d :: ds, ρ => match tset t d ρ with
    | none => .no
    | some ρ1 => match body ρ1 with
      | .nx ρ2 => loop t body ds ρ2
      | .ct ρ2 => loop t body ds ρ2
      | .bk ρ2 => .nx ρ2
      | .rt d ρ2 => .rt d ρ2
      | .er x ρ2 => .er x ρ2
      | .no => .no
def sFor (t : Tgt) (fi : Rho → IOut) (body : Rho → SOut) : Rho → SOut := fun ρ => match fi ρ with
  | .ok ds r => loop t body ds r
  | .er x r => .er x r
  | .no => .no
section
variable {X : Cx} {W : WX} {tg iter : Expr} {body : List Stmt} {fi : Rho → IOut} {fb : Rho → SOut} {t : Tgt} {pos : Pos}
theorem ss_for (hp : PassesOwn (model X.prog X.w) X.A X.env X.xe) (hc : X.calm = true) (hi : SI X W tg iter fi) (hg : SG X tg t) (hb : SB X W body fb) (hs : ∀ x, foldedSetIterable iter X.env x = pure x := by intro _; rfl) :
    SS X W (.For tg iter body [] pos) (sFor t fi fb) := by
  refine ps_imp (ps_for hp hc hi hg hb hs) fun D σ H ⟨g, F, ρ, r, h⟩ => ?_
  refine ⟨g, F, ρ, r, ?_⟩
  unfold sFor at h
  cases e : fi ρ with
  | er x ρ1 => rw [e] at h; exact fun c dd F1 H1 s1 r1 x1 => h c dd σ F1 H1 s1 r1 x1
  | no => rw [e] at h; exact h
  | ok ds ρ1 =>
    rw [e] at h
    intro J F1 H1 s1 r1 hJ
    replace h := AfS.mono s1 h
    refine ⟨fun i m σ2 H2 => m = ds.length - i ∧ i ≤ ds.length ∧ ∃ F2 ρ2, Same F1 F2 ∧ R X.K g F2 H2 σ2 ρ2 ∧ AfS X.K X.mg W g F2 (loop t fb (ds.drop i) ρ2) D, ⟨ds.length, by simp, Nat.zero_le _, F1, ρ1, Same.refl _, r1, h⟩, ?_⟩
    rintro i m σ2 H2 ⟨rfl, hi, F2, ρ2, s2, r2, h2⟩
    obtain ⟨hgo, hstop⟩ := hJ F2 H2 s2 r2.sF i
    by_cases hlt : i < ds.length
    · have ed : ds[i]? = some ds[i] := List.getElem?_eq_getElem hlt
      obtain ⟨go, yl⟩ := hgo _ ed
      rw [List.drop_eq_getElem_cons hlt] at h2
      refine .inr ⟨go, fun σ' H' => ∃ F3 ρ3, Same F1 F3 ∧ R X.K g F3 H' σ' ρ3 ∧ AfS X.K X.mg W g F3 (loop t fb (ds.drop (i + 1)) ρ3) D, fun σ' H' hN => ⟨ds.length - (i + 1), by omega, rfl, hlt, hN⟩, fun x H' hy => ?_⟩
      obtain ⟨F3, gr, px⟩ := yl x H' hy
      have r3 := r2.grow gr
      have s3 : Same F1 F3 := s2.trans gr.f
      replace h2 := AfS.mono gr.f h2
      unfold loop at h2
      cases et : tset t ds[i] ρ2 with
      | none => rw [et] at h2; exact h2.elim
      | some ρ3 =>
        simp only [et] at h2
        obtain ⟨σ3, r4, _, q⟩ := tset_ok t ds[i] ρ2 ρ3 x σ2 r3 px et
        refine q _ ⟨g, F3, ρ3, r4, ?_⟩
        cases eb : fb ρ3 with
        | nx ρ4 =>
          simp only [eb] at h2
          exact fun σ' F4 H4 s4 r5 => ⟨F4, ρ4, s3.trans s4, r5, h2.mono s4⟩
        | ct ρ4 =>
          simp only [eb] at h2
          exact fun σ' F4 H4 s4 r5 => ⟨F4, ρ4, s3.trans s4, r5, h2.mono s4⟩
        | bk ρ4 => simp only [eb] at h2; exact h2
        | rt d ρ4 => simp only [eb] at h2; exact h2
        | er x ρ4 => simp only [eb] at h2; exact h2
        | no => simp only [eb] at h2; exact h2
    · have e : i = ds.length := by omega
      subst e
      rw [List.drop_length] at h2
      exact .inl ⟨hstop (Nat.le_refl _), h2 σ2 F2 H2 (Same.refl _) r2⟩
end

/-! ### comprehensions -/
def wipeR (ρ : Rho) : List Nat → Rho
  | [] => ρ
  | i :: vs => (wipeR ρ vs).set i none
/-- the slots of a comprehension's names as they were -/
def unw (ρ0 : Rho) (vs : List Nat) (ρ : Rho) : Rho := match vs with
  | [] => ρ
  | i :: vs => (unw ρ0 vs ρ).set i (ρ0[i]?.getD none)
def noOwn (ρ : Rho) (vs : List Nat) : Bool := vs.all fun i => match ρ[i]? with
  | some (some (.o _)) => false
  | _ => true
inductive LOut where
  | ok (ds : List PyData) (r : Rho)
  | no
def lcLoop (t : Tgt) (ft fe : Rho → Out) (vs : List Nat) : Nat → List PyData → Rho → LOut
  | _, [], ρ => .ok [] ρ
  | n, d :: ds, ρ => match tset t d ρ with
    | none => .no
    | some ρ1 => match ft ρ1 with
      | .ok b ρ2 => if truth b = true then (match fe ρ2 with
          | .ok y ρ3 => if n < sizeLine then (match lcLoop t ft fe vs (n + 1) ds (wipeR ρ3 vs) with
              | .ok ys ρ4 => .ok (y :: ys) ρ4
              | .no => .no) else .no
          | _ => .no) else lcLoop t ft fe vs n ds (wipeR ρ2 vs)
      | _ => .no
def eLc (t : Tgt) (fi : Rho → IOut) (ft fe : Rho → Out) (vs : List Nat) : Rho → Out := fun ρ => match fi ρ with
  | .ok ds r => if noOwn r vs = true then (match lcLoop t ft fe vs 0 ds (wipeR r vs) with
      | .ok ys r' => .ok (.list ys) (unw r vs r')
      | .no => .no) else .no
  | .er x r => .er x r
  | .no => .no
section
variable {K : PySem.W.Frag} {g : Gd} {F F' H H' : Hp} {σ : L2.St} {ρ : Rho}
theorem wipeR_len (ρ : Rho) : ∀ vs : List Nat, (wipeR ρ vs).length = ρ.length
  | [] => rfl
  | i :: vs => by simp [wipeR, wipeR_len ρ vs]
theorem wipeR_some {ρ : Rho} {j : Nat} {x : Arg} : ∀ {vs : List Nat}, (wipeR ρ vs)[j]? = some (some x) → ρ[j]? = some (some x) ∧ j ∉ vs
  | [], h => ⟨h, by simp⟩
  | i :: vs, h => by
    unfold wipeR at h
    by_cases hj : i = j
    · subst hj
      by_cases hl : i < (wipeR ρ vs).length
      · rw [List.getElem?_set_self hl] at h; cases h
      · have h1 := (List.getElem?_eq_some_iff.mp h).1
        rw [List.length_set] at h1
        exact absurd h1 hl
    · rw [List.getElem?_set_ne hj] at h
      obtain ⟨h1, h2⟩ := wipeR_some h
      exact ⟨h1, by simp [h2, Ne.symm hj]⟩
theorem wipe_at {σ : L2.St} {j : Nat} : ∀ {vs : List Nat}, j ∉ vs → (wipe σ vs)[j]? = σ[j]? := fun {vs} h => wipe_out h
theorem R.wipe (r : R K g F H σ ρ) (vs : List Nat) : R K g F H (wipe σ vs) (wipeR ρ vs) where
  sF := r.sF
  s0 := r.s0
  fresh := r.fresh
  keep := r.keep
  pin := fun p hp xs e => by
    obtain ⟨e1, e2⟩ := wipeR_some e
    rw [wipe_at e2]
    exact r.pin p hp xs e1
  pinH := r.pinH
  held := fun q hq => by
    obtain ⟨h1, h2, h0, h3⟩ := r.held q hq
    refine ⟨h1, h2, h0, fun i xs e => ?_⟩
    obtain ⟨e1, e2⟩ := wipeR_some e
    rw [wipe_at e2]
    exact h3 i xs e1
  slot := fun i x e => by
    obtain ⟨e1, e2⟩ := wipeR_some e
    rw [wipe_at e2]
    exact r.slot i x e1
  own := fun i a xs e q => by
    obtain ⟨e1, e2⟩ := wipeR_some e
    rw [wipe_at e2] at q
    exact r.own i a xs e1 q
  inj := fun i j a xs ys e e' q q' => by
    obtain ⟨e1, e2⟩ := wipeR_some e
    obtain ⟨e3, e4⟩ := wipeR_some e'
    rw [wipe_at e2] at q
    rw [wipe_at e4] at q'
    exact r.inj i j a xs ys e1 e3 q q'
  len := by rw [wipe_length, wipeR_len]; exact r.len
  heldN := r.heldN
  tab := r.tab
theorem unw_len (ρ0 ρ : Rho) : ∀ vs : List Nat, (unw ρ0 vs ρ).length = ρ.length
  | [] => rfl
  | i :: vs => by simp [unw, unw_len ρ0 ρ vs]
theorem unw_some {ρ0 ρ : Rho} {j : Nat} {x : Arg} : ∀ {vs : List Nat}, (unw ρ0 vs ρ)[j]? = some (some x) → (j ∈ vs ∧ ρ0[j]? = some (some x)) ∨ (j ∉ vs ∧ ρ[j]? = some (some x))
  | [], h => .inr ⟨by simp, h⟩
  | i :: vs, h => by
    unfold unw at h
    by_cases hj : i = j
    · subst hj
      by_cases hl : i < (unw ρ0 vs ρ).length
      · rw [List.getElem?_set_self hl] at h
        refine .inl ⟨by simp, ?_⟩
        cases e : ρ0[i]? with
        | none => rw [e] at h; cases h
        | some y => rw [e] at h; simpa using h
      · have h1 := (List.getElem?_eq_some_iff.mp h).1
        rw [List.length_set] at h1
        exact absurd h1 hl
    · rw [List.getElem?_set_ne hj] at h
      rcases unw_some h with ⟨h1, h2⟩ | ⟨h1, h2⟩
      · exact .inl ⟨by simp [h1], h2⟩
      · exact .inr ⟨by simp [h1, Ne.symm hj], h2⟩
/-- back out of a comprehension -/
theorem R.unwipe {ρ0 : Rho} {F0 H0 : Hp} {g0 : Gd} {vs : List Nat} (r : R K g F H (L2.wipe σ vs) ρ) (r0 : R K g0 F0 H0 σ ρ0) (s : Same F0 F) (no : noOwn ρ0 vs = true) : R K g F H σ (unw ρ0 vs ρ) := by
  have own : ∀ {j : Nat} {xs : List PyData}, (unw ρ0 vs ρ)[j]? = some (some (.o xs)) → j ∉ vs ∧ ρ[j]? = some (some (.o xs)) := fun {j xs} e => by
    rcases unw_some e with ⟨h1, h2⟩ | h
    · have := List.all_eq_true.mp no j h1
      rw [h2] at this; cases this
    · exact h
  refine ⟨r.sF, r.s0, r.fresh, r.keep, fun p hp xs e => ?_, r.pinH, fun q hq => ?_, fun i x e => ?_, fun i a xs e q => ?_, fun i j a xs ys e e' q q' => ?_, ?_, r.heldN, r.tab⟩
  · obtain ⟨h1, h2⟩ := own e
    have := r.pin p hp xs h2
    rw [wipe_at h1] at this
    exact this
  · obtain ⟨h1, h2, h0, h3⟩ := r.held q hq
    refine ⟨h1, h2, h0, fun i xs e => ?_⟩
    obtain ⟨k1, k2⟩ := own e
    have := h3 i xs k2
    rw [wipe_at k1] at this
    exact this
  · rcases unw_some e with ⟨h1, h2⟩ | ⟨h1, h2⟩
    · have := r0.slot i x h2
      cases x with
      | d y => obtain ⟨v, e1, e2⟩ := this; exact ⟨v, e1, e2.mono s⟩
      | o ys =>
        have z := List.all_eq_true.mp no i h1
        rw [h2] at z; cases z
    · have := r.slot i x h2
      rw [wipe_at h1] at this
      exact this
  · obtain ⟨h1, h2⟩ := own e
    exact r.own i a xs h2 (by rw [wipe_at h1]; exact q)
  · obtain ⟨h1, h2⟩ := own e
    obtain ⟨h3, h4⟩ := own e'
    exact r.inj i j a xs ys h2 h4 (by rw [wipe_at h1]; exact q) (by rw [wipe_at h3]; exact q')
  · rw [unw_len, ← r.len, wipe_length]
/-- an object under way is held -/
theorem R.hold {D : Addr} {o : HO} (r : R K g F H σ ρ) (h : H D = none) (hn : ∀ ps, o ≠ .tbl ps := by intro ps z; cases z) : R K { g with held := (D, o) :: g.held } F (upd H D o) σ ρ := by
  have sm : Same H (upd H D o) := same_upd h
  have nF : F D = none := r.sF.free h
  have r' := r.grow (F' := F) (H' := upd H D o) ⟨Same.refl _, r.sF.trans sm, sm, fun _ _ e => .inl e, fun _ _ e => e⟩
  refine ⟨r'.sF, r'.s0, r'.fresh, r'.keep, r'.pin, r'.pinH, fun q hq => ?_, r'.slot, r'.own, r'.inj, r'.len, fun q hq => ?_, r'.tab⟩
  rcases List.mem_cons.mp hq with rfl | hq
  · refine ⟨upd_same, nF, ?_, fun i xs e q => ?_⟩
    · refine r.free0 h fun hp => ?_
      obtain ⟨o', e'⟩ := r.pinH D hp
      rw [h] at e'; cases e'
    · obtain ⟨a, vs, e1, e2, _⟩ := r.slot i _ e
      rw [q] at e1
      cases e1
      rw [h] at e2; cases e2
  · exact r'.held q hq
  · rcases List.mem_cons.mp hq with rfl | hq
    · exact hn
    · exact r'.heldN q hq
theorem R.reheld {D : Addr} {us ws : List V} {l : List (Addr × HO)} (r : R K { g with held := (D, .lst us) :: l } F H σ ρ) (nd : ∀ q ∈ l, q.1 ≠ D) (hp : D ∉ g.pins) : R K { g with held := (D, .lst ws) :: l } F (upd H D (.lst ws)) σ ρ := by
  obtain ⟨hD, nF, n0, no⟩ := r.held (D, .lst us) List.mem_cons_self
  refine ⟨fun b u e => ?_, r.s0, r.fresh, fun a u e n nt => ?_, r.pin, fun p h => ?_, fun q hq => ?_, fun i x e => ?_, r.own, r.inj, r.len, fun q hq => ?_, ⟨Tabs.but r.tab.t hD fun a o e n => by rw [upd_ne n]; exact e, r.tab.n⟩⟩
  · rw [upd_ne (fun z => by rw [z] at e; rw [nF] at e; cases e)]
    exact r.sF b u e
  · rw [upd_ne (fun z => by rw [z] at e; obtain ⟨ps, rfl⟩ := n0 u e; exact nt ps rfl)]
    exact r.keep a u e n nt
  · obtain ⟨u, e⟩ := r.pinH p h
    exact ⟨u, by rw [upd_ne (show p ≠ D from fun z => hp (by rw [← z]; exact h))]; exact e⟩
  · rcases List.mem_cons.mp hq with rfl | hq
    · exact ⟨upd_same, nF, n0, no⟩
    · obtain ⟨h1, h2, h3, h4⟩ := r.held q (List.mem_cons_of_mem _ hq)
      exact ⟨by rw [upd_ne (nd q hq)]; exact h1, h2, h3, h4⟩
  · have z := r.slot i x e
    cases x with
    | d y => exact z
    | o ys =>
      obtain ⟨a, vs, e1, e2, e3, e4⟩ := z
      refine ⟨a, vs, e1, ?_, e3, e4⟩
      rw [upd_ne (fun z => no i ys e (by rw [← z]; exact e1))]
      exact e2
  · rcases List.mem_cons.mp hq with rfl | hq
    · intro ps z; cases z
    · exact r.heldN q (List.mem_cons_of_mem _ hq)
/-- a held list is laid down as data -/
theorem R.lay {D : Addr} {vs : List V} {ds : List PyData} {l : List (Addr × HO)} (r : R K { g with held := (D, .lst vs) :: l } F H σ ρ) (nd : ∀ q ∈ l, q.1 ≠ D) (p : Rps K F vs ds) : ∃ F', Same F F' ∧ R K { g with held := l } F' H σ ρ ∧ Rp K F' (.ref D) (.list ds) := by
  obtain ⟨hD, nF, n0, no⟩ := r.held (D, .lst vs) List.mem_cons_self
  have sm : Same F (upd F D (.lst vs)) := same_upd nF
  refine ⟨upd F D (.lst vs), sm, ⟨fun b u e => ?_, r.s0.trans sm, fun a u e => ?_, r.keep, r.pin, r.pinH, fun q hq => ?_, fun i x e => ?_, r.own, r.inj, r.len, fun q hq => r.heldN q (List.mem_cons_of_mem _ hq), r.tab.upd⟩, .lst upd_same (p.mono sm)⟩
  · by_cases hb : b = D
    · subst hb; rw [upd_same] at e; cases e; exact hD
    · rw [upd_ne hb] at e; exact r.sF b u e
  · by_cases hb : a = D
    · subst hb; exact .inr (.inl n0)
    · rw [upd_ne hb] at e; exact r.fresh a u e
  · obtain ⟨h1, h2, h3, h4⟩ := r.held q (List.mem_cons_of_mem _ hq)
    exact ⟨h1, by rw [upd_ne (nd q hq)]; exact h2, h3, h4⟩
  · have z := r.slot i x e
    cases x with
    | d y => obtain ⟨v, e1, e2⟩ := z; exact ⟨v, e1, e2.mono sm⟩
    | o ys =>
      obtain ⟨a, us, e1, e2, e3, e4⟩ := z
      refine ⟨a, us, e1, e2, e3.mono sm, ?_⟩
      rw [upd_ne (fun z => no i ys e (by rw [← z]; exact e1))]
      exact e4
theorem wipe_eq {σ σ2 : L2.St} (hl : σ2.length = σ.length) : ∀ {vs : List Nat}, (∀ i, i ∉ vs → σ2[i]? = (L2.wipe σ vs)[i]?) → L2.wipe σ2 vs = L2.wipe σ vs := fun {vs} h => by
  apply List.ext_getElem?
  intro i
  by_cases hi : i ∈ vs
  · by_cases hlt : i < σ.length
    · have e1 : (L2.wipe σ2 vs)[i]? = some none := by
        cases e : (L2.wipe σ2 vs)[i]? with
        | none =>
          have := List.getElem?_eq_none_iff.mp e
          rw [wipe_length] at this; omega
        | some y =>
          cases y with
          | none => rfl
          | some x => exact absurd hi (wipe_some e).2
      have e2 : (L2.wipe σ vs)[i]? = some none := by
        cases e : (L2.wipe σ vs)[i]? with
        | none =>
          have := List.getElem?_eq_none_iff.mp e
          rw [wipe_length] at this; omega
        | some y =>
          cases y with
          | none => rfl
          | some x => exact absurd hi (wipe_some e).2
      rw [e1, e2]
    · rw [List.getElem?_eq_none_iff.mpr (by rw [wipe_length]; omega), List.getElem?_eq_none_iff.mpr (by rw [wipe_length]; omega)]
  · rw [wipe_at hi, h i hi]
theorem R.unlen (r : R K g F H σ ρ) : σ.length = ρ.length := r.len
end
section
mutual
theorem tset_rlen : ∀ (t : Tgt) (d : PyData) (ρ ρ' : Rho), tset t d ρ = some ρ' → ρ'.length = ρ.length
  | .nm i, d, ρ, ρ', e => by
    simp only [tset, Option.some.injEq] at e
    subst e
    simp
  | .tp ts, .tuple xs, ρ, ρ', e => tsets_rlen ts xs ρ ρ' (by simpa only [tset] using e)
  | .tp ts, .none, ρ, ρ', e => by simp [tset] at e
  | .tp ts, .bool _, ρ, ρ', e => by simp [tset] at e
  | .tp ts, .int _, ρ, ρ', e => by simp [tset] at e
  | .tp ts, .str _, ρ, ρ', e => by simp [tset] at e
  | .tp ts, .list _, ρ, ρ', e => by simp [tset] at e
  | .tp ts, .dict _, ρ, ρ', e => by simp [tset] at e
theorem tsets_rlen : ∀ (ts : List Tgt) (ds : List PyData) (ρ ρ' : Rho), tsets ts ds ρ = some ρ' → ρ'.length = ρ.length
  | [], [], ρ, ρ', e => by
    simp only [tsets, Option.some.injEq] at e
    subst e; rfl
  | [], _ :: _, _, _, e => by simp [tsets] at e
  | _ :: _, [], _, _, e => by simp [tsets] at e
  | t :: ts, d :: ds, ρ, ρ', e => by
    simp only [tsets] at e
    cases e1 : tset t d ρ with
    | none => rw [e1] at e; cases e
    | some ρ1 =>
      rw [e1] at e
      rw [tsets_rlen ts ds ρ1 ρ' e, tset_rlen t d ρ ρ1 e1]
end
end
abbrev WF : WX := fun _ _ _ _ => False
/-! ### new lists: no one else has them -/
def AfL (K : PySem.W.Frag) (mg : Str → Option Value) (W : WX) (g : Gd) (F : Hp) (σ : L2.St) (o : Out) (Q : VK) : Prop :=
  match o with
  | .ok (.list ds) ρ => ∀ a vs F' H', Same F F' → R K { g with held := (a, .lst vs) :: g.held } F' H' σ ρ → (∀ q ∈ g.held, q.1 ≠ a) → a ∉ g.pins → Rps K F' vs ds → Q (.ref a) H'
  | .er x ρ => ∀ cls dd F' H', Same F F' → R K g F' H' σ ρ → ExcIs mg F' x cls dd → W cls dd σ H'
  | _ => False
def RL (K : PySem.W.Frag) (mg : Str → Option Value) (W : WX) (f : Rho → Out) : TE := fun σ H Q => ∃ g F ρ, R K g F H σ ρ ∧ AfL K mg W g F σ (f ρ) Q
abbrev SL (X : Cx) (W : WX) (e : Expr) (f : Rho → Out) : Prop := PE X e (RL X.K X.mg W f)
theorem AfL.mono {K : PySem.W.Frag} {mg : Str → Option Value} {W : WX} {g : Gd} {F F' : Hp} {σ : L2.St} {o : Out} {Q : VK} (s : Same F F') (h : AfL K mg W g F σ o Q) : AfL K mg W g F' σ o Q := by
  cases o with
  | ok d ρ =>
    cases d with
    | list ds => exact fun a vs F1 H1 s1 => h a vs F1 H1 (s.trans s1)
    | none => exact h
    | bool b => exact h
    | int i => exact h
    | str x => exact h
    | tuple xs => exact h
    | dict kvs => exact h
  | er x ρ => exact fun c dd F1 H1 s1 => h c dd F1 H1 (s.trans s1)
  | no => exact h
/-- f gives lists alone -/
def GivesL (f : Rho → Out) : Prop := ∀ ρ d ρ', f ρ = .ok d ρ' → ∃ ds, d = .list ds
theorem rl_of {K : PySem.W.Frag} {mg : Str → Option Value} {W : WX} {f : Rho → Out} (hf : GivesL f) {σ : L2.St} {H : Hp} {Q : VK} (h : RE K mg W f σ H Q) : RL K mg W f σ H Q := by
  obtain ⟨g, F, ρ, r, h⟩ := h
  refine ⟨g, F, ρ, r, ?_⟩
  cases e : f ρ with
  | ok d ρ1 =>
    rw [e] at h
    obtain ⟨ds, rfl⟩ := hf _ _ _ e
    intro a vs F1 H1 s1 r1 nd np p1
    obtain ⟨F2, s2, r2, p2⟩ := r1.lay nd p1
    exact h _ F2 H1 (s1.trans s2) r2 p2
  | er x ρ1 => rw [e] at h; exact h
  | no => rw [e] at h; exact h
theorem se_of_sl {X : Cx} {W : WX} {e : Expr} {f : Rho → Out} (hf : GivesL f) (h : SL X W e f) : SE X W e f := pe_imp h fun _ _ _ q => rl_of hf q
section
variable {X : Cx} {W : WX} {tg iter elt : Expr} {ifs : List Expr} {fi : Rho → IOut} {ft fe : Rho → Out} {t : Tgt} {pos : Pos} {scope : Scope} {own : List (Str × Nat)}
theorem lc_rl (hsl : ∀ i ∈ tslots t, i ∈ own.map (·.2)) (σ : L2.St) (H : Hp) (Q : VK) (h : RL X.K X.mg W (eLc t fi ft fe (own.map (·.2))) σ H Q) : tLc (RI X.K X.mg W fi) (gOf X.K t) (RT X.K X.mg WF ft) (RE X.K X.mg WF fe) (own.map (·.2)) σ H Q := by
  obtain ⟨g, F, ρ, r, h⟩ := h
  generalize hvs : own.map (·.2) = vs at h hsl ⊢
  refine ⟨g, F, ρ, r, ?_⟩
  unfold eLc at h
  cases e : fi ρ with
  | er x ρ1 => rw [e] at h; exact h
  | no => rw [e] at h; exact h
  | ok ds ρ1 =>
    simp only [e] at h
    by_cases hno : noOwn ρ1 vs = true
    rotate_left
    · rw [if_neg hno] at h; exact h.elim
    rw [if_pos hno] at h
    cases el : lcLoop t ft fe vs 0 ds (wipeR ρ1 vs) with
    | no => simp only [el] at h; exact h.elim
    | ok ys0 ρe0 =>
      simp only [el] at h
      intro J F1 H1 s1 r1 hJ D hD
      replace h := AfL.mono s1 h
      have hDp : D ∉ g.pins := fun z => by
        obtain ⟨o, e⟩ := r1.pinH D z
        rw [hD] at e; cases e
      have ndH : ∀ q ∈ g.held, q.1 ≠ D := fun q hq z => by
        have := (r1.held q hq).1
        rw [z, hD] at this; cases this
      refine ⟨fun i m H2 => m = ds.length - i ∧ i ≤ ds.length ∧ ∃ F2 ρ2 acc done ys ρe, Same F1 F2 ∧ R X.K { g with held := (D, .lst acc) :: g.held } F2 H2 (L2.wipe σ vs) ρ2 ∧ Rps X.K F2 acc done ∧
          lcLoop t ft fe vs done.length (ds.drop i) ρ2 = .ok ys ρe ∧ AfL X.K X.mg W g F2 σ (.ok (.list (done ++ ys)) (unw ρ1 vs ρe)) Q,
        ⟨ds.length, by simp, Nat.zero_le _, F1, wipeR ρ1 vs, [], [], ys0, ρe0, Same.refl _, (r1.wipe vs).hold hD, .nil, el, h⟩, ?_⟩
      rintro i m H2 ⟨rfl, hi, F2, ρ2, acc, done, ys, ρe, s2, r2, pa, el2, h2⟩
      obtain ⟨hgo, hstop⟩ := hJ F2 H2 s2 r2.sF i
      by_cases hlt : i < ds.length
      · have ed : ds[i]? = some ds[i] := List.getElem?_eq_getElem hlt
        obtain ⟨go, yl⟩ := hgo _ ed
        rw [List.drop_eq_getElem_cons hlt] at el2
        refine .inr ⟨go, fun H' => ∃ F3 ρ3 acc done ys ρe, Same F1 F3 ∧ R X.K { g with held := (D, .lst acc) :: g.held } F3 H' (L2.wipe σ vs) ρ3 ∧ Rps X.K F3 acc done ∧
          lcLoop t ft fe vs done.length (ds.drop (i + 1)) ρ3 = .ok ys ρe ∧ AfL X.K X.mg W g F3 σ (.ok (.list (done ++ ys)) (unw ρ1 vs ρe)) Q, fun H' hN => ⟨ds.length - (i + 1), by omega, rfl, hlt, hN⟩, fun x H' hy => ?_⟩
        obtain ⟨F3, gr, px⟩ := yl x H' hy
        have r3 := r2.grow gr
        have s3 : Same F1 F3 := s2.trans gr.f
        replace h2 := AfL.mono gr.f h2
        replace pa := pa.mono gr.f
        unfold lcLoop at el2
        cases et : tset t ds[i] ρ2 with
        | none => rw [et] at el2; cases el2
        | some ρ3 =>
          simp only [et] at el2
          obtain ⟨σ3, r4, k4, q⟩ := tset_ok t ds[i] ρ2 ρ3 x _ r3 px et
          have ew : L2.wipe σ3 vs = L2.wipe σ vs := wipe_eq (by rw [r4.len, tset_rlen t _ _ _ et, ← r3.len, wipe_length]) fun j hj => k4 j fun z => hj (hsl j z)
          refine q _ ⟨ew, ⟨_, F3, ρ3, r4, ?_⟩⟩
          cases eb : ft ρ3 with
          | er y ρ4 => simp only [eb] at el2; cases el2
          | no => simp only [eb] at el2; cases el2
          | ok b ρ4 =>
            simp only [eb] at el2
            intro F4 H4 s4 r5
            cases hb : truth b with
            | false =>
              simp only [hb, Bool.false_eq_true, if_false] at el2
              refine iteF ⟨F4, wipeR ρ4 vs, acc, done, ys, ρe, s3.trans s4, ?_, pa.mono s4, el2, h2.mono s4⟩
              have := r5.wipe vs
              rw [ew] at this
              exact this
            | true =>
              simp only [hb, if_true] at el2
              refine iteT ⟨_, F4, ρ4, r5, ?_⟩
              cases ee : fe ρ4 with
              | er y ρ5 => simp only [ee] at el2; cases el2
              | no => simp only [ee] at el2; cases el2
              | ok y ρ5 =>
                simp only [ee] at el2
                by_cases hz : done.length < sizeLine
                rotate_left
                · rw [if_neg hz] at el2; cases el2
                rw [if_pos hz] at el2
                cases er : lcLoop t ft fe vs (done.length + 1) (ds.drop (i + 1)) (wipeR ρ5 vs) with
                | no => simp only [er] at el2; cases el2
                | ok ys' ρ6 =>
                  simp only [er, LOut.ok.injEq] at el2
                  obtain ⟨rfl, rfl⟩ := el2
                  intro v F5 H5 s5 r6 p6
                  have hacc : H5 D = some (.lst acc) := (r6.held (D, .lst acc) List.mem_cons_self).1
                  refine ⟨acc, hacc, by rw [pa.length]; exact hz, F5, wipeR ρ5 vs, acc ++ [v], done ++ [y], ys', ρ6, s3.trans (s4.trans s5), ?_, ((pa.mono s4).mono s5).append (.cons p6 .nil), ?_, ?_⟩
                  · have := (r6.wipe vs).reheld (ws := acc ++ [v]) ndH hDp
                    rw [ew] at this
                    exact this
                  · rw [List.length_append]
                    exact er
                  · rw [List.append_assoc]
                    exact (h2.mono s4).mono s5
      · have e : i = ds.length := by omega
        subst e
        rw [List.drop_length] at el2
        simp only [lcLoop, LOut.ok.injEq] at el2
        obtain ⟨rfl, rfl⟩ := el2
        refine .inl ⟨hstop (Nat.le_refl _), ?_⟩
        have r4 := r2.unwipe r1 s2 hno
        rw [List.append_nil] at h2
        exact h2 _ acc F2 H2 (Same.refl _) r4 ndH hDp pa
theorem gives_lc {vs : List Nat} : GivesL (eLc t fi ft fe vs) := by
  intro ρ d ρ' e
  unfold eLc at e
  cases e1 : fi ρ with
  | er x ρ1 => rw [e1] at e; cases e
  | no => rw [e1] at e; cases e
  | ok ds ρ1 =>
    simp only [e1] at e
    by_cases hno : noOwn ρ1 vs = true
    · rw [if_pos hno] at e
      cases el : lcLoop t ft fe vs 0 ds (wipeR ρ1 vs) with
      | no => simp only [el] at e; cases e
      | ok ys ρe => simp only [el] at e; cases e; exact ⟨_, rfl⟩
    · rw [if_neg hno] at e; cases e
theorem se_lc (hc : X.calm = true) (hN : X.N.Nodup) (hi : SI X W tg iter fi) (ok : BlkOk X.N X.env.scope scope own)
    (hg : ∀ (s : Shared) (H : Hp) (C : Addr) (cl : List (Str × Addr)) (fp : List Addr), SG (X.blk s H scope (compEnvC scope cl C X.env) fp) tg t)
    (ht : ∀ (s : Shared) (H : Hp) (C : Addr) (cl : List (Str × Addr)) (fp : List Addr), PTs (X.blk s H scope (compEnvC scope cl C X.env) fp) ifs (RT X.K X.mg WF ft))
    (he : ∀ (s : Shared) (H : Hp) (C : Addr) (cl : List (Str × Addr)) (fp : List Addr), SE (X.blk s H scope (compEnvC scope cl C X.env) fp) WF elt fe)
    (hsl : ∀ i ∈ tslots t, i ∈ own.map (·.2) := by decide) (hs : ∀ x, foldedSetIterable iter X.env x = pure x := by intro _; rfl) :
    SE X W (.ListComp elt [⟨tg, iter, ifs, 0⟩] scope pos) (eLc t fi ft fe (own.map (·.2))) := by
  exact pe_imp (pe_lc (g := gOf X.K t) (tt := RT X.K X.mg WF ft) (te := RE X.K X.mg WF fe) hc hN hi ok hg ht he hs) fun σ H Q h => lc_rl hsl σ H Q (rl_of gives_lc h)
theorem sl_lc (hc : X.calm = true) (hN : X.N.Nodup) (hi : SI X W tg iter fi) (ok : BlkOk X.N X.env.scope scope own)
    (hg : ∀ (s : Shared) (H : Hp) (C : Addr) (cl : List (Str × Addr)) (fp : List Addr), SG (X.blk s H scope (compEnvC scope cl C X.env) fp) tg t)
    (ht : ∀ (s : Shared) (H : Hp) (C : Addr) (cl : List (Str × Addr)) (fp : List Addr), PTs (X.blk s H scope (compEnvC scope cl C X.env) fp) ifs (RT X.K X.mg WF ft))
    (he : ∀ (s : Shared) (H : Hp) (C : Addr) (cl : List (Str × Addr)) (fp : List Addr), SE (X.blk s H scope (compEnvC scope cl C X.env) fp) WF elt fe)
    (hsl : ∀ i ∈ tslots t, i ∈ own.map (·.2) := by decide) (hs : ∀ x, foldedSetIterable iter X.env x = pure x := by intro _; rfl) :
    SL X W (.ListComp elt [⟨tg, iter, ifs, 0⟩] scope pos) (eLc t fi ft fe (own.map (·.2))) :=
  pe_imp (pe_lc (g := gOf X.K t) (tt := RT X.K X.mg WF ft) (te := RE X.K X.mg WF fe) hc hN hi ok hg ht he hs) fun σ H Q h => lc_rl hsl σ H Q h
/-- name = [..] -/
theorem ss_setLc {i : Nat} {y : Str} {py spos : Pos} (hc : X.calm = true) (hN : X.N.Nodup) (hy : X.N[i]? = some y) (hyl : X.env.scope.names.lookup y = some .local)
    (hsw : swapsWith (.ListComp elt [⟨tg, iter, ifs, 0⟩] scope pos) (some (.Name y py)) spos.line X.env = pure true) (hi : SI X W tg iter fi) (ok : BlkOk X.N X.env.scope scope own)
    (hg : ∀ (s : Shared) (H : Hp) (C : Addr) (cl : List (Str × Addr)) (fp : List Addr), SG (X.blk s H scope (compEnvC scope cl C X.env) fp) tg t)
    (ht : ∀ (s : Shared) (H : Hp) (C : Addr) (cl : List (Str × Addr)) (fp : List Addr), PTs (X.blk s H scope (compEnvC scope cl C X.env) fp) ifs (RT X.K X.mg WF ft))
    (he : ∀ (s : Shared) (H : Hp) (C : Addr) (cl : List (Str × Addr)) (fp : List Addr), SE (X.blk s H scope (compEnvC scope cl C X.env) fp) WF elt fe)
    (hsl : ∀ i ∈ tslots t, i ∈ own.map (·.2) := by decide) (hs : ∀ x, foldedSetIterable iter X.env x = pure x := by intro _; rfl) :
    SS X W (.Assign [.Name y py] (.ListComp elt [⟨tg, iter, ifs, 0⟩] scope pos) spos) (sSet i (eLc t fi ft fe (own.map (·.2)))) := by
  refine ps_imp (ps_setLc (g := gOf X.K t) (tt := RT X.K X.mg WF ft) (te := RE X.K X.mg WF fe) hc hN hy hyl hsw hi ok hg ht he hs) fun D σ H ⟨g, F, ρ, r, h⟩ => ?_
  refine lc_rl hsl σ H _ (rl_of gives_lc ?_)
  exact es_then r h fun v F1 H1 ρ1 d s r1 p1 h1 => h1 _ F1 H1 (Same.refl _) (r1.setD p1)
end
end Fl
set_option Elab.async false
set_option autoImplicit false
set_option linter.all false
set_option maxRecDepth 100000
set_option maxHeartbeats 4000000
/-! Fl5: defs and their calls. -/
namespace Fl
open PySem PySem.Spec PyProof.Rows L2

/-! ### defs, called where nothing is being shown -/
/-- what the def at f promises, called where nothing is being shown -/
structure FnG (P : Program) (w : World) (K : PySem.W.Frag) (mg : Str → Option Value) (base : Heap) (CX : CXT) (k : Nat) (f : Addr) (fd : FuncData) (ps : List Str) (sp : Sp) : Prop where
  len : ∀ vs H Q E, sp vs H Q E → vs.length = ps.length
  run : ∀ {A : Around} {outer : List PySem.Env} {s : Shared} {H : Hp} {args : Args} {us : List Value} {vs : List V} {Q : VK} {E : XK}, A.guards = some [] → Room k A → Env0 P w K mg base A outer s H → BindsTo s fd args (ps.zip us) → Vals vs us → sp vs H Q E →
    codeAny (model P w) A (.call (.ref f) args) (CR CX outer P w H s Q E) s
section
variable {P : Program} {w : World} {K : PySem.W.Frag} {mg : Str → Option Value} {base : Heap} {CX : CXT} {f : Addr} {fd : FuncData} {ps : List Str} {sp : Sp} {k : Nat}
theorem FnG.mono {j : Nat} (F : FnG P w K mg base CX j f fd ps sp) (h : j ≤ k) : FnG P w K mg base CX k f fd ps sp := ⟨F.len, fun hg hr => F.run hg (hr.mono h)⟩
/-- cdv is the code object of the def at f -/
def CodeOf (K : PySem.W.Frag) (f : Addr) (qual : Str) (cdv : Value) : Prop := ∃ o fd, K.lookup f = some o ∧ o.data = .func fd ∧ fd.code = cdv ∧ fd.qualname = qual
theorem okG {x qual : Str} {st : Stmt} {N : List Str} (F : Fun K x qual st f fd) (S : FnScope N ps (defScope st)) (len : ∀ vs H Q E, sp vs H Q E → vs.length = ps.length)
    (body : ∀ (cdv : Value) (A : Around) (outer : List PySem.Env) (s : Shared) (H : Hp) (vs : List V) (Q : VK) (E : XK), CodeOf K f qual cdv → A.guards = some [] → Room k (A.deeper (envOfC qual (defScope st) s.heap.objs.size f cdv)) → sp vs H Q E →
      ∃ t, PSs (cxOf (L2.CX P w) P w K mg base N qual (defScope st) f cdv A outer s H E) (defBody st) t ∧ t { nx := fun _ H' => Q .non H', rt := Q } (L2.start N vs) H) : FnG P w K mg base (L2.CX P w) (k + 1) f fd ps sp := by
  obtain ⟨_, _, _, _, _, _, cdv, _, _, e, lk, code⟩ := F.ex
  subst e
  exact ⟨len, fun hg hr e0 hb r h => LamX.run_ofS lk code S hr e0 hb r (len _ _ _ _ h) fun hr' => body cdv _ _ _ _ _ _ _ ⟨_, _, lk, rfl, rfl, rfl⟩ hg hr' h⟩
end
section
variable {X : Cx} {CX : CXT} {k : Nat} {f : Addr} {fd : FuncData} {ps : List Str} {sp : Sp} {E : L2.St → XK} {x : Str} {p pos : Pos} {e : Expr} {es : List Expr} {t : TA}
theorem run_fnG {H : Hp} {s : Shared} {σ : L2.St} {pins : List (Addr × Obj)} {Q : VK} {us : List Value} {vs : List V} (F : FnG X.prog X.w X.K X.mg X.base CX k f fd ps sp) (hgd : X.A.guards = some []) (hr : Room k X.A) (hb : Binds X.K fd ps []) (hx : PassesAt CX X σ (E σ))
    (I : Inv X pins σ H s) (r : Vals vs us) (h : sp vs H Q (E σ)) : wpAny (model X.prog X.w) X.A (call (.ref f) us) (EP X pins σ Q) X.xe s := by
  have n : us.length = (ps ++ []).length := by
    rw [List.append_nil, ← F.len _ _ _ _ h]
    exact r.length.symm
  have b := hb s us I.kIn (by simpa using n)
  rw [List.append_nil] at b
  refine wpAny_call (codeAny_mono (F.run hgd hr I.env0 b r h) ?_)
  rintro (u | fl) t q
  · exact hx pins H s u t I q
  · cases fl with
    | ret u => exact I.after q
    | next => cases q
    | brk => cases q
    | cont => cases q
theorem pe_callG (F : FnG X.prog X.w X.K X.mg X.base CX k f fd ps sp) (hgd : X.A.guards = some []) (hr : Room k X.A) (hg : Gl X x) (hm : X.mg x = some (.ref f)) (hk : PySem.W.keepIn X.K (.ref f) = true) (hb : Binds X.K fd ps []) (hx : ∀ σ, PassesAt CX X σ (E σ))
    (args : PA X (e :: es) t) (hdb : (x == ("__debug__" : Str)) = false := by decide) (hse : starEach (e :: es) X.env = (false, eval e X.env) :: starEach es X.env := by rfl) (hpl : (backTo pos (starEach es X.env)).any (·.1) = false := by rfl) :
    PE X (.Call (.Name x p) (e :: es) [] pos) (tCallS sp E t) := ⟨fun pins s σ H Q I h => by
  refine wpAny_Call_Name_kw (ld_glob I hg hm (PySem.W.callWith_K (h₀ := X.base) I.ok.mod.kin hk (thn (args.run pos pins s σ H _ I h) ?_) hse hpl) hdb)
  rintro us s1 ⟨vs, H1, I1, r, q⟩
  exact ⟨I1.kIn, run_fnG F hgd hr hb (hx σ) I1 r q⟩⟩
end

inductive FOut where
  | ok (d : PyData)
  | er (x : ExcD)
  | no
/-- the heap behind a def: the tables of code objects may have grown -/
structure GrowT (F H F' H' : Hp) : Prop where
  f : Same F F'
  fh : Same F' H'
  h : ∀ a o, H a = some o → (∀ ps, o ≠ .tbl ps) → H' a = some o
  new : ∀ a o, F' a = some o → F a = some o ∨ Fre H a
theorem R.growT {K : PySem.W.Frag} {g : Gd} {F F' H H' : Hp} {σ : L2.St} {ρ : Rho} (r : R K g F H σ ρ) (w : GrowT F H F' H') (t : TabF K F' H') : R K g F' H' σ ρ where
  sF := w.fh
  s0 := r.s0.trans w.f
  fresh := fun a o e => by
    rcases w.new a o e with h | h
    · exact r.fresh a o h
    · by_cases hp : a ∈ g.pins
      · exact .inr (.inr hp)
      · refine .inr (.inl fun u q => ?_)
        by_cases ht : ∃ ps, u = .tbl ps
        · exact ht
        · exact h u (r.keep a u q hp fun ps z => ht ⟨ps, z⟩)
  keep := fun a o e n nt => w.h _ _ (r.keep a o e n nt) nt
  pin := r.pin
  pinH := fun p hp => let ⟨o, e⟩ := r.pinH p hp; ⟨o, w.h _ _ e (fun ps z => by cases z)⟩
  held := fun q hq => by
    obtain ⟨h1, h2, h0, h3⟩ := r.held q hq
    refine ⟨w.h _ _ h1 (r.heldN q hq), ?_, h0, h3⟩
    cases z : F' q.1 with
    | none => rfl
    | some u =>
      rcases w.new q.1 u z with h | h
      · rw [h2] at h; cases h
      · obtain ⟨ps, hps⟩ := h _ h1
        exact absurd hps (r.heldN q hq ps)
  slot := fun i x e => by
    have z := r.slot i x e
    cases x with
    | d x => obtain ⟨v, e1, e2⟩ := z; exact ⟨v, e1, e2.mono w.f⟩
    | o xs =>
      obtain ⟨a, vs, e1, e2, e3, e4⟩ := z
      refine ⟨a, vs, e1, w.h _ _ e2 (fun ps z => by cases z), e3.mono w.f, ?_⟩
      cases q : F' a with
      | none => rfl
      | some u =>
        rcases w.new a u q with h | h
        · rw [e4] at h; cases h
        · obtain ⟨ps, hps⟩ := h _ e2
          cases hps
  own := r.own
  inj := r.inj
  len := r.len
  heldN := r.heldN
  tab := t
/-- what a def over data promises -/
def spD (K : PySem.W.Frag) (mg : Str → Option Value) (n : Nat) (f : List PyData → FOut) : Sp := fun vs H Q E => ∃ F ds, Same F H ∧ TabF K F H ∧ Rps K F vs ds ∧ ds.length = n ∧
  match f ds with
  | .ok d => ∀ v F' H', GrowT F H F' H' → TabF K F' H' → Rp K F' v d → Q v H'
  | .er x => ∀ cls dd F' H', GrowT F H F' H' → TabF K F' H' → ExcIs mg F' x cls dd → E cls dd H'
  | .no => False
/-- the heap behind a def that changes the list at p -/
structure GrowP (p : Addr) (F H F' H' : Hp) : Prop where
  f : Same F F'
  fh : Same F' H'
  h : ∀ a o, H a = some o → a ≠ p → (∀ ps, o ≠ .tbl ps) → H' a = some o
  new : ∀ a o, F' a = some o → F a = some o ∨ Fre H a
inductive POut where
  | ok (d : PyData) (xs : List PyData)
  | no
/-- what a def promises whose first argument is a list that it changes -/
def spP (K : PySem.W.Frag) (n : Nat) (f : List PyData → List PyData → POut) : Sp := fun vs H Q E => ∃ F p pvs pds us ds, vs = .ref p :: us ∧ Same F H ∧ TabF K F H ∧ H p = some (.lst pvs) ∧ F p = none ∧ Rps K F pvs pds ∧ Rps K F us ds ∧ ds.length + 1 = n ∧
  match f pds ds with
  | .ok d xs => ∀ v F' H' ws, GrowP p F H F' H' → TabF K F' H' → H' p = some (.lst ws) → F' p = none → Rps K F' ws xs → Rp K F' v d → Q v H'
  | .no => False

def st0 (m : Nat) (ds : List PyData) : Rho := ds.map (fun d => some (.d d)) ++ List.replicate (m - ds.length) none
def stP (m : Nat) (xs ds : List PyData) : Rho := some (.o xs) :: (ds.map (fun d => some (.d d)) ++ List.replicate (m - (ds.length + 1)) none)
def fnD (m : Nat) (fb : Rho → SOut) : List PyData → FOut := fun ds => match fb (st0 m ds) with
  | .nx _ => .ok .none
  | .rt d _ => .ok d
  | .er x _ => .er x
  | _ => .no
/-- the owned list at slot i -/
def ownAt (ρ : Rho) (i : Nat) : Option (List PyData) := match ρ[i]? with
  | some (some (.o ys)) => some ys
  | _ => none
theorem ownAt_eq {ρ : Rho} {i : Nat} {ys : List PyData} (h : ownAt ρ i = some ys) : ρ[i]? = some (some (.o ys)) := by
  unfold ownAt at h
  split at h
  · rename_i zs e
    cases h
    exact e
  · cases h
def fnP (m : Nat) (fb : Rho → SOut) : List PyData → List PyData → POut := fun xs ds => match fb (stP m xs ds) with
  | .nx ρ => (match ownAt ρ 0 with
    | some ys => .ok .none ys
    | none => .no)
  | .rt d ρ => (match ownAt ρ 0 with
    | some ys => .ok d ys
    | none => .no)
  | _ => .no
section
variable {K : PySem.W.Frag} {F H : Hp}
theorem map_some_get {ds : List PyData} {i : Nat} {x : Arg} (e : (ds.map (fun d => some (Arg.d d)))[i]? = some (some x)) : ∃ d, ds[i]? = some d ∧ x = .d d := by
  rw [List.getElem?_map] at e
  cases q : ds[i]? with
  | none => rw [q] at e; cases e
  | some d => rw [q] at e; cases e; exact ⟨d, rfl, rfl⟩
theorem st0_get {m : Nat} {ds : List PyData} {i : Nat} {x : Arg} (e : (st0 m ds)[i]? = some (some x)) : ∃ d, ds[i]? = some d ∧ x = .d d := by
  unfold st0 at e
  rw [List.getElem?_append] at e
  split at e
  · exact map_some_get e
  · rw [List.getElem?_replicate] at e
    split at e <;> cases e
theorem start_get {N : List Str} {vs : List V} {i : Nat} {v : V} (e : vs[i]? = some v) : (L2.start N vs)[i]? = some (some v) := by
  unfold L2.start
  have hl : i < vs.length := (List.getElem?_eq_some_iff.mp e).1
  rw [List.getElem?_append_left (by simpa using hl), List.getElem?_map, e]
  rfl
theorem R.start {N : List Str} {vs : List V} {ds : List PyData} (s : Same F H) (tb : TabF K F H) (p : Rps K F vs ds) : R K ⟨H, F, [], []⟩ F H (L2.start N vs) (st0 N.length ds) where
  sF := s
  s0 := Same.refl _
  fresh := fun a o e => .inl e
  keep := fun a o e _ _ => e
  pin := fun p hp => nomatch hp
  pinH := fun p hp => nomatch hp
  held := fun q hq => nomatch hq
  slot := fun i x e => by
    obtain ⟨d, e1, rfl⟩ := st0_get e
    obtain ⟨v, e2, e3⟩ := p.get e1
    exact ⟨v, start_get e2, e3⟩
  own := fun i a xs e => by
    obtain ⟨d, _, e2⟩ := st0_get e
    cases e2
  inj := fun i j a xs ys e => by
    obtain ⟨d, _, e2⟩ := st0_get e
    cases e2
  len := by
    have := p.length
    simp [L2.start, st0, this]
  heldN := fun q hq => nomatch hq
  tab := tb
theorem stP_get {m : Nat} {xs ds : List PyData} {i : Nat} {x : Arg} (e : (stP m xs ds)[i]? = some (some x)) : (i = 0 ∧ x = .o xs) ∨ ∃ j d, i = j + 1 ∧ ds[j]? = some d ∧ x = .d d := by
  unfold stP at e
  cases i with
  | zero => simp at e; exact .inl ⟨rfl, e.symm⟩
  | succ j =>
    rw [List.getElem?_cons_succ, List.getElem?_append] at e
    split at e
    · obtain ⟨d, h1, h2⟩ := map_some_get e
      exact .inr ⟨j, d, rfl, h1, h2⟩
    · rw [List.getElem?_replicate] at e
      split at e <;> cases e
theorem R.startP {N : List Str} {p : Addr} {pvs us : List V} {pds ds : List PyData} (s : Same F H) (tb : TabF K F H) (hp : H p = some (.lst pvs)) (hF : F p = none) (pp : Rps K F pvs pds) (pu : Rps K F us ds) : R K ⟨H, F, [p], []⟩ F H (L2.start N (.ref p :: us)) (stP N.length pds ds) where
  sF := s
  s0 := Same.refl _
  fresh := fun a o e => .inl e
  keep := fun a o e _ _ => e
  pin := fun q hq xs e => by
    have : q = p := by simpa using hq
    subst this
    exact start_get rfl
  pinH := fun q hq => by
    have : q = p := by simpa using hq
    subst this
    exact ⟨_, hp⟩
  held := fun q hq => nomatch hq
  slot := fun i x e => by
    rcases stP_get e with ⟨rfl, rfl⟩ | ⟨j, d, rfl, e1, rfl⟩
    · exact ⟨p, pvs, start_get rfl, hp, pp, hF⟩
    · obtain ⟨v, e2, e3⟩ := pu.get e1
      exact ⟨v, start_get (by rw [List.getElem?_cons_succ]; exact e2), e3⟩
  own := fun i a xs e e2 => by
    rcases stP_get e with ⟨rfl, h⟩ | ⟨j, d, rfl, e1, h⟩
    · rw [start_get (v := .ref p) rfl] at e2
      cases e2
      exact .inr (by simp)
    · cases h
  inj := fun i j a xs ys e e' => by
    rcases stP_get e with ⟨rfl, h⟩ | ⟨j, d, rfl, e1, h⟩
    · rcases stP_get e' with ⟨rfl, h⟩ | ⟨j, d, rfl, e1, h⟩
      · exact fun _ _ => rfl
      · cases h
    · cases h
  len := by
    have := pu.length
    simp [L2.start, stP, this]
  heldN := fun q hq => nomatch hq
  tab := tb
end

section
variable {P : Program} {w : World} {K : PySem.W.Frag} {mg : Str → Option Value} {base : Heap}
theorem R.toGrow {g : Gd} {F' H' : Hp} {σ : L2.St} {ρ : Rho} {F H : Hp} {l : List (Addr × HO)} (r : R K ⟨H, F, [], l⟩ F' H' σ ρ) : GrowT F H F' H' :=
  ⟨r.s0, r.sF, fun a o e => r.keep a o e (by simp), fun a o e => by
    rcases r.fresh a o e with h | h | h
    · exact .inl h
    · exact .inr h
    · cases h⟩
/-- a def over data, by its body -/
theorem fn_data {x qual : Str} {st : Stmt} {f : Addr} {fd : FuncData} {N ps : List Str} {k n : Nat} {fb : Rho → SOut} (F : Fun K x qual st f fd) (S : FnScope N ps (defScope st)) (hn : ps.length = n)
    (hbody : ∀ (cdv : Value) (A : Around) (outer : List PySem.Env) (s : Shared) (H : Hp) (E : XK), CodeOf K f qual cdv → Room k (A.deeper (envOfC qual (defScope st) s.heap.objs.size f cdv)) → A.guards = some [] →
      SB (cxOf (L2.CX P w) P w K mg base N qual (defScope st) f cdv A outer s H E) (fun cls d _ H => E cls d H) (defBody st) fb) : FnG P w K mg base (L2.CX P w) (k + 1) f fd ps (spD K mg n (fnD N.length fb)) := by
  refine okG F S (fun vs H Q E h => ?_) (fun cdv A outer s H vs Q E hcd hgd hr h => ?_)
  · obtain ⟨F0, ds, _, _, p, hl, _⟩ := h
    rw [p.length, hl, hn]
  · obtain ⟨F0, ds, sm, tb, p, hl, h⟩ := h
    refine ⟨_, hbody cdv A outer s H E hcd hr hgd, ⟨H, F0, [], []⟩, F0, st0 N.length ds, R.start sm tb p, ?_⟩
    unfold fnD at h
    cases e : fb (st0 N.length ds) with
    | nx ρ => simp only [e] at h; exact fun σ' F' H' s' r' => h _ F' H' (R.toGrow (g := ⟨H, F0, [], []⟩) r') r'.tab .non
    | rt d ρ => simp only [e] at h; exact fun v σ' F' H' s' r' p' => h v F' H' (R.toGrow (g := ⟨H, F0, [], []⟩) r') r'.tab p'
    | er y ρ => simp only [e] at h; exact fun c dd σ' F' H' s' r' x' => h c dd F' H' (R.toGrow (g := ⟨H, F0, [], []⟩) r') r'.tab x'
    | bk ρ => simp only [e] at h
    | ct ρ => simp only [e] at h
    | no => simp only [e] at h
theorem R.toGrowP {F' H' : Hp} {σ : L2.St} {ρ : Rho} {F H : Hp} {p : Addr} {ys : List PyData} {l : List (Addr × HO)} (r : R K ⟨H, F, [p], l⟩ F' H' σ ρ) (e : ρ[0]? = some (some (.o ys))) (hp : ∃ o, H p = some o) (hF : F p = none) :
    ∃ ws, GrowP p F H F' H' ∧ H' p = some (.lst ws) ∧ F' p = none ∧ Rps K F' ws ys := by
  have e1 := r.pin p (by simp) ys e
  obtain ⟨a, ws, e2, e3, e4, e5⟩ := r.slot 0 _ e
  rw [e1] at e2
  cases e2
  refine ⟨ws, ⟨r.s0, r.sF, fun a o q n nt => r.keep a o q (by simpa using n) nt, fun a o q => ?_⟩, e3, e5, e4⟩
  rcases r.fresh a o q with h | h | h
  · exact .inl h
  · exact .inr h
  · have : a = p := by simpa using h
    subst this
    rw [e5] at q; cases q
theorem fn_pen {x qual : Str} {st : Stmt} {f : Addr} {fd : FuncData} {N ps : List Str} {k n : Nat} {fb : Rho → SOut} (F : Fun K x qual st f fd) (S : FnScope N ps (defScope st)) (hn : ps.length = n)
    (hbody : ∀ (cdv : Value) (A : Around) (outer : List PySem.Env) (s : Shared) (H : Hp) (E : XK), CodeOf K f qual cdv → Room k (A.deeper (envOfC qual (defScope st) s.heap.objs.size f cdv)) → A.guards = some [] →
      SB (cxOf (L2.CX P w) P w K mg base N qual (defScope st) f cdv A outer s H E) (fun cls d _ H => E cls d H) (defBody st) fb) : FnG P w K mg base (L2.CX P w) (k + 1) f fd ps (spP K n (fnP N.length fb)) := by
  refine okG F S (fun vs H Q E h => ?_) (fun cdv A outer s H vs Q E hcd hgd hr h => ?_)
  · obtain ⟨F0, p, pvs, pds, us, ds, rfl, _, _, _, _, _, p, hl, _⟩ := h
    rw [List.length_cons, p.length, hl, hn]
  · obtain ⟨F0, p, pvs, pds, us, ds, rfl, sm, tb, hp, hF, pp, pu, hl, h⟩ := h
    refine ⟨_, hbody cdv A outer s H E hcd hr hgd, ⟨H, F0, [p], []⟩, F0, stP N.length pds ds, R.startP sm tb hp hF pp pu, ?_⟩
    unfold fnP at h
    cases e : fb (stP N.length pds ds) with
    | nx ρ =>
      simp only [e] at h
      cases q : ownAt ρ 0 with
      | none => simp only [q] at h
      | some ys =>
        simp only [q] at h
        intro σ' F' H' s' r'
        obtain ⟨ws, g1, g2, g3, g4⟩ := R.toGrowP r' (ownAt_eq q) ⟨_, hp⟩ hF
        exact h _ F' H' ws g1 r'.tab g2 g3 g4 .non
    | rt d ρ =>
      simp only [e] at h
      cases q : ownAt ρ 0 with
      | none => simp only [q] at h
      | some ys =>
        simp only [q] at h
        intro v σ' F' H' s' r' pv
        obtain ⟨ws, g1, g2, g3, g4⟩ := R.toGrowP r' (ownAt_eq q) ⟨_, hp⟩ hF
        exact h v F' H' ws g1 r'.tab g2 g3 g4 pv
    | er y ρ => simp only [e] at h
    | bk ρ => simp only [e] at h
    | ct ρ => simp only [e] at h
    | no => simp only [e] at h
end

/-! ### calls -/
/-- x is the name of a def that promises f over data -/
structure CalD (P : Program) (w : World) (K : PySem.W.Frag) (mg : Str → Option Value) (base : Heap) (k : Nat) (x : Str) (n : Nat) (f : List PyData → FOut) : Prop where
  ex : ∃ (fa : Addr) (fd : FuncData) (ps : List Str), FnG P w K mg base (L2.CX P w) k fa fd ps (spD K mg n f) ∧ mg x = some (.ref fa) ∧ PySem.W.keepIn K (.ref fa) = true ∧ Binds K fd ps []
structure CalP (P : Program) (w : World) (K : PySem.W.Frag) (mg : Str → Option Value) (base : Heap) (k : Nat) (x : Str) (n : Nat) (f : List PyData → List PyData → POut) : Prop where
  ex : ∃ (fa : Addr) (fd : FuncData) (ps : List Str), FnG P w K mg base (L2.CX P w) k fa fd ps (spP K n f) ∧ mg x = some (.ref fa) ∧ PySem.W.keepIn K (.ref fa) = true ∧ Binds K fd ps []
def eCall (n : Nat) (f : List PyData → FOut) (t : Rho → AOut) : Rho → Out := aBnd t fun ds ρ => if ds.length = n then (match f ds with
  | .ok d => .ok d ρ
  | .er x => .er x ρ
  | .no => .no) else .no
/-- f(name, ..), the name's list (slot i) is handed on and changed -/
def eCallP (n i : Nat) (f : List PyData → List PyData → POut) (t : Rho → AOut) : Rho → Out := fun ρ0 => match ownAt ρ0 i with
  | none => .no
  | some _ => aBnd t (fun ds ρ => if ds.length + 1 = n then (match ownAt ρ i with
    | some xs => (match f xs ds with
      | .ok d ys => .ok d (ρ.set i (some (.o ys)))
      | .no => .no)
    | none => .no) else .no) ρ0
section
variable {X : Cx} {W : WX} {k n : Nat} {x : Str} {e : Expr} {es : List Expr} {t : Rho → AOut} {p pos : Pos}
theorem se_call {f : List PyData → FOut} (c : CalD X.prog X.w X.K X.mg X.base k x n f) (hgd : X.A.guards = some []) (hr : Room k X.A) (hg : Gl X x) (tk : Takes X W) (ha : SA X W (e :: es) t) (hdb : (x == ("__debug__" : Str)) = false := by decide)
    (he : starEach (e :: es) X.env = (false, eval e X.env) :: starEach es X.env := by rfl) (hpl : (backTo pos (starEach es X.env)).any (·.1) = false := by rfl) : SE X W (.Call (.Name x p) (e :: es) [] pos) (eCall n f t) := by
  obtain ⟨fa, fd, ps, F, hm, hk, hb⟩ := c.ex
  refine pe_imp (pe_callG F hgd hr hg hm hk hb (fun σ => passAt tk σ) ha hdb he hpl) fun σ H Q ⟨g, F0, ρ, r, h⟩ => ?_
  refine ra_then r h fun vs F1 H1 ρ1 ds s1 r1 p1 h1 => ?_
  by_cases hn : ds.length = n
  rotate_left
  · simp only [hn, if_false] at h1; exact h1.elim
  simp only [hn, if_true] at h1
  refine ⟨F1, ds, r1.sF, r1.tab, p1, hn, ?_⟩
  cases ef : f ds with
  | ok d => simp only [ef] at h1; exact fun v F' H' gr tb pv => h1 v F' H' gr.f (r1.growT gr tb) pv
  | er y => simp only [ef] at h1; exact fun c dd F' H' gr tb x' => h1 c dd F' H' gr.f (r1.growT gr tb) x'
  | no => simp only [ef] at h1; exact h1.elim
/-- f() -/
theorem se_call0 {f : List PyData → FOut} (c : CalD X.prog X.w X.K X.mg X.base k x 0 f) (hgd : X.A.guards = some []) (hr : Room k X.A) (hg : Gl X x) (tk : Takes X W) (hdb : (x == ("__debug__" : Str)) = false := by decide) : SE X W (.Call (.Name x p) [] [] pos) (eCall 0 f aNil) := by
  obtain ⟨fa, fd, ps, F, hm, hk, hb⟩ := c.ex
  refine ⟨fun pins s σ H Q I ⟨g, F0, ρ, r, h⟩ => ?_⟩
  refine wpAny_Call_Name_kw (ld_glob I hg hm ?_ hdb)
  refine PySem.W.callWith_K0 I.kIn hk (run_fnG (us := []) F hgd hr hb (passAt tk σ) I .nil ?_)
  refine ⟨F0, [], r.sF, r.tab, .nil, rfl, ?_⟩
  unfold eCall aBnd aNil at h
  simp only [List.length_nil, if_true] at h
  cases ef : f [] with
  | ok d => simp only [ef] at h; exact fun v F' H' gr tb pv => h v F' H' gr.f (r.growT gr tb) pv
  | er y => simp only [ef] at h; exact fun c dd F' H' gr tb x' => h c dd F' H' gr.f (r.growT gr tb) x'
  | no => simp only [ef] at h; exact h.elim
end
section
variable {K : PySem.W.Frag} {g : Gd} {F F' H H' : Hp} {σ : L2.St} {ρ : Rho}
theorem own_of_setO {i j : Nat} {ys xs : List PyData} (e : (ρ.set i (some (.o ys)))[j]? = some (some (.o xs))) : (i = j ∧ xs = ys) ∨ (i ≠ j ∧ ρ[j]? = some (some (.o xs))) := by
  by_cases hj : i = j
  · subst hj
    have hl : i < ρ.length := by
      have := (List.getElem?_eq_some_iff.mp e).1
      simpa using this
    rw [List.getElem?_set_self hl] at e
    cases e
    exact .inl ⟨rfl, rfl⟩
  · rw [List.getElem?_set_ne hj] at e
    exact .inr ⟨hj, e⟩
/-- the owned list at slot i is changed; all else stays or grows -/
theorem R.change {i : Nat} {p : Addr} {xs ys : List PyData} {ws : List V} (r : R K g F H σ ρ) (e : ρ[i]? = some (some (.o xs))) (es : σ[i]? = some (some (.ref p))) (gr : GrowP p F H F' H') (hp : H' p = some (.lst ws)) (hF : F' p = none) (pw : Rps K F' ws ys) (tb : TabF K F' H') :
    R K g F' H' σ (ρ.set i (some (.o ys))) where
  sF := gr.fh
  s0 := r.s0.trans gr.f
  fresh := fun a o q => by
    rcases gr.new a o q with h | h
    · exact r.fresh a o h
    · by_cases hp : a ∈ g.pins
      · exact .inr (.inr hp)
      · refine .inr (.inl fun u q => ?_)
        by_cases ht : ∃ ps, u = .tbl ps
        · exact ht
        · exact h u (r.keep a u q hp fun ps z => ht ⟨ps, z⟩)
  keep := fun a o q n nt => by
    refine gr.h a o (r.keep a o q n nt) (fun z => ?_) nt
    subst z
    rcases r.own i a xs e es with h | h
    · obtain ⟨ps, z⟩ := h o q
      exact nt ps z
    · exact n h
  pin := fun q hq zs z => by
    rcases own_of_setO z with ⟨rfl, rfl⟩ | ⟨_, z⟩
    · exact r.pin q hq xs e
    · exact r.pin q hq zs z
  pinH := fun q hq => by
    obtain ⟨o, z⟩ := r.pinH q hq
    by_cases hqp : q = p
    · exact ⟨_, hqp ▸ hp⟩
    · exact ⟨o, gr.h q _ z hqp (fun ps z => by cases z)⟩
  held := fun q hq => by
    obtain ⟨h1, h2, h0, h3⟩ := r.held q hq
    have nq : q.1 ≠ p := fun z => h3 i xs e (by rw [z]; exact es)
    refine ⟨gr.h _ _ h1 nq (r.heldN q hq), ?_, h0, fun j zs z => ?_⟩
    · cases z : F' q.1 with
      | none => rfl
      | some u =>
        rcases gr.new q.1 u z with h | h
        · rw [h2] at h; cases h
        · obtain ⟨ps, hps⟩ := h _ h1
          exact absurd hps (r.heldN q hq ps)
    · rcases own_of_setO z with ⟨rfl, rfl⟩ | ⟨_, z⟩
      · exact h3 i xs e
      · exact h3 j zs z
  slot := fun j x q => by
    by_cases hj : i = j
    · subst hj
      have hl : i < ρ.length := (List.getElem?_eq_some_iff.mp e).1
      rw [List.getElem?_set_self hl] at q
      cases q
      exact ⟨p, ws, es, hp, pw, hF⟩
    · rw [List.getElem?_set_ne hj] at q
      have z := r.slot j x q
      cases x with
      | d y => obtain ⟨v, e1, e2⟩ := z; exact ⟨v, e1, e2.mono gr.f⟩
      | o zs =>
        obtain ⟨a, vs, e1, e2, e3, e4⟩ := z
        have na : a ≠ p := fun z => hj (r.inj i j p xs zs e q es (by rw [← z]; exact e1))
        refine ⟨a, vs, e1, gr.h _ _ e2 na (fun ps z => by cases z), e3.mono gr.f, ?_⟩
        cases z : F' a with
        | none => rfl
        | some u =>
          rcases gr.new a u z with h | h
          · rw [e4] at h; cases h
          · obtain ⟨ps, hps⟩ := h _ e2
            cases hps
  own := fun j a zs z q => by
    rcases own_of_setO z with ⟨rfl, rfl⟩ | ⟨_, z⟩
    · exact r.own i a xs e q
    · exact r.own j a zs z q
  inj := fun j k a zs us z1 z2 q1 q2 => by
    rcases own_of_setO z1 with ⟨e1, e2⟩ | ⟨_, y1⟩
    · rcases own_of_setO z2 with ⟨e3, e4⟩ | ⟨_, y2⟩
      · exact e1.symm.trans e3
      · subst e1; exact r.inj i k a xs us e y2 q1 q2
    · rcases own_of_setO z2 with ⟨e3, e4⟩ | ⟨_, y2⟩
      · subst e3; exact r.inj j i a zs xs y1 e q1 q2
      · exact r.inj j k a zs us y1 y2 q1 q2
  len := by simpa using r.len
  heldN := r.heldN
  tab := tb
end
section
variable {X : Cx} {W : WX} {k n : Nat} {x y : Str} {es : List Expr} {t : Rho → AOut} {p p1 pos : Pos}
theorem se_callP {i : Nat} {f : List PyData → List PyData → POut} (c : CalP X.prog X.w X.K X.mg X.base k x n f) (hgd : X.A.guards = some []) (hr : Room k X.A) (hg : Gl X x) (tk : Takes X W) (ha : SA X W es t) (hN : X.N[i]? = some y := by rfl)
    (hv : Vis X.env.scope y := by first | exact Or.inl rfl | exact Or.inr (Or.inl rfl) | exact Or.inr (Or.inr rfl)) (hd : (y == ("__debug__" : Str)) = false := by decide)
    (hcd : (y == ("__classdict__" : Str)) = false := by decide) (hdb : (x == ("__debug__" : Str)) = false := by decide)
    (he : starEach (.Name y p1 :: es) X.env = (false, eval (.Name y p1) X.env) :: starEach es X.env := by rfl) (hpl : (backTo pos (starEach es X.env)).any (·.1) = false := by rfl) : SE X W (.Call (.Name x p) (.Name y p1 :: es) [] pos) (eCallP n i f t) := by
  obtain ⟨fa, fd, ps, F, hm, hk, hb⟩ := c.ex
  refine pe_imp (pe_callG F hgd hr hg hm hk hb (fun σ => passAt tk σ) (pa_cons (pe_var (i := i) hN hv hd hcd) ha he) hdb he hpl) fun σ H Q ⟨g, F0, ρ, r, h⟩ => ?_
  unfold eCallP at h
  cases e0 : ownAt ρ i with
  | none => simp only [e0] at h; exact h.elim
  | some xs0 =>
    simp only [e0] at h
    obtain ⟨a, vs0, es, _⟩ := r.slot i _ (ownAt_eq e0)
    refine ⟨_, es, ?_⟩
    refine ra_then r h fun vs F1 H1 ρ1 ds s1 r1 pds h1 => ?_
    by_cases hn : ds.length + 1 = n
    rotate_left
    · simp only [hn, if_false] at h1; exact h1.elim
    simp only [hn, if_true] at h1
    cases e1 : ownAt ρ1 i with
    | none => simp only [e1] at h1; exact h1.elim
    | some xs =>
      simp only [e1] at h1
      obtain ⟨a', pvs, es', hH, pp, hF⟩ := r1.slot i _ (ownAt_eq e1)
      rw [es] at es'
      cases es'
      refine ⟨F1, a, pvs, xs, vs, ds, rfl, r1.sF, r1.tab, hH, hF, pp, pds, hn, ?_⟩
      cases ef : f xs ds with
      | no => simp only [ef] at h1; exact h1.elim
      | ok d ys =>
        simp only [ef] at h1
        exact fun v F' H' ws gr tb h1' h2' h3' pv => h1 v F' H' gr.f (r1.change (ownAt_eq e1) es gr h1' h2' h3' tb) pv
end
end Fl
set_option Elab.async false
set_option autoImplicit false
set_option linter.all false
set_option maxRecDepth 100000
set_option maxHeartbeats 4000000
/-! Fl6: lists that a def owns. -/
namespace Fl
open PySem PySem.Spec PyProof.Rows L2
section
variable {K : PySem.W.Frag} {mg : Str → Option Value} {W : WX} {g : Gd} {F F' H H' : Hp} {σ : L2.St} {ρ : Rho}
theorem GrowP.write {p : Addr} {o : HO} (s : Same F H) (hF : F p = none) : GrowP p F H F (upd H p o) :=
  ⟨Same.refl _, fun b u e => by rw [upd_ne (fun z => by rw [z, hF] at e; cases e)]; exact s b u e, fun a u e n _ => by rw [upd_ne n]; exact e, fun a u e => .inl e⟩
theorem R.tabW {a : Addr} {vs ws : List V} (r : R K g F H σ ρ) (hH : H a = some (.lst vs)) : TabF K F (upd H a (.lst ws)) := ⟨Tabs.but r.tab.t hH fun a o e n => by rw [upd_ne n]; exact e, r.tab.n⟩
theorem R.setO {i : Nat} {a : Addr} {vs : List V} {ds : List PyData} (r : R K { g with held := (a, .lst vs) :: g.held } F H σ ρ) (nd : ∀ q ∈ g.held, q.1 ≠ a) (np : a ∉ g.pins) (p : Rps K F vs ds) (hi : i ≠ 0) (hl : i < ρ.length) :
    R K g F H (σ.set i (some (.ref a))) (ρ.set i (some (.o ds))) := by
  obtain ⟨hD, nF, n0, no⟩ := r.held (a, .lst vs) List.mem_cons_self
  have hls : i < σ.length := by rw [r.len]; exact hl
  refine ⟨r.sF, r.s0, r.fresh, r.keep, fun q hq xs e => ?_, r.pinH, fun q hq => ?_, fun j x e => ?_, fun j b xs e q => ?_, fun j k b xs ys e1 e2 q1 q2 => ?_, by simpa using r.len, fun q hq => r.heldN q (List.mem_cons_of_mem _ hq), r.tab⟩
  · rw [List.getElem?_set_ne hi] at e ⊢
    exact r.pin q hq xs e
  · obtain ⟨h1, h2, h3, h4⟩ := r.held q (List.mem_cons_of_mem _ hq)
    refine ⟨h1, h2, h3, fun j xs e z => ?_⟩
    rcases own_of_setO e with ⟨rfl, rfl⟩ | ⟨nj, e⟩
    · rw [List.getElem?_set_self hls] at z
      cases z
      exact nd q hq rfl
    · rw [List.getElem?_set_ne nj] at z
      exact h4 j xs e z
  · by_cases hj : i = j
    · subst hj
      rw [List.getElem?_set_self hl] at e
      cases e
      exact ⟨a, vs, by rw [List.getElem?_set_self hls], hD, p, nF⟩
    · rw [List.getElem?_set_ne hj] at e ⊢
      exact r.slot j x e
  · rcases own_of_setO e with ⟨rfl, rfl⟩ | ⟨nj, e⟩
    · rw [List.getElem?_set_self hls] at q
      cases q
      exact .inl n0
    · rw [List.getElem?_set_ne nj] at q
      exact r.own j b xs e q
  · rcases own_of_setO e1 with ⟨rfl, rfl⟩ | ⟨nj, y1⟩
    · rcases own_of_setO e2 with ⟨h, _⟩ | ⟨nk, y2⟩
      · exact h
      · rw [List.getElem?_set_self hls] at q1
        cases q1
        rw [List.getElem?_set_ne nk] at q2
        exact absurd q2 (no k ys y2)
    · rcases own_of_setO e2 with ⟨h, _⟩ | ⟨nk, y2⟩
      · subst h
        rw [List.getElem?_set_self hls] at q2
        cases q2
        rw [List.getElem?_set_ne nj] at q1
        exact absurd q1 (no j xs y1)
      · rw [List.getElem?_set_ne nj] at q1
        rw [List.getElem?_set_ne nk] at q2
        exact r.inj j k b xs ys y1 y2 q1 q2
/-- a new list, then what is wanted behind it -/
theorem ls_then {f : Rho → Out} {k : PyData → Rho → SOut} {D : Ends} {Q' : VK} (hf : GivesL f) (r : R K g F H σ ρ) (h : AfS K mg W g F (bndS f k ρ) D)
    (hk : ∀ a vs F1 H1 ρ1 ds, Same F F1 → R K { g with held := (a, .lst vs) :: g.held } F1 H1 σ ρ1 → (∀ q ∈ g.held, q.1 ≠ a) → a ∉ g.pins → Rps K F1 vs ds → AfS K mg W g F1 (k (.list ds) ρ1) D → Q' (.ref a) H1) : RL K mg W f σ H Q' := by
  refine ⟨g, F, ρ, r, ?_⟩
  unfold bndS at h
  cases e : f ρ with
  | ok d ρ1 =>
    rw [e] at h
    obtain ⟨ds, rfl⟩ := hf _ _ _ e
    exact fun a vs F1 H1 s1 r1 nd np p1 => hk a vs F1 H1 ρ1 ds s1 r1 nd np p1 (h.mono s1)
  | er x ρ1 =>
    rw [e] at h
    exact fun c dd F1 H1 s1 r1 x1 => h c dd σ F1 H1 s1 r1 x1
  | no =>
    rw [e] at h
    exact h
end
def sSetO (i : Nat) (f : Rho → Out) : Rho → SOut := bndS f fun d ρ => match d with
  | .list ds => if i < ρ.length then .nx (ρ.set i (some (.o ds))) else .no
  | _ => .no
section
variable {X : Cx} {W : WX} {e : Expr} {es : List Expr} {f : Rho → Out} {t : Rho → AOut} {pos : Pos}
/-- name = a new list -/
theorem ss_setO {i : Nat} {x : Str} {pos' : Pos} (hf : GivesL f) (hi0 : i ≠ 0) (hN : X.N.Nodup) (hi : X.N[i]? = some x) (hx : Loc X.env.scope x) (he : SL X W e f) (hs : swapsWith e (some (.Name x pos')) pos.line X.env = pure false := by rfl)
    (hfn : X.fn x = true ∨ X.env.scope.names.lookup x = some .local := by first | exact .inl rfl | exact .inr rfl | assumption) : SS X W (.Assign [.Name x pos'] e pos) (sSetO i f) := by
  refine ps_imp (ps_set hN hi hx he hs hfn) fun D σ H ⟨g, F, ρ, r, h⟩ => ?_
  refine ls_then hf r h fun a vs F1 H1 ρ1 ds s r1 nd np p1 h1 => ?_
  by_cases hl : i < ρ1.length
  · simp only [hl, if_true] at h1
    exact h1 _ F1 H1 (Same.refl _) (r1.setO nd np p1 hi0 hl)
  · simp only [hl, if_false] at h1; exact h1.elim
theorem gives_lst : GivesL (eLst t) := by
  intro ρ d ρ' e
  unfold eLst aBnd at e
  cases e1 : t ρ with
  | er x ρ1 => rw [e1] at e; cases e
  | no => rw [e1] at e; cases e
  | ok ds ρ1 =>
    simp only [e1] at e
    split at e
    · cases e; exact ⟨_, rfl⟩
    · cases e
theorem sl_lst (h : SA X W es t) : SL X W (.List es pos) (eLst t) := by
  refine pe_imp (pe_lst h) fun σ H Q ⟨g, F, ρ, rr, h⟩ => ?_
  refine ⟨g, F, ρ, rr, ?_⟩
  unfold eLst aBnd at h
  cases e : t ρ with
  | er x ρ1 => rw [e] at h; exact h
  | no => rw [e] at h; exact h
  | ok ds ρ1 =>
    simp only [e] at h
    by_cases hz : ds.length ≤ sizeLine
    · simp only [hz, if_true] at h
      intro vs F1 H1 s1 r1 p1
      refine ⟨by rw [p1.length]; exact hz, fun p hp => ?_⟩
      have np : p ∉ g.pins := fun z => by
        obtain ⟨o, e⟩ := r1.pinH p z
        rw [hp] at e; cases e
      have nd : ∀ q ∈ g.held, q.1 ≠ p := fun q hq z => by
        have := (r1.held q hq).1
        rw [z, hp] at this; cases this
      exact h p vs F1 _ s1 (r1.hold hp) nd np p1
    · simp only [hz, if_false] at h; exact h.elim
/-- list(xs), of a list or a tuple -/
def eListOf (t : Rho → AOut) : Rho → Out := aBnd t fun ds ρ => match ds with
  | [.list xs] => .ok (.list xs) ρ
  | [.tuple xs] => .ok (.list xs) ρ
  | _ => .no
theorem gives_listOf : GivesL (eListOf t) := by
  intro ρ d ρ' e
  unfold eListOf aBnd at e
  cases e1 : t ρ with
  | er x ρ1 => rw [e1] at e; cases e
  | no => rw [e1] at e; cases e
  | ok ds ρ1 =>
    simp only [e1] at e
    split at e
    · cases e; exact ⟨_, rfl⟩
    · cases e; exact ⟨_, rfl⟩
    · cases e
theorem sl_listOf {x : Str} {p0 : Pos} (hg : Gl X x) (hm : X.mg x = none) (hv : bootBuiltins x = some (.type "list")) (ha : SA X W (e :: es) t) (hn : x ≠ "__name__" := by decide) (hdb : (x == ("__debug__" : Str)) = false := by decide)
    (he : starEach (e :: es) X.env = (false, eval e X.env) :: starEach es X.env := by rfl) (hpl : (backTo pos (starEach es X.env)).any (·.1) = false := by rfl) : SL X W (.Call (.Name x p0) (e :: es) [] pos) (eListOf t) := by
  refine pe_imp (pe_callTy call_list_of hg hm hv ha hn hdb he hpl) fun σ H Q ⟨g, F, ρ, rr, h⟩ => ?_
  refine ⟨g, F, ρ, rr, ?_⟩
  unfold eListOf aBnd at h
  cases e : t ρ with
  | er x ρ1 => rw [e] at h; exact h
  | no => rw [e] at h; exact h
  | ok ds ρ1 =>
    simp only [e] at h
    intro vs F1 H1 s1 r1 p1
    have fin : ∀ (a : Addr) (us : List V) (xs : List PyData), vs = [.ref a] → (SqL X.K H1 a us ∨ SqT X.K H1 a us) → Rps X.K F1 us xs → AfL X.K X.mg W g F σ (.ok (.list xs) ρ1) Q → ∃ p ys, vs = [.ref p] ∧ (SqL X.K H1 p ys ∨ SqT X.K H1 p ys) ∧ ∀ l, H1 l = none → Q (.ref l) (upd H1 l (.lst ys)) := fun a us xs e1 hq pu h => by
      refine ⟨a, us, e1, hq, fun p hp => ?_⟩
      have np : p ∉ g.pins := fun z => by
        obtain ⟨o, e⟩ := r1.pinH p z
        rw [hp] at e; cases e
      have nd : ∀ q ∈ g.held, q.1 ≠ p := fun q hq z => by
        have := (r1.held q hq).1
        rw [z, hp] at this; cases this
      exact h p us F1 _ s1 (r1.hold hp) nd np pu
    split at h
    · rename_i xs
      cases p1 with
      | cons q1 q2 =>
        cases q2
        cases q1 with
        | lst h1 h2 => exact fin _ _ _ rfl (.inl (SqL.of (r1.sF _ _ h1))) h2 h
    · rename_i xs
      cases p1 with
      | cons q1 q2 =>
        cases q2
        cases q1 with
        | tup h1 h2 => exact fin _ _ _ rfl (.inr (sameT r1.sF h1)) h2 h
    · exact h.elim

/-! ### methods of an owned list -/
def sAppend (i : Nat) (f : Rho → Out) : Rho → SOut := fun ρ0 => match ownAt ρ0 i with
  | none => .no
  | some _ => bndS f (fun d ρ => match ownAt ρ i with
    | some xs => if xs.length < sizeLine then .nx (ρ.set i (some (.o (xs ++ [d])))) else .no
    | none => .no) ρ0
theorem ss_append {i : Nat} {y : Str} {p1 apos cpos : Pos} (he : SE X W e f) (hN : X.N[i]? = some y := by rfl) (hv : Vis X.env.scope y := by first | exact Or.inl rfl | exact Or.inr (Or.inl rfl) | exact Or.inr (Or.inr rfl)) (hd : (y == ("__debug__" : Str)) = false := by decide)
    (hcd : (y == ("__classdict__" : Str)) = false := by decide)
    (hbase : attributeBase (.Name y p1) "append" X.env (eval (.Name y p1) X.env) = eval (.Name y p1) X.env := by rfl)
    (hfew : ((backTo cpos (starEach (e :: []) X.env)).all (fun x => !x.1) && (backToKw cpos (keywordEach [] X.env)).all (fun x => x.1.isSome)
      && decide ((e :: []).length + ([] : List Keyword).length + (if ([] : List Keyword).isEmpty then 0 else 1) < 30)) = true := by rfl)
    (hline : (apos.endLine == cpos.line) = true := by rfl) (hst : starEach (e :: []) X.env = (false, eval e X.env) :: starEach [] X.env := by rfl) (hplain : (backTo cpos (starEach [] X.env)).any (·.1) = false := by rfl)
    (hs : swapsWith (.Call (.Attribute (.Name y p1) "append" apos) [e] [] cpos) none pos.line X.env = pure false := by rfl) :
    SS X W (.Expr (.Call (.Attribute (.Name y p1) "append" apos) [e] [] cpos) pos) (sAppend i f) := by
  refine ps_imp (ps_expr (pe_bm PySem.F.plainAttrs_list PySem.F.slot_list_append PySem.F.type_list_append mt_append (pe_var (i := i) hN hv hd hcd) (pa_cons he pa_nil hst) hbase hfew hline hst hplain) hs) fun D σ H ⟨g, F, ρ, r, h⟩ => ?_
  unfold sAppend at h
  cases e0 : ownAt ρ i with
  | none => simp only [e0] at h; exact h.elim
  | some xs0 =>
    simp only [e0] at h
    obtain ⟨a, vs0, es, hH0, _⟩ := r.slot i _ (ownAt_eq e0)
    refine ⟨_, es, .inl ⟨rfl, _, SqL.of hH0⟩, ?_⟩
    refine es_then r h fun v F1 H1 ρ1 d s1 r1 pv h1 => ?_
    cases e1 : ownAt ρ1 i with
    | none => simp only [e1] at h1; exact h1.elim
    | some xs =>
      simp only [e1] at h1
      obtain ⟨a', pvs, es', hH, pp, hF⟩ := r1.slot i _ (ownAt_eq e1)
      rw [es] at es'
      cases es'
      by_cases hz : xs.length < sizeLine
      · simp only [hz, if_true] at h1
        refine ⟨a, pvs, v, rfl, rfl, hH, by rw [pp.length]; exact hz, ?_⟩
        exact h1 σ F1 _ (Same.refl _) (r1.change (ownAt_eq e1) es (GrowP.write r1.sF hF) upd_same hF (pp.append (.cons pv .nil)) (r1.tabW hH))
      · simp only [hz, if_false] at h1; exact h1.elim
def ePop (i : Nat) (f : Rho → Out) : Rho → Out := fun ρ0 => match ownAt ρ0 i with
  | none => .no
  | some _ => bnd f (fun d ρ => match ownAt ρ i, d with
    | some xs, .int k => if 0 ≤ k ∧ k < 2 ^ 63 then (match xs[k.toNat]? with
      | some y => .ok y (ρ.set i (some (.o (xs.eraseIdx k.toNat))))
      | none => .no) else .no
    | _, _ => .no) ρ0
theorem se_pop {i : Nat} {y : Str} {p1 apos cpos : Pos} (he : SE X W e f) (hN : X.N[i]? = some y := by rfl) (hv : Vis X.env.scope y := by first | exact Or.inl rfl | exact Or.inr (Or.inl rfl) | exact Or.inr (Or.inr rfl)) (hd : (y == ("__debug__" : Str)) = false := by decide)
    (hcd : (y == ("__classdict__" : Str)) = false := by decide)
    (hbase : attributeBase (.Name y p1) "pop" X.env (eval (.Name y p1) X.env) = eval (.Name y p1) X.env := by rfl)
    (hfew : ((backTo cpos (starEach (e :: []) X.env)).all (fun x => !x.1) && (backToKw cpos (keywordEach [] X.env)).all (fun x => x.1.isSome)
      && decide ((e :: []).length + ([] : List Keyword).length + (if ([] : List Keyword).isEmpty then 0 else 1) < 30)) = true := by rfl)
    (hline : (apos.endLine == cpos.line) = true := by rfl) (hst : starEach (e :: []) X.env = (false, eval e X.env) :: starEach [] X.env := by rfl) (hplain : (backTo cpos (starEach [] X.env)).any (·.1) = false := by rfl) :
    SE X W (.Call (.Attribute (.Name y p1) "pop" apos) [e] [] cpos) (ePop i f) := by
  refine pe_imp (pe_bm PySem.F.plainAttrs_list PySem.F.slot_list_pop PySem.F.type_list_pop mt_popAt (pe_var (i := i) hN hv hd hcd) (pa_cons he pa_nil hst) hbase hfew hline hst hplain) fun σ H Q ⟨g, F, ρ, r, h⟩ => ?_
  unfold ePop at h
  cases e0 : ownAt ρ i with
  | none => simp only [e0] at h; exact h.elim
  | some xs0 =>
    simp only [e0] at h
    obtain ⟨a, vs0, es, hH0, _⟩ := r.slot i _ (ownAt_eq e0)
    refine ⟨_, es, .inl ⟨rfl, _, SqL.of hH0⟩, ?_⟩
    refine re_then r h fun v F1 H1 ρ1 d s1 r1 pv h1 => ?_
    cases e1 : ownAt ρ1 i with
    | none => simp only [e1] at h1; exact h1.elim
    | some xs =>
      cases pv with
      | int k =>
        simp only [e1] at h1
        obtain ⟨a', pvs, es', hH, pp, hF⟩ := r1.slot i _ (ownAt_eq e1)
        rw [es] at es'
        cases es'
        by_cases h0 : 0 ≤ k ∧ k < 2 ^ 63
        · rw [if_pos h0] at h1
          cases ek : xs[k.toNat]? with
          | none => simp only [ek] at h1; exact h1.elim
          | some y =>
            simp only [ek] at h1
            obtain ⟨u, eu, pu⟩ := pp.get ek
            have hlt : k.toNat < xs.length := (List.getElem?_eq_some_iff.mp ek).1
            have hll := pp.length
            refine ⟨a, pvs, k, k.toNat, u, rfl, rfl, hH, by omega, h0.2, seqIndex_of h0.1 (by omega), eu, ?_⟩
            exact h1 u F1 _ (Same.refl _) (r1.change (ownAt_eq e1) es (GrowP.write r1.sF hF) upd_same hF (pp.eraseIdx _) (r1.tabW hH)) pu
        · rw [if_neg h0] at h1; exact h1.elim
      | non => simp only [e1] at h1; exact h1.elim
      | bl b => simp only [e1] at h1; exact h1.elim
      | str b => simp only [e1] at h1; exact h1.elim
      | lst h1' h2' => simp only [e1] at h1; exact h1.elim
      | tup h1' h2' => simp only [e1] at h1; exact h1.elim
      | dct h1' => simp only [e1] at h1; exact h1.elim
      | exc x1 x2 x3 => simp only [e1] at h1; exact h1.elim
/-- name[k] = e -/
def sSetIx (i : Nat) (fk fv : Rho → Out) : Rho → SOut := bndS fv fun y ρ0 => match ownAt ρ0 i with
  | none => .no
  | some _ => bndS fk (fun d ρ => match ownAt ρ i, d with
    | some xs, .int k => (match ixN xs.length k with
      | some j => .nx (ρ.set i (some (.o (xs.set j y))))
      | none => .no)
    | _, _ => .no) ρ0
theorem ss_setIx {i : Nat} {y : Str} {ek : Expr} {fk : Rho → Out} {p1 ipos : Pos} (he : SE X W e f) (hk : SE X W ek fk) (hN : X.N[i]? = some y := by rfl) (hv : Vis X.env.scope y := by first | exact Or.inl rfl | exact Or.inr (Or.inl rfl) | exact Or.inr (Or.inr rfl)) (hd : (y == ("__debug__" : Str)) = false := by decide)
    (hcd : (y == ("__classdict__" : Str)) = false := by decide)
    (ha : ∀ v, assign (.Subscript (.Name y p1) ek ipos) X.env v = (do
      let ov ← holding [v] (eval (.Name y p1) X.env)
      let iv ← holding [v, ov] (eval ek X.env)
      standAt ipos
      holding [v, ov, iv] (setItem ov iv v)
      release [v, ov, iv] []) := by intro _; rfl)
    (hs : swapsWithSole [.Subscript (.Name y p1) ek ipos] e pos.line X.env = pure false := by rfl) (hw : swappedStores [.Subscript (.Name y p1) ek ipos] e X.env = pure none := by rfl)
    (h1 : (assignEach [.Subscript (.Name y p1) ek ipos] X.env).map (·.2) = [assign (.Subscript (.Name y p1) ek ipos) X.env] := by rfl) :
    SS X W (.Assign [.Subscript (.Name y p1) ek ipos] e pos) (sSetIx i fk f) := by
  refine ps_imp (ps_asg he (pg_sub (pe_var (i := i) hN hv hd hcd) hk set_list ha) hs hw h1) fun D σ H ⟨g, F, ρ, r, h⟩ => ?_
  refine es_then r h fun v F1 H1 ρ1 d s1 r1 pv h1 => ?_
  cases e0 : ownAt ρ1 i with
  | none => simp only [e0] at h1; exact h1.elim
  | some xs0 =>
    simp only [e0] at h1
    obtain ⟨a, vs0, es, hH0, _⟩ := r1.slot i _ (ownAt_eq e0)
    refine ⟨_, es, ?_⟩
    refine es_then r1 h1 fun u F2 H2 ρ2 dk s2 r2 pu h2 => ?_
    cases e1 : ownAt ρ2 i with
    | none => simp only [e1] at h2; exact h2.elim
    | some xs =>
      cases pu with
      | int k =>
        simp only [e1] at h2
        obtain ⟨a', pvs, es', hH, pp, hF⟩ := r2.slot i _ (ownAt_eq e1)
        rw [es] at es'
        cases es'
        cases ej : ixN xs.length k with
        | none => simp only [ej] at h2; exact h2.elim
        | some j =>
          simp only [ej] at h2
          refine ⟨a, pvs, k, j, rfl, rfl, hH, by rw [pp.length]; exact ej, ?_⟩
          exact h2 σ F2 _ (Same.refl _) (r2.change (ownAt_eq e1) es (GrowP.write r2.sF hF) upd_same hF (pp.set (pv.mono s2) j) (r2.tabW hH))
      | non => simp only [e1] at h2; exact h2.elim
      | bl b => simp only [e1] at h2; exact h2.elim
      | str b => simp only [e1] at h2; exact h2.elim
      | lst h1' h2' => simp only [e1] at h2; exact h2.elim
      | tup h1' h2' => simp only [e1] at h2; exact h2.elim
      | dct h1' => simp only [e1] at h2; exact h2.elim
      | exc x1 x2 x3 => simp only [e1] at h2; exact h2.elim
/-- len(name) -/
def eLenO (i : Nat) : Rho → Out := fun ρ => match ownAt ρ i with
  | some xs => .ok (.int xs.length) ρ
  | none => .no
theorem se_lenO {i : Nat} {y : Str} {p0 p1 : Pos} (hm : X.mg "len" = none) (hg : Gl X "len" := by rfl) (hN : X.N[i]? = some y := by rfl) (hv : Vis X.env.scope y := by first | exact Or.inl rfl | exact Or.inr (Or.inl rfl) | exact Or.inr (Or.inr rfl)) (hd : (y == ("__debug__" : Str)) = false := by decide)
    (hcd : (y == ("__classdict__" : Str)) = false := by decide)
    (he : starEach (.Name y p1 :: []) X.env = (false, eval (.Name y p1) X.env) :: starEach [] X.env := by rfl) (hpl : (backTo pos (starEach [] X.env)).any (·.1) = false := by rfl) :
    SE X W (.Call (.Name "len" p0) [.Name y p1] [] pos) (eLenO i) := by
  refine pe_imp (pe_callB call_len_seq hg hm PySem.boot_len (pa_cons (pe_var (i := i) hN hv hd hcd) pa_nil he) (by decide) (by decide) he hpl) fun σ H Q ⟨g, F, ρ, r, h⟩ => ?_
  unfold eLenO at h
  cases e0 : ownAt ρ i with
  | none => simp only [e0] at h; exact h.elim
  | some xs =>
    simp only [e0] at h
    obtain ⟨a, vs, es, hH, pp, hF⟩ := r.slot i _ (ownAt_eq e0)
    refine ⟨_, es, a, vs, rfl, .inl (SqL.of hH), ?_⟩
    have := h (.int xs.length) F H (Same.refl _) r (.int _)
    rw [pp.length]
    exact this
/-- name[k] -/
def eIxO (i : Nat) (fk : Rho → Out) : Rho → Out := fun ρ0 => match ownAt ρ0 i with
  | none => .no
  | some _ => bnd fk (fun d ρ => match ownAt ρ i, d with
    | some xs, .int k => lift (atI xs k) ρ
    | _, _ => .no) ρ0
theorem atI_len {α β : Type} {xs : List α} {ys : List β} (h : xs.length = ys.length) {k : Int} {y : β} (e : atI ys k = some y) : ∃ j : Nat, atI xs k = xs[j]? ∧ ys[j]? = some y := by
  unfold atI at e ⊢
  rw [h]
  cases q : ixN ys.length k with
  | none => rw [q] at e; cases e
  | some j => rw [q] at e; exact ⟨j, rfl, e⟩
theorem se_ixO {i : Nat} {y : Str} {ek : Expr} {fk : Rho → Out} {p1 : Pos} (hk : SE X W ek fk) (hN : X.N[i]? = some y := by rfl) (hv : Vis X.env.scope y := by first | exact Or.inl rfl | exact Or.inr (Or.inl rfl) | exact Or.inr (Or.inr rfl)) (hd : (y == ("__debug__" : Str)) = false := by decide)
    (hcd : (y == ("__classdict__" : Str)) = false := by decide) (hs : PlainIx ek := by exact fun _ _ => rfl) :
    SE X W (.Subscript (.Name y p1) ek pos) (eIxO i fk) := by
  refine pe_imp (pe_ix ix_list (pe_var (i := i) hN hv hd hcd) hk hs) fun σ H Q ⟨g, F, ρ, r, h⟩ => ?_
  unfold eIxO at h
  cases e0 : ownAt ρ i with
  | none => simp only [e0] at h; exact h.elim
  | some xs0 =>
    simp only [e0] at h
    obtain ⟨a, vs0, es, hH0, _⟩ := r.slot i _ (ownAt_eq e0)
    refine ⟨_, es, ?_⟩
    refine re_then r h fun v F1 H1 ρ1 d s1 r1 pv h1 => ?_
    cases e1 : ownAt ρ1 i with
    | none => simp only [e1] at h1; exact h1.elim
    | some xs =>
      cases pv with
      | int k =>
        simp only [e1] at h1
        obtain ⟨a', pvs, es', hH, pp, hF⟩ := r1.slot i _ (ownAt_eq e1)
        rw [es] at es'
        cases es'
        obtain ⟨z, ez, q⟩ := lift_af h1
        obtain ⟨j, e2, e3⟩ := atI_len pp.length ez
        obtain ⟨u, e4, pu⟩ := pp.get e3
        exact ⟨a, pvs, k, u, rfl, rfl, SqL.of hH, by rw [e2, e4], q u F1 H1 (Same.refl _) r1 pu⟩
      | non => simp only [e1] at h1; exact h1.elim
      | bl b => simp only [e1] at h1; exact h1.elim
      | str b => simp only [e1] at h1; exact h1.elim
      | lst h1' h2' => simp only [e1] at h1; exact h1.elim
      | tup h1' h2' => simp only [e1] at h1; exact h1.elim
      | dct h1' => simp only [e1] at h1; exact h1.elim
      | exc x1 x2 x3 => simp only [e1] at h1; exact h1.elim
end
end Fl
set_option Elab.async false
set_option autoImplicit false
set_option linter.all false
set_option maxRecDepth 100000
set_option maxHeartbeats 4000000
/-! Fl7: what operators and built-ins make of data. -/
namespace Fl
open PySem PySem.Spec PyProof.Rows L2

/-! ### readings by data -/
def rD1 (K : PySem.W.Frag) (p : PyData → Option PyData) : V → Hp → VK → Prop := fun x H Q => ∃ F a z, Same F H ∧ Rp K F x a ∧ p a = some z ∧ ∀ w F' H', Grow F H F' H' → Rp K F' w z → Q w H'
def rD2 (K : PySem.W.Frag) (p : PyData → PyData → Option PyData) : R2 := fun x y H Q => ∃ F a b z, Same F H ∧ Rp K F x a ∧ Rp K F y b ∧ p a b = some z ∧ ∀ w F' H', Grow F H F' H' → Rp K F' w z → Q w H'
def rDC (K : PySem.W.Frag) (p : PyData → PyData → Option Bool) : R2 := fun x y H Q => ∃ F a b z, Same F H ∧ Rp K F x a ∧ Rp K F y b ∧ p a b = some z ∧ ∀ F' H', Grow F H F' H' → Q (.bl z) H'
def rDN (K : PySem.W.Frag) (p : List PyData → Option PyData) : List V → Hp → VK → Prop := fun xs H Q => ∃ F as z, Same F H ∧ Rps K F xs as ∧ p as = some z ∧ ∀ w F' H', Grow F H F' H' → Rp K F' w z → Q w H'
def rDM (K : PySem.W.Frag) (p : PyData → List PyData → Option PyData) : V → List V → Hp → VK → Prop := fun x xs H Q => ∃ F a as z, Same F H ∧ Rp K F x a ∧ Rps K F xs as ∧ p a as = some z ∧ ∀ w F' H', Grow F H F' H' → Rp K F' w z → Q w H'
theorem d1_rD {K : PySem.W.Frag} {p : PyData → Option PyData} : D1 K (rD1 K p) p := fun F H v x z Q s h e q => ⟨F, x, z, s, h, e, q⟩
theorem d2_rD {K : PySem.W.Frag} {p : PyData → PyData → Option PyData} : D2 K (rD2 K p) p := fun F H v u x y z Q s h h' e q => ⟨F, x, y, z, s, h, h', e, q⟩
theorem dc_rD {K : PySem.W.Frag} {p : PyData → PyData → Option Bool} : DC K (rDC K p) p := fun F H v u x y z Q s h h' e q => ⟨F, x, y, z, s, h, h', e, q⟩
theorem dn_rD {K : PySem.W.Frag} {p : List PyData → Option PyData} : DN K (rDN K p) p := fun F H v x z Q s h e q => ⟨F, x, z, s, h, e, q⟩
theorem dm_rD {K : PySem.W.Frag} {p : PyData → List PyData → Option PyData} : DM K (rDM K p) p := fun F H v vs x xs z Q s h h' e q => ⟨F, x, xs, z, s, h, h', e, q⟩

mutual
def noLst : PyData → Bool
  | .list _ => false
  | .tuple xs => noLsts xs
  | _ => true
def noLsts : List PyData → Bool
  | [] => true
  | x :: xs => noLst x && noLsts xs
end
mutual
/-- no errors held in it -/
def noExc : PyData → Bool
  | .list xs => noExcs xs
  | .tuple xs => noExcs xs
  | .dict kvs => kvs.isEmpty
  | .none => true
  | .bool _ => true
  | .int _ => true
  | .str _ => true
def noExcs : List PyData → Bool
  | [] => true
  | x :: xs => noExc x && noExcs xs
end
mutual
theorem noExc_plain : ∀ {d : PyData}, d.plain = true → noExc d = true
  | .list xs, h => by unfold noExc; exact noExcs_plain (by simpa [PyData.plain] using h)
  | .tuple xs, h => by unfold noExc; exact noExcs_plain (by simpa [PyData.plain] using h)
  | .dict kvs, h => by simp [PyData.plain] at h
  | .none, _ => by simp [noExc]
  | .bool _, _ => by simp [noExc]
  | .int _, _ => by simp [noExc]
  | .str _, _ => by simp [noExc]
theorem noExcs_plain : ∀ {ds : List PyData}, PyData.plainAll ds = true → noExcs ds = true
  | [], _ => by simp [noExcs]
  | x :: xs, h => by
    simp only [PyData.plainAll, Bool.and_eq_true] at h
    simp only [noExcs, Bool.and_eq_true]
    exact ⟨noExc_plain h.1, noExcs_plain h.2⟩
end
section
variable {X : Cx} {pins : List (Addr × Obj)} {σ : L2.St} {F H : Hp} {s : Shared}
mutual
theorem Rp.reads (I : Inv X pins σ H s) (sm : Same F H) : ∀ (d : PyData) (v : V) (u : Value), Rp X.K F v d → RelV v u → noExc d = true → ∃ as, Reads s.heap u d as ∧ (noLst d = true → sysModules ∉ as)
  | .none, _, _, h, r, _ => by
    cases h
    cases r
    exact ⟨_, Reads.none, by simp⟩
  | .bool b, _, _, h, r, _ => by
    cases h
    cases r
    exact ⟨_, Reads.bool b, by simp⟩
  | .int i, _, _, h, r, _ => by
    cases h
    obtain ⟨t, rfl⟩ := r
    exact ⟨_, Reads.int i t, by simp⟩
  | .str x, _, _, h, r, _ => by
    cases h
    obtain ⟨t, rfl⟩ := r
    exact ⟨_, Reads.str x t, by simp⟩
  | .list ds, _, _, h, r, ne => by
    cases h with
    | lst hs ha =>
      cases r
      obtain ⟨its, rv, ⟨o, n, ho, hc, _, hd⟩, _⟩ := I.list (SqL.of (sm _ _ hs))
      obtain ⟨as, hr, hn⟩ := Rp.readsAll I sm ds _ its ha rv (by simpa [noExc] using ne)
      exact ⟨_, Reads.list ho hc hd hr, fun z => by simp [noLst] at z⟩
  | .tuple ds, _, _, h, r, ne => by
    cases h with
    | tup hs ha =>
      cases r
      obtain ⟨its, rv, ⟨o, ho, hc, n, hd⟩, _⟩ := I.tuple (sameT sm hs)
      obtain ⟨as, hr, hn⟩ := Rp.readsAll I sm ds _ its ha rv (by simpa [noExc] using ne)
      exact ⟨_, Reads.tuple ho hc hd hr, fun z => hn (by simpa [noLst] using z)⟩
  | .dict _, _, _, h, r, ne => by
    cases h with
    | exc x1 x2 x3 => simp [noExc] at ne
    | dct h1 =>
      cases r
      obtain ⟨_, hne, vs, kv, o, es, ep, e1, e2, e3, _, e4, _⟩ := I.hok _ _ (sm _ _ h1)
      cases kv
      have el : es.toList = [] := by
        cases q : es.toList with
        | nil => rfl
        | cons a l => rw [q] at e4; cases e4
      refine ⟨_, Reads.dict (kvs := []) (as := []) (bs := []) e1 e2.1 e3 (by rw [el]; exact .nil) (by rw [el]; exact .nil), fun _ z => ?_⟩
      rw [List.append_nil, List.mem_singleton] at z
      rw [← z, beq_self_eq_true] at hne
      cases hne
theorem Rp.readsAll (I : Inv X pins σ H s) (sm : Same F H) : ∀ (ds : List PyData) (vs : List V) (us : List Value), Rps X.K F vs ds → Vals vs us → noExcs ds = true → ∃ as, ReadsAll s.heap us ds as ∧ (noLsts ds = true → sysModules ∉ as)
  | [], _, _, h, r, _ => by
    cases h
    cases r
    exact ⟨_, ReadsAll.nil, by simp⟩
  | d :: ds, _, _, h, r, ne => by
    cases h with
    | cons h1 h2 =>
      cases r with
      | cons r1 r2 =>
        simp only [noExcs, Bool.and_eq_true] at ne
        obtain ⟨as, q1, n1⟩ := Rp.reads I sm d _ _ h1 r1 ne.1
        obtain ⟨bs, q2, n2⟩ := Rp.readsAll I sm ds _ _ h2 r2 ne.2
        refine ⟨_, ReadsAll.cons q1 q2, fun z => ?_⟩
        simp only [noLsts, Bool.and_eq_true] at z
        simp [n1 z.1, n2 z.2]
end
theorem ep_of (I : Inv X pins σ H s) {Q : VK} {z : PyData} {w : V} {u : Value} (sm : Same F H) (hQ : ∀ w F' H', Grow F H F' H' → Rp X.K F' w z → Q w H') (p : Rp X.K F w z) (r : RelV w u) : EP X pins σ Q u s :=
  ⟨w, H, I, r, hQ w F H (Grow.refl sm) p⟩
theorem epB (I : Inv X pins σ H s) {Q : VK} {z : Bool} (sm : Same F H) (hQ : ∀ F' H', Grow F H F' H' → Q (.bl z) H') : EP X pins σ Q (.bool z) s :=
  ⟨.bl z, H, I, rfl, hQ F H (Grow.refl sm)⟩

/-! ### comparisons -/
/-- orders of numbers; < of texts and of alike data -/
def pLe (a b : PyData) : Option Bool := match a, b with
  | .int i, .int j => some (decide (i ≤ j))
  | _, _ => none
def pGt (a b : PyData) : Option Bool := match a, b with
  | .int i, .int j => some (decide (j < i))
  | _, _ => none
def pGe (a b : PyData) : Option Bool := match a, b with
  | .int i, .int j => some (decide (j ≤ i))
  | _, _ => none
theorem o_le : OpR X (compareOp .LtE) (rDC X.K pLe) := by
  intro pins s σ H x y v u Q I rx ry ⟨F, a, b, z, sm, pa, pb, e, q⟩
  unfold pLe at e
  split at e
  · cases e
    cases pa
    cases pb
    exact op_le pins s σ H _ _ v u Q I rx ry ⟨_, _, rfl, rfl, q F H (Grow.refl sm)⟩
  · cases e
theorem o_gt : OpR X (compareOp .Gt) (rDC X.K pGt) := by
  intro pins s σ H x y v u Q I rx ry ⟨F, a, b, z, sm, pa, pb, e, q⟩
  unfold pGt at e
  split at e
  · cases e
    cases pa
    cases pb
    exact op_gt pins s σ H _ _ v u Q I rx ry ⟨_, _, rfl, rfl, q F H (Grow.refl sm)⟩
  · cases e
theorem o_ge : OpR X (compareOp .GtE) (rDC X.K pGe) := by
  intro pins s σ H x y v u Q I rx ry ⟨F, a, b, z, sm, pa, pb, e, q⟩
  unfold pGe at e
  split at e
  · cases e
    cases pa
    cases pb
    exact op_ge pins s σ H _ _ v u Q I rx ry ⟨_, _, rfl, rfl, q F H (Grow.refl sm)⟩
  · cases e
/-- is, is not: None and bools -/
def pIs (a b : PyData) : Option Bool := match b with
  | .none => some (match a with | .none => true | _ => false)
  | _ => none
def pIsNot (a b : PyData) : Option Bool := (pIs a b).map (!·)
end
end Fl
set_option Elab.async false
set_option autoImplicit false
set_option linter.all false
set_option maxRecDepth 100000
set_option maxHeartbeats 4000000
/-! Fl8: what operators and built-ins make of data, further. -/
namespace Fl
open PySem PySem.Spec PyProof.Rows L2
section
variable {X : Cx} {pins : List (Addr × Obj)} {σ : L2.St} {F H : Hp} {s : Shared}
theorem epV (I : Inv X pins σ H s) {Q : VK} {z : PyData} {u : Value} {w : V} (sm : Same F H) (hQ : ∀ w F' H', Grow F H F' H' → Rp X.K F' w z → Q w H') (p : ∀ F, Rp X.K F w z) (r : RelV w u) : EP X pins σ Q u s :=
  ⟨w, H, I, r, hQ w F H (Grow.refl sm) (p F)⟩

/-! ### +, -, *, //, %, ** -/
def pAdd (a b : PyData) : Option PyData := match a, b with
  | .int i, .int j => some (.int (i + j))
  | .str x, .str y => if x.length + y.length ≤ sizeLine then some (.str (x ++ y)) else none
  | .list xs, .list ys => if xs.length + ys.length ≤ sizeLine then some (.list (xs ++ ys)) else none
  | .tuple xs, .tuple ys => if xs.length + ys.length ≤ sizeLine then some (.tuple (xs ++ ys)) else none
  | _, _ => none
theorem o_add : OpR X (binaryOp .Add) (rD2 X.K pAdd) := by
  intro pins s σ H x y v u Q I rx ry ⟨F, a, b, z, sm, pa, pb, e, q⟩
  unfold pAdd at e
  split at e
  · cases e
    cases pa
    cases pb
    exact op_add pins s σ H _ _ v u Q I rx ry ⟨_, _, rfl, rfl, q _ F H (Grow.refl sm) (.int _)⟩
  · split at e
    · rename_i hz
      cases e
      cases pa
      cases pb
      exact op_add_str pins s σ H _ _ v u Q I rx ry ⟨_, _, rfl, rfl, hz, q _ F H (Grow.refl sm) (.str _)⟩
    · cases e
  · split at e
    · rename_i hz
      cases e
      cases pa with
      | @lst _ v1 _ h1 h2 =>
        cases pb with
        | @lst _ v2 _ h3 h4 =>
          refine op_cat pins s σ H _ _ v u Q I rx ry ⟨_, _, _, _, rfl, rfl, sm _ _ h1, sm _ _ h3, by rw [h2.length, h4.length]; exact hz, fun p hp => ?_⟩
          have gr := Grow.new1 (o := .lst (v1 ++ v2)) sm hp
          exact q _ _ _ gr (.lst upd_same ((h2.append h4).mono gr.f))
    · cases e
  · split at e
    · rename_i hz
      cases e
      cases pa with
      | @tup _ v1 _ h1 h2 =>
        cases pb with
        | @tup _ v2 _ h3 h4 =>
          refine op_catA pins s σ H _ _ v u Q I rx ry ⟨_, _, _, _, rfl, rfl, sameT sm h1, sameT sm h3, by rw [h2.length, h4.length]; exact hz, fun e => ?_, fun _ e => ?_, fun _ _ p hp => ?_⟩
          · subst e
            cases h2
            exact q _ F H (Grow.refl sm) (.tup h3 h4)
          · subst e
            cases h4
            rw [List.append_nil] at q
            exact q _ F H (Grow.refl sm) (.tup h1 h2)
          · have gr := Grow.new1 (o := .tup (v1 ++ v2)) sm hp
            exact q _ _ _ gr (.tup (.inl (.inl upd_same)) ((h2.append h4).mono gr.f))
    · cases e
  · cases e
def pSub (a b : PyData) : Option PyData := match a, b with
  | .int i, .int j => some (.int (i - j))
  | _, _ => none
theorem o_sub : OpR X (binaryOp .Sub) (rD2 X.K pSub) := by
  intro pins s σ H x y v u Q I rx ry ⟨F, a, b, z, sm, pa, pb, e, q⟩
  unfold pSub at e
  split at e
  · cases e
    cases pa
    cases pb
    exact op_sub pins s σ H _ _ v u Q I rx ry ⟨_, _, rfl, rfl, q _ F H (Grow.refl sm) (.int _)⟩
  · cases e
def pFdiv (a b : PyData) : Option PyData := match a, b with
  | .int i, .int j => if 0 < j ∧ j < 1073741824 then some (.int (i / j)) else none
  | _, _ => none
theorem o_fdiv : OpR X (binaryOp .FloorDiv) (rD2 X.K pFdiv) := by
  intro pins s σ H x y v u Q I rx ry ⟨F, a, b, z, sm, pa, pb, e, q⟩
  unfold pFdiv at e
  split at e
  · split at e
    · rename_i hj
      cases e
      cases pa
      cases pb
      exact op_fdiv pins s σ H _ _ v u Q I rx ry ⟨_, _, rfl, rfl, hj, q _ F H (Grow.refl sm) (.int _)⟩
    · cases e
  · cases e
def pMod (a b : PyData) : Option PyData := match a, b with
  | .int i, .int j => if 0 < j then some (.int (i % j)) else none
  | _, _ => none
theorem o_mod : OpR X (binaryOp .Mod) (rD2 X.K pMod) := by
  intro pins s σ H x y v u Q I rx ry ⟨F, a, b, z, sm, pa, pb, e, q⟩
  unfold pMod at e
  split at e
  · split at e
    · rename_i hj
      cases e
      cases pa
      cases pb
      exact op_mod pins s σ H _ _ v u Q I rx ry ⟨_, _, rfl, rfl, hj, q _ F H (Grow.refl sm) (.int _)⟩
    · cases e
  · cases e
def pPow (a b : PyData) : Option PyData := match a, b with
  | .int i, .int j => if (0 ≤ j ∧ j ≤ 1000000) ∧ i.natAbs < 2 ^ 64 then some (.int (i ^ j.toNat)) else none
  | _, _ => none
theorem o_pow : OpR X (binaryOp .Pow) (rD2 X.K pPow) := by
  intro pins s σ H x y v u Q I rx ry ⟨F, a, b, z, sm, pa, pb, e, q⟩
  unfold pPow at e
  split at e
  · split at e
    · rename_i hj
      cases e
      cases pa
      cases pb
      exact op_pow pins s σ H _ _ v u Q I rx ry ⟨_, _, rfl, rfl, ⟨hj.1.1, hj.1.2, hj.2⟩, q _ F H (Grow.refl sm) (.int _)⟩
    · cases e
  · cases e
def pNeg (a : PyData) : Option PyData := match a with
  | .int i => some (.int (-i))
  | _ => none
theorem o_neg : UnR X (unaryOp .USub) (rD1 X.K pNeg) := by
  intro pins s σ H x v Q I rx ⟨F, a, z, sm, pa, e, q⟩
  unfold pNeg at e
  split at e
  · cases e
    cases pa
    exact un_neg pins s σ H _ v Q I rx ⟨_, rfl, q _ F H (Grow.refl sm) (.int _)⟩
  · cases e

/-! ### == and in, any texts -/
def ok50 (d : PyData) : Bool := d.plain && decide (d.depth ≤ 50)
def qEq (a b : PyData) : Option Bool := if ok50 a = true ∧ ok50 b = true then some (PyData.eqv a b) else none
def qNe (a b : PyData) : Option Bool := if ok50 a = true ∧ ok50 b = true then some (!PyData.eqv a b) else none
theorem ok50_p {d : PyData} (h : ok50 d = true) : d.plain = true ∧ d.depth ≤ 50 := by
  unfold ok50 at h
  simp only [Bool.and_eq_true, decide_eq_true_eq] at h
  exact h
theorem q_eq (hu : X.A.units + 64 < cLine) : OpR X (compareOp .Eq) (rDC X.K qEq) := by
  intro pins s σ H x y v u Q I rx ry ⟨F, a, b, z, sm, pa, pb, e, q⟩
  unfold qEq at e
  split at e
  · rename_i hs
    cases e
    have h1 := ok50_p hs.1
    have h2 := ok50_p hs.2
    obtain ⟨as, r1, _⟩ := Rp.reads I sm a x v pa rx (noExc_plain h1.1)
    obtain ⟨bs, r2, _⟩ := Rp.reads I sm b y u pb ry (noExc_plain h2.1)
    exact SeqAt.eq_plain r1 r2 h1.1 h2.1 (by omega) (epB I sm q)
  · cases e
theorem q_ne (hu : X.A.units + 64 < cLine) : OpR X (compareOp .NotEq) (rDC X.K qNe) := by
  intro pins s σ H x y v u Q I rx ry ⟨F, a, b, z, sm, pa, pb, e, q⟩
  unfold qNe at e
  split at e
  · rename_i hs
    cases e
    have h1 := ok50_p hs.1
    have h2 := ok50_p hs.2
    obtain ⟨as, r1, _⟩ := Rp.reads I sm a x v pa rx (noExc_plain h1.1)
    obtain ⟨bs, r2, _⟩ := Rp.reads I sm b y u pb ry (noExc_plain h2.1)
    exact SeqAt.ne_plain r1 r2 h1.1 h2.1 (by omega) (epB I sm q)
  · cases e
def qIn (a b : PyData) : Option Bool := match b with
  | .list xs => if ok50 a = true ∧ PyData.plainAll xs = true then some (xs.any fun z => PyData.eqv z a) else none
  | .tuple xs => if ok50 a = true ∧ PyData.plainAll xs = true then some (xs.any fun z => PyData.eqv z a) else none
  | _ => none
def qNotIn (a b : PyData) : Option Bool := (qIn a b).map (!·)
theorem q_in (hu : X.A.units + 64 < cLine) : OpR X (compareOp .In) (rDC X.K qIn) := by
  intro pins s σ H x y v u Q I rx ry ⟨F, a, b, z, sm, pa, pb, e, q⟩
  unfold qIn at e
  split at e
  · split at e
    · rename_i hs
      cases e
      have h1 := ok50_p hs.1
      obtain ⟨as, r1, _⟩ := Rp.reads I sm a x v pa rx (noExc_plain h1.1)
      obtain ⟨bs, r2, _⟩ := Rp.reads I sm _ y u pb ry (by unfold noExc; exact noExcs_plain hs.2)
      exact SeqAt.in_list_data r2 r1 hs.2 h1.1 (by omega) (epB I sm q)
    · cases e
  · split at e
    · rename_i hs
      cases e
      have h1 := ok50_p hs.1
      obtain ⟨as, r1, _⟩ := Rp.reads I sm a x v pa rx (noExc_plain h1.1)
      obtain ⟨bs, r2, _⟩ := Rp.reads I sm _ y u pb ry (by unfold noExc; exact noExcs_plain hs.2)
      exact SeqAt.in_tuple_data r2 r1 hs.2 h1.1 (by omega) (epB I sm q)
    · cases e
  · cases e
theorem q_notIn (hu : X.A.units + 64 < cLine) : OpR X (compareOp .NotIn) (rDC X.K qNotIn) := by
  intro pins s σ H x y v u Q I rx ry ⟨F, a, b, z, sm, pa, pb, e, q⟩
  unfold qNotIn qIn at e
  split at e
  · split at e
    · rename_i hs
      cases e
      have h1 := ok50_p hs.1
      obtain ⟨as, r1, _⟩ := Rp.reads I sm a x v pa rx (noExc_plain h1.1)
      obtain ⟨bs, r2, _⟩ := Rp.reads I sm _ y u pb ry (by unfold noExc; exact noExcs_plain hs.2)
      exact SeqAt.notIn_list_data r2 r1 hs.2 h1.1 (by omega) (epB I sm q)
    · cases e
  · split at e
    · rename_i hs
      cases e
      have h1 := ok50_p hs.1
      obtain ⟨as, r1, _⟩ := Rp.reads I sm a x v pa rx (noExc_plain h1.1)
      obtain ⟨bs, r2, _⟩ := Rp.reads I sm _ y u pb ry (by unfold noExc; exact noExcs_plain hs.2)
      exact SeqAt.notIn_tuple_data r2 r1 hs.2 h1.1 (by omega) (epB I sm q)
    · cases e
  · cases e
/-- < -/
def qLt (a b : PyData) : Option Bool := if PySem.W.alike a b = true ∧ ok50 a = true ∧ ok50 b = true then (match a with | .none => none | _ => some (PySem.W.dataLt a b)) else none
theorem q_lt (hu : X.A.units + 64 < cLine) : OpR X (compareOp .Lt) (rDC X.K qLt) := by
  intro pins s σ H x y v u Q I rx ry ⟨F, a, b, z, sm, pa, pb, e, q⟩
  unfold qLt at e
  split at e
  · rename_i hs
    have h1 := ok50_p hs.2.1
    have h2 := ok50_p hs.2.2
    obtain ⟨as, r1, _⟩ := Rp.reads I sm a x v pa rx (noExc_plain h1.1)
    obtain ⟨bs, r2, _⟩ := Rp.reads I sm b y u pb ry (noExc_plain h2.1)
    split at e
    · cases e
    · rename_i hn
      cases e
      exact PySem.W.lt_data r1 r2 hs.1 (fun e => hn e) (by omega) (epB I sm q)
  · cases e

/-! ### is None -/
def isN : PyData → Bool
  | .none => true
  | _ => false
def qIsN (a b : PyData) : Option Bool := match b with
  | .none => some (isN a)
  | _ => none
def qIsNotN (a b : PyData) : Option Bool := (qIsN a b).map (!·)
theorem none_dec {K : PySem.W.Frag} {F : Hp} {v : V} {a : PyData} (p : Rp K F v a) : decide (v = .non) = isN a := by
  cases p <;> rfl
theorem q_isN : OpR X (compareOp .Is) (rDC X.K qIsN) := by
  intro pins s σ H x y v u Q I rx ry ⟨F, a, b, z, sm, pa, pb, e, q⟩
  unfold qIsN at e
  split at e
  · cases e
    cases pb
    refine op_isN pins s σ H x .non v u Q I rx ry ⟨rfl, ?_⟩
    rw [none_dec pa]
    exact q F H (Grow.refl sm)
  · cases e
theorem q_isNotN : OpR X (compareOp .IsNot) (rDC X.K qIsNotN) := by
  intro pins s σ H x y v u Q I rx ry ⟨F, a, b, z, sm, pa, pb, e, q⟩
  unfold qIsNotN qIsN at e
  split at e
  · cases e
    cases pb
    refine op_notN pins s σ H x .non v u Q I rx ry ⟨rfl, ?_⟩
    rw [none_dec pa]
    exact q F H (Grow.refl sm)
  · cases e
end
end Fl
set_option Elab.async false
set_option autoImplicit false
set_option linter.all false
set_option maxRecDepth 100000
set_option maxHeartbeats 4000000
/-! Fl9: subscripts, slices, built-in functions, methods. -/
namespace Fl
open PySem PySem.Spec PyProof.Rows L2
section
variable {X : Cx} {pins : List (Addr × Obj)} {σ : L2.St} {F H : Hp} {s : Shared}

/-! ### * -/
def mulOk (i j : Int) : Bool := (decide (-(2 ^ 64) < i) && decide (i < 2 ^ 64)) || (decide (-(2 ^ 64) < j) && decide (j < 2 ^ 64))
theorem mulS_ok {x : Str} {k : Int} (h : (0 ≤ k ∧ k ≤ 1000) ∧ x.length ≤ 1000) : MulOk x k := by
  obtain ⟨⟨h1, h2⟩, h3⟩ := h
  refine ⟨?_, fun h4 _ => ?_, fun _ _ => ?_⟩
  · simp only [Bool.or_eq_false_iff, decide_eq_false_iff_not]
    omega
  · have : (1000 : Int) ≤ (2 ^ 63 - 1) / k := (Int.le_ediv_iff_mul_le (by omega)).mpr (by omega)
    omega
  · show decide (_ > sizeLine) = false
    have h5 : k.toNat ≤ 1000 := by omega
    have h6 := Nat.mul_le_mul h3 h5
    simp only [decide_eq_false_iff_not]
    rw [sizeLine_eq]
    omega
def pMul (a b : PyData) : Option PyData := match a, b with
  | .int i, .int j => if mulOk i j = true then some (.int (i * j)) else none
  | .list xs, .int k => if (-(2 ^ 63) ≤ k ∧ k < 2 ^ 63) ∧ xs.length * k.toNat ≤ sizeLine then some (.list (List.replicate k.toNat xs).flatten) else none
  | .tuple xs, .int k => if (xs ≠ [] ∧ 2 ≤ k ∧ k ≤ 1000) ∧ xs.length ≤ 1000 then some (.tuple (List.replicate k.toNat xs).flatten) else none
  | .str x, .int k => if (0 ≤ k ∧ k ≤ 1000) ∧ x.length ≤ 1000 then some (.str (Txt.mul x k)) else none
  | _, _ => none
theorem Rps.rep {K : PySem.W.Frag} {vs : List V} {ds : List PyData} (h : Rps K F vs ds) : ∀ n : Nat, Rps K F (List.replicate n vs).flatten (List.replicate n ds).flatten
  | 0 => .nil
  | n + 1 => by
    rw [List.replicate_succ, List.flatten_cons, List.replicate_succ, List.flatten_cons]
    exact h.append (Rps.rep h n)
theorem o_mulS {pins : List (Addr × Obj)} {s : Shared} {σ : L2.St} {H : Hp} {x : Str} {k : Int} {v u : Value} {Q : VK} (I : Inv X pins σ H s) (rx : RelV (.str x) v) (ry : RelV (.int k) u) (h : (0 ≤ k ∧ k ≤ 1000) ∧ x.length ≤ 1000) (q : Q (.str (Txt.mul x k)) H) :
    wpAny (model X.prog X.w) X.A (binaryOp .Mult v u) (EP X pins σ Q) X.xe s := by
  obtain ⟨t, rfl⟩ := rx
  obtain ⟨t', rfl⟩ := ry
  exact SB.mul (mulS_ok h) fun t'' k' => ⟨.str (Txt.mul x k), H, I.tok k', ⟨_, rfl⟩, q⟩
theorem o_mul : OpR X (binaryOp .Mult) (rD2 X.K pMul) := by
  intro pins s σ H x y v u Q I rx ry ⟨F, a, b, z, sm, pa, pb, e, q⟩
  unfold pMul at e
  split at e
  · rename_i i j
    split at e
    · rename_i hm
      cases e
      cases pa
      cases pb
      have hc : CMul i j := by
        unfold mulOk at hm
        simp only [Bool.or_eq_true, Bool.and_eq_true, decide_eq_true_eq] at hm
        exact hm
      exact op_mul pins s σ H _ _ v u Q I rx ry ⟨_, _, rfl, rfl, hc, q _ F H (Grow.refl sm) (.int _)⟩
    · cases e
  · rename_i xs k
    split at e
    · rename_i hz
      cases e
      cases pb
      cases pa with
      | @lst _ v1 _ h1 h2 =>
        refine op_rep pins s σ H _ _ v u Q I rx ry ⟨_, _, _, rfl, rfl, sm _ _ h1, hz.1.1, hz.1.2, by rw [h2.length]; exact hz.2, fun p hp => ?_⟩
        have gr := Grow.new1 (o := .lst (List.replicate k.toNat v1).flatten) sm hp
        exact q _ _ _ gr (.lst upd_same ((h2.rep k.toNat).mono gr.f))
    · cases e
  · rename_i xs k
    split at e
    · rename_i hz
      cases e
      cases pb
      cases pa with
      | @tup _ v1 _ h1 h2 =>
        have hne : v1 ≠ [] := fun e => hz.1.1 (by
          subst e
          cases h2
          rfl)
        refine op_repT pins s σ H _ _ v u Q I rx ry ⟨_, _, _, rfl, rfl, sameT sm h1, hne, hz.1.2.1, hz.1.2.2, by rw [h2.length]; exact hz.2, fun p hp => ?_⟩
        have gr := Grow.new1 (o := .tup (List.replicate k.toNat v1).flatten) sm hp
        exact q _ _ _ gr (.tup (.inl (.inl upd_same)) ((h2.rep k.toNat).mono gr.f))
    · cases e
  · rename_i x k
    split at e
    · rename_i hz
      cases e
      cases pa
      cases pb
      exact o_mulS I rx ry hz (q _ F H (Grow.refl sm) (.str _))
    · cases e
  · cases e

/-! ### a[k], a[i:j] -/
def pIx (a b : PyData) : Option PyData := match a, b with
  | .list xs, .int k => atI xs k
  | .tuple xs, .int k => atI xs k
  | _, _ => none
theorem o_ix : IxR X (rD2 X.K pIx) := by
  intro value slice pins s σ H x y v u Q I rx ry ⟨F, a, b, z, sm, pa, pb, e, q⟩ hs
  unfold pIx at e
  split at e
  · cases pb
    cases pa with
    | @lst _ v1 _ h1 h2 =>
      obtain ⟨j, e1, e2⟩ := atI_len h2.length e
      obtain ⟨w, e3, pw⟩ := h2.get e2
      exact ix_list value slice pins s σ H _ _ v u Q I rx ry ⟨_, _, _, w, rfl, rfl, SqL.of (sm _ _ h1), by rw [e1, e3], q w F H (Grow.refl sm) pw⟩ hs
  · cases pb
    cases pa with
    | @tup _ v1 _ h1 h2 =>
      obtain ⟨j, e1, e2⟩ := atI_len h2.length e
      obtain ⟨w, e3, pw⟩ := h2.get e2
      exact ix_tup value slice pins s σ H _ _ v u Q I rx ry ⟨_, _, _, w, rfl, rfl, sameT sm h1, by rw [e1, e3], q w F H (Grow.refl sm) pw⟩ hs
  · cases e
def cutD {α : Type} (xs : List α) (lo hi : Option Int) : List α := (xs.drop (HT.sIx xs.length 0 lo)).take (HT.sIx xs.length xs.length hi - HT.sIx xs.length 0 lo)
def pSl (a : PyData) (lo hi : Option Int) : Option PyData := match a with
  | .list xs => some (.list (cutD xs lo hi))
  | .tuple xs => some (.tuple (cutD xs lo hi))
  | .str z => if z.length ≤ sizeLine then some (.str (cutS z lo hi)) else none
  | _ => none
theorem Rps.cut {K : PySem.W.Frag} {vs : List V} {ds : List PyData} (h : Rps K F vs ds) (lo hi : Option Int) : Rps K F (cutV vs lo hi) (cutD ds lo hi) := by
  unfold cutV cutD
  rw [h.length]
  exact (h.drop _).take _
def rSlD (K : PySem.W.Frag) : V → Option Int → Option Int → Hp → VK → Prop := fun x lo hi H Q => ∃ F a z, Same F H ∧ Rp K F x a ∧ pSl a lo hi = some z ∧ ∀ w F' H', Grow F H F' H' → Rp K F' w z → Q w H'
theorem o_sl : SlR X (rSlD X.K) := by
  intro pins s σ H x v vl vu lo hi sl Q I rx hs pl pu ⟨F, a, z, sm, pa, e, q⟩
  unfold pSl at e
  split at e
  · cases e
    cases pa with
    | @lst _ v1 _ h1 h2 =>
      refine sl_list pins s σ H _ v vl vu lo hi sl Q I rx hs pl pu ⟨_, _, rfl, SqL.of (sm _ _ h1), fun p hp => ?_⟩
      have gr := Grow.new1 (o := .lst (cutV v1 lo hi)) sm hp
      exact q _ _ _ gr (.lst upd_same ((h2.cut lo hi).mono gr.f))
  · rename_i ds
    cases e
    cases pa with
    | @tup _ v1 _ h1 h2 =>
      refine sl_tupA pins s σ H _ v vl vu lo hi sl Q I rx hs pl pu ⟨_, _, rfl, sameT sm h1, fun hw => ?_, fun _ p hp => ?_⟩
      · have e1 : cutD ds lo hi = ds := by
          unfold cutD
          rw [← h2.length, hw.1, hw.2, List.drop_zero, Nat.sub_zero, h2.length, List.take_length]
        rw [e1] at q
        exact q _ F H (Grow.refl sm) (.tup h1 h2)
      · have gr := Grow.new1 (o := .tup (cutV v1 lo hi)) sm hp
        exact q _ _ _ gr (.tup (.inl (.inl upd_same)) ((h2.cut lo hi).mono gr.f))
  · split at e
    · rename_i hz
      cases e
      cases pa
      exact sl_str pins s σ H _ v vl vu lo hi sl Q I rx hs pl pu ⟨_, rfl, hz, q _ F H (Grow.refl sm) (.str _)⟩
    · cases e
  · cases e
/-- a bound of a slice -/
def bndO (o : Option (Rho → Out)) (k : Option Int → Rho → Out) : Rho → Out := match o with
  | none => k none
  | some f => bnd f fun d => match d with
    | .int i => k (some i)
    | _ => fun _ => .no
def eSl (f : Rho → Out) (lo hi : Option (Rho → Out)) : Rho → Out := bnd f fun x => bndO lo fun l => bndO hi fun h => lift (pSl x l h)
abbrev SO (X : Cx) (W : WX) (e : Option Expr) (f : Option (Rho → Out)) : Prop := PO X e (match f with
  | none => tNoPart
  | some g => tPart (RE X.K X.mg W g))
theorem so_none {W : WX} : SO X W none none := po_none
theorem so_some {W : WX} {e : Expr} {f : Rho → Out} (h : SE X W e f) : SO X W (some e) (some f) := po_some h
section
variable {K : PySem.W.Frag} {mg : Str → Option Value} {W : WX} {g : Gd} {ρ : Rho}
theorem po_then {o : Option (Rho → Out)} {k : Option Int → Rho → Out} {Q : VK} {Q' : Option Int → Hp → Prop} (r : R K g F H σ ρ) (h : AfE K mg W g F σ (bndO o k ρ) Q)
    (hk : ∀ l F1 H1 ρ1, Same F F1 → R K g F1 H1 σ ρ1 → AfE K mg W g F1 σ (k l ρ1) Q → Q' l H1) : (match o with
  | none => tNoPart
  | some g => tPart (RE K mg W g)) σ H Q' := by
  cases o with
  | none => exact hk none F H ρ (Same.refl _) r h
  | some f =>
    refine re_then r h fun v F1 H1 ρ1 d s1 r1 p1 h1 => ?_
    cases p1 with
    | int i => exact ⟨i, rfl, hk (some i) F1 H1 ρ1 s1 r1 h1⟩
    | non => exact h1.elim
    | bl b => exact h1.elim
    | str b => exact h1.elim
    | lst a b => exact h1.elim
    | tup a b => exact h1.elim
    | dct a => exact h1.elim
    | exc x1 x2 x3 => exact h1.elim
end
theorem se_sl {W : WX} {e : Expr} {lo hi : Option Expr} {f : Rho → Out} {fl fh : Option (Rho → Out)} {p2 pos : Pos} (he : SE X W e f) (hl : SO X W lo fl) (hh : SO X W hi fh) : SE X W (.Subscript e (.Slice lo hi none p2) pos) (eSl f fl fh) := by
  refine pe_imp (pe_slice o_sl he hl hh) fun σ H Q ⟨g, F, ρ, r, h⟩ => ?_
  refine re_then r h fun v F1 H1 ρ1 x s1 r1 p1 h1 => ?_
  refine po_then r1 h1 fun l F2 H2 ρ2 s2 r2 h2 => ?_
  refine po_then r2 h2 fun u F3 H3 ρ3 s3 r3 h3 => ?_
  obtain ⟨z, e, q⟩ := lift_af h3
  exact ⟨F3, x, z, r3.sF, (p1.mono s2).mono s3, e, fun w F' H' gr pw => q w F' H' gr.f (r3.grow gr) pw⟩

/-! ### built-in functions -/
def pLen (xs : List PyData) : Option PyData := match xs with
  | [.list ds] => some (.int ds.length)
  | [.tuple ds] => some (.int ds.length)
  | [.str z] => if z.length ≤ sizeLine then some (.int z.length) else none
  | _ => none
theorem rps1 {K : PySem.W.Frag} {vs : List V} {d : PyData} (h : Rps K F vs [d]) : ∃ v, vs = [v] ∧ Rp K F v d := by
  cases h with
  | cons h1 h2 => cases h2; exact ⟨_, rfl, h1⟩
theorem rps2 {K : PySem.W.Frag} {vs : List V} {d e : PyData} (h : Rps K F vs [d, e]) : ∃ v u, vs = [v, u] ∧ Rp K F v d ∧ Rp K F u e := by
  cases h with
  | cons h1 h2 =>
    cases h2 with
    | cons h3 h4 => cases h4; exact ⟨_, _, rfl, h1, h3⟩
theorem o_len : CallR X (.builtin "len") (rDN X.K pLen) := by
  intro pins s σ H xs us Q I r ⟨F, as, z, sm, pa, e, q⟩
  unfold pLen at e
  split at e
  · cases e
    obtain ⟨v, rfl, pv⟩ := rps1 pa
    cases pv with
    | lst h1 h2 =>
      refine call_len_seq pins s σ H _ us Q I r ⟨_, _, rfl, .inl (SqL.of (sm _ _ h1)), ?_⟩
      rw [h2.length]
      exact q _ F H (Grow.refl sm) (.int _)
  · cases e
    obtain ⟨v, rfl, pv⟩ := rps1 pa
    cases pv with
    | tup h1 h2 =>
      refine call_len_seq pins s σ H _ us Q I r ⟨_, _, rfl, .inr (sameT sm h1), ?_⟩
      rw [h2.length]
      exact q _ F H (Grow.refl sm) (.int _)
  · split at e
    · rename_i hz
      cases e
      obtain ⟨v, rfl, pv⟩ := rps1 pa
      cases pv
      exact call_len_str pins s σ H _ us Q I r ⟨_, rfl, hz, q _ F H (Grow.refl sm) (.int _)⟩
    · cases e
  · cases e
def pInt (xs : List PyData) : Option PyData := match xs with
  | [.int i] => some (.int i)
  | [.bool b] => some (.int (if b then 1 else 0))
  | _ => none
theorem o_int : CallR X (.type "int") (rDN X.K pInt) := by
  intro pins s σ H xs us Q I r ⟨F, as, z, sm, pa, e, q⟩
  unfold pInt at e
  split at e
  · cases e
    obtain ⟨v, rfl, pv⟩ := rps1 pa
    cases pv
    exact call_int1 pins s σ H _ us Q I r (.inl ⟨_, rfl, q _ F H (Grow.refl sm) (.int _)⟩)
  · cases e
    obtain ⟨v, rfl, pv⟩ := rps1 pa
    cases pv
    exact call_int1 pins s σ H _ us Q I r (.inr ⟨_, rfl, q _ F H (Grow.refl sm) (.int _)⟩)
  · cases e
def pTuple (xs : List PyData) : Option PyData := match xs with
  | [.list ds] => some (.tuple ds)
  | [.tuple ds] => some (.tuple ds)
  | _ => none
theorem o_tuple : CallR X (.type "tuple") (rDN X.K pTuple) := by
  intro pins s σ H xs us Q I r ⟨F, as, z, sm, pa, e, q⟩
  unfold pTuple at e
  split at e
  · cases e
    obtain ⟨v, rfl, pv⟩ := rps1 pa
    cases pv with
    | @lst _ v1 _ h1 h2 =>
      refine call_tuple_of pins s σ H _ us Q I r ⟨_, _, rfl, .inl ⟨SqL.of (sm _ _ h1), fun p hp => ?_⟩⟩
      have gr := Grow.new1 (o := .tup v1) sm hp
      exact q _ _ _ gr (.tup (.inl (.inl upd_same)) (h2.mono gr.f))
  · cases e
    obtain ⟨v, rfl, pv⟩ := rps1 pa
    cases pv with
    | tup h1 h2 => exact call_tuple_of pins s σ H _ us Q I r ⟨_, _, rfl, .inr ⟨sameT sm h1, q _ F H (Grow.refl sm) (.tup h1 h2)⟩⟩
  · cases e
def pMin (xs : List PyData) : Option PyData := match xs with
  | [.int i, .int j] => some (.int (if j < i then j else i))
  | _ => none
theorem o_min (hc : X.calm = true) : CallR X (.builtin "min") (rDN X.K pMin) := by
  intro pins s σ H xs us Q I r ⟨F, as, z, sm, pa, e, q⟩
  unfold pMin at e
  split at e
  · cases e
    obtain ⟨v, u, rfl, pv, pu⟩ := rps2 pa
    cases pv
    cases pu
    exact call_min2 hc pins s σ H _ us Q I r ⟨_, _, rfl, q _ F H (Grow.refl sm) (.int _)⟩
  · cases e
def bools : List PyData → Option (List Bool)
  | [] => some []
  | .bool b :: r => (bools r).map (b :: ·)
  | _ :: _ => none
theorem bools_map {K : PySem.W.Frag} : ∀ {ds : List PyData} {bs : List Bool} {vs : List V}, bools ds = some bs → Rps K F vs ds → vs = bs.map V.bl
  | [], bs, vs, e, h => by
    cases e
    cases h
    rfl
  | .bool b :: r, bs, vs, e, h => by
    simp only [bools] at e
    cases q : bools r with
    | none => rw [q] at e; cases e
    | some cs =>
      rw [q] at e
      cases e
      cases h with
      | cons h1 h2 =>
        cases h1
        rw [bools_map q h2]
        rfl
  | .none :: _, _, _, e, _ => by cases e
  | .int _ :: _, _, _, e, _ => by cases e
  | .str _ :: _, _, _, e, _ => by cases e
  | .list _ :: _, _, _, e, _ => by cases e
  | .tuple _ :: _, _, _, e, _ => by cases e
  | .dict _ :: _, _, _, e, _ => by cases e
def pAll (xs : List PyData) : Option PyData := match xs with
  | [.list ds] => (bools ds).map fun bs => .bool (bs.all id)
  | _ => none
def pAny (xs : List PyData) : Option PyData := match xs with
  | [.list ds] => (bools ds).map fun bs => .bool (bs.any id)
  | _ => none
theorem o_all (hc : X.calm = true) : CallR X (.builtin "all") (rDN X.K pAll) := by
  intro pins s σ H xs us Q I r ⟨F, as, z, sm, pa, e, q⟩
  unfold pAll at e
  split at e
  · rename_i ds
    cases eb : bools ds with
    | none => rw [eb] at e; cases e
    | some bs =>
      rw [eb] at e
      cases e
      obtain ⟨v, rfl, pv⟩ := rps1 pa
      cases pv with
      | @lst _ v1 _ h1 h2 =>
        have ev := bools_map eb h2
        subst ev
        exact cr_all hc pins s σ H _ us Q I r ⟨_, bs, rfl, SqL.of (sm _ _ h1), q _ F H (Grow.refl sm) (.bl _)⟩
  · cases e
theorem o_any (hc : X.calm = true) : CallR X (.builtin "any") (rDN X.K pAny) := by
  intro pins s σ H xs us Q I r ⟨F, as, z, sm, pa, e, q⟩
  unfold pAny at e
  split at e
  · rename_i ds
    cases eb : bools ds with
    | none => rw [eb] at e; cases e
    | some bs =>
      rw [eb] at e
      cases e
      obtain ⟨v, rfl, pv⟩ := rps1 pa
      cases pv with
      | @lst _ v1 _ h1 h2 =>
        have ev := bools_map eb h2
        subst ev
        exact cr_any hc pins s σ H _ us Q I r ⟨_, bs, rfl, SqL.of (sm _ _ h1), q _ F H (Grow.refl sm) (.bl _)⟩
  · cases e
/-- repr -/
def reprOk (d : PyData) : Bool := d.showable && decide (d.shown.length ≤ sizeLine) && decide (d.depth ≤ 50) && (!d.hasDict || noLst d) && noExc d
def pRepr (xs : List PyData) : Option PyData := match xs with
  | [d] => if reprOk d = true then some (.str d.shown) else none
  | _ => none
theorem o_repr (hg : X.A.guards = some []) (hu : X.A.units + 64 < cLine) : CallR X (.builtin "repr") (rDN X.K pRepr) := by
  intro pins s σ H xs us Q I r ⟨F, as, z, sm, pa, e, q⟩
  unfold pRepr at e
  split at e
  · rename_i d
    split at e
    · rename_i ok
      cases e
      obtain ⟨v, rfl, pv⟩ := rps1 pa
      obtain ⟨u, rfl, ru⟩ := vals1 r
      unfold reprOk at ok
      simp only [Bool.and_eq_true, decide_eq_true_eq, Bool.or_eq_true, Bool.not_eq_true'] at ok
      obtain ⟨⟨⟨⟨h1, h2⟩, h3⟩, h4⟩, h5⟩ := ok
      have fin : ∀ h' t tk, (∀ b o, s.heap.get? b = some o → h'.get? b = some o) → EP X pins σ Q (.str d.shown t) { s with heap := h', toks := tk } := fun h' t tk k =>
        ⟨.str d.shown, H, I.kept k, ⟨_, rfl⟩, q _ F H (Grow.refl sm) (.str _)⟩
      obtain ⟨as', rd, hn⟩ := Rp.reads I sm d v u pv ru h5
      have hsm : d.hasDict = true → sysModules ∉ as' := fun hd => by
        rcases h4 with h4 | h4
        · rw [hd] at h4; cases h4
        · exact hn h4
      cases pv with
      | non => cases ru; exact PySem.P.repr_of_none (by simpa only [PyData.shown] using fin s.heap s.toks (s.toks + 1) fun _ _ e => e)
      | bl b => cases ru; exact PySem.P.repr_of_bool (by simpa only [PyData.shown] using fin s.heap s.toks (s.toks + 1) fun _ _ e => e)
      | int i =>
        obtain ⟨t, rfl⟩ := ru
        simp only [PyData.showable, decide_eq_true_eq] at h1
        exact PySem.P.repr_of_int h1 (by simpa only [PyData.shown] using fin s.heap s.toks (s.toks + 1) fun _ _ e => e)
      | str x =>
        obtain ⟨t, rfl⟩ := ru
        exact PySem.P.repr_of_str (by simpa only [PyData.shown] using fin s.heap s.toks (s.toks + 1) fun _ _ e => e) (by simpa only [PyData.shown] using h2)
      | lst a b => cases ru; exact repr_of_reads' rd h1 hsm hg (by omega) (fun _ _ e => e) (fun h' t tk k => fin h' t tk k) h2
      | tup a b => cases ru; exact repr_of_reads' rd h1 hsm hg (by omega) (fun _ _ e => e) (fun h' t tk k => fin h' t tk k) h2
      | exc x1 x2 x3 => simp [noExc] at h5
      | dct a => cases ru; exact repr_of_reads' rd h1 hsm hg (by omega) (fun _ _ e => e) (fun h' t tk k => fin h' t tk k) h2
    · cases e
  · cases e
end
end Fl
set_option Elab.async false
set_option autoImplicit false
set_option linter.all false
set_option maxRecDepth 100000
set_option maxHeartbeats 4000000
/-! Fl10: sorted, methods, walks over two, and, or, not as values. -/
namespace Fl
open PySem PySem.Spec PyProof.Rows L2
section
variable {X : Cx} {pins : List (Addr × Obj)} {σ : L2.St} {F H : Hp} {s : Shared}

/-! ### sorted -/
def isCons : PyData → Bool
  | .tuple (_ :: _) => true
  | _ => false
def isOther : PyData → Bool
  | .none => false
  | .tuple _ => false
  | _ => true
def sortOk (ds : List PyData) : Bool := (ds.all fun d => ds.all fun e => PySem.W.alike d e) && (ds.all isCons || ds.all isOther) && decide (ds.length ≤ sizeLine) && ds.all ok50
def pSorted (xs : List PyData) : Option PyData := match xs with
  | [.list ds] => if sortOk ds = true then some (.list (ds.mergeSort (PySem.W.dataLe false id))) else none
  | _ => none
theorem each_of {K : PySem.W.Frag} (R : V → PyData → Prop) : ∀ {ds : List PyData} {vs : List V} {us : List Value}, Rps K F vs ds → Vals vs us → (∀ v d u, Rp K F v d → RelV v u → R v d) →
    PySem.W.EachIs (fun u (b : V × PyData) => RelV b.1 u ∧ Rp K F b.1 b.2) us (vs.zip ds)
  | [], _, _, h, r, _ => by
    cases h
    cases r
    exact .nil
  | d :: ds, _, _, h, r, k => by
    cases h with
    | cons h1 h2 =>
      cases r with
      | cons r1 r2 => exact .cons ⟨r1, h1⟩ (each_of R h2 r2 k)
theorem each_back {K : PySem.W.Frag} : ∀ {bs : List (V × PyData)} {us : List Value}, PySem.W.EachIs (fun u (b : V × PyData) => RelV b.1 u ∧ Rp K F b.1 b.2) us bs → Vals (bs.map (·.1)) us ∧ Rps K F (bs.map (·.1)) (bs.map (·.2))
  | [], _, h => by
    cases h
    exact ⟨.nil, .nil⟩
  | b :: bs, _, h => by
    cases h with
    | cons h1 h2 =>
      obtain ⟨q1, q2⟩ := each_back h2
      exact ⟨.cons h1.1 q1, .cons h1.2 q2⟩
theorem each_reads (I : Inv X pins σ H s) (sm : Same F H) : ∀ {ds : List PyData} {vs : List V} {us : List Value}, Rps X.K F vs ds → Vals vs us → ds.all ok50 = true →
    PySem.W.EachIs (fun u (b : V × PyData) => ∃ as, Reads s.heap u b.2 as) us (vs.zip ds)
  | [], _, _, h, r, _ => by
    cases h
    cases r
    exact .nil
  | d :: ds, _, _, h, r, ok => by
    cases h with
    | cons h1 h2 =>
      cases r with
      | cons r1 r2 =>
        simp only [List.all_cons, Bool.and_eq_true] at ok
        obtain ⟨as, q, _⟩ := Rp.reads I sm d _ _ h1 r1 (noExc_plain (ok50_p ok.1).1)
        exact .cons ⟨as, q⟩ (each_reads I sm h2 r2 ok.2)
theorem zip_snd {vs : List V} {ds : List PyData} (h : vs.length = ds.length) : (vs.zip ds).map (·.2) = ds := by
  rw [List.map_snd_zip]
  omega
theorem o_sorted (hu : X.A.units + 64 < cLine) : CallR X (.builtin "sorted") (rDN X.K pSorted) := by
  intro pins s σ H xs us Q I r ⟨F, as, z, sm, pa, e, q⟩
  unfold pSorted at e
  split at e
  · rename_i ds
    split at e
    · rename_i ok
      cases e
      unfold sortOk at ok
      simp only [Bool.and_eq_true, Bool.or_eq_true, decide_eq_true_eq] at ok
      obtain ⟨⟨⟨h1, h2⟩, h3⟩, h4⟩ := ok
      obtain ⟨v, rfl, pv⟩ := rps1 pa
      obtain ⟨u, rfl, ru⟩ := vals1 r
      cases pv with
      | @lst a v1 _ hF pd =>
        cases ru
        obtain ⟨its, rv, pl, hz⟩ := I.list (SqL.of (sm _ _ hF))
        have hlen := pd.length
        have emap : (v1.zip ds).map (·.2) = ds := zip_snd hlen
        have hal : PySem.W.AllAlike ((v1.zip ds).map (·.2)) := by
          rw [emap]
          intro d hd d' hd'
          exact List.all_eq_true.mp (List.all_eq_true.mp h1 d hd) d' hd'
        have hk : PySem.W.Sortable ((v1.zip ds).map (·.2)) := by
          rw [emap]
          rcases h2 with h2 | h2
          · refine .inl fun d hd => ?_
            have := List.all_eq_true.mp h2 d hd
            unfold isCons at this
            split at this
            · exact ⟨_, _, rfl⟩
            · cases this
          · refine .inr fun d hd => ?_
            have := List.all_eq_true.mp h2 d hd
            refine ⟨fun z => ?_, fun xs z => ?_⟩
            · subst z; cases this
            · subst z; cases this
        have hL : (v1.zip ds).length ≤ sizeLine := by
          rw [List.length_zip]
          omega
        refine PySem.W.sorted_data (β := V × PyData) (bs := v1.zip ds) (enc := (·.2)) (R := fun u b => RelV b.1 u ∧ Rp X.K F b.1 b.2) pl.isList (each_of (fun _ _ => True) pd rv fun _ _ _ _ _ => trivial)
          (each_reads I sm pd rv h4) hal hk hL (fun b hb => ?_) fun out ho eo => ?_
        · have hm : b.2 ∈ ds := by
            rw [← emap]
            exact List.mem_map.mpr ⟨b, hb, rfl⟩
          have := ok50_p (List.all_eq_true.mp h4 b.2 hm)
          omega
        · obtain ⟨q1, q2⟩ := each_back eo
          have es : ((v1.zip ds).mergeSort (PySem.W.dataLe false (·.2))).map (·.2) = ds.mergeSort (PySem.W.dataLe false id) := by
            have t := PySem.W.sort_maps (r := PySem.W.dataLe false (fun b : V × PyData => b.2)) (s := PySem.W.dataLe false id) (fun b : V × PyData => b.2) (l := v1.zip ds) (fun _ _ _ _ => rfl)
            rw [emap] at t
            exact t
          rw [es] at q2
          obtain ⟨c, hc⟩ := PyProof.Rows.sortedAll_at s.heap its out.toArray
          have hp : H (s.heap.objs.size + 1) = none := I.hok.fresh (Nat.le_succ _)
          have gr := Grow.new1 (o := .lst (((v1.zip ds).mergeSort (PySem.W.dataLe false (·.2))).map (·.1))) sm hp
          refine ⟨.ref _, upd H (s.heap.objs.size + 1) (.lst _), I.laid (t' := s.toks) (fun _ _ => PyProof.Rows.sortedAll_old) (Nat.le_succ _) ⟨?_, out, c, q1, hc⟩, rfl, q _ _ _ gr (.lst upd_same (q2.mono gr.f))⟩
          rw [List.length_map, List.length_mergeSort]
          exact hL
    · cases e
  · cases e

/-! ### methods of lists -/
def pIndex (a : PyData) (xs : List PyData) : Option PyData := match a, xs with
  | .list ds, [d] => if ok50 d = true ∧ PyData.plainAll ds = true ∧ (ds.length ≤ sizeLine) then (match ds.findIdx? fun z => PyData.eqv z d with
    | some j => some (.int (j : Nat))
    | none => none) else none
  | _, _ => none
def pCount (a : PyData) (xs : List PyData) : Option PyData := match a, xs with
  | .list ds, [d] => if ok50 d = true ∧ PyData.plainAll ds = true then some (.int ((ds.countP fun z => PyData.eqv z d : Nat) : Int)) else none
  | _, _ => none
theorem m_count (hu : X.A.units + 64 < cLine) : MtR X "list.count" (rDM X.K pCount) := by
  intro pins s σ H x xs v us Q I rx rxs ⟨F, a, as, z, sm, pa, pas, e, q⟩
  unfold pCount at e
  split at e
  · split at e
    · rename_i hs
      cases e
      obtain ⟨w, rfl, pw⟩ := rps1 pas
      obtain ⟨u, rfl, ru⟩ := vals1 rxs
      cases pa with
      | lst h1 h2 =>
        cases rx
        obtain ⟨its, rv, pl, hz⟩ := I.list (SqL.of (sm _ _ h1))
        have h3 := ok50_p hs.1
        obtain ⟨bs, rs, _⟩ := Rp.readsAll I sm _ _ _ h2 rv (noExcs_plain hs.2)
        obtain ⟨cs, rd, _⟩ := Rp.reads I sm _ _ _ pw ru (noExc_plain h3.1)
        exact SeqAt.count_list_data (vs := its.toArray) pl.isList (by simpa using rs) rd hs.2 h3.1 (by omega) ⟨.int _, H, I.tok _, ⟨_, rfl⟩, q _ F H (Grow.refl sm) (.int _)⟩
    · cases e
  · cases e

/-! ### and, or, not as values -/
variable {W : WX} {a b : Expr} {fa fb : Rho → Out} {pos : Pos} {rest : List Expr}
def eOk (f : Rho → Out) : Rho → Out := bnd f fun x ρ => if truthOk x = true then .ok x ρ else .no
theorem se_one {op : BoolOp} (h : SE X W a fa) : SE X W (.BoolOp op [a] pos) fa := pe_one h
theorem se_and (ha : SE X W a fa) (hb : SE X W (.BoolOp .And (b :: rest) pos) fb) : SE X W (.BoolOp .And (a :: b :: rest) pos) (eAnd (eOk fa) fb) := by
  refine pe_imp (pe_andT ha hb) fun σ H Q ⟨g, F, ρ, r, h⟩ => ?_
  have h' : AfE X.K X.mg W g F σ (bnd fa (fun x ρ => if truthOk x = true then (if truth x = true then fb ρ else .ok x ρ) else .no) ρ) Q := by
    have e : eAnd (eOk fa) fb ρ = bnd fa (fun x ρ => if truthOk x = true then (if truth x = true then fb ρ else .ok x ρ) else .no) ρ := by
      unfold eAnd eOk bnd
      cases fa ρ with
      | ok d ρ1 => by_cases hk : truthOk d = true <;> simp [hk]
      | er x ρ1 => rfl
      | no => rfl
    rw [← e]
    exact h
  refine re_then r h' fun v F1 H1 ρ1 x s1 r1 p1 h1 => ?_
  by_cases hk : truthOk x = true
  · rw [if_pos hk] at h1
    refine ⟨_, truV r1.sF p1 hk, ?_⟩
    cases hx : truth x with
    | true => simp only [hx, if_true] at h1; exact iteT ⟨g, F1, ρ1, r1, h1⟩
    | false => simp only [hx, Bool.false_eq_true, if_false] at h1; exact iteF (h1 v F1 H1 (Same.refl _) r1 p1)
  · rw [if_neg hk] at h1; exact h1.elim
theorem se_or (ha : SE X W a fa) (hb : SE X W (.BoolOp .Or (b :: rest) pos) fb) : SE X W (.BoolOp .Or (a :: b :: rest) pos) (eOr (eOk fa) fb) := by
  refine pe_imp (pe_orT ha hb) fun σ H Q ⟨g, F, ρ, r, h⟩ => ?_
  have h' : AfE X.K X.mg W g F σ (bnd fa (fun x ρ => if truthOk x = true then (if truth x = true then .ok x ρ else fb ρ) else .no) ρ) Q := by
    have e : eOr (eOk fa) fb ρ = bnd fa (fun x ρ => if truthOk x = true then (if truth x = true then .ok x ρ else fb ρ) else .no) ρ := by
      unfold eOr eOk bnd
      cases fa ρ with
      | ok d ρ1 => by_cases hk : truthOk d = true <;> simp [hk]
      | er x ρ1 => rfl
      | no => rfl
    rw [← e]
    exact h
  refine re_then r h' fun v F1 H1 ρ1 x s1 r1 p1 h1 => ?_
  by_cases hk : truthOk x = true
  · rw [if_pos hk] at h1
    refine ⟨_, truV r1.sF p1 hk, ?_⟩
    cases hx : truth x with
    | true => simp only [hx, if_true] at h1; exact iteT (h1 v F1 H1 (Same.refl _) r1 p1)
    | false => simp only [hx, Bool.false_eq_true, if_false] at h1; exact iteF ⟨g, F1, ρ1, r1, h1⟩
  · rw [if_neg hk] at h1; exact h1.elim
theorem se_not (ha : SE X W a fa) : SE X W (.UnaryOp .Not a pos) (eNot (eOk fa)) := by
  refine pe_imp (pe_notT ha) fun σ H Q ⟨g, F, ρ, r, h⟩ => ?_
  have h' : AfE X.K X.mg W g F σ (bnd fa (fun x ρ => if truthOk x = true then .ok (.bool (!truth x)) ρ else .no) ρ) Q := by
    have e : eNot (eOk fa) ρ = bnd fa (fun x ρ => if truthOk x = true then .ok (.bool (!truth x)) ρ else .no) ρ := by
      unfold eNot eOk bnd
      cases fa ρ with
      | ok d ρ1 => by_cases hk : truthOk d = true <;> simp [hk]
      | er x ρ1 => rfl
      | no => rfl
    rw [← e]
    exact h
  refine re_then r h' fun v F1 H1 ρ1 x s1 r1 p1 h1 => ?_
  by_cases hk : truthOk x = true
  · rw [if_pos hk] at h1
    exact ⟨_, truV r1.sF p1 hk, h1 _ F1 H1 (Same.refl _) r1 (.bl _)⟩
  · rw [if_neg hk] at h1; exact h1.elim

/-! ### isinstance -/
def isaD (T : String) (d : PyData) : Option Bool := if noExc d = true then (
  if T = "tuple" then some d.isTuple else if T = "list" then some d.isList else if T = "bool" then some d.isBool else if T = "int" then some d.isInt else if T = "str" then some d.isStr else none) else none
def eIsa (T : String) (f : Rho → Out) : Rho → Out := bnd f fun d => liftB (isaD T d)
theorem isa_call (I : Inv X pins σ H s) {T : String} {v : V} {u : Value} {d : PyData} {b : Bool} {Q : VK} (sm : Same F H) (p : Rp X.K F v d) (r : RelV v u) (e : isaD T d = some b) (q : ∀ F' H', Grow F H F' H' → Q (.bl b) H') :
    wpAny (model X.prog X.w) X.A (call (.builtin "isinstance") [u, .type T]) (EP X pins σ Q) X.xe s := by
  unfold isaD at e
  split at e
  rotate_left
  · cases e
  rename_i ne
  obtain ⟨as, rd, _⟩ := Rp.reads I sm d v u p r ne
  have fin : ∀ b', b' = b → ∀ tk, EP X pins σ Q (.bool b') { s with toks := tk } := fun b' hb tk => ⟨.bl b', H, I.tok tk, rfl, by rw [hb]; exact q F H (Grow.refl sm)⟩
  split at e
  · rename_i h; subst h; cases e; exact PySem.W.isinstance_tuple_data rd fun tk _ => fin _ rfl tk
  · split at e
    · rename_i h; subst h; cases e; exact PySem.W.isinstance_list_data rd fun tk _ => fin _ rfl tk
    · split at e
      · rename_i h; subst h; cases e; exact PySem.W.isinstance_bool_data rd fun tk _ => fin _ rfl tk
      · split at e
        · rename_i h; subst h; cases e; exact PySem.W.isinstance_int_data rd fun tk _ => fin _ rfl tk
        · split at e
          · rename_i h; subst h; cases e; exact PySem.W.isinstance_str_data rd fun tk _ => fin _ rfl tk
          · cases e
/-- isinstance(e, T) -/
theorem se_isa {T : String} {nT : Str} {f : Rho → Out} {e : Expr} {p0 p1 pos : Pos} (he : SE X W e f) (hg : Gl X "isinstance") (hm : X.mg "isinstance" = none) (hgT : Gl X nT) (hmT : X.mg nT = none) (hvT : bootBuiltins nT = some (.type T)) (hnT : nT ≠ "__name__" := by decide)
    (hdT : (nT == ("__debug__" : Str)) = false := by decide)
    (hst : starEach (e :: .Name nT p1 :: []) X.env = (false, eval e X.env) :: starEach [.Name nT p1] X.env := by rfl) (hst2 : starEach (.Name nT p1 :: []) X.env = (false, eval (.Name nT p1) X.env) :: starEach [] X.env := by rfl)
    (hpl : (backTo pos (starEach [.Name nT p1] X.env)).any (·.1) = false := by rfl) : SE X W (.Call (.Name "isinstance" p0) [e, .Name nT p1] [] pos) (eIsa T f) := by
  have hc : CallR X (.builtin "isinstance") (fun xs H Q => ∃ F v d b, xs = [v, .ty T] ∧ Same F H ∧ Rp X.K F v d ∧ isaD T d = some b ∧ ∀ F' H', Grow F H F' H' → Q (.bl b) H') := by
    intro pins s σ H xs us Q I r h
    obtain ⟨F, v, d, b, rfl, sm, p, e, q⟩ := h
    obtain ⟨u1, u2, rfl, r1, r2⟩ := vals2 r
    cases (show u2 = Value.type T from r2)
    exact isa_call I sm p r1 e q
  refine pe_imp (pe_callB hc hg hm (by decide +kernel) (pa_cons he (pa_cons (pe_bltn (v := .ty T) hgT hmT hvT rfl hnT hdT) pa_nil hst2) hst) (by decide) (by decide) hst hpl) fun σ H Q ⟨g, F, ρ, r, h⟩ => ?_
  refine re_then r h fun v F1 H1 ρ1 d s1 r1 p1 h1 => ?_
  obtain ⟨z, e, q⟩ := lift_af h1
  cases e' : isaD T d with
  | none => rw [e'] at e; cases e
  | some b =>
    rw [e'] at e
    cases e
    exact ⟨F1, v, d, b, rfl, r1.sF, p1, e', fun F' H' gr => q _ F' H' gr.f (r1.grow gr) (.bl _)⟩
/-- {} -/
theorem se_dict0 : SE X W (.Dict [] [] pos) (eC (.dict [])) := by
  refine pe_imp pe_dnewK fun σ H Q ⟨g, F, ρ, r, h⟩ => ?_
  intro d hd
  have gr := Grow.new1 (o := .dK []) r.sF hd
  exact h _ _ _ gr.f (r.grow gr) (.dct upd_same)
end
end Fl
set_option Elab.async false
set_option autoImplicit false
set_option linter.all false
set_option maxRecDepth 100000
set_option maxHeartbeats 4000000
/-! Fl11: index, a module's constants, walks over two. -/
namespace Fl
open PySem PySem.Spec PyProof.Rows L2
section
variable {X : Cx} {pins : List (Addr × Obj)} {σ : L2.St} {F H : Hp} {s : Shared}
/-- which items are == d -/
def hits (ds : List PyData) (d : PyData) : List Bool := ds.map fun z => PyData.eqv z d
def pIdxL (a : PyData) (xs : List PyData) : Option PyData := match a, xs with
  | .list ds, [d] => if (ok50 d = true ∧ PyData.plainAll ds = true) ∧ ds.length ≤ sizeLine ∧ true ∈ hits ds d then some (.int ((hits ds d).idxOf true : Nat)) else none
  | _, _ => none
def pIdxT (a : PyData) (xs : List PyData) : Option PyData := match a, xs with
  | .tuple ds, [d] => if (ok50 d = true ∧ PyData.plainAll ds = true) ∧ ds.length ≤ sizeLine ∧ true ∈ hits ds d then some (.int ((hits ds d).idxOf true : Nat)) else none
  | _, _ => none
theorem itemsEq_data {its : List Value} {ds : List PyData} {d : PyData} {as bs : List Addr} {u : Value} (rs : ReadsAll s.heap its ds as) (rd : Reads s.heap u d bs) (hxs : PyData.plainAll ds = true) (hd : d.plain = true) (hu : X.A.units + 1 + min (PyData.depthAll ds) d.depth < cLine) :
    PySem.SeqAt.ItemsEq X.A.in1 s its (hits ds d) u true := by
  have hl := SeqAt.ReadsAll.length ds its as rs
  refine ⟨by unfold hits; rw [List.length_map]; exact hl, fun j h1 h2 => ?_⟩
  have q := SeqAt.items_plain (A := X.A) (vs := its.toArray) (by simpa using rs) rd hxs hd hu its[j] (by simp)
  obtain ⟨h3, e⟩ := PySem.SeqAt.readOf_at (vs := its.toArray) (by simpa using rs) hxs j (by simpa using h1)
  have e' : SeqAt.readOf s.heap its[j] = ds[j] := by simpa using e
  rw [e'] at q
  have e3 : (hits ds d)[j] = PyData.eqv ds[j] d := by simp [hits]
  have e2 : decide ((hits ds d)[j] = true) = PyData.eqv ds[j] d := by
    rw [e3]
    cases PyData.eqv ds[j] d <;> rfl
  rw [e2]
  exact q
theorem m_index (hu : X.A.units + 64 < cLine) : MtR X "list.index" (rDM X.K pIdxL) := by
  intro pins s σ H x xs v us Q I rx rxs ⟨F, a, as, z, sm, pa, pas, e, q⟩
  unfold pIdxL at e
  split at e
  · split at e
    · rename_i hs
      cases e
      obtain ⟨w, rfl, pw⟩ := rps1 pas
      obtain ⟨u, rfl, ru⟩ := vals1 rxs
      cases pa with
      | lst h1 h2 =>
        cases rx
        obtain ⟨its, rv, pl, hz⟩ := I.list (SqL.of (sm _ _ h1))
        have h3 := ok50_p hs.1.1
        obtain ⟨bs, rs, _⟩ := Rp.readsAll I sm _ _ _ h2 rv (noExcs_plain hs.1.2)
        obtain ⟨cs, rd, _⟩ := Rp.reads I sm _ _ _ pw ru (noExc_plain h3.1)
        exact PySem.SeqAt.call_list_index pl.isList (itemsEq_data rs rd hs.1.2 h3.1 (by omega)) (by unfold hits; rw [List.length_map]; exact hs.2.1) hs.2.2 ⟨.int _, H, I.tok _, ⟨_, rfl⟩, q _ F H (Grow.refl sm) (.int _)⟩
    · cases e
  · cases e
theorem m_tindex (hu : X.A.units + 64 < cLine) : MtR X "tuple.index" (rDM X.K pIdxT) := by
  intro pins s σ H x xs v us Q I rx rxs ⟨F, a, as, z, sm, pa, pas, e, q⟩
  unfold pIdxT at e
  split at e
  · split at e
    · rename_i hs
      cases e
      obtain ⟨w, rfl, pw⟩ := rps1 pas
      obtain ⟨u, rfl, ru⟩ := vals1 rxs
      cases pa with
      | tup h1 h2 =>
        cases rx
        obtain ⟨its, rv, pl, hz⟩ := I.tuple (sameT sm h1)
        have h3 := ok50_p hs.1.1
        obtain ⟨bs, rs, _⟩ := Rp.readsAll I sm _ _ _ h2 rv (noExcs_plain hs.1.2)
        obtain ⟨cs, rd, _⟩ := Rp.reads I sm _ _ _ pw ru (noExc_plain h3.1)
        exact PySem.SeqAt.call_tuple_index pl (itemsEq_data rs rd hs.1.2 h3.1 (by omega)) hs.2.2 ⟨.int _, H, I.tok _, ⟨_, rfl⟩, q _ F H (Grow.refl sm) (.int _)⟩
    · cases e
  · cases e
/-- e.m(a), m a list's method -/
def eMeth (p : PyData → List PyData → Option PyData) (f : Rho → Out) (t : Rho → AOut) : Rho → Out := bnd f fun x => aBnd t fun ds => lift (p x ds)
def isLst : PyData → Bool
  | .list _ => true
  | _ => false
theorem tyL {K : PySem.W.Frag} {v : V} {d : PyData} (sm : Same F H) (p : Rp K F v d) (h : isLst d = true) : tyV K "list" v H := by
  cases p with
  | lst h1 h2 => exact .inl ⟨rfl, _, SqL.of (sm _ _ h1)⟩
  | non => cases h
  | bl b => cases h
  | int i => cases h
  | str x => cases h
  | tup a b => cases h
  | dct a => cases h
  | exc x1 x2 x3 => cases h
variable {W : WX} {o e : Expr} {f : Rho → Out} {t : Rho → AOut} {es : List Expr}
def eMethL (p : PyData → List PyData → Option PyData) (f : Rho → Out) (t : Rho → AOut) : Rho → Out := bnd f fun x ρ => if isLst x = true then aBnd t (fun ds => lift (p x ds)) ρ else .no
/-- few arguments, none of them starred -/
abbrev Few (X : Cx) (c : Pos) (as : List Expr) : Prop := ((backTo c (starEach as X.env)).all (fun x => !x.1) && (backToKw c (keywordEach [] X.env)).all (fun x => x.1.isSome) && decide (as.length + ([] : List Keyword).length + (if ([] : List Keyword).isEmpty then 0 else 1) < 30)) = true
theorem se_methL {name : Str} {id : String} {r : V → List V → Hp → VK → Prop} {p : PyData → List PyData → Option PyData} {apos cpos : Pos} (slot : Slot "list" name id) (hty : typeOf (.builtin id) = pure (.type "method_descriptor")) (hm : MtR X id r) (hd : DM X.K r p) (ho : SE X W o f) (ha : SA X W (e :: es) t)
    (ab : attributeBase o name X.env (eval o X.env) = eval o X.env := by rfl)
    (few : Few X cpos (e :: es) := by rfl) (hline : (apos.endLine == cpos.line) = true := by rfl) (h1 : starEach (e :: es) X.env = (false, eval e X.env) :: starEach es X.env := by rfl) (h2 : (backTo cpos (starEach es X.env)).any (·.1) = false := by rfl) :
    SE X W (.Call (.Attribute o name apos) (e :: es) [] cpos) (eMethL p f t) := by
  refine pe_imp (pe_bm PySem.F.plainAttrs_list slot hty hm ho ha ab few hline h1 h2) fun σ H Q ⟨g, F, ρ, r, h⟩ => ?_
  refine re_then r h fun v F1 H1 ρ1 x s1 r1 p1 h1 => ?_
  by_cases hx : isLst x = true
  · rw [if_pos hx] at h1
    refine ⟨tyL r1.sF p1 hx, ?_⟩
    refine ra_then r1 h1 fun vs F2 H2 ρ2 ds s2 r2 p2 h2 => ?_
    obtain ⟨z, e, q⟩ := lift_af h2
    exact hd F2 H2 v vs x ds z Q r2.sF (p1.mono s2) p2 e fun w F' H' gr pw => q w F' H' gr.f (r2.grow gr) pw
  · rw [if_neg hx] at h1; exact h1.elim

/-! ### a module's constants -/
/-- x is a constant of the module -/
structure GlobD (K : PySem.W.Frag) (mg : Str → Option Value) (x : Str) (d : PyData) : Prop where
  ex : ∃ v u, mg x = some u ∧ RelV v u ∧ ∀ F, Rp K F v d
theorem se_glob {x : Str} {d : PyData} {pos : Pos} (G : GlobD X.K X.mg x d) (hg : Gl X x) (hd : (x == ("__debug__" : Str)) = false := by decide) : SE X W (.Name x pos) (eC d) := by
  obtain ⟨v, u, hm, r, p⟩ := G.ex
  exact pe_imp (pe_glob hg hm r hd) fun σ H Q ⟨g, F, ρ, rr, h⟩ => h v F H (Same.refl _) rr (p F)
/-- NAME.index(e), NAME a tuple of the module -/
structure GlobT (K : PySem.W.Frag) (mg : Str → Option Value) (x : Str) (ds : List PyData) : Prop where
  ex : ∃ a o, mg x = some (.ref a) ∧ (∀ F, Rp K F (.ref a) (.tuple ds)) ∧ K.lookup a = some o ∧ o.cls = .type "tuple" ∧ o.dict = none
theorem GlobT.d {K : PySem.W.Frag} {mg : Str → Option Value} {x : Str} {ds : List PyData} (G : GlobT K mg x ds) : GlobD K mg x (.tuple ds) := by
  obtain ⟨a, o, h1, h2, _⟩ := G.ex
  exact ⟨.ref a, .ref a, h1, rfl, h2⟩
def eIdxG (ds : List PyData) (t : Rho → AOut) : Rho → Out := aBnd t fun es => lift (pIdxT (.tuple ds) es)
theorem se_idxG {x : Str} {ds : List PyData} {p1 apos cpos : Pos} (G : GlobT X.K X.mg x ds) (hu : X.A.units + 64 < cLine) (hg : Gl X x) (ha : SA X W (e :: es) t) (hd : (x == ("__debug__" : Str)) = false := by decide)
    (ab : attributeBase (.Name x p1) "index" X.env (eval (.Name x p1) X.env) = eval (.Name x p1) X.env := by rfl)
    (few : Few X cpos (e :: es) := by rfl) (hline : (apos.endLine == cpos.line) = true := by rfl) (hs1 : starEach (e :: es) X.env = (false, eval e X.env) :: starEach es X.env := by rfl) (hs2 : (backTo cpos (starEach es X.env)).any (·.1) = false := by rfl) :
    SE X W (.Call (.Attribute (.Name x p1) "index" apos) (e :: es) [] cpos) (eIdxG ds t) := by
  obtain ⟨a, o, h1, h2, h3, h4, h5⟩ := G.ex
  refine pe_imp (pe_bm PySem.F.plainAttrs_tuple PySem.F.slot_tuple_index PySem.F.type_tuple_index (m_tindex hu) (pe_glob (v := .ref a) hg h1 rfl hd) ha ab few hline hs1 hs2) fun σ H Q ⟨g, F, ρ, r, h⟩ => ?_
  refine ⟨.inr (.inl ⟨rfl, o, h3, h4, h5⟩), ?_⟩
  refine ra_then r h fun vs F1 H1 ρ1 es s1 r1 p1 h1 => ?_
  obtain ⟨z, e, q⟩ := lift_af h1
  exact ⟨F1, _, es, z, r1.sF, h2 F1, p1, e, fun w F' H' gr pw => q w F' H' gr.f (r1.grow gr) pw⟩

/-! ### zip, enumerate -/
def zipD : List PyData → List PyData → List PyData
  | x :: xs, y :: ys => .tuple [x, y] :: zipD xs ys
  | _, _ => []
theorem zipD_len : ∀ (xs ys : List PyData), (zipD xs ys).length = min xs.length ys.length
  | [], ys => by simp [zipD]
  | _ :: _, [] => by simp [zipD]
  | x :: xs, y :: ys => by simp [zipD, zipD_len xs ys]
theorem zipD_get : ∀ (xs ys : List PyData) (i : Nat) (d : PyData), (zipD xs ys)[i]? = some d → ∃ x y, xs[i]? = some x ∧ ys[i]? = some y ∧ d = .tuple [x, y]
  | [], ys, i, d, h => by simp [zipD] at h
  | _ :: _, [], i, d, h => by simp [zipD] at h
  | x :: xs, y :: ys, 0, d, h => by
    simp [zipD] at h
    exact ⟨x, y, rfl, rfl, h.symm⟩
  | x :: xs, y :: ys, i + 1, d, h => by
    simp only [zipD, List.getElem?_cons_succ] at h ⊢
    exact zipD_get xs ys i d h
def iZp (t : Rho → AOut) : Rho → IOut := fun ρ => match t ρ with
  | .ok [.list xs, .list ys] r => .ok (zipD xs ys) r
  | .ok [.tuple xs, .tuple ys] r => .ok (zipD xs ys) r
  | .er x r => .er x r
  | _ => .no
theorem pair_grow {K : PySem.W.Frag} {F' H' : Hp} {T : Addr} {x y : V} {dx dy : PyData} (s : Same F' H') (hT : H' T = none) (px : Rp K F' x dx) (py : Rp K F' y dy) : ∃ F'', Grow F' H' F'' (upd H' T (.tup [x, y])) ∧ Rp K F'' (.ref T) (.tuple [dx, dy]) := by
  have gr := Grow.new1 (o := .tup [x, y]) s hT
  exact ⟨_, gr, .tup (.inl (.inl upd_same)) (.cons (px.mono gr.f) (.cons (py.mono gr.f) .nil))⟩
theorem si_zip {e2 : Expr} {p pos tpos : Pos} {elts : List Expr} {kk : Nat} (hg : Gl X "zip") (hm : X.mg "zip" = none) (ha : SA X W [e, e2] t)
    (hs : starEach [e, e2] X.env = (false, eval e X.env) :: starEach [e2] X.env := by rfl) (hpl : (backTo pos (starEach [e2] X.env)).any (·.1) = false := by rfl) :
    SI X W (.Tuple elts kk tpos) (.Call (.Name "zip" p) [e, e2] [] pos) (iZp t) := by
  refine pi_imp (RZ.pi_zipA hg hm ha hs hpl) fun σ H Q ⟨g, F, ρ, r, h⟩ => ?_
  refine ⟨g, F, ρ, r, ?_⟩
  unfold iZp at h
  split at h
  · rename_i xs ys ρ1 e1
    rw [e1]
    intro vs F1 H1 s1 r1 p1
    obtain ⟨v, u, rfl, pv, pu⟩ := rps2 p1
    cases pv with
    | @lst a v1 _ h1 h2 =>
      cases pu with
      | @lst b v2 _ h3 h4 =>
        refine ⟨a, b, v1, v2, rfl, .inl ⟨SqL.of (r1.sF _ _ h1), SqL.of (r1.sF _ _ h3), h _ F1 H1 s1 r1 ?_⟩⟩
        intro F' H' t1 t2 i
        have k1 : SqL X.K H' a v1 := SqL.of (t2 _ _ (t1 _ _ h1))
        have k2 : SqL X.K H' b v2 := SqL.of (t2 _ _ (t1 _ _ h3))
        refine ⟨fun d ed => ?_, fun hi => ⟨v1, v2, k1, k2, ?_⟩⟩
        · obtain ⟨dx, dy, g1, g2, rfl⟩ := zipD_get xs ys i d ed
          obtain ⟨x, g3, px⟩ := h2.get g1
          obtain ⟨y, g4, py⟩ := h4.get g2
          refine ⟨⟨v1, v2, x, y, k1, k2, g3, g4⟩, fun w H'' hy => ?_⟩
          obtain ⟨T, x', y', rfl, hT, rfl, q1, q2⟩ := hy
          have := q1 v1 k1
          rw [g3] at this
          cases this
          have := q2 v2 k2
          rw [g4] at this
          cases this
          exact pair_grow t2 hT (px.mono t1) (py.mono t1)
        · rw [zipD_len] at hi
          have := h2.length
          have := h4.length
          omega
  · rename_i xs ys ρ1 e1
    rw [e1]
    intro vs F1 H1 s1 r1 p1
    obtain ⟨v, u, rfl, pv, pu⟩ := rps2 p1
    cases pv with
    | @tup a v1 _ h1 h2 =>
      cases pu with
      | @tup b v2 _ h3 h4 =>
        refine ⟨a, b, v1, v2, rfl, .inr ⟨sameT r1.sF h1, sameT r1.sF h3, h _ F1 H1 s1 r1 ?_⟩⟩
        intro F' H' t1 t2 i
        have k1 : SqT X.K H' a v1 := sameT t2 (sameT t1 h1)
        have k2 : SqT X.K H' b v2 := sameT t2 (sameT t1 h3)
        refine ⟨fun d ed => ?_, fun hi => ⟨v1, v2, k1, k2, ?_⟩⟩
        · obtain ⟨dx, dy, g1, g2, rfl⟩ := zipD_get xs ys i d ed
          obtain ⟨x, g3, px⟩ := h2.get g1
          obtain ⟨y, g4, py⟩ := h4.get g2
          refine ⟨⟨v1, v2, x, y, k1, k2, g3, g4⟩, fun w H'' hy => ?_⟩
          obtain ⟨T, x', y', rfl, hT, rfl, q1, q2⟩ := hy
          have := q1 v1 k1
          rw [g3] at this
          cases this
          have := q2 v2 k2
          rw [g4] at this
          cases this
          exact pair_grow t2 hT (px.mono t1) (py.mono t1)
        · rw [zipD_len] at hi
          have := h2.length
          have := h4.length
          omega
  · rename_i x ρ1 e1
    rw [e1]
    exact h
  · exact h.elim
def enumD : Nat → List PyData → List PyData
  | _, [] => []
  | n, x :: xs => .tuple [.int (n : Nat), x] :: enumD (n + 1) xs
theorem enumD_len : ∀ (xs : List PyData) (n : Nat), (enumD n xs).length = xs.length
  | [], _ => rfl
  | x :: xs, n => by simp [enumD, enumD_len xs]
theorem enumD_get : ∀ (xs : List PyData) (n i : Nat) (d : PyData), (enumD n xs)[i]? = some d → ∃ x, xs[i]? = some x ∧ d = .tuple [.int ((n + i : Nat) : Int), x]
  | [], n, i, d, h => by simp [enumD] at h
  | x :: xs, n, 0, d, h => by
    simp [enumD] at h
    exact ⟨x, rfl, by rw [← h]; rfl⟩
  | x :: xs, n, i + 1, d, h => by
    simp only [enumD, List.getElem?_cons_succ] at h ⊢
    obtain ⟨y, e1, e2⟩ := enumD_get xs (n + 1) i d h
    refine ⟨y, e1, ?_⟩
    rw [e2, show n + 1 + i = n + (i + 1) by omega]
def iEn (t : Rho → AOut) : Rho → IOut := fun ρ => match t ρ with
  | .ok [.list xs] r => .ok (enumD 0 xs) r
  | .er x r => .er x r
  | _ => .no
theorem si_enum {p pos tpos : Pos} {elts : List Expr} {kk : Nat} (hg : Gl X "enumerate") (hm : X.mg "enumerate" = none) (ha : SA X W [e] t) (hs : starEach [e] X.env = [(false, eval e X.env)] := by rfl) :
    SI X W (.Tuple elts kk tpos) (.Call (.Name "enumerate" p) [e] [] pos) (iEn t) := by
  refine pi_imp (pi_enum hg hm ha hs) fun σ H Q ⟨g, F, ρ, r, h⟩ => ?_
  refine ⟨g, F, ρ, r, ?_⟩
  unfold iEn at h
  split at h
  · rename_i xs ρ1 e1
    rw [e1]
    intro vs F1 H1 s1 r1 p1
    obtain ⟨v, rfl, pv⟩ := rps1 p1
    cases pv with
    | @lst a v1 _ h1 h2 =>
      refine ⟨a, v1, rfl, SqL.of (r1.sF _ _ h1), h _ F1 H1 s1 r1 ?_⟩
      intro F' H' t1 t2 i
      have k1 : SqL X.K H' a v1 := SqL.of (t2 _ _ (t1 _ _ h1))
      refine ⟨fun d ed => ?_, fun hi => ⟨v1, k1, ?_⟩⟩
      · obtain ⟨dx, g1, rfl⟩ := enumD_get xs 0 i d ed
        obtain ⟨x, g3, px⟩ := h2.get g1
        refine ⟨⟨v1, x, k1, g3⟩, fun w H'' hy => ?_⟩
        obtain ⟨T, x', rfl, hT, rfl, q1⟩ := hy
        have := q1 v1 k1
        rw [g3] at this
        cases this
        rw [Nat.zero_add]
        exact pair_grow t2 hT (.int _) (px.mono t1)
      · rw [enumD_len] at hi
        have := h2.length
        omega
  · rename_i x ρ1 e1
    rw [e1]
    exact h
  · exact h.elim
end
end Fl
set_option Elab.async false
set_option autoImplicit false
set_option linter.all false
set_option maxRecDepth 100000
set_option maxHeartbeats 4000000
/-! Fl12: small ends. -/
namespace Fl
open PySem PySem.Spec PyProof.Rows L2
/-- the def st of the text stands under the module's name x -/
structure DefF (K : PySem.W.Frag) (mg : Str → Option Value) (x : Str) (st : Stmt) : Prop where
  ex : ∃ f fd, Fun K x x st f fd ∧ mg x = some (.ref f)
/-- x is an error's class without an __init__ of its own -/
structure ExcG (K : PySem.W.Frag) (mg : Str → Option Value) (x : Str) : Prop where
  ex : ∃ C, mg x = some (.ref C) ∧ PySem.W.excIn K C [.type "ValueError", .type "Exception", .type "BaseException", .type "object"] "ValueError.__new__" = true ∧ PySem.W.keepIn K (.ref C) = true ∧
    PySem.W.subIn K (.ref C) (.type "BaseException") = some true ∧ PySem.W.typeIn K (.ref C) = some (.type "type")
def eYes : Rho → Out := fun ρ => .ok (.bool true) ρ
section
variable {X : Cx} {W : WX} {a : Expr} {fa : Rho → Out} {pos : Pos}
theorem pts_yes : PTs X [] (RT X.K X.mg W eYes) := ⟨fun _ _ _ H Q I ⟨g, F, ρ, r, h⟩ => wpAny_tests_nil ⟨H, I, h F H (Same.refl _) r⟩⟩
def eNeg (fa : Rho → Out) : Rho → Out := bnd fa fun x => lift (pNeg x)
theorem se_neg (ha : SE X W a fa) : SE X W (.UnaryOp .USub a pos) (eNeg fa) := by
  refine pe_imp (pe_un o_neg ha) fun σ H Q ⟨g, F, ρ, rr, h⟩ => ?_
  refine re_then rr h fun v F1 H1 ρ1 x s1 r1 p1 h1 => ?_
  obtain ⟨z, e, q⟩ := lift_af h1
  exact ⟨F1, x, z, r1.sF, p1, e, fun w F' H' gr pw => q w F' H' gr.f (r1.grow gr) pw⟩
theorem ss_raiseG {x m : Str} {j : Nat} {p p2 pos2 : Pos} (hc : X.calm = true) (tk : Takes X W) (G : ExcG X.K X.mg x) (hg : Gl X x) (hdb : (x == ("__debug__" : Str)) = false := by decide) : SS X W (.Raise (some (.Call (.Name x p) [.Constant (.str m) j p2] [] pos)) none pos2) (sRaise x) := by
  obtain ⟨C, gC, xC, kC, bC, tC⟩ := G.ex
  exact ss_raise hc tk PySem.F.excBase_ValueError xC gC kC (raises_own bC tC) hg hdb
end
end Fl
set_option Elab.async false
set_option autoImplicit false
set_option linter.all false
set_option maxRecDepth 100000
set_option maxHeartbeats 4000000
/-! Fl13: a, b = e1, e2; a, b, c = e1, e2, e3; t[::-1]. -/
namespace Fl
open PySem PySem.Spec PyProof.Rows L2
/-- a value is put into a slot: as data, or (true) as a list that is owned -/
def putM (m : Bool) (i : Nat) (d : PyData) (ρ : Rho) : Option Rho := match m, d with
  | false, d => some (ρ.set i (some (.d d)))
  | true, .list ds => if i < ρ.length then some (ρ.set i (some (.o ds))) else none
  | true, _ => none
def sPar2 (m1 m2 : Bool) (i j : Nat) (fa fb : Rho → Out) : Rho → SOut := bndS fa fun d1 => bndS fb fun d2 ρ => match putM m1 i d1 ρ with
  | none => .no
  | some ρ1 => match putM m2 j d2 ρ1 with
    | none => .no
    | some ρ2 => .nx ρ2
def sPar3 (m1 m2 m3 : Bool) (i j l : Nat) (fa fb fc : Rho → Out) : Rho → SOut := bndS fa fun d1 => bndS fb fun d2 => bndS fc fun d3 ρ => match putM m1 i d1 ρ with
  | none => .no
  | some ρ1 => match putM m2 j d2 ρ1 with
    | none => .no
    | some ρ2 => match putM m3 l d3 ρ2 with
      | none => .no
      | some ρ3 => .nx ρ3
section
variable {K : PySem.W.Frag} {g : Gd} {F F' H H' : Hp} {σ : L2.St} {ρ : Rho}
theorem R.sub {l : List (Addr × HO)} (r : R K g F H σ ρ) (h : ∀ q ∈ l, q ∈ g.held) : R K { g with held := l } F H σ ρ :=
  ⟨r.sF, r.s0, r.fresh, r.keep, r.pin, r.pinH, fun q hq => r.held q (h q hq), r.slot, r.own, r.inj, r.len, fun q hq => r.heldN q (h q hq), r.tab⟩
theorem putM_d {i : Nat} {d : PyData} {ρ ρ' : Rho} (h : putM false i d ρ = some ρ') : ρ' = ρ.set i (some (.d d)) := by
  cases d <;> exact (Option.some.inj h).symm
theorem putM_o {i : Nat} {ds : List PyData} {ρ ρ' : Rho} (h : putM true i (.list ds) ρ = some ρ') : i < ρ.length ∧ ρ' = ρ.set i (some (.o ds)) := by
  by_cases hl : i < ρ.length
  · simp only [putM, hl, if_true, Option.some.injEq] at h
    exact ⟨hl, h.symm⟩
  · simp only [putM, hl, if_false] at h
    cases h
end
section
variable {X : Cx} {W : WX} {a b c : Expr} {fa fb fc : Rho → Out} {pos : Pos} {i j l : Nat} {x y z : Str} {px py pz pt pt2 : Pos} {kt k2 : Nat}
theorem ss_par_dd (hc : X.calm = true) (hN : X.N.Nodup) (hi : X.N[i]? = some x) (hj : X.N[j]? = some y) (hij : i ≠ j) (hx : X.env.scope.names.lookup x = some .local) (hy : X.env.scope.names.lookup y = some .local) (h1 : SE X W a fa) (h2 : SE X W b fb) (hw : swappedStores [.Tuple [.Name x px, .Name y py] kt pt] (.Tuple [a, b] k2 pt2) X.env = pure (some [x, y]) := by rfl) (hs : swapsWithSole [.Tuple [.Name x px, .Name y py] kt pt] (.Tuple [a, b] k2 pt2) pos.line X.env = pure false := by rfl) (hst1 : starEach [a, b] X.env = (false, eval a X.env) :: starEach [b] X.env := by rfl) (hst2 : starEach [b] X.env = (false, eval b X.env) :: starEach [] X.env := by rfl) :
    SS X W (.Assign [.Tuple [.Name x px, .Name y py] kt pt] (.Tuple [a, b] k2 pt2) pos) (sPar2 false false i j fa fb) := by
  refine ps_imp (ps_par hc hN hi hj hij hx hy (pa_cons h1 (pa_cons h2 pa_nil hst2) hst1) hw hs) fun D σ H ⟨g, F0, ρ0, r0, h⟩ => ?_
  unfold sPar2 bndS at h
  refine ⟨g, F0, ρ0, r0, ?_⟩
  cases e1 : fa ρ0 with
  | er w ρ9 => simp only [e1] at h; exact fun cc dd F9 H9 s9 q x9 => h cc dd σ F9 H9 s9 (q) x9
  | no => simp only [e1] at h; exact h.elim
  | ok d1 ρ1 =>
    simp only [e1] at h
    intro v1 F1 H1 s1 r1 p1
    replace h := AfS.mono s1 h
    refine ⟨g, F1, ρ1, r1, ?_⟩
    cases e2 : fb ρ1 with
    | er w ρ9 => simp only [e2] at h; exact fun cc dd F9 H9 s9 q x9 => h cc dd σ F9 H9 s9 (q) x9
    | no => simp only [e2] at h; exact h.elim
    | ok d2 ρ2 =>
      simp only [e2] at h
      intro v2 F2 H2 s2 r2 p2
      replace h := AfS.mono s2 h
      refine ⟨v1, v2, rfl, ?_⟩
      replace p1 := p1.mono s2
      have w0 := r2
      cases t1 : putM false i d1 ρ2 with
      | none => simp only [t1] at h; exact h.elim
      | some τ1 =>
        simp only [t1] at h
        have u1 := putM_d t1
        have w1 := w0.setD (i := i) p1
        rw [← u1] at w1
        cases t2 : putM false j d2 τ1 with
        | none => simp only [t2] at h; exact h.elim
        | some τ2 =>
          simp only [t2] at h
          have u2 := putM_d t2
          have w2 := w1.setD (i := j) p2
          rw [← u2] at w2
          exact h _ F2 H2 (Same.refl _) w2
theorem ss_par_do (hc : X.calm = true) (hN : X.N.Nodup) (hi : X.N[i]? = some x) (hj : X.N[j]? = some y) (hij : i ≠ j) (hx : X.env.scope.names.lookup x = some .local) (hy : X.env.scope.names.lookup y = some .local) (h1 : SE X W a fa) (h2 : SL X W b fb) (gv2 : GivesL fb) (z2 : j ≠ 0) (hw : swappedStores [.Tuple [.Name x px, .Name y py] kt pt] (.Tuple [a, b] k2 pt2) X.env = pure (some [x, y]) := by rfl) (hs : swapsWithSole [.Tuple [.Name x px, .Name y py] kt pt] (.Tuple [a, b] k2 pt2) pos.line X.env = pure false := by rfl) (hst1 : starEach [a, b] X.env = (false, eval a X.env) :: starEach [b] X.env := by rfl) (hst2 : starEach [b] X.env = (false, eval b X.env) :: starEach [] X.env := by rfl) :
    SS X W (.Assign [.Tuple [.Name x px, .Name y py] kt pt] (.Tuple [a, b] k2 pt2) pos) (sPar2 false true i j fa fb) := by
  refine ps_imp (ps_par hc hN hi hj hij hx hy (pa_cons h1 (pa_cons h2 pa_nil hst2) hst1) hw hs) fun D σ H ⟨g, F0, ρ0, r0, h⟩ => ?_
  unfold sPar2 bndS at h
  refine ⟨g, F0, ρ0, r0, ?_⟩
  cases e1 : fa ρ0 with
  | er w ρ9 => simp only [e1] at h; exact fun cc dd F9 H9 s9 q x9 => h cc dd σ F9 H9 s9 (q) x9
  | no => simp only [e1] at h; exact h.elim
  | ok d1 ρ1 =>
    simp only [e1] at h
    intro v1 F1 H1 s1 r1 p1
    replace h := AfS.mono s1 h
    refine ⟨g, F1, ρ1, r1, ?_⟩
    cases e2 : fb ρ1 with
    | er w ρ9 => simp only [e2] at h; exact fun cc dd F9 H9 s9 q x9 => h cc dd σ F9 H9 s9 (q) x9
    | no => simp only [e2] at h; exact h.elim
    | ok d2 ρ2 =>
      simp only [e2] at h
      obtain ⟨ds2, rfl⟩ := gv2 _ _ _ e2
      intro a2 vs2 F2 H2 s2 r2 nd2 np2 p2
      replace h := AfS.mono s2 h
      refine ⟨v1, .ref a2, rfl, ?_⟩
      replace p1 := p1.mono s2
      have w0 := r2
      cases t1 : putM false i d1 ρ2 with
      | none => simp only [t1] at h; exact h.elim
      | some τ1 =>
        simp only [t1] at h
        have u1 := putM_d t1
        have w1 := w0.setD (i := i) p1
        rw [← u1] at w1
        cases t2 : putM true j (.list ds2) τ1 with
        | none => simp only [t2] at h; exact h.elim
        | some τ2 =>
          simp only [t2] at h
          obtain ⟨hl2, u2⟩ := putM_o t2
          have w2 := R.setO (g := { g with held := g.held }) (i := j) w1 (fun q hq => by
              exact nd2 q (by simp [hq])
              ) np2 p2 z2 hl2
          rw [← u2] at w2
          exact h _ F2 H2 (Same.refl _) w2
theorem ss_par_od (hc : X.calm = true) (hN : X.N.Nodup) (hi : X.N[i]? = some x) (hj : X.N[j]? = some y) (hij : i ≠ j) (hx : X.env.scope.names.lookup x = some .local) (hy : X.env.scope.names.lookup y = some .local) (h1 : SL X W a fa) (gv1 : GivesL fa) (z1 : i ≠ 0) (h2 : SE X W b fb) (hw : swappedStores [.Tuple [.Name x px, .Name y py] kt pt] (.Tuple [a, b] k2 pt2) X.env = pure (some [x, y]) := by rfl) (hs : swapsWithSole [.Tuple [.Name x px, .Name y py] kt pt] (.Tuple [a, b] k2 pt2) pos.line X.env = pure false := by rfl) (hst1 : starEach [a, b] X.env = (false, eval a X.env) :: starEach [b] X.env := by rfl) (hst2 : starEach [b] X.env = (false, eval b X.env) :: starEach [] X.env := by rfl) :
    SS X W (.Assign [.Tuple [.Name x px, .Name y py] kt pt] (.Tuple [a, b] k2 pt2) pos) (sPar2 true false i j fa fb) := by
  refine ps_imp (ps_par hc hN hi hj hij hx hy (pa_cons h1 (pa_cons h2 pa_nil hst2) hst1) hw hs) fun D σ H ⟨g, F0, ρ0, r0, h⟩ => ?_
  unfold sPar2 bndS at h
  refine ⟨g, F0, ρ0, r0, ?_⟩
  cases e1 : fa ρ0 with
  | er w ρ9 => simp only [e1] at h; exact fun cc dd F9 H9 s9 q x9 => h cc dd σ F9 H9 s9 (q) x9
  | no => simp only [e1] at h; exact h.elim
  | ok d1 ρ1 =>
    simp only [e1] at h
    obtain ⟨ds1, rfl⟩ := gv1 _ _ _ e1
    intro a1 vs1 F1 H1 s1 r1 nd1 np1 p1
    replace h := AfS.mono s1 h
    refine ⟨{ g with held := (a1, .lst vs1) :: g.held }, F1, ρ1, r1, ?_⟩
    cases e2 : fb ρ1 with
    | er w ρ9 => simp only [e2] at h; exact fun cc dd F9 H9 s9 q x9 => h cc dd σ F9 H9 s9 (show R X.K g F9 H9 σ ρ9 from R.sub (g := { g with held := (a1, .lst vs1) :: g.held }) (l := g.held) q (fun _ h => List.mem_cons_of_mem _ (h))) x9
    | no => simp only [e2] at h; exact h.elim
    | ok d2 ρ2 =>
      simp only [e2] at h
      intro v2 F2 H2 s2 r2 p2
      replace h := AfS.mono s2 h
      refine ⟨.ref a1, v2, rfl, ?_⟩
      replace p1 := p1.mono s2
      have w0 := r2
      cases t1 : putM true i (.list ds1) ρ2 with
      | none => simp only [t1] at h; exact h.elim
      | some τ1 =>
        simp only [t1] at h
        obtain ⟨hl1, u1⟩ := putM_o t1
        have w1 := R.setO (g := { g with held := g.held }) (i := i) w0 (fun q hq => by
            exact nd1 q (by simp [hq])
            ) np1 p1 z1 hl1
        rw [← u1] at w1
        cases t2 : putM false j d2 τ1 with
        | none => simp only [t2] at h; exact h.elim
        | some τ2 =>
          simp only [t2] at h
          have u2 := putM_d t2
          have w2 := w1.setD (i := j) p2
          rw [← u2] at w2
          exact h _ F2 H2 (Same.refl _) w2
theorem ss_par_oo (hc : X.calm = true) (hN : X.N.Nodup) (hi : X.N[i]? = some x) (hj : X.N[j]? = some y) (hij : i ≠ j) (hx : X.env.scope.names.lookup x = some .local) (hy : X.env.scope.names.lookup y = some .local) (h1 : SL X W a fa) (gv1 : GivesL fa) (z1 : i ≠ 0) (h2 : SL X W b fb) (gv2 : GivesL fb) (z2 : j ≠ 0) (hw : swappedStores [.Tuple [.Name x px, .Name y py] kt pt] (.Tuple [a, b] k2 pt2) X.env = pure (some [x, y]) := by rfl) (hs : swapsWithSole [.Tuple [.Name x px, .Name y py] kt pt] (.Tuple [a, b] k2 pt2) pos.line X.env = pure false := by rfl) (hst1 : starEach [a, b] X.env = (false, eval a X.env) :: starEach [b] X.env := by rfl) (hst2 : starEach [b] X.env = (false, eval b X.env) :: starEach [] X.env := by rfl) :
    SS X W (.Assign [.Tuple [.Name x px, .Name y py] kt pt] (.Tuple [a, b] k2 pt2) pos) (sPar2 true true i j fa fb) := by
  refine ps_imp (ps_par hc hN hi hj hij hx hy (pa_cons h1 (pa_cons h2 pa_nil hst2) hst1) hw hs) fun D σ H ⟨g, F0, ρ0, r0, h⟩ => ?_
  unfold sPar2 bndS at h
  refine ⟨g, F0, ρ0, r0, ?_⟩
  cases e1 : fa ρ0 with
  | er w ρ9 => simp only [e1] at h; exact fun cc dd F9 H9 s9 q x9 => h cc dd σ F9 H9 s9 (q) x9
  | no => simp only [e1] at h; exact h.elim
  | ok d1 ρ1 =>
    simp only [e1] at h
    obtain ⟨ds1, rfl⟩ := gv1 _ _ _ e1
    intro a1 vs1 F1 H1 s1 r1 nd1 np1 p1
    replace h := AfS.mono s1 h
    refine ⟨{ g with held := (a1, .lst vs1) :: g.held }, F1, ρ1, r1, ?_⟩
    cases e2 : fb ρ1 with
    | er w ρ9 => simp only [e2] at h; exact fun cc dd F9 H9 s9 q x9 => h cc dd σ F9 H9 s9 (show R X.K g F9 H9 σ ρ9 from R.sub (g := { g with held := (a1, .lst vs1) :: g.held }) (l := g.held) q (fun _ h => List.mem_cons_of_mem _ (h))) x9
    | no => simp only [e2] at h; exact h.elim
    | ok d2 ρ2 =>
      simp only [e2] at h
      obtain ⟨ds2, rfl⟩ := gv2 _ _ _ e2
      intro a2 vs2 F2 H2 s2 r2 nd2 np2 p2
      replace h := AfS.mono s2 h
      refine ⟨.ref a1, .ref a2, rfl, ?_⟩
      replace p1 := p1.mono s2
      have w0 := r2
      replace w0 := R.sub (l := (a1, HO.lst vs1) :: (a2, HO.lst vs2) :: g.held) w0 (by intro q hq; simp only [List.mem_cons] at hq ⊢; rcases hq with h | h | h <;> simp [h])
      cases t1 : putM true i (.list ds1) ρ2 with
      | none => simp only [t1] at h; exact h.elim
      | some τ1 =>
        simp only [t1] at h
        obtain ⟨hl1, u1⟩ := putM_o t1
        have w1 := R.setO (g := { g with held := (a2, HO.lst vs2) :: g.held }) (i := i) w0 (fun q hq => by
            simp only [List.mem_cons] at hq
            rcases hq with h | h
            · subst h; exact fun z => nd2 (a1, .lst vs1) (by simp) z.symm
            · exact nd1 q (by simp [h])
            ) np1 p1 z1 hl1
        rw [← u1] at w1
        cases t2 : putM true j (.list ds2) τ1 with
        | none => simp only [t2] at h; exact h.elim
        | some τ2 =>
          simp only [t2] at h
          obtain ⟨hl2, u2⟩ := putM_o t2
          have w2 := R.setO (g := { g with held := g.held }) (i := j) w1 (fun q hq => by
              exact nd2 q (by simp [hq])
              ) np2 p2 z2 hl2
          rw [← u2] at w2
          exact h _ F2 H2 (Same.refl _) w2
theorem ss_par_ddd (hc : X.calm = true) (hN : X.N.Nodup) (hi : X.N[i]? = some x) (hj : X.N[j]? = some y) (hl : X.N[l]? = some z) (hij : i ≠ j) (hil : i ≠ l) (hjl : j ≠ l) (hx : X.env.scope.names.lookup x = some .local) (hy : X.env.scope.names.lookup y = some .local) (hz : X.env.scope.names.lookup z = some .local) (h1 : SE X W a fa) (h2 : SE X W b fb) (h3 : SE X W c fc) (hw : swappedStores [.Tuple [.Name x px, .Name y py, .Name z pz] kt pt] (.Tuple [a, b, c] k2 pt2) X.env = pure (some [x, y, z]) := by rfl) (hs : swapsWithSole [.Tuple [.Name x px, .Name y py, .Name z pz] kt pt] (.Tuple [a, b, c] k2 pt2) pos.line X.env = pure false := by rfl) (hst1 : starEach [a, b, c] X.env = (false, eval a X.env) :: starEach [b, c] X.env := by rfl) (hst2 : starEach [b, c] X.env = (false, eval b X.env) :: starEach [c] X.env := by rfl) (hst3 : starEach [c] X.env = (false, eval c X.env) :: starEach [] X.env := by rfl) :
    SS X W (.Assign [.Tuple [.Name x px, .Name y py, .Name z pz] kt pt] (.Tuple [a, b, c] k2 pt2) pos) (sPar3 false false false i j l fa fb fc) := by
  refine ps_imp (ps_par3 hc hN hi hj hl hij hil hjl hx hy hz (pa_cons h1 (pa_cons h2 (pa_cons h3 pa_nil hst3) hst2) hst1) hw hs) fun D σ H ⟨g, F0, ρ0, r0, h⟩ => ?_
  unfold sPar3 bndS at h
  refine ⟨g, F0, ρ0, r0, ?_⟩
  cases e1 : fa ρ0 with
  | er w ρ9 => simp only [e1] at h; exact fun cc dd F9 H9 s9 q x9 => h cc dd σ F9 H9 s9 (q) x9
  | no => simp only [e1] at h; exact h.elim
  | ok d1 ρ1 =>
    simp only [e1] at h
    intro v1 F1 H1 s1 r1 p1
    replace h := AfS.mono s1 h
    refine ⟨g, F1, ρ1, r1, ?_⟩
    cases e2 : fb ρ1 with
    | er w ρ9 => simp only [e2] at h; exact fun cc dd F9 H9 s9 q x9 => h cc dd σ F9 H9 s9 (q) x9
    | no => simp only [e2] at h; exact h.elim
    | ok d2 ρ2 =>
      simp only [e2] at h
      intro v2 F2 H2 s2 r2 p2
      replace h := AfS.mono s2 h
      refine ⟨g, F2, ρ2, r2, ?_⟩
      cases e3 : fc ρ2 with
      | er w ρ9 => simp only [e3] at h; exact fun cc dd F9 H9 s9 q x9 => h cc dd σ F9 H9 s9 (q) x9
      | no => simp only [e3] at h; exact h.elim
      | ok d3 ρ3 =>
        simp only [e3] at h
        intro v3 F3 H3 s3 r3 p3
        replace h := AfS.mono s3 h
        refine ⟨v1, v2, v3, rfl, ?_⟩
        replace p1 := p1.mono s2
        replace p1 := p1.mono s3
        replace p2 := p2.mono s3
        have w0 := r3
        cases t1 : putM false i d1 ρ3 with
        | none => simp only [t1] at h; exact h.elim
        | some τ1 =>
          simp only [t1] at h
          have u1 := putM_d t1
          have w1 := w0.setD (i := i) p1
          rw [← u1] at w1
          cases t2 : putM false j d2 τ1 with
          | none => simp only [t2] at h; exact h.elim
          | some τ2 =>
            simp only [t2] at h
            have u2 := putM_d t2
            have w2 := w1.setD (i := j) p2
            rw [← u2] at w2
            cases t3 : putM false l d3 τ2 with
            | none => simp only [t3] at h; exact h.elim
            | some τ3 =>
              simp only [t3] at h
              have u3 := putM_d t3
              have w3 := w2.setD (i := l) p3
              rw [← u3] at w3
              exact h _ F3 H3 (Same.refl _) w3
theorem ss_par_ddo (hc : X.calm = true) (hN : X.N.Nodup) (hi : X.N[i]? = some x) (hj : X.N[j]? = some y) (hl : X.N[l]? = some z) (hij : i ≠ j) (hil : i ≠ l) (hjl : j ≠ l) (hx : X.env.scope.names.lookup x = some .local) (hy : X.env.scope.names.lookup y = some .local) (hz : X.env.scope.names.lookup z = some .local) (h1 : SE X W a fa) (h2 : SE X W b fb) (h3 : SL X W c fc) (gv3 : GivesL fc) (z3 : l ≠ 0) (hw : swappedStores [.Tuple [.Name x px, .Name y py, .Name z pz] kt pt] (.Tuple [a, b, c] k2 pt2) X.env = pure (some [x, y, z]) := by rfl) (hs : swapsWithSole [.Tuple [.Name x px, .Name y py, .Name z pz] kt pt] (.Tuple [a, b, c] k2 pt2) pos.line X.env = pure false := by rfl) (hst1 : starEach [a, b, c] X.env = (false, eval a X.env) :: starEach [b, c] X.env := by rfl) (hst2 : starEach [b, c] X.env = (false, eval b X.env) :: starEach [c] X.env := by rfl) (hst3 : starEach [c] X.env = (false, eval c X.env) :: starEach [] X.env := by rfl) :
    SS X W (.Assign [.Tuple [.Name x px, .Name y py, .Name z pz] kt pt] (.Tuple [a, b, c] k2 pt2) pos) (sPar3 false false true i j l fa fb fc) := by
  refine ps_imp (ps_par3 hc hN hi hj hl hij hil hjl hx hy hz (pa_cons h1 (pa_cons h2 (pa_cons h3 pa_nil hst3) hst2) hst1) hw hs) fun D σ H ⟨g, F0, ρ0, r0, h⟩ => ?_
  unfold sPar3 bndS at h
  refine ⟨g, F0, ρ0, r0, ?_⟩
  cases e1 : fa ρ0 with
  | er w ρ9 => simp only [e1] at h; exact fun cc dd F9 H9 s9 q x9 => h cc dd σ F9 H9 s9 (q) x9
  | no => simp only [e1] at h; exact h.elim
  | ok d1 ρ1 =>
    simp only [e1] at h
    intro v1 F1 H1 s1 r1 p1
    replace h := AfS.mono s1 h
    refine ⟨g, F1, ρ1, r1, ?_⟩
    cases e2 : fb ρ1 with
    | er w ρ9 => simp only [e2] at h; exact fun cc dd F9 H9 s9 q x9 => h cc dd σ F9 H9 s9 (q) x9
    | no => simp only [e2] at h; exact h.elim
    | ok d2 ρ2 =>
      simp only [e2] at h
      intro v2 F2 H2 s2 r2 p2
      replace h := AfS.mono s2 h
      refine ⟨g, F2, ρ2, r2, ?_⟩
      cases e3 : fc ρ2 with
      | er w ρ9 => simp only [e3] at h; exact fun cc dd F9 H9 s9 q x9 => h cc dd σ F9 H9 s9 (q) x9
      | no => simp only [e3] at h; exact h.elim
      | ok d3 ρ3 =>
        simp only [e3] at h
        obtain ⟨ds3, rfl⟩ := gv3 _ _ _ e3
        intro a3 vs3 F3 H3 s3 r3 nd3 np3 p3
        replace h := AfS.mono s3 h
        refine ⟨v1, v2, .ref a3, rfl, ?_⟩
        replace p1 := p1.mono s2
        replace p1 := p1.mono s3
        replace p2 := p2.mono s3
        have w0 := r3
        cases t1 : putM false i d1 ρ3 with
        | none => simp only [t1] at h; exact h.elim
        | some τ1 =>
          simp only [t1] at h
          have u1 := putM_d t1
          have w1 := w0.setD (i := i) p1
          rw [← u1] at w1
          cases t2 : putM false j d2 τ1 with
          | none => simp only [t2] at h; exact h.elim
          | some τ2 =>
            simp only [t2] at h
            have u2 := putM_d t2
            have w2 := w1.setD (i := j) p2
            rw [← u2] at w2
            cases t3 : putM true l (.list ds3) τ2 with
            | none => simp only [t3] at h; exact h.elim
            | some τ3 =>
              simp only [t3] at h
              obtain ⟨hl3, u3⟩ := putM_o t3
              have w3 := R.setO (g := { g with held := g.held }) (i := l) w2 (fun q hq => by
                  exact nd3 q (by simp [hq])
                  ) np3 p3 z3 hl3
              rw [← u3] at w3
              exact h _ F3 H3 (Same.refl _) w3
theorem ss_par_dod (hc : X.calm = true) (hN : X.N.Nodup) (hi : X.N[i]? = some x) (hj : X.N[j]? = some y) (hl : X.N[l]? = some z) (hij : i ≠ j) (hil : i ≠ l) (hjl : j ≠ l) (hx : X.env.scope.names.lookup x = some .local) (hy : X.env.scope.names.lookup y = some .local) (hz : X.env.scope.names.lookup z = some .local) (h1 : SE X W a fa) (h2 : SL X W b fb) (gv2 : GivesL fb) (z2 : j ≠ 0) (h3 : SE X W c fc) (hw : swappedStores [.Tuple [.Name x px, .Name y py, .Name z pz] kt pt] (.Tuple [a, b, c] k2 pt2) X.env = pure (some [x, y, z]) := by rfl) (hs : swapsWithSole [.Tuple [.Name x px, .Name y py, .Name z pz] kt pt] (.Tuple [a, b, c] k2 pt2) pos.line X.env = pure false := by rfl) (hst1 : starEach [a, b, c] X.env = (false, eval a X.env) :: starEach [b, c] X.env := by rfl) (hst2 : starEach [b, c] X.env = (false, eval b X.env) :: starEach [c] X.env := by rfl) (hst3 : starEach [c] X.env = (false, eval c X.env) :: starEach [] X.env := by rfl) :
    SS X W (.Assign [.Tuple [.Name x px, .Name y py, .Name z pz] kt pt] (.Tuple [a, b, c] k2 pt2) pos) (sPar3 false true false i j l fa fb fc) := by
  refine ps_imp (ps_par3 hc hN hi hj hl hij hil hjl hx hy hz (pa_cons h1 (pa_cons h2 (pa_cons h3 pa_nil hst3) hst2) hst1) hw hs) fun D σ H ⟨g, F0, ρ0, r0, h⟩ => ?_
  unfold sPar3 bndS at h
  refine ⟨g, F0, ρ0, r0, ?_⟩
  cases e1 : fa ρ0 with
  | er w ρ9 => simp only [e1] at h; exact fun cc dd F9 H9 s9 q x9 => h cc dd σ F9 H9 s9 (q) x9
  | no => simp only [e1] at h; exact h.elim
  | ok d1 ρ1 =>
    simp only [e1] at h
    intro v1 F1 H1 s1 r1 p1
    replace h := AfS.mono s1 h
    refine ⟨g, F1, ρ1, r1, ?_⟩
    cases e2 : fb ρ1 with
    | er w ρ9 => simp only [e2] at h; exact fun cc dd F9 H9 s9 q x9 => h cc dd σ F9 H9 s9 (q) x9
    | no => simp only [e2] at h; exact h.elim
    | ok d2 ρ2 =>
      simp only [e2] at h
      obtain ⟨ds2, rfl⟩ := gv2 _ _ _ e2
      intro a2 vs2 F2 H2 s2 r2 nd2 np2 p2
      replace h := AfS.mono s2 h
      refine ⟨{ g with held := (a2, .lst vs2) :: g.held }, F2, ρ2, r2, ?_⟩
      cases e3 : fc ρ2 with
      | er w ρ9 => simp only [e3] at h; exact fun cc dd F9 H9 s9 q x9 => h cc dd σ F9 H9 s9 (show R X.K g F9 H9 σ ρ9 from R.sub (g := { g with held := (a2, .lst vs2) :: g.held }) (l := g.held) q (fun _ h => List.mem_cons_of_mem _ (h))) x9
      | no => simp only [e3] at h; exact h.elim
      | ok d3 ρ3 =>
        simp only [e3] at h
        intro v3 F3 H3 s3 r3 p3
        replace h := AfS.mono s3 h
        refine ⟨v1, .ref a2, v3, rfl, ?_⟩
        replace p1 := p1.mono s2
        replace p1 := p1.mono s3
        replace p2 := p2.mono s3
        have w0 := r3
        cases t1 : putM false i d1 ρ3 with
        | none => simp only [t1] at h; exact h.elim
        | some τ1 =>
          simp only [t1] at h
          have u1 := putM_d t1
          have w1 := w0.setD (i := i) p1
          rw [← u1] at w1
          cases t2 : putM true j (.list ds2) τ1 with
          | none => simp only [t2] at h; exact h.elim
          | some τ2 =>
            simp only [t2] at h
            obtain ⟨hl2, u2⟩ := putM_o t2
            have w2 := R.setO (g := { g with held := g.held }) (i := j) w1 (fun q hq => by
                exact nd2 q (by simp [hq])
                ) np2 p2 z2 hl2
            rw [← u2] at w2
            cases t3 : putM false l d3 τ2 with
            | none => simp only [t3] at h; exact h.elim
            | some τ3 =>
              simp only [t3] at h
              have u3 := putM_d t3
              have w3 := w2.setD (i := l) p3
              rw [← u3] at w3
              exact h _ F3 H3 (Same.refl _) w3
theorem ss_par_doo (hc : X.calm = true) (hN : X.N.Nodup) (hi : X.N[i]? = some x) (hj : X.N[j]? = some y) (hl : X.N[l]? = some z) (hij : i ≠ j) (hil : i ≠ l) (hjl : j ≠ l) (hx : X.env.scope.names.lookup x = some .local) (hy : X.env.scope.names.lookup y = some .local) (hz : X.env.scope.names.lookup z = some .local) (h1 : SE X W a fa) (h2 : SL X W b fb) (gv2 : GivesL fb) (z2 : j ≠ 0) (h3 : SL X W c fc) (gv3 : GivesL fc) (z3 : l ≠ 0) (hw : swappedStores [.Tuple [.Name x px, .Name y py, .Name z pz] kt pt] (.Tuple [a, b, c] k2 pt2) X.env = pure (some [x, y, z]) := by rfl) (hs : swapsWithSole [.Tuple [.Name x px, .Name y py, .Name z pz] kt pt] (.Tuple [a, b, c] k2 pt2) pos.line X.env = pure false := by rfl) (hst1 : starEach [a, b, c] X.env = (false, eval a X.env) :: starEach [b, c] X.env := by rfl) (hst2 : starEach [b, c] X.env = (false, eval b X.env) :: starEach [c] X.env := by rfl) (hst3 : starEach [c] X.env = (false, eval c X.env) :: starEach [] X.env := by rfl) :
    SS X W (.Assign [.Tuple [.Name x px, .Name y py, .Name z pz] kt pt] (.Tuple [a, b, c] k2 pt2) pos) (sPar3 false true true i j l fa fb fc) := by
  refine ps_imp (ps_par3 hc hN hi hj hl hij hil hjl hx hy hz (pa_cons h1 (pa_cons h2 (pa_cons h3 pa_nil hst3) hst2) hst1) hw hs) fun D σ H ⟨g, F0, ρ0, r0, h⟩ => ?_
  unfold sPar3 bndS at h
  refine ⟨g, F0, ρ0, r0, ?_⟩
  cases e1 : fa ρ0 with
  | er w ρ9 => simp only [e1] at h; exact fun cc dd F9 H9 s9 q x9 => h cc dd σ F9 H9 s9 (q) x9
  | no => simp only [e1] at h; exact h.elim
  | ok d1 ρ1 =>
    simp only [e1] at h
    intro v1 F1 H1 s1 r1 p1
    replace h := AfS.mono s1 h
    refine ⟨g, F1, ρ1, r1, ?_⟩
    cases e2 : fb ρ1 with
    | er w ρ9 => simp only [e2] at h; exact fun cc dd F9 H9 s9 q x9 => h cc dd σ F9 H9 s9 (q) x9
    | no => simp only [e2] at h; exact h.elim
    | ok d2 ρ2 =>
      simp only [e2] at h
      obtain ⟨ds2, rfl⟩ := gv2 _ _ _ e2
      intro a2 vs2 F2 H2 s2 r2 nd2 np2 p2
      replace h := AfS.mono s2 h
      refine ⟨{ g with held := (a2, .lst vs2) :: g.held }, F2, ρ2, r2, ?_⟩
      cases e3 : fc ρ2 with
      | er w ρ9 => simp only [e3] at h; exact fun cc dd F9 H9 s9 q x9 => h cc dd σ F9 H9 s9 (show R X.K g F9 H9 σ ρ9 from R.sub (g := { g with held := (a2, .lst vs2) :: g.held }) (l := g.held) q (fun _ h => List.mem_cons_of_mem _ (h))) x9
      | no => simp only [e3] at h; exact h.elim
      | ok d3 ρ3 =>
        simp only [e3] at h
        obtain ⟨ds3, rfl⟩ := gv3 _ _ _ e3
        intro a3 vs3 F3 H3 s3 r3 nd3 np3 p3
        replace h := AfS.mono s3 h
        refine ⟨v1, .ref a2, .ref a3, rfl, ?_⟩
        replace p1 := p1.mono s2
        replace p1 := p1.mono s3
        replace p2 := p2.mono s3
        have w0 := r3
        replace w0 := R.sub (l := (a2, HO.lst vs2) :: (a3, HO.lst vs3) :: g.held) w0 (by intro q hq; simp only [List.mem_cons] at hq ⊢; rcases hq with h | h | h <;> simp [h])
        cases t1 : putM false i d1 ρ3 with
        | none => simp only [t1] at h; exact h.elim
        | some τ1 =>
          simp only [t1] at h
          have u1 := putM_d t1
          have w1 := w0.setD (i := i) p1
          rw [← u1] at w1
          cases t2 : putM true j (.list ds2) τ1 with
          | none => simp only [t2] at h; exact h.elim
          | some τ2 =>
            simp only [t2] at h
            obtain ⟨hl2, u2⟩ := putM_o t2
            have w2 := R.setO (g := { g with held := (a3, HO.lst vs3) :: g.held }) (i := j) w1 (fun q hq => by
                simp only [List.mem_cons] at hq
                rcases hq with h | h
                · subst h; exact fun z => nd3 (a2, .lst vs2) (by simp) z.symm
                · exact nd2 q (by simp [h])
                ) np2 p2 z2 hl2
            rw [← u2] at w2
            cases t3 : putM true l (.list ds3) τ2 with
            | none => simp only [t3] at h; exact h.elim
            | some τ3 =>
              simp only [t3] at h
              obtain ⟨hl3, u3⟩ := putM_o t3
              have w3 := R.setO (g := { g with held := g.held }) (i := l) w2 (fun q hq => by
                  exact nd3 q (by simp [hq])
                  ) np3 p3 z3 hl3
              rw [← u3] at w3
              exact h _ F3 H3 (Same.refl _) w3
theorem ss_par_odd (hc : X.calm = true) (hN : X.N.Nodup) (hi : X.N[i]? = some x) (hj : X.N[j]? = some y) (hl : X.N[l]? = some z) (hij : i ≠ j) (hil : i ≠ l) (hjl : j ≠ l) (hx : X.env.scope.names.lookup x = some .local) (hy : X.env.scope.names.lookup y = some .local) (hz : X.env.scope.names.lookup z = some .local) (h1 : SL X W a fa) (gv1 : GivesL fa) (z1 : i ≠ 0) (h2 : SE X W b fb) (h3 : SE X W c fc) (hw : swappedStores [.Tuple [.Name x px, .Name y py, .Name z pz] kt pt] (.Tuple [a, b, c] k2 pt2) X.env = pure (some [x, y, z]) := by rfl) (hs : swapsWithSole [.Tuple [.Name x px, .Name y py, .Name z pz] kt pt] (.Tuple [a, b, c] k2 pt2) pos.line X.env = pure false := by rfl) (hst1 : starEach [a, b, c] X.env = (false, eval a X.env) :: starEach [b, c] X.env := by rfl) (hst2 : starEach [b, c] X.env = (false, eval b X.env) :: starEach [c] X.env := by rfl) (hst3 : starEach [c] X.env = (false, eval c X.env) :: starEach [] X.env := by rfl) :
    SS X W (.Assign [.Tuple [.Name x px, .Name y py, .Name z pz] kt pt] (.Tuple [a, b, c] k2 pt2) pos) (sPar3 true false false i j l fa fb fc) := by
  refine ps_imp (ps_par3 hc hN hi hj hl hij hil hjl hx hy hz (pa_cons h1 (pa_cons h2 (pa_cons h3 pa_nil hst3) hst2) hst1) hw hs) fun D σ H ⟨g, F0, ρ0, r0, h⟩ => ?_
  unfold sPar3 bndS at h
  refine ⟨g, F0, ρ0, r0, ?_⟩
  cases e1 : fa ρ0 with
  | er w ρ9 => simp only [e1] at h; exact fun cc dd F9 H9 s9 q x9 => h cc dd σ F9 H9 s9 (q) x9
  | no => simp only [e1] at h; exact h.elim
  | ok d1 ρ1 =>
    simp only [e1] at h
    obtain ⟨ds1, rfl⟩ := gv1 _ _ _ e1
    intro a1 vs1 F1 H1 s1 r1 nd1 np1 p1
    replace h := AfS.mono s1 h
    refine ⟨{ g with held := (a1, .lst vs1) :: g.held }, F1, ρ1, r1, ?_⟩
    cases e2 : fb ρ1 with
    | er w ρ9 => simp only [e2] at h; exact fun cc dd F9 H9 s9 q x9 => h cc dd σ F9 H9 s9 (show R X.K g F9 H9 σ ρ9 from R.sub (g := { g with held := (a1, .lst vs1) :: g.held }) (l := g.held) q (fun _ h => List.mem_cons_of_mem _ (h))) x9
    | no => simp only [e2] at h; exact h.elim
    | ok d2 ρ2 =>
      simp only [e2] at h
      intro v2 F2 H2 s2 r2 p2
      replace h := AfS.mono s2 h
      refine ⟨{ g with held := (a1, .lst vs1) :: g.held }, F2, ρ2, r2, ?_⟩
      cases e3 : fc ρ2 with
      | er w ρ9 => simp only [e3] at h; exact fun cc dd F9 H9 s9 q x9 => h cc dd σ F9 H9 s9 (show R X.K g F9 H9 σ ρ9 from R.sub (g := { g with held := (a1, .lst vs1) :: g.held }) (l := g.held) q (fun _ h => List.mem_cons_of_mem _ (h))) x9
      | no => simp only [e3] at h; exact h.elim
      | ok d3 ρ3 =>
        simp only [e3] at h
        intro v3 F3 H3 s3 r3 p3
        replace h := AfS.mono s3 h
        refine ⟨.ref a1, v2, v3, rfl, ?_⟩
        replace p1 := p1.mono s2
        replace p1 := p1.mono s3
        replace p2 := p2.mono s3
        have w0 := r3
        cases t1 : putM true i (.list ds1) ρ3 with
        | none => simp only [t1] at h; exact h.elim
        | some τ1 =>
          simp only [t1] at h
          obtain ⟨hl1, u1⟩ := putM_o t1
          have w1 := R.setO (g := { g with held := g.held }) (i := i) w0 (fun q hq => by
              exact nd1 q (by simp [hq])
              ) np1 p1 z1 hl1
          rw [← u1] at w1
          cases t2 : putM false j d2 τ1 with
          | none => simp only [t2] at h; exact h.elim
          | some τ2 =>
            simp only [t2] at h
            have u2 := putM_d t2
            have w2 := w1.setD (i := j) p2
            rw [← u2] at w2
            cases t3 : putM false l d3 τ2 with
            | none => simp only [t3] at h; exact h.elim
            | some τ3 =>
              simp only [t3] at h
              have u3 := putM_d t3
              have w3 := w2.setD (i := l) p3
              rw [← u3] at w3
              exact h _ F3 H3 (Same.refl _) w3
theorem ss_par_odo (hc : X.calm = true) (hN : X.N.Nodup) (hi : X.N[i]? = some x) (hj : X.N[j]? = some y) (hl : X.N[l]? = some z) (hij : i ≠ j) (hil : i ≠ l) (hjl : j ≠ l) (hx : X.env.scope.names.lookup x = some .local) (hy : X.env.scope.names.lookup y = some .local) (hz : X.env.scope.names.lookup z = some .local) (h1 : SL X W a fa) (gv1 : GivesL fa) (z1 : i ≠ 0) (h2 : SE X W b fb) (h3 : SL X W c fc) (gv3 : GivesL fc) (z3 : l ≠ 0) (hw : swappedStores [.Tuple [.Name x px, .Name y py, .Name z pz] kt pt] (.Tuple [a, b, c] k2 pt2) X.env = pure (some [x, y, z]) := by rfl) (hs : swapsWithSole [.Tuple [.Name x px, .Name y py, .Name z pz] kt pt] (.Tuple [a, b, c] k2 pt2) pos.line X.env = pure false := by rfl) (hst1 : starEach [a, b, c] X.env = (false, eval a X.env) :: starEach [b, c] X.env := by rfl) (hst2 : starEach [b, c] X.env = (false, eval b X.env) :: starEach [c] X.env := by rfl) (hst3 : starEach [c] X.env = (false, eval c X.env) :: starEach [] X.env := by rfl) :
    SS X W (.Assign [.Tuple [.Name x px, .Name y py, .Name z pz] kt pt] (.Tuple [a, b, c] k2 pt2) pos) (sPar3 true false true i j l fa fb fc) := by
  refine ps_imp (ps_par3 hc hN hi hj hl hij hil hjl hx hy hz (pa_cons h1 (pa_cons h2 (pa_cons h3 pa_nil hst3) hst2) hst1) hw hs) fun D σ H ⟨g, F0, ρ0, r0, h⟩ => ?_
  unfold sPar3 bndS at h
  refine ⟨g, F0, ρ0, r0, ?_⟩
  cases e1 : fa ρ0 with
  | er w ρ9 => simp only [e1] at h; exact fun cc dd F9 H9 s9 q x9 => h cc dd σ F9 H9 s9 (q) x9
  | no => simp only [e1] at h; exact h.elim
  | ok d1 ρ1 =>
    simp only [e1] at h
    obtain ⟨ds1, rfl⟩ := gv1 _ _ _ e1
    intro a1 vs1 F1 H1 s1 r1 nd1 np1 p1
    replace h := AfS.mono s1 h
    refine ⟨{ g with held := (a1, .lst vs1) :: g.held }, F1, ρ1, r1, ?_⟩
    cases e2 : fb ρ1 with
    | er w ρ9 => simp only [e2] at h; exact fun cc dd F9 H9 s9 q x9 => h cc dd σ F9 H9 s9 (show R X.K g F9 H9 σ ρ9 from R.sub (g := { g with held := (a1, .lst vs1) :: g.held }) (l := g.held) q (fun _ h => List.mem_cons_of_mem _ (h))) x9
    | no => simp only [e2] at h; exact h.elim
    | ok d2 ρ2 =>
      simp only [e2] at h
      intro v2 F2 H2 s2 r2 p2
      replace h := AfS.mono s2 h
      refine ⟨{ g with held := (a1, .lst vs1) :: g.held }, F2, ρ2, r2, ?_⟩
      cases e3 : fc ρ2 with
      | er w ρ9 => simp only [e3] at h; exact fun cc dd F9 H9 s9 q x9 => h cc dd σ F9 H9 s9 (show R X.K g F9 H9 σ ρ9 from R.sub (g := { g with held := (a1, .lst vs1) :: g.held }) (l := g.held) q (fun _ h => List.mem_cons_of_mem _ (h))) x9
      | no => simp only [e3] at h; exact h.elim
      | ok d3 ρ3 =>
        simp only [e3] at h
        obtain ⟨ds3, rfl⟩ := gv3 _ _ _ e3
        intro a3 vs3 F3 H3 s3 r3 nd3 np3 p3
        replace h := AfS.mono s3 h
        refine ⟨.ref a1, v2, .ref a3, rfl, ?_⟩
        replace p1 := p1.mono s2
        replace p1 := p1.mono s3
        replace p2 := p2.mono s3
        have w0 := r3
        replace w0 := R.sub (l := (a1, HO.lst vs1) :: (a3, HO.lst vs3) :: g.held) w0 (by intro q hq; simp only [List.mem_cons] at hq ⊢; rcases hq with h | h | h <;> simp [h])
        cases t1 : putM true i (.list ds1) ρ3 with
        | none => simp only [t1] at h; exact h.elim
        | some τ1 =>
          simp only [t1] at h
          obtain ⟨hl1, u1⟩ := putM_o t1
          have w1 := R.setO (g := { g with held := (a3, HO.lst vs3) :: g.held }) (i := i) w0 (fun q hq => by
              simp only [List.mem_cons] at hq
              rcases hq with h | h
              · subst h; exact fun z => nd3 (a1, .lst vs1) (by simp) z.symm
              · exact nd1 q (by simp [h])
              ) np1 p1 z1 hl1
          rw [← u1] at w1
          cases t2 : putM false j d2 τ1 with
          | none => simp only [t2] at h; exact h.elim
          | some τ2 =>
            simp only [t2] at h
            have u2 := putM_d t2
            have w2 := w1.setD (i := j) p2
            rw [← u2] at w2
            cases t3 : putM true l (.list ds3) τ2 with
            | none => simp only [t3] at h; exact h.elim
            | some τ3 =>
              simp only [t3] at h
              obtain ⟨hl3, u3⟩ := putM_o t3
              have w3 := R.setO (g := { g with held := g.held }) (i := l) w2 (fun q hq => by
                  exact nd3 q (by simp [hq])
                  ) np3 p3 z3 hl3
              rw [← u3] at w3
              exact h _ F3 H3 (Same.refl _) w3
theorem ss_par_ood (hc : X.calm = true) (hN : X.N.Nodup) (hi : X.N[i]? = some x) (hj : X.N[j]? = some y) (hl : X.N[l]? = some z) (hij : i ≠ j) (hil : i ≠ l) (hjl : j ≠ l) (hx : X.env.scope.names.lookup x = some .local) (hy : X.env.scope.names.lookup y = some .local) (hz : X.env.scope.names.lookup z = some .local) (h1 : SL X W a fa) (gv1 : GivesL fa) (z1 : i ≠ 0) (h2 : SL X W b fb) (gv2 : GivesL fb) (z2 : j ≠ 0) (h3 : SE X W c fc) (hw : swappedStores [.Tuple [.Name x px, .Name y py, .Name z pz] kt pt] (.Tuple [a, b, c] k2 pt2) X.env = pure (some [x, y, z]) := by rfl) (hs : swapsWithSole [.Tuple [.Name x px, .Name y py, .Name z pz] kt pt] (.Tuple [a, b, c] k2 pt2) pos.line X.env = pure false := by rfl) (hst1 : starEach [a, b, c] X.env = (false, eval a X.env) :: starEach [b, c] X.env := by rfl) (hst2 : starEach [b, c] X.env = (false, eval b X.env) :: starEach [c] X.env := by rfl) (hst3 : starEach [c] X.env = (false, eval c X.env) :: starEach [] X.env := by rfl) :
    SS X W (.Assign [.Tuple [.Name x px, .Name y py, .Name z pz] kt pt] (.Tuple [a, b, c] k2 pt2) pos) (sPar3 true true false i j l fa fb fc) := by
  refine ps_imp (ps_par3 hc hN hi hj hl hij hil hjl hx hy hz (pa_cons h1 (pa_cons h2 (pa_cons h3 pa_nil hst3) hst2) hst1) hw hs) fun D σ H ⟨g, F0, ρ0, r0, h⟩ => ?_
  unfold sPar3 bndS at h
  refine ⟨g, F0, ρ0, r0, ?_⟩
  cases e1 : fa ρ0 with
  | er w ρ9 => simp only [e1] at h; exact fun cc dd F9 H9 s9 q x9 => h cc dd σ F9 H9 s9 (q) x9
  | no => simp only [e1] at h; exact h.elim
  | ok d1 ρ1 =>
    simp only [e1] at h
    obtain ⟨ds1, rfl⟩ := gv1 _ _ _ e1
    intro a1 vs1 F1 H1 s1 r1 nd1 np1 p1
    replace h := AfS.mono s1 h
    refine ⟨{ g with held := (a1, .lst vs1) :: g.held }, F1, ρ1, r1, ?_⟩
    cases e2 : fb ρ1 with
    | er w ρ9 => simp only [e2] at h; exact fun cc dd F9 H9 s9 q x9 => h cc dd σ F9 H9 s9 (show R X.K g F9 H9 σ ρ9 from R.sub (g := { g with held := (a1, .lst vs1) :: g.held }) (l := g.held) q (fun _ h => List.mem_cons_of_mem _ (h))) x9
    | no => simp only [e2] at h; exact h.elim
    | ok d2 ρ2 =>
      simp only [e2] at h
      obtain ⟨ds2, rfl⟩ := gv2 _ _ _ e2
      intro a2 vs2 F2 H2 s2 r2 nd2 np2 p2
      replace h := AfS.mono s2 h
      refine ⟨{ g with held := (a2, .lst vs2) :: (a1, .lst vs1) :: g.held }, F2, ρ2, r2, ?_⟩
      cases e3 : fc ρ2 with
      | er w ρ9 => simp only [e3] at h; exact fun cc dd F9 H9 s9 q x9 => h cc dd σ F9 H9 s9 (show R X.K g F9 H9 σ ρ9 from R.sub (g := { g with held := (a2, .lst vs2) :: (a1, .lst vs1) :: g.held }) (l := g.held) q (fun _ h => List.mem_cons_of_mem _ (List.mem_cons_of_mem _ (h)))) x9
      | no => simp only [e3] at h; exact h.elim
      | ok d3 ρ3 =>
        simp only [e3] at h
        intro v3 F3 H3 s3 r3 p3
        replace h := AfS.mono s3 h
        refine ⟨.ref a1, .ref a2, v3, rfl, ?_⟩
        replace p1 := p1.mono s2
        replace p1 := p1.mono s3
        replace p2 := p2.mono s3
        have w0 := r3
        replace w0 := R.sub (l := (a1, HO.lst vs1) :: (a2, HO.lst vs2) :: g.held) w0 (by intro q hq; simp only [List.mem_cons] at hq ⊢; rcases hq with h | h | h <;> simp [h])
        cases t1 : putM true i (.list ds1) ρ3 with
        | none => simp only [t1] at h; exact h.elim
        | some τ1 =>
          simp only [t1] at h
          obtain ⟨hl1, u1⟩ := putM_o t1
          have w1 := R.setO (g := { g with held := (a2, HO.lst vs2) :: g.held }) (i := i) w0 (fun q hq => by
              simp only [List.mem_cons] at hq
              rcases hq with h | h
              · subst h; exact fun z => nd2 (a1, .lst vs1) (by simp) z.symm
              · exact nd1 q (by simp [h])
              ) np1 p1 z1 hl1
          rw [← u1] at w1
          cases t2 : putM true j (.list ds2) τ1 with
          | none => simp only [t2] at h; exact h.elim
          | some τ2 =>
            simp only [t2] at h
            obtain ⟨hl2, u2⟩ := putM_o t2
            have w2 := R.setO (g := { g with held := g.held }) (i := j) w1 (fun q hq => by
                exact nd2 q (by simp [hq])
                ) np2 p2 z2 hl2
            rw [← u2] at w2
            cases t3 : putM false l d3 τ2 with
            | none => simp only [t3] at h; exact h.elim
            | some τ3 =>
              simp only [t3] at h
              have u3 := putM_d t3
              have w3 := w2.setD (i := l) p3
              rw [← u3] at w3
              exact h _ F3 H3 (Same.refl _) w3
theorem ss_par_ooo (hc : X.calm = true) (hN : X.N.Nodup) (hi : X.N[i]? = some x) (hj : X.N[j]? = some y) (hl : X.N[l]? = some z) (hij : i ≠ j) (hil : i ≠ l) (hjl : j ≠ l) (hx : X.env.scope.names.lookup x = some .local) (hy : X.env.scope.names.lookup y = some .local) (hz : X.env.scope.names.lookup z = some .local) (h1 : SL X W a fa) (gv1 : GivesL fa) (z1 : i ≠ 0) (h2 : SL X W b fb) (gv2 : GivesL fb) (z2 : j ≠ 0) (h3 : SL X W c fc) (gv3 : GivesL fc) (z3 : l ≠ 0) (hw : swappedStores [.Tuple [.Name x px, .Name y py, .Name z pz] kt pt] (.Tuple [a, b, c] k2 pt2) X.env = pure (some [x, y, z]) := by rfl) (hs : swapsWithSole [.Tuple [.Name x px, .Name y py, .Name z pz] kt pt] (.Tuple [a, b, c] k2 pt2) pos.line X.env = pure false := by rfl) (hst1 : starEach [a, b, c] X.env = (false, eval a X.env) :: starEach [b, c] X.env := by rfl) (hst2 : starEach [b, c] X.env = (false, eval b X.env) :: starEach [c] X.env := by rfl) (hst3 : starEach [c] X.env = (false, eval c X.env) :: starEach [] X.env := by rfl) :
    SS X W (.Assign [.Tuple [.Name x px, .Name y py, .Name z pz] kt pt] (.Tuple [a, b, c] k2 pt2) pos) (sPar3 true true true i j l fa fb fc) := by
  refine ps_imp (ps_par3 hc hN hi hj hl hij hil hjl hx hy hz (pa_cons h1 (pa_cons h2 (pa_cons h3 pa_nil hst3) hst2) hst1) hw hs) fun D σ H ⟨g, F0, ρ0, r0, h⟩ => ?_
  unfold sPar3 bndS at h
  refine ⟨g, F0, ρ0, r0, ?_⟩
  cases e1 : fa ρ0 with
  | er w ρ9 => simp only [e1] at h; exact fun cc dd F9 H9 s9 q x9 => h cc dd σ F9 H9 s9 (q) x9
  | no => simp only [e1] at h; exact h.elim
  | ok d1 ρ1 =>
    simp only [e1] at h
    obtain ⟨ds1, rfl⟩ := gv1 _ _ _ e1
    intro a1 vs1 F1 H1 s1 r1 nd1 np1 p1
    replace h := AfS.mono s1 h
    refine ⟨{ g with held := (a1, .lst vs1) :: g.held }, F1, ρ1, r1, ?_⟩
    cases e2 : fb ρ1 with
    | er w ρ9 => simp only [e2] at h; exact fun cc dd F9 H9 s9 q x9 => h cc dd σ F9 H9 s9 (show R X.K g F9 H9 σ ρ9 from R.sub (g := { g with held := (a1, .lst vs1) :: g.held }) (l := g.held) q (fun _ h => List.mem_cons_of_mem _ (h))) x9
    | no => simp only [e2] at h; exact h.elim
    | ok d2 ρ2 =>
      simp only [e2] at h
      obtain ⟨ds2, rfl⟩ := gv2 _ _ _ e2
      intro a2 vs2 F2 H2 s2 r2 nd2 np2 p2
      replace h := AfS.mono s2 h
      refine ⟨{ g with held := (a2, .lst vs2) :: (a1, .lst vs1) :: g.held }, F2, ρ2, r2, ?_⟩
      cases e3 : fc ρ2 with
      | er w ρ9 => simp only [e3] at h; exact fun cc dd F9 H9 s9 q x9 => h cc dd σ F9 H9 s9 (show R X.K g F9 H9 σ ρ9 from R.sub (g := { g with held := (a2, .lst vs2) :: (a1, .lst vs1) :: g.held }) (l := g.held) q (fun _ h => List.mem_cons_of_mem _ (List.mem_cons_of_mem _ (h)))) x9
      | no => simp only [e3] at h; exact h.elim
      | ok d3 ρ3 =>
        simp only [e3] at h
        obtain ⟨ds3, rfl⟩ := gv3 _ _ _ e3
        intro a3 vs3 F3 H3 s3 r3 nd3 np3 p3
        replace h := AfS.mono s3 h
        refine ⟨.ref a1, .ref a2, .ref a3, rfl, ?_⟩
        replace p1 := p1.mono s2
        replace p1 := p1.mono s3
        replace p2 := p2.mono s3
        have w0 := r3
        replace w0 := R.sub (l := (a1, HO.lst vs1) :: (a2, HO.lst vs2) :: (a3, HO.lst vs3) :: g.held) w0 (by intro q hq; simp only [List.mem_cons] at hq ⊢; rcases hq with h | h | h | h <;> simp [h])
        cases t1 : putM true i (.list ds1) ρ3 with
        | none => simp only [t1] at h; exact h.elim
        | some τ1 =>
          simp only [t1] at h
          obtain ⟨hl1, u1⟩ := putM_o t1
          have w1 := R.setO (g := { g with held := (a2, HO.lst vs2) :: (a3, HO.lst vs3) :: g.held }) (i := i) w0 (fun q hq => by
              simp only [List.mem_cons] at hq
              rcases hq with h | h | h
              · subst h; exact fun z => nd2 (a1, .lst vs1) (by simp) z.symm
              · subst h; exact fun z => nd3 (a1, .lst vs1) (by simp) z.symm
              · exact nd1 q (by simp [h])
              ) np1 p1 z1 hl1
          rw [← u1] at w1
          cases t2 : putM true j (.list ds2) τ1 with
          | none => simp only [t2] at h; exact h.elim
          | some τ2 =>
            simp only [t2] at h
            obtain ⟨hl2, u2⟩ := putM_o t2
            have w2 := R.setO (g := { g with held := (a3, HO.lst vs3) :: g.held }) (i := j) w1 (fun q hq => by
                simp only [List.mem_cons] at hq
                rcases hq with h | h
                · subst h; exact fun z => nd3 (a2, .lst vs2) (by simp) z.symm
                · exact nd2 q (by simp [h])
                ) np2 p2 z2 hl2
            rw [← u2] at w2
            cases t3 : putM true l (.list ds3) τ2 with
            | none => simp only [t3] at h; exact h.elim
            | some τ3 =>
              simp only [t3] at h
              obtain ⟨hl3, u3⟩ := putM_o t3
              have w3 := R.setO (g := { g with held := g.held }) (i := l) w2 (fun q hq => by
                  exact nd3 q (by simp [hq])
                  ) np3 p3 z3 hl3
              rw [← u3] at w3
              exact h _ F3 H3 (Same.refl _) w3
end
end Fl
set_option Elab.async false
set_option autoImplicit false
set_option linter.all false
set_option maxRecDepth 100000
set_option maxHeartbeats 4000000
/-! Fl14: t[::-1], [*..., ...] displays, is True. -/
namespace Fl
open PySem PySem.Spec PyProof.Rows L2
section
variable {prog : Program} {w : World} {A : Around} {E : Value → Shared → Prop} {s : Shared}
theorem sliceApplied_rev {sl : Addr} {vl vu vs : Value} {n : Nat} {Q : Int × Int × Nat → Shared → Prop} (hs : s.heap.IsSliceOf sl vl vu vs) (pl : IsPart vl none) (pu : IsPart vu none) (ps : IsPart vs (some (-1)))
    (h : Q ((n : Int) - 1, -1, n) s) : wpAny (model prog w) A (Builtin.Slice.sliceApplied (.ref sl) (pure (n : Int))) Q E s := by
  obtain ⟨os, hos, hcs, hds⟩ := id hs
  unfold Builtin.Slice.sliceApplied Builtin.Slice.sliceFields
  refine wpAny_bind (wpAny_bind (wpAny_field hos hds (x := vl) rfl (wpAny_bind (wpAny_field hos hds (x := vu) rfl (wpAny_bind (wpAny_field hos hds (x := vs) rfl (wpAny_pure ?_)))))))
  refine wpAny_bind (HT.slicePart_ ps ?_)
  show wpAny _ _ (if ((-1 : Int) == 0) = true then _ else _) _ _ s
  rw [if_neg (by decide)]
  refine wpAny_bind (HT.slicePart_ pl (wpAny_bind (HT.slicePart_ pu (wpAny_bind (wpAny_pure ?_)))))
  show wpAny _ _ (match Builtin.Slice.sliceAdjust none none (-1) (n : Int) with | (lo, hi) => pure (lo, (-1 : Int), Builtin.Slice.slicePlaces lo hi (-1))) _ _ s
  have e1 : Builtin.Slice.sliceAdjust none none (-1) (n : Int) = ((n : Int) - 1, -1) := by
    unfold Builtin.Slice.sliceAdjust
    simp
  rw [e1]
  show wpAny _ _ (pure ((n : Int) - 1, (-1 : Int), Builtin.Slice.slicePlaces ((n : Int) - 1) (-1) (-1))) _ _ s
  have e2 : Builtin.Slice.slicePlaces ((n : Int) - 1) (-1) (-1) = n := by
    unfold Builtin.Slice.slicePlaces
    simp
    all_goals omega
  rw [e2]
  exact wpAny_pure h
theorem pick_rev (xs : Array Value) : ((List.range xs.size).filterMap fun (m : Nat) => xs[(((xs.size : Int) - 1) + (m : Int) * (-1)).toNat]?).toArray = xs.toList.reverse.toArray := by
  congr 1
  have e : ∀ m ∈ List.range xs.size, xs[(((xs.size : Int) - 1) + (m : Int) * (-1)).toNat]? = xs.toList.reverse[m]? := by
    intro m hm
    have hm := List.mem_range.mp hm
    have e1 : (((xs.size : Int) - 1) + (m : Int) * (-1)).toNat = xs.size - 1 - m := by omega
    rw [e1, List.getElem?_reverse (by simpa using hm)]
    simp
  have fc : ∀ (l : List Nat) (f g : Nat → Option Value), (∀ m ∈ l, f m = g m) → l.filterMap f = l.filterMap g := by
    intro l
    induction l with
    | nil => intro f g _; rfl
    | cons y ys ih =>
      intro f g h
      rw [List.filterMap_cons, List.filterMap_cons, h y (List.mem_cons_self ..), ih f g fun m hm => h m (List.mem_cons_of_mem _ hm)]
  rw [fc _ _ _ e]
  have gen : ∀ ys : List Value, (List.range ys.length).filterMap (fun m => ys[m]?) = ys := by
    intro ys
    induction ys with
    | nil => rfl
    | cons y ys ih =>
      rw [List.length_cons, List.range_succ_eq_map, List.filterMap_cons]
      simp only [List.getElem?_cons_zero, List.filterMap_map]
      congr 1
  have := gen xs.toList.reverse
  rw [List.length_reverse, Array.length_toList] at this
  exact this
/-- the slice object that says [::-1] -/
structure Back (h : Heap) (q : Addr) : Prop where
  ex : ∃ u v w, h.IsSliceOf q u v w ∧ IsPart u none ∧ IsPart v none ∧ IsPart w (some (-1))
theorem tup_back {t q : Addr} {its : List Value} {Q : Value → Shared → Prop} (ht : IsTup s.heap t its.toArray) (b : Back s.heap q) (hz : its.length ≤ sizeLine)
    (h : Q (.ref s.heap.objs.size) { s with heap := s.heap.push { cls := .type "tuple", data := .seq its.reverse.toArray } }) : wpAny (model prog w) A (getItem (.ref t) (.ref q)) Q E s := by
  obtain ⟨u, v, z, hs, pu, pv, pz⟩ := b.ex
  have ty : s.TypeIs (.ref q) "slice" := by
    obtain ⟨o, e, c, _⟩ := id hs
    exact ⟨o, e, c⟩
  have fits : sizeOk (.seq its.reverse.toArray) := by
    show its.reverse.toArray.size ≤ sizeLine
    simpa using hz
  unfold getItem
  try with_reducible refine wpAny_holding ?_
  first
    | refine wpAny_bind (wpAny_pure ?_)
    | skip
  have slot := PyProof.Rows.slot_tuple_getitem
  refine wpAny_bind (wpAny_sequenceKey ht.typeIs (by decide) (wpAny_bind (wpAny_callSpecial?_slot (name := Str.ofString "__getitem__") ht.typeIs slot (wpAny_call_entry slot ht.typeIs entry_tuple_getitem ?_ (args_tuple_getitem _ _)))))
  change wpAny _ _ (Builtin.Tuple.tupleItemsOf (.ref t) >>= _) _ _ s
  refine wpAny_bind (tupleItemsOf_ ht (wpAny_bind (wpAny_typeOf ty ?_)))
  rw [if_pos (by decide)]
  refine wpAny_bind (sliceApplied_rev hs pu pv pz ?_)
  change wpAny _ _ (if (((its.toArray.size : Int) - 1) == 0 && (-1 : Int) == 1 && its.toArray.size == its.toArray.size) = true then _ else _) _ _ s
  have no : (((its.toArray.size : Int) - 1) == 0 && (-1 : Int) == 1 && its.toArray.size == its.toArray.size) = false := by simp
  rw [no, if_neg Bool.false_ne_true, pick_rev]
  first
    | exact wpAny_bind (m := Builtin.Tuple.tupleExact _) (wpAny_newObj_type (wpAny_pure ⟨_, rfl, wpAny_pure h⟩) fits)
    | exact wpAny_bind (wpAny_bind (m := Builtin.Tuple.tupleExact _) (wpAny_newObj_type (wpAny_pure ⟨_, rfl, wpAny_pure h⟩) fits))
    | exact wpAny_bind (m := Builtin.Tuple.tupleExact _) (wpAny_newObj_type (wpAny_bind (wpAny_pure (wpAny_pure ⟨_, rfl, wpAny_pure h⟩))) fits)
end
section
variable {X : Cx}
/-- x[::-1], x a list or a tuple -/
def tRevD (K : PySem.W.Frag) (te : TE) : TE := fun σ H Q => te σ H fun x G => ∃ a xs, x = .ref a ∧ ((SqL K G a xs ∧ ∀ p, G p = none → Q (.ref p) (upd G p (.lst xs.reverse))) ∨ (SqT K G a xs ∧ ∀ p, G p = none → Q (.ref p) (upd G p (.tup xs.reverse))))
theorem pe_revD {e : Expr} {te : TE} {k : Nat} {p1 p2 p3 pos : Pos} (he : PE X e te) : PE X (.Subscript e (.Slice none none (some (.UnaryOp .USub (.Constant (.int 1) k p1) p2)) p3) pos) (tRevD X.K te) := by
  have minus : PO X (some (.UnaryOp .USub (.Constant (.int 1) k p1) p2)) (tPart (tUn (rU fun i => .int (-i)) (tC (.int 1)))) := po_some (pe_un un_neg pe_int)
  constructor
  intro pins s σ H Q I h
  refine Subscript_ (thn (he.run pins s σ H _ I h) ?_)
  rintro v s1 ⟨x, G, I1, rv, a, xs, rfl, way⟩
  cases rv
  refine wpAny_Slice (thn (po_none.run pins s1 σ G (fun o G' => o = none ∧ G' = G) I1 ⟨rfl, rfl⟩) ?_)
  rintro u s2 ⟨_, _, I2, pu, rfl, rfl⟩
  refine thn (po_none.run pins s2 σ _ (fun o G' => o = none ∧ G' = _) I2 ⟨rfl, rfl⟩) ?_
  rintro u' s3 ⟨_, _, I3, pu', rfl, rfl⟩
  refine thn (minus.run pins s3 σ _ (fun o G' => o = some (-1) ∧ G' = _) I3 ⟨1, rfl, -1, rfl, rfl, rfl⟩) ?_
  rintro u'' s4 ⟨_, G, I4, pu'', rfl, rfl⟩
  have I5 := I4.kept (t' := s4.toks) (h' := s4.heap.push { cls := .type "slice", data := .fields #[u, u', u''] }) fun _ _ => Heap.get?_push_of_some _
  have sl := Heap.IsSliceOf.new s4.heap u u' u''
  change wpAny _ X.A (subscriptTail e _ (.ref a) (.ref s4.heap.objs.size)) (EP X pins σ Q) X.xe { s4 with heap := s4.heap.push { cls := .type "slice", data := .fields #[u, u', u''] } }
  have old : ∀ {o : Obj} {b : Addr} {ob : Obj}, (s4.heap.push { cls := .type "slice", data := .fields #[u, u', u''] }).get? b = some ob → ((s4.heap.push { cls := .type "slice", data := .fields #[u, u', u''] }).push o).get? b = some ob := fun q => Heap.get?_push_of_some _ q
  rcases way with ⟨hx, q⟩ | ⟨hx, q⟩
  · obtain ⟨its, r, pl, hz⟩ := I5.list hx
    refine tail_any (ops := [.ref a, .ref s4.heap.objs.size]) pl.isList.typeIs PySem.slot_list_getitem.lookup (wpAny_getItem_list_slice pl.isList sl pu pu' pu'' (by decide) ?_ ?_) (by with_unfolding_all rfl)
    · rw [PySem.W.krv_pick]
      refine ⟨.ref _, upd G _ (.lst xs.reverse), I5.laid (t' := s4.toks) (fun _ _ e => old e) (Nat.le_refl _) ?_, rfl, q _ (I5.hok.fresh (Nat.le_refl _))⟩
      exact ⟨xs.length_reverse ▸ hz, its.reverse, 0, r.reverse, Heap.get?_push_size _ rfl⟩
    · have := r.length
      simp only [List.size_toArray]
      omega
  · obtain ⟨its, r, ht, hz⟩ := I5.tuple hx
    have hl := r.length
    refine tail_any (ops := [.ref a, .ref s4.heap.objs.size]) ht.typeIs PyProof.Rows.slot_tuple_getitem.lookup (tup_back ht ⟨_, _, _, sl, pu, pu', pu''⟩ (by omega) ?_) (by with_unfolding_all rfl)
    refine ⟨.ref _, upd G _ (.tup xs.reverse), I5.laid (t' := s4.toks) (fun _ _ e => old e) (Nat.le_refl _) ?_, rfl, q _ (I5.hok.fresh (Nat.le_refl _))⟩
    exact ⟨xs.length_reverse ▸ hz, its.reverse, r.reverse, IsTup.new _ _⟩
end
def pRev (x : PyData) : Option PyData := match x with
  | .list ds => some (.list ds.reverse)
  | .tuple ds => some (.tuple ds.reverse)
  | _ => none
def eRev (f : Rho → Out) : Rho → Out := bnd f fun x => lift (pRev x)
section
variable {X : Cx} {W : WX} {a : Expr} {fa : Rho → Out} {pos p1 p2 p3 : Pos} {k : Nat}
theorem se_rev (ha : SE X W a fa) : SE X W (.Subscript a (.Slice none none (some (.UnaryOp .USub (.Constant (.int 1) k p1) p2)) p3) pos) (eRev fa) := by
  refine pe_imp (pe_revD ha) fun σ H Q ⟨g, F, ρ, rr, h⟩ => ?_
  refine re_then rr h fun v F1 H1 ρ1 x s1 r1 pp h1 => ?_
  obtain ⟨z, e, q⟩ := lift_af h1
  unfold pRev at e
  split at e
  · cases e
    cases pp with
    | @lst _ v1 _ h1 h2 =>
      refine ⟨_, _, rfl, .inl ⟨SqL.of (r1.sF _ _ h1), fun p hp => ?_⟩⟩
      have gr := Grow.new1 (o := .lst v1.reverse) r1.sF hp
      exact q _ _ _ gr.f (r1.grow gr) (.lst upd_same (h2.reverse.mono gr.f))
  · cases e
    cases pp with
    | @tup _ v1 _ h1 h2 =>
      refine ⟨_, _, rfl, .inr ⟨sameT r1.sF h1, fun p hp => ?_⟩⟩
      have gr := Grow.new1 (o := .tup v1.reverse) r1.sF hp
      exact q _ _ _ gr.f (r1.grow gr) (.tup (.inl (.inl upd_same)) (h2.reverse.mono gr.f))
  · cases e
def itemsOf : PyData → Option (List PyData)
  | .list ds => some ds
  | .tuple ds => some ds
  | _ => none
/-- *f at the head of arguments or of a display -/
def aStar (f : Rho → Out) (t : Rho → AOut) : Rho → AOut := fun ρ => match f ρ with
  | .ok d ρ1 => (match itemsOf d with
    | some xs => (match t ρ1 with
      | .ok ds ρ2 => .ok (xs ++ ds) ρ2
      | .er x ρ2 => .er x ρ2
      | .no => .no)
    | none => .no)
  | .er x ρ1 => .er x ρ1
  | .no => .no
theorem Rp.items {K : PySem.W.Frag} {F : Hp} {v : V} {d : PyData} {xs : List PyData} (h : Rp K F v d) (e : itemsOf d = some xs) : ∃ p vs, v = .ref p ∧ (SqT K F p vs ∨ F p = some (.lst vs)) ∧ Rps K F vs xs := by
  cases h with
  | lst h1 h2 => cases e; exact ⟨_, _, rfl, .inr h1, h2⟩
  | tup h1 h2 => cases e; exact ⟨_, _, rfl, .inl h1, h2⟩
  | non => cases e
  | bl b => cases e
  | int i => cases e
  | str s => cases e
  | dct h => cases e
  | exc x1 x2 x3 => cases e
theorem sa_star {es : List Expr} {t : Rho → AOut} {p : Pos} (ha : SE X W a fa) (hr : SA X W es t) (hs : starEach (.Starred a p :: es) X.env = (true, eval a X.env) :: starEach es X.env := by rfl) : SA X W (.Starred a p :: es) (aStar fa t) := by
  refine pa_imp (StX.pa_star ha hr hs) fun σ H Q ⟨g, F, ρ, rr, h⟩ => ?_
  refine ⟨g, F, ρ, rr, ?_⟩
  unfold aStar at h
  cases e1 : fa ρ with
  | ok d ρ1 =>
    rw [e1] at h
    intro v F1 H1 s1 r1 p1
    replace h := AfA.mono s1 h
    cases ei : itemsOf d with
    | none => simp only [ei] at h; exact h.elim
    | some xs =>
      obtain ⟨q, vs, rfl, hx, pv⟩ := p1.items ei
      refine ⟨q, vs, rfl, hx.elim (fun z => .inl (sameT r1.sF z)) (fun z => .inr (SqL.of (r1.sF _ _ z))), g, F1, ρ1, r1, ?_⟩
      simp only [ei] at h
      cases e2 : t ρ1 with
      | ok ds ρ2 =>
        simp only [e2] at h
        exact fun ws F2 H2 s2 r2 p2 => h (vs ++ ws) F2 H2 s2 r2 ((pv.mono s2).append p2)
      | er x ρ2 => simp only [e2] at h; exact h
      | no => simp only [e2] at h; exact h
  | er x ρ1 => rw [e1] at h; exact h
  | no => rw [e1] at h; exact h
end
end Fl
set_option Elab.async false
set_option autoImplicit false
set_option linter.all false
set_option maxRecDepth 100000
set_option maxHeartbeats 4000000
/-! Fl15: more new lists: a + b, sorted(a), a[i:j]. -/
namespace Fl
open PySem PySem.Spec PyProof.Rows L2
section
variable {K : PySem.W.Frag} {mg : Str → Option Value} {W : WX} {g : Gd} {F H : Hp} {σ : L2.St} {ρ : Rho}
theorem re_thenL {f : Rho → Out} {k : PyData → Rho → Out} {Q Q' : VK} (r : R K g F H σ ρ) (h : AfL K mg W g F σ (bnd f k ρ) Q)
    (hk : ∀ v F1 H1 ρ1 d, Same F F1 → R K g F1 H1 σ ρ1 → Rp K F1 v d → AfL K mg W g F1 σ (k d ρ1) Q → Q' v H1) : RE K mg W f σ H Q' := by
  refine ⟨g, F, ρ, r, ?_⟩
  unfold bnd at h
  cases e : f ρ with
  | ok d ρ1 =>
    rw [e] at h
    exact fun v F1 H1 s1 r1 p1 => hk v F1 H1 ρ1 d s1 r1 p1 (AfL.mono s1 h)
  | er x ρ1 =>
    rw [e] at h
    exact h
  | no =>
    rw [e] at h
    exact h
theorem ra_thenL {t : Rho → AOut} {k : List PyData → Rho → Out} {Q : VK} {Q' : List V → Hp → Prop} (r : R K g F H σ ρ) (h : AfL K mg W g F σ (aBnd t k ρ) Q)
    (hk : ∀ vs F1 H1 ρ1 ds, Same F F1 → R K g F1 H1 σ ρ1 → Rps K F1 vs ds → AfL K mg W g F1 σ (k ds ρ1) Q → Q' vs H1) : RA K mg W t σ H Q' := by
  refine ⟨g, F, ρ, r, ?_⟩
  unfold aBnd at h
  cases e : t ρ with
  | ok d ρ1 =>
    rw [e] at h
    exact fun v F1 H1 s1 r1 p1 => hk v F1 H1 ρ1 d s1 r1 p1 (AfL.mono s1 h)
  | er x ρ1 =>
    rw [e] at h
    exact h
  | no =>
    rw [e] at h
    exact h
/-- a list just made -/
theorem newL {ds : List PyData} {vs : List V} {Q : VK} (r : R K g F H σ ρ) (h : AfL K mg W g F σ (.ok (.list ds) ρ) Q) (p : Rps K F vs ds) {q : Addr} (hq : H q = none) : Q (.ref q) (upd H q (.lst vs)) := by
  have np : q ∉ g.pins := fun z => by
    obtain ⟨o, e⟩ := r.pinH q z
    rw [hq] at e; cases e
  have nd : ∀ u ∈ g.held, u.1 ≠ q := fun u hu z => by
    have := (r.held u hu).1
    rw [z, hq] at this; cases this
  exact h q vs F _ (Same.refl _) (r.hold hq) nd np p
def liftL (o : Option (List PyData)) : Rho → Out := fun ρ => match o with
  | some ds => .ok (.list ds) ρ
  | none => .no
theorem liftL_af {o : Option (List PyData)} {Q : VK} (h : AfL K mg W g F σ (liftL o ρ) Q) : ∃ ds, o = some ds ∧ AfL K mg W g F σ (.ok (.list ds) ρ) Q := by
  cases o with
  | none => exact h.elim
  | some ds => exact ⟨ds, rfl, h⟩
end
def GivesL.lift {f : Rho → Out} {k : PyData → Rho → Out} (h : ∀ d, GivesL (k d)) : GivesL (bnd f k) := by
  intro ρ d ρ' e
  unfold bnd at e
  cases e1 : f ρ with
  | ok x ρ1 => rw [e1] at e; exact h x _ _ _ e
  | er x ρ1 => rw [e1] at e; cases e
  | no => rw [e1] at e; cases e
theorem gives_liftL (o : Option (List PyData)) : GivesL (liftL o) := by
  intro ρ d ρ' e
  cases o with
  | none => cases e
  | some ds => cases e; exact ⟨_, rfl⟩
/-- lists added -/
def lAdd (a b : PyData) : Option (List PyData) := match a, b with
  | .list xs, .list ys => if xs.length + ys.length ≤ sizeLine then some (xs ++ ys) else none
  | _, _ => none
def eAddL (fa fb : Rho → Out) : Rho → Out := bnd fa fun x => bnd fb fun y => liftL (lAdd x y)
section
variable {X : Cx} {W : WX} {a b e : Expr} {es : List Expr} {fa fb : Rho → Out} {t : Rho → AOut} {pos : Pos}
theorem gives_addL : GivesL (eAddL fa fb) := GivesL.lift fun _ => GivesL.lift fun _ => gives_liftL _
theorem sl_addL (ha : SE X W a fa) (hb : SE X W b fb) : SL X W (.BinOp a .Add b pos) (eAddL fa fb) := by
  refine pe_imp (pe_op op_cat ha hb) fun σ H Q ⟨g, F, ρ, rr, h⟩ => ?_
  refine re_thenL rr h fun v F1 H1 ρ1 x s1 r1 p1 h1 => ?_
  refine re_thenL r1 h1 fun u F2 H2 ρ2 y s2 r2 p2 h2 => ?_
  obtain ⟨ds, e, q⟩ := liftL_af h2
  replace p1 := p1.mono s2
  unfold lAdd at e
  split at e
  · split at e
    · rename_i hz
      cases e
      cases p1 with
      | @lst _ v1 _ h1 h2 =>
        cases p2 with
        | @lst _ v2 _ h3 h4 =>
          exact ⟨_, _, _, _, rfl, rfl, r2.sF _ _ h1, r2.sF _ _ h3, by rw [h2.length, h4.length]; exact hz, fun p hp => newL r2 q (h2.append h4) hp⟩
    · cases e
  · cases e
/-- a slice of a list -/
def lSl (a : PyData) (lo hi : Option Int) : Option (List PyData) := match a with
  | .list xs => some (cutD xs lo hi)
  | _ => none
def eSlL (f : Rho → Out) (lo hi : Option (Rho → Out)) : Rho → Out := bnd f fun x => bndO lo fun l => bndO hi fun h => liftL (lSl x l h)
theorem gives_bndO {o : Option (Rho → Out)} {k : Option Int → Rho → Out} (h : ∀ i, GivesL (k i)) : GivesL (bndO o k) := by
  cases o with
  | none => exact h none
  | some f =>
    refine GivesL.lift fun d => ?_
    intro ρ d' ρ' e
    split at e
    · exact h _ _ _ _ e
    · cases e
theorem gives_slL {f : Rho → Out} {lo hi : Option (Rho → Out)} : GivesL (eSlL f lo hi) := GivesL.lift fun _ => gives_bndO fun _ => gives_bndO fun _ => gives_liftL _
theorem po_thenL {K : PySem.W.Frag} {mg : Str → Option Value} {g : Gd} {F H : Hp} {σ : L2.St} {ρ : Rho} {o : Option (Rho → Out)} {k : Option Int → Rho → Out} {Q : VK} {Q' : Option Int → Hp → Prop} (r : R K g F H σ ρ) (h : AfL K mg W g F σ (bndO o k ρ) Q)
    (hk : ∀ l F1 H1 ρ1, Same F F1 → R K g F1 H1 σ ρ1 → AfL K mg W g F1 σ (k l ρ1) Q → Q' l H1) : (match o with
  | none => tNoPart
  | some g => tPart (RE K mg W g)) σ H Q' := by
  cases o with
  | none => exact hk none F H ρ (Same.refl _) r h
  | some f =>
    refine re_thenL r h fun v F1 H1 ρ1 d s1 r1 p1 h1 => ?_
    cases p1 with
    | int i => exact ⟨i, rfl, hk (some i) F1 H1 ρ1 s1 r1 h1⟩
    | non => exact h1.elim
    | bl b => exact h1.elim
    | str b => exact h1.elim
    | lst a b => exact h1.elim
    | tup a b => exact h1.elim
    | dct a => exact h1.elim
    | exc x1 x2 x3 => exact h1.elim
theorem sl_slL {lo hi : Option Expr} {f : Rho → Out} {fl fh : Option (Rho → Out)} {p2 : Pos} (he : SE X W e f) (hl : SO X W lo fl) (hh : SO X W hi fh) : SL X W (.Subscript e (.Slice lo hi none p2) pos) (eSlL f fl fh) := by
  refine pe_imp (pe_slice sl_list he hl hh) fun σ H Q ⟨g, F, ρ, r, h⟩ => ?_
  refine re_thenL r h fun v F1 H1 ρ1 x s1 r1 p1 h1 => ?_
  refine po_thenL r1 h1 fun l F2 H2 ρ2 s2 r2 h2 => ?_
  refine po_thenL r2 h2 fun u F3 H3 ρ3 s3 r3 h3 => ?_
  obtain ⟨ds, e, q⟩ := liftL_af h3
  unfold lSl at e
  split at e
  · cases e
    cases p1 with
    | @lst _ v1 _ h1 h2 =>
      exact ⟨_, _, rfl, SqL.of (r3.sF _ _ (s3 _ _ (s2 _ _ h1))), fun p hp => newL r3 q (((h2.mono s2).mono s3).cut l u) hp⟩
  · cases e
/-- sorted(xs) -/
def rDNL (K : PySem.W.Frag) (p : List PyData → Option (List PyData)) : List V → Hp → VK → Prop := fun vs H Q => ∃ F ds z, Same F H ∧ Rps K F vs ds ∧ p ds = some z ∧ ∀ ws q, H q = none → Rps K F ws z → Q (.ref q) (upd H q (.lst ws))
def lSorted (xs : List PyData) : Option (List PyData) := match xs with
  | [.list ds] => if sortOk ds = true then some (ds.mergeSort (PySem.W.dataLe false id)) else none
  | _ => none
theorem o_sortedL (hu : X.A.units + 64 < cLine) : CallR X (.builtin "sorted") (rDNL X.K lSorted) := by
  intro pins s σ H xs us Q I r ⟨F, as, z, sm, pa, e, q⟩
  unfold lSorted at e
  split at e
  · rename_i ds
    split at e
    · rename_i ok
      cases e
      unfold sortOk at ok
      simp only [Bool.and_eq_true, Bool.or_eq_true, decide_eq_true_eq] at ok
      obtain ⟨⟨⟨h1, h2⟩, h3⟩, h4⟩ := ok
      obtain ⟨v, rfl, pv⟩ := rps1 pa
      obtain ⟨u, rfl, ru⟩ := vals1 r
      cases pv with
      | @lst a v1 _ hF pd =>
        cases ru
        obtain ⟨its, rv, pl, hz⟩ := I.list (SqL.of (sm _ _ hF))
        have hlen := pd.length
        have emap : (v1.zip ds).map (·.2) = ds := zip_snd hlen
        have hal : PySem.W.AllAlike ((v1.zip ds).map (·.2)) := by
          rw [emap]
          intro d hd d' hd'
          exact List.all_eq_true.mp (List.all_eq_true.mp h1 d hd) d' hd'
        have hk : PySem.W.Sortable ((v1.zip ds).map (·.2)) := by
          rw [emap]
          rcases h2 with h2 | h2
          · refine .inl fun d hd => ?_
            have := List.all_eq_true.mp h2 d hd
            unfold isCons at this
            split at this
            · exact ⟨_, _, rfl⟩
            · cases this
          · refine .inr fun d hd => ?_
            have := List.all_eq_true.mp h2 d hd
            refine ⟨fun z => ?_, fun xs z => ?_⟩
            · subst z; cases this
            · subst z; cases this
        have hL : (v1.zip ds).length ≤ sizeLine := by
          rw [List.length_zip]
          omega
        refine PySem.W.sorted_data (β := V × PyData) (bs := v1.zip ds) (enc := (·.2)) (R := fun u b => RelV b.1 u ∧ Rp X.K F b.1 b.2) pl.isList (each_of (fun _ _ => True) pd rv fun _ _ _ _ _ => trivial)
          (each_reads I sm pd rv h4) hal hk hL (fun b hb => ?_) fun out ho eo => ?_
        · have hm : b.2 ∈ ds := by
            rw [← emap]
            exact List.mem_map.mpr ⟨b, hb, rfl⟩
          have := ok50_p (List.all_eq_true.mp h4 b.2 hm)
          omega
        · obtain ⟨q1, q2⟩ := each_back eo
          have es : ((v1.zip ds).mergeSort (PySem.W.dataLe false (·.2))).map (·.2) = ds.mergeSort (PySem.W.dataLe false id) := by
            have t := PySem.W.sort_maps (r := PySem.W.dataLe false (fun b : V × PyData => b.2)) (s := PySem.W.dataLe false id) (fun b : V × PyData => b.2) (l := v1.zip ds) (fun _ _ _ _ => rfl)
            rw [emap] at t
            exact t
          rw [es] at q2
          obtain ⟨c, hc⟩ := PyProof.Rows.sortedAll_at s.heap its out.toArray
          have hp : H (s.heap.objs.size + 1) = none := I.hok.fresh (Nat.le_succ _)
          refine ⟨.ref _, upd H (s.heap.objs.size + 1) (.lst _), I.laid (t' := s.toks) (fun _ _ => PyProof.Rows.sortedAll_old) (Nat.le_succ _) ⟨?_, out, c, q1, hc⟩, rfl, q _ _ hp q2⟩
          rw [List.length_map, List.length_mergeSort]
          exact hL
    · cases e
  · cases e
def eFunL (p : List PyData → Option (List PyData)) (t : Rho → AOut) : Rho → Out := aBnd t fun ds => liftL (p ds)
theorem gives_funL {p : List PyData → Option (List PyData)} : GivesL (eFunL p t) := by
  intro ρ d ρ' e
  unfold eFunL aBnd at e
  cases e1 : t ρ with
  | er x ρ1 => rw [e1] at e; cases e
  | no => rw [e1] at e; cases e
  | ok ds ρ1 =>
    simp only [e1] at e
    exact gives_liftL _ _ _ _ e
theorem sl_funL {x : Str} {p0 : Pos} {id : String} {p : List PyData → Option (List PyData)} (hc : CallR X (.builtin id) (rDNL X.K p)) (hg : Gl X x) (hm : X.mg x = none) (hv : bootBuiltins x = some (.builtin id)) (ha : SA X W (e :: es) t)
    (hn : x ≠ "__name__" := by decide) (hdb : (x == ("__debug__" : Str)) = false := by decide)
    (he : starEach (e :: es) X.env = (false, eval e X.env) :: starEach es X.env := by rfl) (hpl : (backTo pos (starEach es X.env)).any (·.1) = false := by rfl) : SL X W (.Call (.Name x p0) (e :: es) [] pos) (eFunL p t) := by
  refine pe_imp (pe_callB hc hg hm hv ha hn hdb he hpl) fun σ H Q ⟨g, F, ρ, rr, h⟩ => ?_
  refine ra_thenL rr h fun vs F1 H1 ρ1 ds s1 r1 p1 h1 => ?_
  obtain ⟨z, e, q⟩ := liftL_af h1
  exact ⟨F1, ds, z, r1.sF, p1, e, fun ws a ha pw => newL r1 q pw ha⟩
end
end Fl
set_option Elab.async false
set_option autoImplicit false
set_option linter.all false
set_option maxRecDepth 100000
set_option maxHeartbeats 4000000
/-! Fl16: rows = [list(row) for row in xs]; rows[a][b] = e. -/
namespace Fl
open PySem PySem.Spec PyProof.Rows L2
/-- lists that are held, and what they stand for -/
inductive Nst (K : PySem.W.Frag) (F : Hp) : List Addr → List (Addr × HO) → List (List PyData) → Prop
  | nil : Nst K F [] [] []
  | cons {a : Addr} {vs : List V} {row : List PyData} {as : List Addr} {hs : List (Addr × HO)} {rows : List (List PyData)} : Rps K F vs row → Nst K F as hs rows → Nst K F (a :: as) ((a, .lst vs) :: hs) (row :: rows)
section
variable {K : PySem.W.Frag} {mg : Str → Option Value} {W : WX} {g : Gd} {F F' H H' : Hp} {σ : L2.St} {ρ : Rho} {as : List Addr} {hs : List (Addr × HO)} {rows : List (List PyData)}
theorem Nst.mono (h : Nst K F as hs rows) (s : Same F F') : Nst K F' as hs rows := by
  induction h with
  | nil => exact .nil
  | cons p _ ih => exact .cons (p.mono s) ih
theorem Nst.snoc {a : Addr} {vs : List V} {row : List PyData} (h : Nst K F as hs rows) (p : Rps K F vs row) : Nst K F (as ++ [a]) (hs ++ [(a, .lst vs)]) (rows ++ [row]) := by
  induction h with
  | nil => exact .cons p .nil
  | cons p' _ ih => exact .cons p' ih
theorem Nst.addr (h : Nst K F as hs rows) : hs.map (·.1) = as := by
  induction h with
  | nil => rfl
  | cons _ _ ih => rw [List.map_cons, ih]
theorem Nst.len (h : Nst K F as hs rows) : as.length = rows.length := by
  induction h with
  | nil => rfl
  | cons _ _ ih => rw [List.length_cons, List.length_cons, ih]
theorem Nst.at (h : Nst K F as hs rows) : ∀ {j : Nat} {row : List PyData}, rows[j]? = some row → ∃ a vs h1 h2, as[j]? = some a ∧ hs = h1 ++ (a, .lst vs) :: h2 ∧ Rps K F vs row ∧
    ∀ ws row', Rps K F ws row' → Nst K F as (h1 ++ (a, .lst ws) :: h2) (rows.set j row') := by
  induction h with
  | nil => intro j row e; simp at e
  | @cons a vs row0 as hs rows p n ih =>
    intro j row e
    cases j with
    | zero =>
      rw [List.getElem?_cons_zero] at e
      cases e
      exact ⟨a, vs, [], hs, rfl, rfl, p, fun ws row' p' => .cons p' n⟩
    | succ j =>
      rw [List.getElem?_cons_succ] at e
      obtain ⟨b, us, h1, h2, e1, e2, e3, e4⟩ := ih e
      subst e2
      exact ⟨b, us, (a, .lst vs) :: h1, h2, e1, rfl, e3, fun ws row' p' => .cons p (e4 ws row' p')⟩
theorem Nst.lay {l : List (Addr × HO)} (h : Nst K F as hs rows) : ∀ {F : Hp}, Nst K F as hs rows → as.Nodup → (∀ q ∈ l, q.1 ∉ as) → R K { g with held := hs ++ l } F H σ ρ → ∃ F', Same F F' ∧ R K { g with held := l } F' H σ ρ ∧ Rps K F' (as.map .ref) (rows.map .list) := by
  induction h with
  | nil => intro F _ _ _ r; exact ⟨F, Same.refl _, r, .nil⟩
  | @cons a vs row as hs rows p n ih =>
    intro F nn nd nl r
    cases nn with
    | cons p' n' =>
      rw [List.nodup_cons] at nd
      obtain ⟨F1, s1, r1, p1⟩ := R.lay (l := hs ++ l) r (fun q hq => by
        rcases List.mem_append.mp hq with hq | hq
        · intro z
          apply nd.1
          rw [← n.addr, ← z]
          exact List.mem_map.mpr ⟨q, hq, rfl⟩
        · exact fun z => nl q hq (by rw [z]; exact List.mem_cons_self)) p'
      obtain ⟨F2, s2, r2, p2⟩ := ih (n'.mono s1) nd.2 (fun q hq z => nl q hq (List.mem_cons_of_mem _ z)) r1
      exact ⟨F2, s1.trans s2, r2, .cons (p1.mono s2) p2⟩
theorem R.setN {i : Nat} {v : V} (r : R K g F H σ ρ) : R K g F H (σ.set i (some v)) (ρ.set i none) := by
  have own : ∀ {j : Nat} {x : Arg}, (ρ.set i none)[j]? = some (some x) → i ≠ j ∧ ρ[j]? = some (some x) := by
    intro j x e
    have hj : i ≠ j := fun hj => by
      subst hj
      have hl : i < ρ.length := by simpa using (List.getElem?_eq_some_iff.mp e).1
      rw [List.getElem?_set_self hl] at e
      cases e
    rw [List.getElem?_set_ne hj] at e
    exact ⟨hj, e⟩
  refine ⟨r.sF, r.s0, r.fresh, r.keep, fun p hp xs e => ?_, r.pinH, fun q hq => ?_, fun j x e => ?_, fun j a xs e q => ?_, fun j k a xs ys e1 e2 q1 q2 => ?_, by simpa using r.len, r.heldN, r.tab⟩
  · obtain ⟨hj, e⟩ := own e
    rw [List.getElem?_set_ne hj]
    exact r.pin p hp xs e
  · obtain ⟨h1, h2, h3, h4⟩ := r.held q hq
    refine ⟨h1, h2, h3, fun j xs e => ?_⟩
    obtain ⟨hj, e⟩ := own e
    rw [List.getElem?_set_ne hj]
    exact h4 j xs e
  · obtain ⟨hj, e⟩ := own e
    rw [List.getElem?_set_ne hj]
    exact r.slot j x e
  · obtain ⟨hj, e⟩ := own e
    rw [List.getElem?_set_ne hj] at q
    exact r.own j a xs e q
  · obtain ⟨hj, e1⟩ := own e1
    obtain ⟨hk, e2⟩ := own e2
    rw [List.getElem?_set_ne hj] at q1
    rw [List.getElem?_set_ne hk] at q2
    exact r.inj j k a xs ys e1 e2 q1 q2
def rLof (K : PySem.W.Frag) : List V → Hp → VK → Prop := fun xs H Q => ∃ p ys, xs = [.ref p] ∧ (SqL K H p ys ∨ SqT K H p ys) ∧ ∀ l, H l = none → Q (.ref l) (upd H l (.lst ys))
def rowsOf : List PyData → Option (List (List PyData))
  | [] => some []
  | d :: ds => match itemsOf d, rowsOf ds with
    | some r, some rs => some (r :: rs)
    | _, _ => none
theorem nest_lc {j : Nat} {fi : Rho → IOut} {ds : List PyData} {ρ1 : Rho} {rows : List (List PyData)} {Q : VK} (r : R K g F H σ ρ) (ef : fi ρ = .ok ds ρ1) (hj : j < ρ1.length) (hno : noOwn ρ1 [j] = true) (hrows : rowsOf ds = some rows) (hz : ds.length ≤ sizeLine)
    (hQ : ∀ D as hs F' H', Same F F' → R K { g with held := (D, .lst (as.map .ref)) :: (hs ++ g.held) } F' H' σ (unw ρ1 [j] (wipeR ρ1 [j])) → Nst K F' as hs rows → (D :: as).Nodup → (∀ q ∈ g.held, q.1 ≠ D ∧ q.1 ∉ as) → (∀ p ∈ g.pins, p ≠ D ∧ p ∉ as) → Q (.ref D) H') :
    tLc (RI K mg W fi) (gOf K (.nm j)) (RT K mg WF eYes) (tCB (rLof K) (RA K mg WF (aCons (eV j) aNil))) [j] σ H Q := by
  refine ⟨g, F, ρ, r, ?_⟩
  rw [ef]
  intro J F1 H1 s1 r1 hJ D hD
  have hDp : ∀ p ∈ g.pins, p ≠ D := fun p hp z => by
    obtain ⟨o, e⟩ := r1.pinH p hp
    rw [z, hD] at e; cases e
  have ndH : ∀ q ∈ g.held, q.1 ≠ D := fun q hq z => by
    have := (r1.held q hq).1
    rw [z, hD] at this; cases this
  let P : Nat → Hp → Prop := fun i H2 => ∃ F2 as hs done rest, Same F1 F2 ∧ R K { g with held := (D, .lst (as.map .ref)) :: (hs ++ g.held) } F2 H2 (L2.wipe σ [j]) (wipeR ρ1 [j]) ∧ Nst K F2 as hs done ∧ done.length = i ∧ rowsOf (ds.drop i) = some rest ∧ rows = done ++ rest ∧
    (D :: as).Nodup ∧ (∀ q ∈ g.held, q.1 ≠ D ∧ q.1 ∉ as) ∧ (∀ p ∈ g.pins, p ≠ D ∧ p ∉ as)
  refine ⟨fun i m H2 => m = ds.length - i ∧ i ≤ ds.length ∧ P i H2,
    ⟨ds.length, by simp, Nat.zero_le _, F1, [], [], [], rows, Same.refl _, (r1.wipe [j]).hold hD, .nil, rfl, hrows, rfl, by simp, fun q hq => ⟨ndH q hq, by simp⟩, fun p hp => ⟨hDp p hp, by simp⟩⟩, ?_⟩
  rintro i m H2 ⟨rfl, hi, F2, as, hs, done, rest, s2, r2, n2, en, er, erows, nd, nh, np⟩
  obtain ⟨hgo, hstop⟩ := hJ F2 H2 s2 r2.sF i
  by_cases hlt : i < ds.length
  · have ed : ds[i]? = some ds[i] := List.getElem?_eq_getElem hlt
    obtain ⟨go, yl⟩ := hgo _ ed
    rw [List.drop_eq_getElem_cons hlt] at er
    unfold rowsOf at er
    cases ei : itemsOf ds[i] with
    | none => simp only [ei] at er; cases er
    | some row =>
      cases er2 : rowsOf (ds.drop (i + 1)) with
      | none => simp only [ei, er2] at er; cases er
      | some rest' =>
        simp only [ei, er2, Option.some.injEq] at er
        subst er
        refine .inr ⟨go, fun H' => P (i + 1) H', fun H' hN => ⟨ds.length - (i + 1), by omega, rfl, hlt, hN⟩, fun x H' hy => ?_⟩
        obtain ⟨F3, gr, px⟩ := yl x H' hy
        have r3 := r2.grow gr
        obtain ⟨σ3, r4, k4, q⟩ := tset_ok (.nm j) ds[i] (wipeR ρ1 [j]) _ x _ r3 px rfl
        have ew : L2.wipe σ3 [j] = L2.wipe σ [j] := wipe_eq (by rw [r4.len, List.length_set, ← r3.len, wipe_length]) fun k hk => k4 k fun z => hk (by simpa [tslots] using z)
        refine q _ ⟨ew, ⟨_, F3, _, r4, fun F4 H4 s4 r5 => ?_⟩⟩
        show (if truth (.bool true) = true then _ else _)
        refine iteT ?_
        show RA K mg WF (aCons (eV j) aNil) σ3 H4 _
        refine ⟨_, F4, _, r5, ?_⟩
        have e5 : eV j ((wipeR ρ1 [j]).set j (some (.d ds[i]))) = .ok ds[i] ((wipeR ρ1 [j]).set j (some (.d ds[i]))) := by
          unfold eV
          rw [List.getElem?_set_self (by rw [wipeR_len]; exact hj)]
        unfold aCons
        rw [e5]
        show AfA _ _ _ _ _ _ (.ok [ds[i]] _) _
        intro vs F5 H5 s5 r6 p6
        obtain ⟨v, rfl, pv⟩ := rps1 p6
        obtain ⟨p, ys, rfl, hx, prow⟩ := pv.items ei
        refine ⟨p, ys, rfl, hx.elim (fun z => .inr (sameT r6.sF z)) (fun z => .inl (SqL.of (r6.sF _ _ z))), fun l hl => ?_⟩
        have hD5 : H5 D = some (.lst (as.map .ref)) := (r6.held (D, .lst (as.map .ref)) List.mem_cons_self).1
        have hlD : l ≠ D := fun z => by rw [z, hD5] at hl; cases hl
        have hin : ∀ q ∈ hs ++ g.held, H5 q.1 = some q.2 := fun q hq => (r6.held q (List.mem_cons_of_mem _ hq)).1
        have hlas : l ∉ as := fun z => by
          rw [← n2.addr] at z
          obtain ⟨q, hq, rfl⟩ := List.mem_map.mp z
          rw [hin q (List.mem_append_left _ hq)] at hl; cases hl
        have hlg : ∀ q ∈ g.held, q.1 ≠ l := fun q hq z => by
          have := hin q (List.mem_append_right _ hq)
          rw [z, hl] at this; cases this
        have hlp : ∀ p ∈ g.pins, p ≠ l := fun p hp z => by
          obtain ⟨o, e⟩ := r6.pinH p hp
          rw [z, hl] at e; cases e
        refine ⟨as.map .ref, by rw [upd_ne (Ne.symm hlD)]; exact hD5, by rw [List.length_map, n2.len, en]; omega, ?_⟩
        have r7 := (r6.hold (o := .lst ys) hl).wipe [j]
        rw [ew] at r7
        have e7 : wipeR ((wipeR ρ1 [j]).set j (some (.d ds[i]))) [j] = wipeR ρ1 [j] := by
          simp only [wipeR, List.set_set]
        rw [e7] at r7
        have s6 : Same F1 F5 := s2.trans (gr.f.trans (s4.trans s5))
        have r8 := R.sub (l := (D, .lst (as.map .ref)) :: ((hs ++ [(l, .lst ys)]) ++ g.held)) r7 (by
          intro q hq
          simp only [List.mem_cons, List.mem_append, List.not_mem_nil, or_false] at hq ⊢
          rcases hq with h | (h | h) | h
          · exact .inr (.inl h)
          · exact .inr (.inr (.inl h))
          · exact .inl h
          · exact .inr (.inr (.inr h)))
        have r9 := R.reheld (g := g) (ws := (as ++ [l]).map .ref) r8 (fun q hq => by
          rcases List.mem_append.mp hq with hq | hq
          · rcases List.mem_append.mp hq with hq | hq
            · intro z
              rw [List.nodup_cons] at nd
              apply nd.1
              rw [← n2.addr, ← z]
              exact List.mem_map.mpr ⟨q, hq, rfl⟩
            · simp only [List.mem_singleton] at hq
              subst hq
              exact hlD
          · exact ndH q hq) (fun z => hDp D z rfl)
        rw [List.map_append, List.map_cons, List.map_nil] at r9
        refine ⟨F5, as ++ [l], hs ++ [(l, .lst ys)], done ++ [row], rest', s6, by rw [List.map_append]; exact r9, (((n2.mono gr.f).mono s4).mono s5).snoc prow, by rw [List.length_append, en]; rfl, er2, by rw [List.append_assoc]; exact erows, ?_, fun q hq => ⟨ndH q hq, ?_⟩, fun p hp => ⟨hDp p hp, ?_⟩⟩
        · rw [List.nodup_cons] at nd ⊢
          refine ⟨fun z => ?_, ?_⟩
          · rcases List.mem_append.mp z with z | z
            · exact nd.1 z
            · exact hlD (List.mem_singleton.mp z).symm
          · rw [List.nodup_append]
            refine ⟨nd.2, by simp, fun a ha b hb z => ?_⟩
            simp only [List.mem_singleton] at hb
            subst hb
            subst z
            exact hlas ha
        · intro z
          rcases List.mem_append.mp z with z | z
          · exact (nh q hq).2 z
          · exact hlg q hq (by simpa using z)
        · intro z
          rcases List.mem_append.mp z with z | z
          · exact (np p hp).2 z
          · exact hlp p hp (by simpa using z)
  · have e : i = ds.length := by omega
    subst e
    rw [List.drop_length] at er
    cases er
    rw [List.append_nil] at erows
    subst erows
    refine .inl ⟨hstop (Nat.le_refl _), ?_⟩
    have r4 := R.unwipe (vs := [j]) r2 r1 s2 hno
    exact hQ D as hs F2 H2 (s1.trans s2) r4 n2 nd nh np
def sNest (i j : Nat) (fi : Rho → IOut) (fv fk1 fk2 : Rho → Out) : Rho → SOut := fun ρ => match fi ρ with
  | .ok ds ρ1 => if j < ρ1.length ∧ noOwn ρ1 [j] = true ∧ ds.length ≤ sizeLine ∧ i < ρ1.length then (match rowsOf ds with
    | some rows => (match fv ((unw ρ1 [j] (wipeR ρ1 [j])).set i none) with
      | .ok y ρ2 => (match fk1 ρ2 with
        | .ok (.int k1) ρ3 => (match ixN rows.length k1 with
          | some j1 => (match rows[j1]? with
            | some row => (match fk2 ρ3 with
              | .ok (.int k2) ρ4 => (match ixN row.length k2 with
                | some j2 => .nx (ρ4.set i (some (.d (.list ((rows.set j1 (row.set j2 y)).map .list)))))
                | none => .no)
              | _ => .no)
            | none => .no)
          | none => .no)
        | _ => .no)
      | _ => .no)
    | none => .no) else .no
  | .er x r => .er x r
  | .no => .no
end
section
variable {X : Cx} {W : WX} {tg iter e ek1 ek2 : Expr} {fi : Rho → IOut} {fv fk1 fk2 : Rho → Out} {pos : Pos} {scope : Scope} {rest : List Stmt} {frest : Rho → SOut}
theorem sb_nest {i j : Nat} {y zi : Str} {py pz pc p0 p1 p2 p3 spos pos2 : Pos} (hc : X.calm = true) (hN : X.N.Nodup) (hy : X.N[i]? = some y) (hyl : X.env.scope.names.lookup y = some .local)
    (hsw : swapsWith (.ListComp (.Call (.Name "list" p0) [.Name zi pz] [] pc) [⟨tg, iter, [], 0⟩] scope pos) (some (.Name y py)) spos.line X.env = pure true) (hi : SI X W tg iter fi) (ok : BlkOk X.N X.env.scope scope [(zi, j)])
    (hg : ∀ (s : Shared) (H : Hp) (C : Addr) (cl : List (Str × Addr)) (fp : List Addr), SG (X.blk s H scope (compEnvC scope cl C X.env) fp) tg (.nm j))
    (hl : X.mg "list" = none)
    (he : ∀ (s : Shared) (H : Hp) (C : Addr) (cl : List (Str × Addr)) (fp : List Addr), SE (X.blk s H scope (compEnvC scope cl C X.env) fp) WF (.Name zi pz) (eV j))
    (hgl : ∀ (s : Shared) (H : Hp) (C : Addr) (cl : List (Str × Addr)) (fp : List Addr), Gl (X.blk s H scope (compEnvC scope cl C X.env) fp) "list")
    (hv : SE X W e fv) (h1 : SE X W ek1 fk1) (h2 : SE X W ek2 fk2)
    (hx1 : PlainIx ek1)
    (ha : ∀ v, assign (.Subscript (.Subscript (.Name y p1) ek1 p2) ek2 p3) X.env v = (do
      let ov ← holding [v] (eval (.Subscript (.Name y p1) ek1 p2) X.env)
      let iv ← holding [v, ov] (eval ek2 X.env)
      standAt p3
      holding [v, ov, iv] (setItem ov iv v)
      release [v, ov, iv] []))
    (hs2 : swapsWithSole [.Subscript (.Subscript (.Name y p1) ek1 p2) ek2 p3] e pos2.line X.env = pure false) (hw2 : swappedStores [.Subscript (.Subscript (.Name y p1) ek1 p2) ek2 p3] e X.env = pure none)
    (hae : (assignEach [.Subscript (.Subscript (.Name y p1) ek1 p2) ek2 p3] X.env).map (·.2) = [assign (.Subscript (.Subscript (.Name y p1) ek1 p2) ek2 p3) X.env])
    (hr : SB X W rest frest) (hs : ∀ x, foldedSetIterable iter X.env x = pure x := by intro _; rfl)
    (hvis : Vis X.env.scope y := by first | exact Or.inl rfl | exact Or.inr (Or.inl rfl) | exact Or.inr (Or.inr rfl)) (hd : (y == ("__debug__" : Str)) = false := by decide)
    (hcd : (y == ("__classdict__" : Str)) = false := by decide) :
    SB X W (.Assign [.Name y py] (.ListComp (.Call (.Name "list" p0) [.Name zi pz] [] pc) [⟨tg, iter, [], 0⟩] scope pos) spos :: .Assign [.Subscript (.Subscript (.Name y p1) ek1 p2) ek2 p3] e pos2 :: rest) (sSeq (sNest i j fi fv fk1 fk2) frest) := by
  have hel : ∀ (s : Shared) (H : Hp) (C : Addr) (cl : List (Str × Addr)) (fp : List Addr), PE (X.blk s H scope (compEnvC scope cl C X.env) fp) (.Call (.Name "list" p0) [.Name zi pz] [] pc) (tCB (rLof X.K) (RA X.K X.mg WF (aCons (eV j) aNil))) := fun s H C cl fp =>
    pe_callTy call_list_of (hgl s H C cl fp) hl (by decide +kernel) (sa_cons (he s H C cl fp) sa_nil) (by decide) (by decide) rfl rfl
  have hst1 := ps_setLc (g := gOf X.K (.nm j)) (tt := RT X.K X.mg WF eYes) (te := tCB (rLof X.K) (RA X.K X.mg WF (aCons (eV j) aNil))) (py := py) hc hN hy hyl hsw hi ok hg (fun _ _ _ _ _ => pts_yes) hel hs
  have hst2 := ps_asg hv (pg_sub (pe_ix (pos := p2) ix_list (pe_var (i := i) (pos := p1) hy hvis hd hcd) h1 hx1) h2 set_list ha) hs2 hw2 hae
  refine pss_imp (pss_cons hst1 (pss_cons hst2 hr)) fun D σ H ⟨g, F, ρ, r, h⟩ => ?_
  change tLc (RI X.K X.mg W fi) (gOf X.K (.nm j)) (RT X.K X.mg WF eYes) (tCB (rLof X.K) (RA X.K X.mg WF (aCons (eV j) aNil))) [j] σ H fun x H1 => tSeq (tAsg (RE X.K X.mg W fv) (gSub (tOp (rIxL X.K) (tVar i) (RE X.K X.mg W fk1)) (RE X.K X.mg W fk2) rSetL)) (RS X.K X.mg W frest) D (σ.set i (some x)) H1
  unfold sSeq sNest at h
  cases ef : fi ρ with
  | er x ρ1 => simp only [ef] at h; exact ⟨g, F, ρ, r, by rw [ef]; exact fun cls dd F' H' s r' q => h cls dd σ F' H' s r' q⟩
  | no => simp only [ef] at h; exact h.elim
  | ok ds ρ1 =>
    simp only [ef] at h
    by_cases hcnd : j < ρ1.length ∧ noOwn ρ1 [j] = true ∧ ds.length ≤ sizeLine ∧ i < ρ1.length
    rotate_left
    · simp only [hcnd, if_false] at h; exact h.elim
    simp only [hcnd, and_self, if_true] at h
    obtain ⟨c1, c2, c3, c4⟩ := hcnd
    cases er : rowsOf ds with
    | none => simp only [er] at h; exact h.elim
    | some rows =>
      simp only [er] at h
      refine nest_lc r ef c1 c2 er c3 fun Dl as hs F1 H1 s1 r1 n1 nd nh np => ?_
      have r1' := r1.setN (i := i) (v := .ref Dl)
      have hlen : i < σ.length := by rw [r1.len, unw_len, wipeR_len]; exact c4
      have hσ : (σ.set i (some (.ref Dl)))[i]? = some (some (V.ref Dl)) := List.getElem?_set_self hlen
      generalize hσ1 : σ.set i (some (V.ref Dl)) = σ1 at r1' hσ
      generalize hρx : (unw ρ1 [j] (wipeR ρ1 [j])).set i none = ρx at h r1'
      cases ev : fv ρx with
      | er x ρ2 => simp only [ev] at h; exact h.elim
      | no => simp only [ev] at h; exact h.elim
      | ok y ρ2 =>
      simp only [ev] at h
      cases ek : fk1 ρ2 with
      | er x ρ3 => simp only [ek] at h; exact h.elim
      | no => simp only [ek] at h; exact h.elim
      | ok d1 ρ3 =>
      cases d1 with
      | none => simp only [ek] at h; exact h.elim
      | bool b => simp only [ek] at h; exact h.elim
      | str b => simp only [ek] at h; exact h.elim
      | list b => simp only [ek] at h; exact h.elim
      | tuple b => simp only [ek] at h; exact h.elim
      | dict b => simp only [ek] at h; exact h.elim
      | int k1 =>
      simp only [ek] at h
      cases ej : ixN rows.length k1 with
      | none => simp only [ej] at h; exact h.elim
      | some j1 =>
      simp only [ej] at h
      cases erow : rows[j1]? with
      | none => simp only [erow] at h; exact h.elim
      | some row =>
      simp only [erow] at h
      cases ek2 : fk2 ρ3 with
      | er x ρ4 => simp only [ek2] at h; exact h.elim
      | no => simp only [ek2] at h; exact h.elim
      | ok d2 ρ4 =>
      cases d2 with
      | none => simp only [ek2] at h; exact h.elim
      | bool b => simp only [ek2] at h; exact h.elim
      | str b => simp only [ek2] at h; exact h.elim
      | list b => simp only [ek2] at h; exact h.elim
      | tuple b => simp only [ek2] at h; exact h.elim
      | dict b => simp only [ek2] at h; exact h.elim
      | int k2 =>
      simp only [ek2] at h
      cases ej2 : ixN row.length k2 with
      | none => simp only [ej2] at h; exact h.elim
      | some j2 =>
      simp only [ej2] at h
      refine ⟨_, F1, ρx, r1', ?_⟩
      rw [ev]
      intro vy F2 H2 s2 r2 p2
      refine ⟨.ref Dl, hσ, ?_⟩
      refine ⟨_, F2, ρ2, r2, ?_⟩
      rw [ek]
      intro u F3 H3 s3 r3 p3
      cases p3
      have n3 : Nst X.K F3 as hs rows := (n1.mono s2).mono s3
      obtain ⟨a, vs, h1', h2', ea, ehs, prow, hset⟩ := n3.at erow
      refine ⟨Dl, as.map .ref, k1, .ref a, rfl, rfl, SqL.of ((r3.held (Dl, .lst (as.map .ref)) List.mem_cons_self).1), ?_, ?_⟩
      · unfold atI
        rw [List.length_map, n3.len, ej]
        show (as.map V.ref)[j1]? = _
        rw [List.getElem?_map, ea]
        rfl
      refine ⟨_, F3, ρ3, r3, ?_⟩
      rw [ek2]
      intro u2 F4 H4 s4 r4 p4
      cases p4
      have hHa : H4 a = some (.lst vs) := (r4.held (a, .lst vs) (List.mem_cons_of_mem _ (List.mem_append_left _ (by rw [ehs]; simp)))).1
      refine ⟨a, vs, k2, j2, rfl, rfl, hHa, by rw [prow.length]; exact ej2, ?_⟩
      have hasn : h1'.map (·.1) ++ a :: h2'.map (·.1) = as := by
        rw [← n3.addr, ehs]
        simp
      have hnd : (Dl :: (h1'.map (·.1) ++ a :: h2'.map (·.1))).Nodup := by rw [hasn]; exact nd
      rw [List.nodup_cons, List.nodup_append, List.nodup_cons] at hnd
      obtain ⟨d1, d2, ⟨d3, d4⟩, d5⟩ := hnd
      have hDa : Dl ≠ a := fun z => d1 (by rw [z]; simp)
      have ha1 : a ∉ h1'.map (·.1) := fun z => d5 a z a List.mem_cons_self rfl
      have haas : a ∈ as := by rw [← hasn]; simp
      have r5 := R.sub (l := (a, .lst vs) :: ((Dl, .lst (as.map .ref)) :: (h1' ++ h2' ++ g.held))) r4 (by
        intro q hq
        rw [ehs]
        simp only [List.mem_cons, List.mem_append] at hq ⊢
        rcases hq with h | h | (h | h) | h <;> simp [h])
      have r6 := R.reheld (g := g) (ws := vs.set j2 vy) r5 (fun q hq => by
        simp only [List.mem_cons, List.mem_append] at hq
        rcases hq with h | (h | h) | h
        · subst h; exact hDa
        · exact fun z => ha1 (by rw [← z]; exact List.mem_map.mpr ⟨q, h, rfl⟩)
        · exact fun z => d3 (by rw [← z]; exact List.mem_map.mpr ⟨q, h, rfl⟩)
        · exact fun z => (nh q h).2 (by rw [z]; exact haas)) (fun z => (np a z).2 haas)
      have r7 := R.sub (l := (h1' ++ (a, .lst (vs.set j2 vy)) :: h2') ++ ((Dl, .lst (as.map .ref)) :: g.held)) r6 (by
        intro q hq
        simp only [List.mem_cons, List.mem_append] at hq ⊢
        rcases hq with (h | h | h) | h | h <;> simp [h])
      have n4 := ((n3.mono s4).at erow)
      have n5 : Nst X.K F4 as (h1' ++ (a, .lst (vs.set j2 vy)) :: h2') (rows.set j1 (row.set j2 y)) := by
        obtain ⟨a', vs', g1, g2, ea', ehs', _, hset'⟩ := n4
        rw [ea] at ea'
        cases ea'
        rw [ehs] at ehs'
        have hb : (h1'.map (·.1)).length = (g1.map (·.1)).length := by
          have e1 : as = g1.map (·.1) ++ a :: g2.map (·.1) := by
            rw [← hasn]
            have := congrArg (List.map (·.1)) ehs'
            simpa using this
          have ha2 : a ∉ g1.map (·.1) := fun z => by
            have : (g1.map (·.1) ++ a :: g2.map (·.1)).Nodup := by rw [← e1]; exact (List.nodup_cons.mp nd).2
            rw [List.nodup_append] at this
            exact this.2.2 a z a List.mem_cons_self rfl
          have e2 : (h1'.map (·.1) ++ a :: h2'.map (·.1)).idxOf a = (g1.map (·.1) ++ a :: g2.map (·.1)).idxOf a := by rw [hasn, ← e1]
          rw [List.idxOf_append, List.idxOf_append, if_neg ha1, if_neg ha2] at e2
          simpa using e2
        have e3 := List.append_inj ehs' (by simpa using hb)
        obtain ⟨rfl, e4⟩ := e3
        cases e4
        exact hset' _ _ ((prow.mono s4).set ((p2.mono s3).mono s4) j2)
      obtain ⟨F5, s5, r8, p8⟩ := Nst.lay (g := g) n5 n5 (List.nodup_cons.mp nd).2 (fun q hq => by
        rcases List.mem_cons.mp hq with h | h
        · subst h; exact (List.nodup_cons.mp nd).1
        · exact (nh q h).2) r7
      obtain ⟨F6, s6, r9, p9⟩ := R.lay (g := g) (l := g.held) r8 (fun q hq => (nh q hq).1) p8
      have r10 := R.setD (i := i) r9 p9
      have e10 : σ1.set i (some (V.ref Dl)) = σ1 := by rw [← hσ1, List.set_set]
      rw [e10] at r10
      exact ⟨g, F6, _, r10, AfS.mono (s1.trans (s2.trans (s3.trans (s4.trans (s5.trans s6))))) h⟩
end
end Fl
set_option Elab.async false
set_option autoImplicit false
set_option linter.all false
set_option maxRecDepth 100000
set_option maxHeartbeats 4000000
/-! Fl17: try .. except X as n, the error kept behind it. -/
namespace Fl
open PySem PySem.Spec PyProof.Rows L2
theorem exV_ok {P : Program} {w : World} {H : Hp} {h : Heap} {a : Addr} {cls : Value} {d : Option Addr} {oe : Obj} {vs : Array Value} (e : h.get? a = some oe) (z : Zc cls d oe) (hd : oe.data = .fields vs) : ObjOk P w H h a (ExV cls d a) :=
  ⟨⟨oe, vs, e, z, hd⟩, ⟨oe, e⟩, fun _ _ ⟨o, v, q, r⟩ k => ⟨o, v, k o q, r⟩⟩
section
variable {X : Cx} {H : Hp} {s : Shared} {σ : L2.St} {pins : List (Addr × Obj)}
/-- an error that stands in the heap, made behind the entry, is known from now on -/
theorem inv_know {a : Addr} {cls : Value} {d : Option Addr} {oe : Obj} {vs : Array Value} (I : Inv X ((a, oe) :: pins) σ H s) (n0 : X.s_0.heap.get? a = none) (np : ∀ p ∈ X.pn ++ pins, p.1 ≠ a) (z : Zc cls d oe) (hd : oe.data = .fields vs) : Inv X pins σ (upd H a (ExV cls d a)) s := by
  obtain ⟨ea, na, nL, nF, _⟩ := I.pin (a, oe) (List.mem_append_right _ List.mem_cons_self)
  have ne0 : ∀ b o, X.s_0.heap.get? b = some o → b ≠ a := by
    rintro b o e rfl
    rw [n0] at e
    cases e
  refine ⟨I.ok, I.os, I.bare, ⟨I.base.keep, I.base.slot, fun b o e n hq => ?_, I.base.there, fun b xs e => ?_, fun b o u e => ?_, fun b ps e => ?_⟩, I.loc, I.cell, ?_, fun x c e => ?_, fun p hp => ?_, fun b u e => ?_, I.len⟩
  · rw [upd_ne (ne0 b o e)]
    exact I.base.free b o e n hq
  · have q := I.base.tups b xs e
    rw [upd_ne (ne_of_none q na)]
    exact q
  · have q := I.base.frzs b o u e
    rw [upd_ne (ne_of_none q na)]
    exact q
  · obtain ⟨m, q⟩ := I.base.tbls b ps e
    exact ⟨m, by rw [upd_ne (ne_of_none q na)]; exact q⟩
  · rw [upd_ne (Ne.symm nL)]
    exact I.free
  · have hc : c ≠ a := fun q => by
      obtain ⟨v, o, ho, hcell⟩ := I.cell x c e
      rw [q, ea] at ho
      cases ho
      rw [hd] at hcell
      cases hcell
    rw [upd_ne hc]
    exact I.freeC x c e
  · have hpa := np p hp
    obtain ⟨e, n, ne, nf, dd⟩ := I.pin p (by
      rcases List.mem_append.mp hp with h | h
      · exact List.mem_append_left _ h
      · exact List.mem_append_right _ (List.mem_cons_of_mem _ h))
    exact ⟨e, by rw [upd_ne hpa]; exact n, ne, nf, dd⟩
  · by_cases hb : b = a
    · subst hb
      rw [upd_same] at e
      cases e
      exact exV_ok ea z hd
    · rw [upd_ne hb] at e
      exact (I.hok b u e).stay (fun c v _ q => q) (fun c q => by rw [upd_ne (ne_of_none q na)]; exact q) fun c xs q => by rw [upd_ne (ne_of_none q na)]; exact q
end
/-- an error of the body's: caught by x, it is put under y (slot j) and known behind the statement -/
def wHold (K : PySem.W.Frag) (c : Value) (i j : Nat) (Wout : WX) (D : Ends) : WX := fun cls d τ G => ∃ hit, PySem.W.exmOne K cls c = some hit ∧
  (hit = true → ∀ a, G a = none → D.nx (((τ.set i (some (.ref a))).set j (some (.ref a))).set i none) (upd G a (ExV cls d a))) ∧ (hit = false → Wout cls d τ G)
section
variable {X : Cx} {P : Heap} {a : Addr} {cls c : Value} {d : Option Addr} {x n y : Str} {i j : Nat} {σ : L2.St} {H G : Hp} {s t : Shared} {pins : List (Addr × Obj)} {D : Ends} {Wout : WX} {p1 p2 p3 p4 p5 p6 p7 p8 : Pos} {call : Expr} {tb : WX → TE}
/-- what is known of an error that lies at a, when the frames of X stand -/
structure Caught (X : Cx) (P : Heap) (a : Addr) (cls : Value) (d : Option Addr) (h : Heap) : Prop where
  held : HandSPX.FlyingZ P (X.env :: X.outer) a (Zc cls d) h
theorem Caught.there {h : Heap} (k : Caught X P a cls d h) : ∃ oe vs, h.get? a = some oe ∧ Zc cls d oe ∧ oe.data = .fields vs := by
  obtain ⟨_, _, _, oe, vs, _, _, _, e, z, dd, _⟩ := k.held
  exact ⟨oe, vs, e, z, dd⟩
theorem Caught.off (k : Caught X P a cls d s.heap) : a ∉ frs (X.env :: X.outer) := by
  intro m
  obtain ⟨oe, vs, e, _, dd⟩ := k.there
  obtain ⟨_, o, e', nf⟩ := k.held.2.2.1.mem m
  rw [e] at e'
  cases e'
  exact nf _ dd
theorem Caught.offL (k : Caught X P a cls d s.heap) (hf : X.env.frame = some X.env.locals) : a ≠ X.env.locals := by
  rintro rfl
  exact k.off (List.mem_filterMap.mpr ⟨_, .head _, hf⟩)
theorem Caught.offF (k : Caught X P a cls d s.heap) : a ∉ X.fs := by
  intro m
  obtain ⟨e, h1, h2⟩ := List.mem_filterMap.mp m
  exact k.off (List.mem_filterMap.mpr ⟨e, .tail _ h1, h2⟩)
/-- before the error came, nothing stood there -/
theorem Caught.was (k : Caught X P a cls d s.heap) (hs : X.stack = X.env :: X.outer) (nb : ∀ b o, t.heap.get? b = some o → b ∉ frs X.stack → P.get? b = some o) : t.heap.get? a = none := by
  rcases h : t.heap.get? a with _ | o
  · rfl
  · have := nb a o h (hs ▸ k.off)
    rw [k.held.2.1] at this
    cases this
theorem Caught.entry (k : Caught X P a cls d s.heap) (hs : X.stack = X.env :: X.outer) (hex : X.ex = []) (nb : ∀ b o, t.heap.get? b = some o → b ∉ frs X.stack → P.get? b = some o) (J : Inv X pins σ H t) :
    X.s_0.heap.get? a = none ∧ ∀ p ∈ X.pn ++ pins, p.1 ≠ a := by
  have w := k.was hs nb
  constructor
  · rcases h : X.s_0.heap.get? a with _ | o
    · rfl
    · obtain ⟨_, h'⟩ := J.base.there a o h (by simp [hex])
      rw [w] at h'
      cases h'
  · rintro p hp rfl
    have := (J.pin p hp).1
    rw [w] at this
    cases this
/-- x's class, read in a suite -/
theorem Caught.look (J : Inv X pins σ H s) (hc : Names X x c) (k : Caught X P a cls d s.heap) (hf : X.env.frame = some X.env.locals) (na : H a = none) {Q E : Value → Shared → Prop} (q : Q c s) :
    wpAny (model X.prog X.w) (X.A.mark (some (.ref a))) (eval (.Name x p1) X.env) Q E s := by
  obtain ⟨oe, vs, e, _, dd⟩ := k.there
  have S := J.suite e dd na (k.offL hf) k.offF
  obtain ⟨g, db, m⟩ := hc
  rcases m with m | ⟨m, b, nn⟩
  · exact ld_glob (X := X.suite a ((a, oe) :: (X.pn ++ pins))) S g m q db
  · exact ld_blt (X := X.suite a ((a, oe) :: (X.pn ++ pins))) S g m b q nn db
/-- name = e in the suite, and the end of the suite -/
theorem Caught.store (J : Inv X pins σ H s) (k : Caught X P a cls d s.heap) (hs : X.stack = X.env :: X.outer) (hf : X.env.frame = some X.env.locals) (na : H a = none) (old : X.s_0.heap.get? a = none ∧ ∀ p ∈ X.pn ++ pins, p.1 ≠ a)
    (hN : X.N.Nodup) (hi : X.N[i]? = some n) (hj : X.N[j]? = some y) (ln : X.env.kindOf n = some .local) (ly : X.env.kindOf y = some .local) (hd : (n == ("__debug__" : Str)) = false) (hcd : (n == ("__classdict__" : Str)) = false)
    (hsw : swapsWith (.Name n p2) (some (.Name y p1)) p3.line X.env = pure false)
    (q : D.nx (((σ.set i (some (.ref a))).set j (some (.ref a))).set i none) (upd H a (ExV cls d a))) :
    wpAny (model X.prog X.w) (X.A.mark (some (.ref a))) (storeName X.env n (.ref a)) (fun _ s1 => wpAny (model X.prog X.w) (X.A.mark (some (.ref a))) (execs [.Assign [.Name y p1] (.Name n p2) p3] X.env)
      (fun f s2 => f = .next ∧ wpAny (model X.prog X.w) X.A (do bindName X.env n .none; unbindBehindTheSuite X.env n p4) (fun _ s3 => SP X pins D f s3) X.xe s2) (fun _ _ => False) s1) (fun _ _ => False) s := by
  obtain ⟨oe, vs, e, z, dd⟩ := k.there
  have S := J.suite e dd na (k.offL hf) k.offF
  refine store_ok (X := X.suite a ((a, oe) :: (X.pn ++ pins))) (v := .ref a) S hN hi (.inl ln) rfl (fun s1 S1 => ?_) (.inr ln)
  have st := ps_set (X := X.suite a ((a, oe) :: (X.pn ++ pins))) (pos := p3) (pos' := p1) hN hj (.inl ly) (pe_var (i := i) (pos := p2) hi (.inl ln) hd hcd) hsw (.inr ly)
  have hlen : i < σ.length := by
    have h := J.len
    have h' := (List.getElem?_eq_some_iff.mp hi).1
    omega
  refine wpAny_mono ((pss_one st).run [] s1 _ H { nx := fun τ G => G = H ∧ τ = (σ.set i (some (.ref a))).set j (some (.ref a)), rt := fun _ _ => False, bk := fun _ _ => False, ct := fun _ _ => False } S1
    ⟨.ref a, by rw [List.getElem?_set_self hlen], rfl, rfl⟩) (fun f s2 r => ?_) fun _ _ r => r
  cases f with
  | next =>
    obtain ⟨τ, G, T, e1, e2⟩ := r
    subst e1
    subst e2
    refine ⟨rfl, ?_⟩
    have T' : Inv X ((a, oe) :: pins) ((σ.set i (some (.ref a))).set j (some (.ref a))) G s2 := ⟨J.ok, T.os, T.bare, T.base, T.loc, T.cell, T.free, T.freeC, fun p hp => T.pin p (by
      rw [List.append_nil]
      show p ∈ (a, oe) :: (X.pn ++ pins)
      simp only [List.mem_append, List.mem_cons] at hp ⊢
      rcases hp with h | h | h <;> simp [h]), T.hok, T.len⟩
    exact gone_ok T' hN hi ln fun s3 U => ⟨_, _, inv_know U old.1 old.2 z dd, q⟩
  | ret u => obtain ⟨_, _, _, _, _, r⟩ := r; exact r.elim
  | brk => obtain ⟨_, _, _, r⟩ := r; exact r.elim
  | cont => obtain ⟨_, _, _, r⟩ := r; exact r.elim
/-- try: e / except x as n: y = n -/
theorem ps_hold {e : Expr} (hs : X.stack = X.env :: X.outer) (hf : X.env.frame = some X.env.locals) (hex : X.ex = []) (hN : X.N.Nodup) (hi : X.N[i]? = some n) (hj : X.N[j]? = some y) (ln : X.env.kindOf n = some .local) (ly : X.env.kindOf y = some .local) (hc : Names X x c) (tk : Takes X Wout)
    (body : ∀ (W : WX) (pn : List (Addr × Obj)) (xe : Value → Shared → Prop), Takes (X.tr pn xe) W → PE (X.tr pn xe) e (tb W))
    (hd : (n == ("__debug__" : Str)) = false := by decide) (hcd : (n == ("__classdict__" : Str)) = false := by decide) (hsw : swapsWith (.Name n p2) (some (.Name y p1)) p3.line X.env = pure false := by rfl) (hse : swapsWith e none p5.line X.env = pure false := by rfl) :
    PS X (.Try [.Expr e p5] [.ExceptHandler (some (.Name x p6)) (some n) [.Assign [.Name y p1] (.Name n p2) p3] p4] [] [] p7) (fun D σ H => tb (wHold X.K c i j Wout D) σ H fun _ G => D.nx σ G) := by
  refine ⟨fun pins s σ H D I h => wpAny_Try_except ?_⟩
  have one : ∀ (W : WX) (pn : List (Addr × Obj)) (xe : Value → Shared → Prop), Takes (X.tr pn xe) W → PSs (X.tr pn xe) [.Expr e p5] (tDrop (tb W)) := fun W pn xe t => pss_one (ps_expr (pos := p5) (body W pn xe t) hse)
  let hs1 : List ExceptHandler := [.ExceptHandler (some (.Name x p6)) (some n) [.Assign [.Name y p1] (.Name n p2) p3] p4]
  let after : Value → Shared → Prop := fun u t => wpAny (model X.prog X.w) X.A (noteFrame u X.env) (fun _ t1 => wpAny (model X.prog X.w) X.A (setFlight u none) (fun _ t2 => wpAny (model X.prog X.w) X.A (handleBy u X.env hs1) (SP X pins D) X.xe t2) X.xe t1) X.xe t
  have caught : Takes (X.tr (X.pn ++ pins) after) (wHold X.K c i j Wout D) := by
    rintro u t ⟨a, P, t0, q0, τ, G, cls, d, rfl, J0, nb, up, sky, na, os, ag, hit, m, yes, no⟩
    have J := J0.ofTry I.ok
    show wpAny _ _ (noteFrame (.ref a) X.env) _ _ _
    refine Sky.land Zc.steady (by rw [I.ok.frames, hs]) hf (hs ▸ sky) fun h1 z1 up1 => ?_
    have k1 : Caught X P a cls d h1 := ⟨z1⟩
    have J1 : Inv X pins τ G { t with heap := h1 } := J.landed nb z1.1 (up.trans up1) os ag
    have old := Caught.entry (s := { t with heap := h1 }) k1 hs hex nb J
    obtain ⟨oe, vs, e1, cl, _⟩ := k1.there
    refine wpAny_handleBy_cons (codeAny_handlers_test (Caught.look J1 hc k1 hf na ?_)) (by intro z; cases z)
    refine (PySem.W.exm_one (M := model X.prog X.w) J1.kIn (fun A Q E s1 kp q => wpAny_typeOf_ref (kp _ _ e1) (by rw [cl.1]; exact q)) m).here ?_
    cases hit with
    | true =>
      refine codeAny_handlers_suite_as (HandSPX.lands_againZ z1 fun h2 z2 up2 => ?_)
      have k2 : Caught X P a cls d h2 := ⟨z2⟩
      have J2 : Inv X pins τ G { t with heap := h2 } := J.landed nb z2.1 ((up.trans up1).trans up2) os ag
      refine wpAny_mono (Caught.store (p4 := p4) (D := D) J2 k2 hs hf na old hN hi hj ln ly hd hcd hsw (yes rfl a na)) (fun _ s1 q1 => wpAny_mono q1 (fun f s2 q2 => q2.2) fun _ _ z => z.elim) fun _ _ z => z.elim
    | false =>
      refine wpAny_handleBy_nil ?_
      have go : wpAny (model X.prog X.w) X.A (setFlight (.ref a) X.env.frame) (fun _ s4 => wpAny (model X.prog X.w) X.A (throw (.ref a) : Sem Flow) (SP X pins D) X.xe s4) X.xe { t with heap := h1 } := by
        rw [hf]
        exact HandSPX.setFlight_upZ z1 fun h2 z2 up2 => wpAny_throw (tk _ _ ⟨a, P, t0, pins, τ, G, cls, d, rfl, J, nb, (up.trans up1).trans up2, .inr (.inr (hs ▸ z2)), na, os, ag, no rfl⟩)
      obtain ⟨_, _, _, o1, vs1, T, _, _, f1, _, f2, f3, _⟩ := id z1
      unfold PySem.passOn
      refine wpAny_bind (wpAny_field f1 f2 f3 ?_)
      rw [if_neg (by simp)]
      first
        | exact wpAny_bind go
        | exact wpAny_bind (wpAny_pure (wpAny_bind go))
  refine wpAny_mono ((one _ _ _ caught).run [] s σ H { nx := D.nx, rt := fun _ _ => False, bk := fun _ _ => False, ct := fun _ _ => False } (I.toTry _) h) (fun f s1 r => ?_) fun _ _ r => r
  cases f with
  | next =>
    obtain ⟨τ, G, J, q⟩ := r
    exact wpAny_execs_nil ⟨τ, G, J.ofTry I.ok, q⟩
  | ret u => obtain ⟨_, _, _, _, _, r⟩ := r; exact r.elim
  | brk => obtain ⟨_, _, _, r⟩ := r; exact r.elim
  | cont => obtain ⟨_, _, _, r⟩ := r; exact r.elim
end
end Fl
set_option Elab.async false
set_option autoImplicit false
set_option linter.all false
set_option maxRecDepth 100000
set_option maxHeartbeats 4000000
/-! Fl18: isinstance of an error that is held as a value. -/
namespace Fl
open PySem PySem.Spec PyProof.Rows L2
/-- of each error of ns: it is an error of the program, and isinstance asks it for the class dv as tab says -/
structure IsTab (K : PySem.W.Frag) (ns : List Str) (dv : Value) (tab : Str → Bool) : Prop where
  ex : ∀ n ∈ ns, ∃ C, PySem.W.nsIn K mainGlobals n = some (some (.ref C)) ∧ ExcC K C ∧ PySem.W.kitOne K (.ref C) dv = some (tab n)
def isaX (ns : List Str) (tab : Str → Bool) : PyData → Option PyData
  | .dict [(.list [], .str n), (.none, _)] => if ns.contains n = true then some (.bool (tab n)) else none
  | _ => none
def eIsX (ns : List Str) (tab : Str → Bool) (f : Rho → Out) : Rho → Out := bnd f fun d => lift (isaX ns tab d)
theorem isaX_inv {ns : List Str} {tab : Str → Bool} {d z : PyData} (e : isaX ns tab d = some z) : ∃ n w, d = excD n w ∧ n ∈ ns ∧ z = .bool (tab n) := by
  unfold isaX at e
  split at e
  · rename_i n w
    split at e
    · rename_i h
      cases e
      exact ⟨n, w, rfl, by simpa using h, rfl⟩
    · cases e
  · cases e
section
variable {X : Cx} {W : WX} {a : Expr} {fa : Rho → Out} {p0 p1 pos : Pos} {x : Str} {ns : List Str} {tab : Str → Bool} {v : V} {dv : Value}
theorem se_isX (ha : SE X W a fa) (T : IsTab X.K ns dv tab) (rv : ∀ u, RelV v u → u = dv) (hx : PE X (.Name x p1) (tC v)) (hg : Gl X "isinstance") (hm : X.mg "isinstance" = none)
    (h1 : starEach (a :: [.Name x p1]) X.env = (false, eval a X.env) :: starEach [.Name x p1] X.env := by rfl) (h2 : starEach [.Name x p1] X.env = (false, eval (.Name x p1) X.env) :: starEach [] X.env := by rfl)
    (h3 : (backTo pos (starEach [.Name x p1] X.env)).any (·.1) = false := by rfl) : SE X W (.Call (.Name "isinstance" p0) [a, .Name x p1] [] pos) (eIsX ns tab fa) := by
  have ask : CallR X (.builtin "isinstance") (fun xs H Q => ∃ F u d z, xs = [u, v] ∧ Same F H ∧ Rp X.K F u d ∧ isaX ns tab d = some z ∧ ∀ F' H', Grow F H F' H' → ∀ b, z = .bool b → Q (.bl b) H') := by
    rintro pins s σ H xs us Q I r ⟨F, u, d, z, rfl, sm, p, e, q⟩
    obtain ⟨u1, u2, rfl, r1, r2⟩ := vals2 r
    cases rv _ r2
    obtain ⟨n, w, rfl, hn, rfl⟩ := isaX_inv e
    obtain ⟨C, hC, kC, hk⟩ := T.ex n hn
    cases p with
    | @exc b C' _ dd _ e1 e2 e3 =>
      rw [hC] at e1
      cases e1
      cases r1
      obtain ⟨⟨oe, vs, g1, g2, g3⟩, _, _⟩ := I.hok b _ (sm _ _ e2)
      have fin : ∀ tk, EP X pins σ Q (.bool (tab n)) { s with toks := tk } := fun tk => ⟨.bl (tab n), H, I.tok tk, rfl, q F H (Grow.refl sm) _ rfl⟩
      have cl : (PySem.W.clsIn X.K C).isSome = true := by
        obtain ⟨cd, h, _⟩ := PySem.W.any_some kC.hd
        rw [h]; rfl
      obtain ⟨c, di, da, sl⟩ := oe
      obtain ⟨rfl, rfl⟩ := g2
      cases g3
      rcases e3 with ⟨_, rfl⟩ | ⟨i, qd, _, rfl, h3⟩
      · exact PySem.W.kia_one (PySem.W.kitx_exc (x := b) (od := none) cl kC.hg kC.hk kC.hs kC.ha kC.hn kC.ht kC.hm) I.kIn ⟨g1, rfl, rfl, trivial⟩ hk (fun z => nomatch z) fin
      · obtain ⟨mA, ⟨o, _, _, h4, _⟩, _⟩ := I.hok qd _ (sm _ _ h3)
        exact PySem.W.kia_one (PySem.W.kitx_exc (x := b) (od := some o) cl kC.hg kC.hk kC.hs kC.ha kC.hn kC.ht kC.hm) I.kIn ⟨g1, rfl, rfl, h4⟩ hk (fun z => nomatch z) fin
  refine pe_imp (pe_callB ask hg hm (by decide +kernel) (pa_cons ha (pa_cons hx pa_nil h2) h1) (by decide) (by decide) h1 h3) fun σ H Q ⟨g, F, ρ, r, h⟩ => ?_
  refine re_then r h fun u F1 H1 ρ1 d s1 r1 p1 h1 => ?_
  obtain ⟨z, e, q⟩ := lift_af h1
  exact ⟨F1, u, d, z, rfl, r1.sF, p1, e, fun F' H' gr b eb => by subst eb; exact q _ F' H' gr.f (r1.grow gr) (.bl _)⟩
end
end Fl
set_option Elab.async false
set_option autoImplicit false
set_option linter.all false
set_option maxRecDepth 100000
set_option maxHeartbeats 4000000
/-! Fl19: a def that calls what it got, and tells the error. -/
namespace Fl
open PySem PySem.Spec PyProof.Rows L2
theorem GrowT.refl {F H : Hp} (s : Same F H) : GrowT F H F H := ⟨Same.refl _, s, fun _ _ e _ => e, fun _ _ e => .inl e⟩
theorem Grow.toT {F H F' H' : Hp} (g : Grow F H F' H') : GrowT F H F' H' := ⟨g.f, g.fh, fun a o e _ => g.h a o e, fun a o e => (g.new a o e).imp id Fre.none⟩
theorem GrowT.trans {F H F1 H1 F2 H2 : Hp} (x : GrowT F H F1 H1) (y : GrowT F1 H1 F2 H2) : GrowT F H F2 H2 :=
  ⟨x.f.trans y.f, y.fh, fun a o e n => y.h a o (x.h a o e n) n, fun a o e => by
    rcases y.new a o e with h | h
    · exact x.new a o h
    · refine .inr fun u q => ?_
      by_cases t : ∃ ps, u = .tbl ps
      · exact t
      · exact h u (x.h a u q fun ps z => t ⟨ps, z⟩)⟩
/-- what the rest of the def makes of d in slot j -/
def resW (m j : Nat) (fr : Rho → SOut) (d : PyData) : Option PyData := match fr ((List.replicate m none).set j (some (.d d))) with
  | .nx _ => some .none
  | .rt z _ => some z
  | _ => none
def TTw (K : PySem.W.Frag) (CS : Addr) (r : PyData → Option PyData) : (XK → Hp → VK → Prop) → Hp → VK → Prop := fun tl H Q =>
  tl (fun cls dd G => ∃ n z F C, cls = .ref C ∧ PySem.W.nsIn K mainGlobals n = some (some (.ref C)) ∧ PySem.W.exmOne K (.ref C) (.ref CS) = some true ∧ NumAt F dd z ∧ Same F G ∧ TabF K F G ∧
      ∃ w, r (excD n z) = some w ∧ ∀ v F' G', GrowT F G F' G' → TabF K F' G' → Rp K F' v w → Q v G')
    H (fun _ G => ∃ F, Same F G ∧ TabF K F G ∧ ∃ w, r .none = some w ∧ ∀ v F' G', GrowT F G F' G' → TabF K F' G' → Rp K F' v w → Q v G')
section
variable {K : PySem.W.Frag} {mg : Str → Option Value} {F H : Hp} {σ : L2.St} {d : PyData} {v : V} {m j : Nat}
/-- one slot is known -/
theorem R.one (s : Same F H) (tb : TabF K F H) (p : Rp K F v d) (hl : σ.length = m) (hs : σ[j]? = some (some v)) : R K ⟨H, F, [], []⟩ F H σ ((List.replicate m none).set j (some (.d d))) := by
  have one : ∀ {i : Nat} {x : Arg}, ((List.replicate m (none : Option Arg)).set j (some (.d d)))[i]? = some (some x) → i = j ∧ x = .d d := by
    intro i x e
    by_cases hj : j = i
    · subst hj
      have hlt : j < (List.replicate m (none : Option Arg)).length := by simpa using (List.getElem?_eq_some_iff.mp e).1
      rw [List.getElem?_set_self hlt] at e
      cases e
      exact ⟨rfl, rfl⟩
    · rw [List.getElem?_set_ne hj, List.getElem?_replicate] at e
      split at e <;> cases e
  exact {
    sF := s
    s0 := Same.refl _
    fresh := fun a o e => .inl e
    keep := fun a o e _ _ => e
    pin := fun p hp => (List.not_mem_nil hp).elim
    pinH := fun p hp => (List.not_mem_nil hp).elim
    held := fun q hq => (List.not_mem_nil hq).elim
    slot := fun i x e => by
      obtain ⟨rfl, rfl⟩ := one e
      exact ⟨v, hs, p⟩
    own := fun i a xs e => by
      obtain ⟨_, z⟩ := one e
      cases z
    inj := fun i k a xs ys e => by
      obtain ⟨_, z⟩ := one e
      cases z
    len := by simpa using hl
    heldN := fun q hq => (List.not_mem_nil hq).elim
    tab := tb }
/-- the rest, run from there -/
theorem rest_run {fr : Rho → SOut} {Q : VK} {w : PyData} {G0 F0 : Hp} (s : Same F H) (tb : TabF K F H) (p : Rp K F v d) (hl : σ.length = m) (hs : σ[j]? = some (some v)) (e : resW m j fr d = some w)
    (up : GrowT F0 G0 F H) (q : ∀ v F' G', GrowT F0 G0 F' G' → TabF K F' G' → Rp K F' v w → Q v G') : RS K mg WF fr { nx := fun _ H' => Q .non H', rt := Q, bk := fun _ _ => False, ct := fun _ _ => False } σ H := by
  refine ⟨_, F, _, R.one s tb p hl hs, ?_⟩
  unfold resW at e
  cases c : fr ((List.replicate m none).set j (some (.d d))) with
  | nx ρ => rw [c] at e; cases e; exact fun σ' F' H' _ r => q _ F' H' (up.trans (R.toGrow (g := ⟨H, F, [], []⟩) r)) r.tab .non
  | rt z ρ => rw [c] at e; cases e; exact fun u σ' F' H' _ r pu => q u F' H' (up.trans (R.toGrow (g := ⟨H, F, [], []⟩) r)) r.tab pu
  | er x ρ => rw [c] at e; cases e
  | bk ρ => rw [c] at e; cases e
  | ct ρ => rw [c] at e; cases e
  | no => rw [c] at e; cases e
end
section
open LamX
variable {X : Cx}
theorem word_gives {Ng : List Str} {x a y n c q : Str} {sg : Scope} {g CS : Addr} {cdg : Value} {i j k : Nat} {rest : List Stmt} {fr : Rho → SOut} {p0 p1 p2 p3 p4 p5 p6 p7 p8 p9 p10 p11 : Pos}
    (hge : sg.names.lookup c = some .globalImplicit) (hme : X.mg c = some (.ref CS)) (hde : (c == ("__debug__" : Str)) = false) (hN : Ng.Nodup) (h0 : Ng[0]? = some a) (hi : Ng[i]? = some n) (hj : Ng[j]? = some y) (hij : i ≠ j) (hj0 : j ≠ 0)
    (ln : sg.names.lookup n = some .local) (ly : sg.names.lookup y = some .local) (hd : (n == ("__debug__" : Str)) = false) (hcd : (n == ("__classdict__" : Str)) = false)
    (hr : ∀ (s : Shared) (H : Hp), SB (cxOf C8.CX0 X.prog X.w X.K X.mg X.base Ng x sg g cdg X.A X.stack s H C8.E0).nox WF rest fr) :
    GivesTo X Ng x sg g cdg (.Assign [.Name y p0] (.Constant .none k p1) p2 :: .Try [.Expr (.Call (.Name a p3) [] [] p4) p5] [.ExceptHandler (some (.Name c p6)) (some n) [.Assign [.Name y p7] (.Name n p8) p9] p10] [] [] p11 :: rest) a q
      (TTw X.K CS (resW Ng.length j fr)) := by
  intro f c' s H Q tl act hc h
  let Z := (cxOf C8.CX0 X.prog X.w X.K X.mg X.base Ng x sg g cdg X.A X.stack s H C8.E0).nox
  have loc : Loc sg y := .inl ly
  have s1 := ps_set (X := Z) (pos := p2) (pos' := p0) hN hj loc (pe_non (X := Z) (j := k) (pos := p1)) rfl (.inr ly)
  have nm : Names Z c (.ref CS) := ⟨hge, hde, .inl hme⟩
  refine ⟨_, pss_cons s1 (pss_cons (ps_hold (X := Z) (p1 := p7) (p2 := p8) (p3 := p9) (p4 := p10) (p5 := p5) (p6 := p6) (p7 := p11) (e := .Call (.Name a p3) [] [] p4) (Wout := WF) (i := i) (j := j) (c := .ref CS)
    (tb := fun W σ H Q => ∃ (E : XK) (Q' : VK), (∀ u G, Q' u G → Q u G) ∧ (∀ cls d τ G, τ.length = Ng.length → E cls d G → W cls d τ G) ∧ σ[0]? = some (some (.ref f)) ∧ H c' = some (CodeO c' q) ∧ tl E H Q')
    rfl rfl rfl hN hi hj ln ly nm LamX.takes0 (fun W pn xe tk => ?_) hd hcd rfl rfl) (hr s H)), ?_⟩
  · show PE _ _ _
    refine ⟨fun pins t τ G Q J ⟨E, Q', hQ, hW, e1, e2, e3⟩ => ?_⟩
    refine wpAny_mono ((act (fun cls d τ G => τ.length = Ng.length → W cls d τ G) pn xe E p3 p4 (fun u t ⟨a, B, sI, pins, τ, G, cls, d, e, I, nb, up, sky, na, os, ag, w⟩ => tk u t ⟨a, B, sI, pins, τ, G, cls, d, e, I, nb, up, sky, na, os, ag, w I.len⟩)
      (fun cls d τ G h hl => hW cls d τ G hl h)).run pins t τ G Q' J ⟨e1, e2, e3⟩) (fun u t' ⟨v, G', I', r', q'⟩ => ⟨v, G', I', r', hQ _ _ q'⟩) fun _ _ z => z
  · have hl : (L2.start Ng [V.ref f]).length = Ng.length := by simp [L2.start]; have := (List.getElem?_eq_some_iff.mp h0).1; omega
    have hjl : j < Ng.length := (List.getElem?_eq_some_iff.mp hj).1
    refine ⟨_, _, fun u G => ?_, ?_, ?_, hc, h⟩
    · rintro ⟨F, e1, e2, w, e3, e4⟩
      have hs : ((L2.start Ng [V.ref f]).set j (some V.non))[j]? = some (some V.non) := List.getElem?_set_self (by omega)
      exact rest_run e1 e2 .non (by simpa using hl) hs e3 (GrowT.refl e1) e4
    · rintro cls dd τ G ht ⟨n', z, F, C, rfl, e1, e2, e3, e4, e5, w, e6, e7⟩
      refine ⟨true, e2, fun _ b nb => ?_, fun z => by cases z⟩
      have gr := Grow.new1 (o := ExV (.ref C) dd b) e4 nb
      have hs : ((((τ.set i (some (.ref b))).set j (some (.ref b))).set i none)[j]?) = some (some (V.ref b)) := by
        rw [List.getElem?_set_ne hij, List.getElem?_set_self (by simpa [ht] using hjl)]
      exact rest_run gr.fh ⟨e5.t.ext gr.h, fun a ps e => e5.n a ps (gr.nt a ps e)⟩ (.exc e1 upd_same (e3.mono gr.f)) (by simpa using ht) hs e6 gr.toT e7
    · show ((L2.start Ng [V.ref f]).set j (some V.non))[0]? = _
      rw [List.getElem?_set_ne hj0]
      exact start_get rfl
end
end Fl
set_option Elab.async false
set_option autoImplicit false
set_option linter.all false
set_option maxRecDepth 100000
set_option maxHeartbeats 4000000
/-! Fl20: f(lambda: e), where nothing is being shown. -/
namespace Fl
open PySem PySem.Spec PyProof.Rows L2 LamX
section
variable {X : Cx} {pins : List (Addr × Obj)} {σ : L2.St} {H : Hp} {s : Shared}
/-- the lambda that was handed on is called: its body is read with the maker's names -/
theorem act_pe {x a : Str} {sg : Scope} {g f c' : Addr} {cdg pm ctv : Value} {params : Arguments} {body : Expr} {scope : Scope} {k : Nat} {Ng : List Str} {pn : List (Addr × Obj)} {xe : Value → Shared → Prop} {W : WX} {E : XK} {tb : TE} {p1 p2 : Pos}
    (I : Inv X pins σ H s) (L : LamS X.env.scope scope) (at_ : s.heap.get? f = some (PySem.W.kla_obj "<lambda>" (X.env.qual ++ "<lambda>") params body scope (cloFrom X.env.cells scope.names []) pm c' ctv)) (nf : H f = none) (off : f ∉ frs X.stack)
    (noArgs : bindArgs (PySem.W.kla_fn "<lambda>" (X.env.qual ++ "<lambda>") params body scope (cloFrom X.env.cells scope.names []) pm (.ref c') ctv) ⟨[], []⟩ = pure []) (gd : X.A.guards = some [])
    (tk : Takes ((cxOf C8.CX0 X.prog X.w X.K X.mg X.base Ng x sg g cdg X.A X.stack s H C8.E0).tr pn xe) W) (out : ∀ cls d τ G, E cls d G → W cls d τ G) (room : Room (k + 1) (X.A.deeper (envOfC x sg s.heap.objs.size g cdg)))
    (inner : ∀ (A : Around) (outer : List PySem.Env) (s : Shared) (H : Hp), Room k (A.deeper (lamEnv X scope s.heap.objs.size f c')) → A.guards = some [] → PE (lamCx X A outer s H E scope f c') body tb)
    (hN : Ng[0]? = some a) (vis : Vis sg a) (hd : (a == ("__debug__" : Str)) = false) (hcd : (a == ("__classdict__" : Str)) = false) :
    PE ((cxOf C8.CX0 X.prog X.w X.K X.mg X.base Ng x sg g cdg X.A X.stack s H C8.E0).tr pn xe) (.Call (.Name a p1) [] [] p2) (fun τ G Q => τ[0]? = some (some (.ref f)) ∧ G c' = some (CodeO c' (X.env.qual ++ "<lambda>")) ∧ tb σ G Q) := by
  constructor
  rintro qs t τ G Q J ⟨slot, code, h⟩
  refine wpAny_Call_Name_kw (thn ((pe_var (pos := p1) (i := 0) hN vis hd hcd).run qs t τ G (fun v G' => v = .ref f ∧ G' = G) J ⟨.ref f, slot, rfl, rfl⟩) ?_)
  rintro u t1 ⟨_, G1, K1, rv, rfl, eG⟩
  cases rv
  rw [← eG] at code h
  have obj := K1.base.keep f _ at_ nf off (List.not_mem_nil)
  refine PySem.W.callWith_F0 ⟨_, _, _, _, obj⟩ ?_
  have ran : codeAny (model X.prog X.w) (X.A.deeper (envOfC x sg s.heap.objs.size g cdg)) (.call (.ref f) ⟨[], []⟩) (CR (L2.CX X.prog X.w) (envOfC x sg s.heap.objs.size g cdg :: X.stack) X.prog X.w G1 t1 Q E) t1 := by
    obtain ⟨⟨oc, vs, tc, c1, c2, c3⟩, _, _⟩ := K1.hok c' _ code
    refine PySem.W.kla_callFunE room.depth obj rfl L.co L.gen rfl ⟨c', oc, vs, tc, rfl, c1, c2, c3⟩ ?_
    rw [noArgs]
    refine wpAny_pure (wpAny_newFunctionEnv (fun y m => (L.own y m).2) (fun _ m => (List.not_mem_nil m).elim) (fun h1 ns only => ⟨K1.nolimit.fresh _ only, PySem.W.kla_codeExpr ?_⟩) L.kind)
    have stays : ∀ b o, t1.heap.get? b = some o → h1.get? b = some o := fun b o e => only.extBut b o (Nat.ne_of_lt (Heap.lt_size e)) (Heap.get?_push_of_some _ e)
    have S := lam_start2 (A := X.A.deeper (envOfC x sg s.heap.objs.size g cdg)) (outer := envOfC x sg s.heap.objs.size g cdg :: X.stack) (E := E) (f := f) (c' := c') (tk := t1.toks + ([] : List (Str × Value)).length) I L K1.env0 room.hd K1.base ns stays
    refine wpAny_mono ((inner _ _ t1 _ (room.deeper _) gd).run [] _ _ _ Q S h) ?_ fun _ _ z => z
    rintro v t3 ⟨w, G3, S3, r3, q3⟩
    exact ⟨w, G3, S3.os, S3.bare, S3.base, S3.hok, r3, q3⟩
  refine wpAny_call (codeAny_mono ran ?_)
  rintro (e | fl) t2 q
  · exact passes_call tk out qs τ _ t1 e t2 K1 q
  · cases fl with
    | ret u => exact K1.after q
    | next => cases q
    | brk => cases q
    | cont => cases q
/-- x(lambda: body), x a def of the module with one parameter -/
theorem pe_lam {T : List (Addr × Str)} {TT : (XK → Hp → VK → Prop) → Hp → VK → Prop} {x a : Str} {st : Stmt} {g c P : Addr} {fd : FuncData} {k : Nat} {Ng : List Str} {params : Arguments} {body : Expr} {scope : Scope} {t : XK → TE} {p lpos pos : Pos}
    (F : Fun X.K x x st g fd) (hb : Binds X.K fd [a] []) (hm : X.mg x = some (.ref g)) (hg : Gl X x) (S : FnScope Ng [a] (defScope st)) (h0 : Ng[0]? = some a) (va : Vis (defScope st) a)
    (gives : ∀ cdg, GivesTo X Ng x (defScope st) g cdg (defBody st) a (X.env.qual ++ "<lambda>") TT) (TB : TabB X.base X.mg c P) (hcode : X.env.code = .ref c) (inT : (P, X.env.qual ++ "<lambda>") ∈ T) (only : ∀ p ∈ T, p.1 = P → p.2 = X.env.qual ++ "<lambda>")
    (room : Room (k + 2) X.A) (gd : X.A.guards = some []) (L : LamS X.env.scope scope) (noDef : defaultsOf params X.env = ([], []))
    (noArgs : ∀ (q : Str) (cl : List (Str × Addr)) (pm cv ctv : Value), bindArgs (PySem.W.kla_fn "<lambda>" q params body scope cl pm cv ctv) ⟨[], []⟩ = pure [])
    (inner : ∀ (A : Around) (outer : List PySem.Env) (s : Shared) (H : Hp) (E : XK) (f c' : Addr), Room k (A.deeper (lamEnv X scope s.heap.objs.size f c')) → A.guards = some [] → PE (lamCx X A outer s H E scope f c') body (t E))
    (d1 : (x == ("__debug__" : Str)) = false := by decide) (d2 : (a == ("__debug__" : Str)) = false := by decide) (d3 : (a == ("__classdict__" : Str)) = false := by decide) :
    PE X (.Call (.Name x p) [.Lambda params body scope lpos] [] pos) (tLam T TT t) := by
  constructor
  rintro pins s σ H Q I ⟨tabs, h⟩
  have keep := F.kp
  obtain ⟨_, _, _, _, _, _, cdg, _, _, rfl, lk, code⟩ := F.ex
  refine wpAny_Call_Name_kw (ld_glob I hg hm (PySem.W.callWith_K (h₀ := X.base) I.ok.mod.kin keep ?_ rfl rfl) d1)
  change wpAny _ _ (spliced ((false, eval (.Lambda params body scope lpos) X.env) :: backTo pos (starEach [] X.env))) _ _ s
  refine Calls.spliced_cons (lam_make2 I TB hcode inT only tabs noDef (L.has I.ok) ?_)
  rintro f c' pm ctv H1 s1 J eN tabs1 at_ nf off co
  refine Calls.spliced_nil ⟨J.kIn, ?_⟩
  have ran : codeAny (model X.prog X.w) X.A (.call (.ref g) ⟨[.ref f], []⟩) (CR C8.CX0 X.stack X.prog X.w H1 s1 Q C8.E0) s1 :=
    run_ofS (N := Ng) (ps := [a]) (us := [.ref f]) (vs := [.ref f]) lk code S room J.env0 (hb s1 [.ref f] J.kIn rfl) (.cons rfl .nil) rfl fun room' => by
      obtain ⟨t', p', q'⟩ := gives cdg f c' s1 H1 Q (fun E G Q' => t E σ G Q') (fun W pn xe E p1 p2 tk out => act_pe J L at_ nf off (noArgs _ _ _ _ _) gd tk out room' (fun A outer s H r g => inner A outer s H E f c' r g) h0 va d2 d3) co (h H1 eN tabs1)
      exact ⟨t', p'.nox, q'⟩
  refine wpAny_call (codeAny_mono ran ?_)
  rintro (e | fl) s2 q
  · cases q
  · cases fl with
    | ret u => exact J.after q
    | next => cases q
    | brk => cases q
    | cont => cases q
end
end Fl
set_option Elab.async false
set_option autoImplicit false
set_option linter.all false
set_option maxRecDepth 100000
set_option maxHeartbeats 4000000
/-! Fl21: the word that tells what a lambda raises, over data. -/
namespace Fl
open PySem PySem.Spec PyProof.Rows L2 LamX
def fldD : Option Int → PyData
  | none => .none
  | some i => .int i
/-- the errors of ns are the program's, and caught by the class CS -/
structure CatchN (K : PySem.W.Frag) (mg : Str → Option Value) (ns : List Str) (CS : Addr) : Prop where
  ex : ∀ n ∈ ns, ∃ C, mg n = some (.ref C) ∧ PySem.W.nsIn K mainGlobals n = some (some (.ref C)) ∧ PySem.W.exmOne K (.ref C) (.ref CS) = some true
def eWord (ns : List Str) (r : PyData → Option PyData) (fb : Rho → Out) : Rho → Out := fun ρ => match fb ρ with
  | .ok _ ρ1 => (match r .none with
    | some w => .ok w ρ1
    | none => .no)
  | .er x ρ1 => if ns.contains x.name = true then (match r (excD x.name (fldD x.fld)) with
    | some w => .ok w ρ1
    | none => .no) else .no
  | .no => .no
section
variable {X : Cx} {W : WX}
theorem word_core {K : PySem.W.Frag} {mg : Str → Option Value} {ns : List Str} {CS : Addr} {r : PyData → Option PyData} {fb : Rho → Out} (cn : CatchN K mg ns CS) (σ : L2.St) (H : Hp) (Q : VK) (h : RE K mg W (eWord ns r fb) σ H Q) :
    tLam (tabsOf K) (TTw K CS r) (fun E => RE K mg (fun cls d _ H => E cls d H) fb) σ H Q := by
  obtain ⟨g, F, ρ, rr, h⟩ := h
  refine ⟨rr.tab.t, fun H1 eN tabs1 => ?_⟩
  have r1 := rr.growT (F' := F) (H' := H1) ⟨Same.refl _, fun a o e => eN a o (rr.sF _ _ e) (fun ps z => rr.tab.n a ps (by rw [← z]; exact e)), eN, fun a o e => .inl e⟩ ⟨tabs1, rr.tab.n⟩
  refine ⟨g, F, ρ, r1, ?_⟩
  unfold eWord at h
  cases e : fb ρ with
  | no => rw [e] at h; exact h.elim
  | ok d ρ1 =>
    simp only [e] at h
    intro v F2 H2 s2 r2 p2
    cases er : r .none with
    | none => simp only [er] at h; exact h.elim
    | some w =>
      simp only [er] at h
      exact ⟨F2, r2.sF, r2.tab, w, rfl, fun v F' G' gr tb pv => h v F' G' (s2.trans gr.f) (r2.growT gr tb) pv⟩
  | er x ρ1 =>
    simp only [e] at h
    by_cases hc : ns.contains x.name = true
    rotate_left
    · rw [if_neg hc] at h; exact h.elim
    rw [if_pos hc] at h
    cases er : r (excD x.name (fldD x.fld)) with
    | none => simp only [er] at h; exact h.elim
    | some w =>
      simp only [er] at h
      intro cls dd F2 H2 s2 r2 hx
      obtain ⟨C, m1, rfl, m2⟩ := hx
      obtain ⟨C', k1, k2, k3⟩ := cn.ex x.name (by simpa using hc)
      rw [m1] at k1
      cases k1
      refine ⟨x.name, fldD x.fld, F2, C, rfl, k2, k3, ?_, r2.sF, r2.tab, w, er, fun v F' G' gr tb pv => h v F' G' (s2.trans gr.f) (r2.growT gr tb) pv⟩
      cases ef : x.fld with
      | none => rw [ef] at m2; exact .inl ⟨rfl, m2⟩
      | some z =>
        rw [ef] at m2
        obtain ⟨q, d1, d2⟩ := m2
        exact .inr ⟨z, q, rfl, d1, d2⟩
theorem pe_weak {e : Expr} {t u : TE} (h : PE X e t) (k : ∀ σ H Q, u σ H Q → t σ H Q) : PE X e u := pe_imp h k
end
/-- the code object of the def of this name, and its table -/
structure LamFor (K : PySem.W.Frag) (mg : Str → Option Value) (base : Heap) (x : Str) : Prop where
  ex : ∀ f cdv, CodeOf K f x cdv → ∃ c P, cdv = .ref c ∧ TabB base mg c P ∧ (P, x ++ ".<locals>." ++ "<lambda>") ∈ tabsOf K ∧ ∀ p ∈ tabsOf K, p.1 = P → p.2 = x ++ ".<locals>." ++ "<lambda>"
/-- the errors of ns are caught by the class of the name cs -/
structure CatchG (K : PySem.W.Frag) (mg : Str → Option Value) (ns : List Str) (cs : Str) : Prop where
  ex : ∃ CS, mg cs = some (.ref CS) ∧ CatchN K mg ns CS
/-- isinstance asks the errors of ns for the class of the name D -/
structure IsOwn (K : PySem.W.Frag) (mg : Str → Option Value) (ns : List Str) (D : Str) (tab : Str → Bool) : Prop where
  ex : ∃ C, mg D = some (.ref C) ∧ IsTab K ns (.ref C) tab
section
variable {X : Cx} {W : WX} {a : Expr} {fa : Rho → Out} {p0 p1 pos : Pos} {ns : List Str} {tab : Str → Bool}
theorem se_isOwn {D : Str} (ha : SE X W a fa) (G : IsOwn X.K X.mg ns D tab) (hg : Gl X "isinstance") (hm : X.mg "isinstance" = none) (hD : Gl X D) (hdb : (D == ("__debug__" : Str)) = false := by decide)
    (h1 : starEach (a :: [.Name D p1]) X.env = (false, eval a X.env) :: starEach [.Name D p1] X.env := by rfl) (h2 : starEach [.Name D p1] X.env = (false, eval (.Name D p1) X.env) :: starEach [] X.env := by rfl)
    (h3 : (backTo pos (starEach [.Name D p1] X.env)).any (·.1) = false := by rfl) : SE X W (.Call (.Name "isinstance" p0) [a, .Name D p1] [] pos) (eIsX ns tab fa) := by
  obtain ⟨C, m, T⟩ := G.ex
  exact se_isX (v := .ref C) ha T (fun u r => by cases r; rfl) (pe_glob hD m rfl hdb) hg hm h1 h2 h3
/-- a def that tells the error of what it calls: its promise -/
structure WordD (P : Program) (w : World) (K : PySem.W.Frag) (mg : Str → Option Value) (base : Heap) (x : Str) (ns : List Str) (r : PyData → Option PyData) : Prop where
  ex : ∃ (st : Stmt) (g : Addr) (fd : FuncData) (Ng : List Str) (a : Str) (CS : Addr), Fun K x x st g fd ∧ Binds K fd [a] [] ∧ mg x = some (.ref g) ∧ FnScope Ng [a] (defScope st) ∧ Ng[0]? = some a ∧ Vis (defScope st) a ∧ CatchN K mg ns CS ∧
    (a == ("__debug__" : Str)) = false ∧ (a == ("__classdict__" : Str)) = false ∧
    ∀ (X : Cx), X.prog = P → X.w = w → X.K = K → X.mg = mg → X.base = base → Room 1 X.A → X.A.guards = some [] → ∀ (cdg : Value) (q : Str), GivesTo X Ng x (defScope st) g cdg (defBody st) a q (TTw K CS r)
theorem se_word {x : Str} {r : PyData → Option PyData} {fb : Rho → Out} {params : Arguments} {body : Expr} {scope : Scope} {lpos p : Pos} {k : Nat} {c P : Addr} (D : WordD X.prog X.w X.K X.mg X.base x ns r) (hg : Gl X x)
    (TB : TabB X.base X.mg c P) (hcode : X.env.code = .ref c) (inT : (P, X.env.qual ++ "<lambda>") ∈ tabsOf X.K) (only : ∀ p ∈ tabsOf X.K, p.1 = P → p.2 = X.env.qual ++ "<lambda>")
    (room : Room (k + 2) X.A) (gd : X.A.guards = some []) (L : LamS X.env.scope scope) (noDef : defaultsOf params X.env = ([], []))
    (noArgs : ∀ (q : Str) (cl : List (Str × Addr)) (pm cv ctv : Value), bindArgs (PySem.W.kla_fn "<lambda>" q params body scope cl pm cv ctv) ⟨[], []⟩ = pure [])
    (inner : ∀ (A : Around) (outer : List PySem.Env) (s : Shared) (H : Hp) (E : XK) (f c' : Addr), Room k (A.deeper (lamEnv X scope s.heap.objs.size f c')) → (A.deeper (lamEnv X scope s.heap.objs.size f c')).guards = some [] → SE (lamCx X A outer s H E scope f c') (fun cls d _ H => E cls d H) body fb)
    (d1 : (x == ("__debug__" : Str)) = false := by decide) : SE X W (.Call (.Name x p) [.Lambda params body scope lpos] [] pos) (eWord ns r fb) := by
  obtain ⟨st, g, fd, Ng, a, CS, h1, h2, h3, h4, h5, h6, h7, h8, h9, h10⟩ := D.ex
  exact pe_imp (pe_lam (T := tabsOf X.K) (TT := TTw X.K CS r) (t := fun E => RE X.K X.mg (fun cls d _ H => E cls d H) fb) h1 h2 h3 hg h4 h5 h6 (fun cdg => h10 X rfl rfl rfl rfl rfl (room.mono (by omega)) gd cdg _) TB hcode inT only room gd L noDef noArgs
    (fun A outer s H E f c' hr hgd => inner A outer s H E f c' hr hgd) d1 h8 h9) (word_core h7)
end
end Fl
set_option Elab.async false
set_option autoImplicit false
set_option linter.all false
set_option maxRecDepth 100000
set_option maxHeartbeats 4000000
/-! Fl22: is True; the pen. -/
namespace Fl
open PySem PySem.Spec PyProof.Rows L2
def qIsB (a b : PyData) : Option Bool := match a, b with
  | .bool x, .bool y => some (decide (x = y))
  | _, _ => none
def qIsNotB (a b : PyData) : Option Bool := (qIsB a b).map (!·)
section
variable {X : Cx}
theorem q_isB : OpR X (compareOp .Is) (rDC X.K qIsB) := by
  rintro pins s σ H x y v u Q I rx ry ⟨F, a, b, z, sm, pa, pb, e, q⟩
  unfold qIsB at e
  split at e
  · cases e
    cases pa
    cases pb
    exact op_isBl pins s σ H _ _ v u Q I rx ry ⟨_, _, rfl, rfl, q F H (Grow.refl sm)⟩
  · cases e
theorem q_isNotB : OpR X (compareOp .IsNot) (rDC X.K qIsNotB) := by
  rintro pins s σ H x y v u Q I rx ry ⟨F, a, b, z, sm, pa, pb, e, q⟩
  unfold qIsNotB qIsB at e
  split at e
  · cases e
    cases pa
    cases pb
    exact op_notBl pins s σ H _ _ v u Q I rx ry ⟨_, _, rfl, rfl, q F H (Grow.refl sm)⟩
  · cases e
end
/-! ### [list(xs[:n]), 0, 0] -/
/-- what the def that makes a pen promises -/
def spPen (K : PySem.W.Frag) (n : Int) : Sp := fun vs H Q _ => ∃ a xs, vs = [.ref a] ∧ SqL K H a xs ∧
  ∀ c l p, H c = none → l ≠ c → H l = none → p ≠ c → p ≠ l → H p = none → Q (.ref p) (upd (upd (upd H c (.lst (cutV xs none (some n)))) l (.lst (cutV xs none (some n)))) p (.lst [.ref l, .int 0, .int 0]))
section
variable {P : Program} {w : World} {K : PySem.W.Frag} {mg : Str → Option Value} {base : Heap}
theorem fn_penOf {x qual y : Str} {st : Stmt} {f : Addr} {fd : FuncData} {N : List Str} {k : Nat} {n : Int} {j1 j2 j3 : Nat} {p0 p1 p2 p3 p4 p5 p6 p7 p8 p9 : Pos} (F : Fun K x qual st f fd) (S : FnScope N [y] (defScope st)) (h0 : N[0]? = some y) (vis : Vis (defScope st) y)
    (hb : defBody st = [.Return (some (.List [.Call (.Name "list" p0) [.Subscript (.Name y p1) (.Slice none (some (.Constant (.int n) j1 p2)) none p3) p4] [] p5, .Constant (.int 0) j2 p6, .Constant (.int 0) j3 p7] p8)) p9])
    (hd : (y == ("__debug__" : Str)) = false) (hcd : (y == ("__classdict__" : Str)) = false) (hl : mg "list" = none) (gl : (defScope st).names.lookup ("list" : Str) = some .globalImplicit) : FnG P w K mg base (L2.CX P w) (k + 1) f fd [y] (spPen K n) := by
  refine okG F S (fun vs H Q E h => ?_) (fun cdv A outer s H vs Q E hcd' hgd hr h => ?_)
  · obtain ⟨a, xs, rfl, _⟩ := h
    rfl
  · obtain ⟨a, xs, rfl, hq, h⟩ := h
    rw [hb]
    let X := cxOf (L2.CX P w) P w K mg base N qual (defScope st) f cdv A outer s H E
    have e1 := pe_slice (X := X) (p2 := p3) (pos := p4) sl_list (pe_var (i := 0) (pos := p1) h0 vis hd hcd) po_none (po_some (pe_int (i := n) (j := j1) (pos := p2)))
    have e2 := pe_callTy (X := X) (p := p0) (pos := p5) call_list_of (show Gl X "list" from gl) hl (by decide +kernel) (pa_cons e1 pa_nil rfl) (by decide) (by decide) rfl rfl
    have e3 := pe_lst (X := X) (pos := p8) (pa_cons e2 (pa_cons (pe_int (i := 0) (j := j2) (pos := p6)) (pa_cons (pe_int (i := 0) (j := j3) (pos := p7)) pa_nil rfl) rfl) rfl)
    refine ⟨_, pss_one (ps_ret (pos := p9) e3), ?_⟩
    have free : ∀ {G : Hp} {b q : Addr} {o : HO}, upd G b o q = none → q ≠ b ∧ G q = none := fun {G b q o} e => by
      have ne : q ≠ b := fun z => by
        rw [z, upd_same] at e
        cases e
      rw [upd_ne ne] at e
      exact ⟨ne, e⟩
    refine ⟨.ref a, start_get rfl, n, rfl, a, xs, rfl, hq, fun c hc => ?_⟩
    refine ⟨c, _, rfl, .inl (SqL.of upd_same), fun l hl => ?_⟩
    obtain ⟨l1, l2⟩ := free hl
    refine ⟨(by decide +kernel : 3 ≤ sizeLine), fun p hp => ?_⟩
    obtain ⟨q1, q2⟩ := free hp
    obtain ⟨q3, q4⟩ := free q2
    exact h c l p hc l1 l2 q3 q1 q4
theorem cut_take (xs : List V) (n : Nat) : cutV xs none (some (n : Int)) = xs.take n := by
  unfold cutV
  rw [HT.sIx_none, HT.sIx_nat, List.drop_zero, Nat.sub_zero]
  rcases Nat.le_total n xs.length with h | h
  · rw [Nat.min_eq_left h]
  · rw [Nat.min_eq_right h, List.take_length, List.take_of_length_le h]
theorem rps_ints {F : Hp} : ∀ ns : List Int, Rps K F (ns.map V.int) (ns.map PyData.int)
  | [] => .nil
  | n :: ns => .cons (.int n) (rps_ints ns)
/-- x makes a pen of its argument -/
structure PenD (P : Program) (w : World) (K : PySem.W.Frag) (mg : Str → Option Value) (base : Heap) (k : Nat) (x : Str) (n : Nat) : Prop where
  ex : ∃ (fa : Addr) (fd : FuncData) (ps : List Str), FnG P w K mg base (L2.CX P w) k fa fd ps (spPen K n) ∧ mg x = some (.ref fa) ∧ PySem.W.keepIn K (.ref fa) = true ∧ Binds K fd ps []
theorem PenD.mono {j k n : Nat} {x : Str} (p : PenD P w K mg base j x n) (h : j ≤ k) : PenD P w K mg base k x n := by
  obtain ⟨fa, fd, ps, G, r⟩ := p.ex
  exact ⟨fa, fd, ps, G.mono h, r⟩
/-- the state of a law behind its first row: the pen in slot j -/
def lawStart (m j n : Nat) (ns : List Int) : Rho := (List.replicate m none).set j (some (.o [.list ((ns.take n).map .int), .int 0, .int 0]))
/-- what a law promises of the scripts for which ok holds -/
def spLaw (K : PySem.W.Frag) (ok : List Int → Prop) : Sp := fun vs H Q _ => ∃ a ns, vs = [.ref a] ∧ SqL K H a (ns.map V.int) ∧ LamX.Tabs (tabsOf K) H ∧ ok ns ∧ ∀ G, Q (.bl true) G
theorem R.law {H : Hp} {c l p : Addr} {m j n : Nat} {ns : List Int} {σ : L2.St} (tb : LamX.Tabs (tabsOf K) H) (hc : H c = none) (lc : l ≠ c) (hl : H l = none) (pc : p ≠ c) (pl : p ≠ l) (hp : H p = none) (hlen : σ.length = m) (hs : σ[j]? = some (some (.ref p))) :
    R K ⟨fun _ => none, fun _ => none, [], []⟩ (upd (fun _ => none) l (.lst ((ns.take n).map V.int))) (upd (upd (upd H c (.lst ((ns.take n).map V.int))) l (.lst ((ns.take n).map V.int))) p (.lst [.ref l, .int 0, .int 0])) σ (lawStart m j n ns) := by
  have one : ∀ {i : Nat} {x : Arg}, (lawStart m j n ns)[i]? = some (some x) → i = j ∧ x = .o [.list ((ns.take n).map .int), .int 0, .int 0] := by
    intro i x e
    unfold lawStart at e
    by_cases hj : j = i
    · subst hj
      have hlt : j < (List.replicate m (none : Option Arg)).length := by simpa using (List.getElem?_eq_some_iff.mp e).1
      rw [List.getElem?_set_self hlt] at e
      cases e
      exact ⟨rfl, rfl⟩
    · rw [List.getElem?_set_ne hj, List.getElem?_replicate] at e
      split at e <;> cases e
  have e1 : Same H (upd H c (.lst ((ns.take n).map V.int))) := same_upd hc
  have e2 : Same (upd H c (.lst ((ns.take n).map V.int))) (upd (upd H c (.lst ((ns.take n).map V.int))) l (.lst ((ns.take n).map V.int))) := same_upd (by rw [upd_ne lc]; exact hl)
  have e3 : Same (upd (upd H c (.lst ((ns.take n).map V.int))) l (.lst ((ns.take n).map V.int))) (upd (upd (upd H c (.lst ((ns.take n).map V.int))) l (.lst ((ns.take n).map V.int))) p (.lst [.ref l, .int 0, .int 0])) := same_upd (by rw [upd_ne pl, upd_ne pc]; exact hp)
  have fl : ∀ {a : Addr} {o : HO}, upd (fun _ => none) l (HO.lst ((ns.take n).map V.int)) a = some o → a = l ∧ o = .lst ((ns.take n).map V.int) := by
    intro a o e
    by_cases ha : a = l
    · subst ha
      rw [upd_same] at e
      cases e
      exact ⟨rfl, rfl⟩
    · rw [upd_ne ha] at e
      cases e
  exact {
    sF := fun a o e => by
      obtain ⟨rfl, rfl⟩ := fl e
      exact e3 _ _ upd_same
    s0 := fun a o e => by cases e
    fresh := fun a o e => .inr (.inl fun u q => by cases q)
    keep := fun a o e => by cases e
    pin := fun p hp => (List.not_mem_nil hp).elim
    pinH := fun p hp => (List.not_mem_nil hp).elim
    held := fun q hq => (List.not_mem_nil hq).elim
    slot := fun i x e => by
      obtain ⟨rfl, rfl⟩ := one e
      refine ⟨p, _, hs, upd_same, .cons (.lst upd_same (rps_ints _)) (.cons (.int 0) (.cons (.int 0) .nil)), ?_⟩
      rw [upd_ne pl]
    own := fun i a xs e q => .inl fun u z => by cases z
    inj := fun i k a xs ys h1 h2 _ _ => by
      rw [(one h1).1, (one h2).1]
    len := by simpa [lawStart] using hlen
    heldN := fun q hq => (List.not_mem_nil hq).elim
    tab := ⟨tb.ext fun a o e => e3 _ _ (e2 _ _ (e1 _ _ e)), fun a ps e => by
      obtain ⟨_, z⟩ := fl e
      cases z⟩ }
/-- a law, by what stands behind pen = f(script) -/
theorem fn_law {x qual y z pf : Str} {st : Stmt} {f : Addr} {fd : FuncData} {N : List Str} {k n j : Nat} {rest : List Stmt} {fr : Rho → SOut} {p0 p1 p2 p3 p4 : Pos} (F : Fun K x qual st f fd) (S : FnScope N [y] (defScope st)) (h0 : N[0]? = some y) (vis : Vis (defScope st) y)
    (hb : defBody st = .Assign [.Name z p0] (.Call (.Name pf p1) [.Name y p2] [] p3) p4 :: rest) (hj : N[j]? = some z) (lz : (defScope st).names.lookup z = some .local) (pd : PenD P w K mg base k pf n) (gl : (defScope st).names.lookup pf = some .globalImplicit)
    (hd : (y == ("__debug__" : Str)) = false) (hcd : (y == ("__classdict__" : Str)) = false) (hpf : (pf == ("__debug__" : Str)) = false)
    (body : ∀ (cdv : Value) (A : Around) (outer : List PySem.Env) (s : Shared) (H : Hp) (E : XK), CodeOf K f qual cdv → Room k (A.deeper (envOfC qual (defScope st) s.heap.objs.size f cdv)) → A.guards = some [] →
      SB (cxOf (L2.CX P w) P w K mg base N qual (defScope st) f cdv A outer s H E) (fun cls d _ H => E cls d H) rest fr) :
    FnG P w K mg base (L2.CX P w) (k + 1) f fd [y] (spLaw K fun ns => ∃ ρ, fr (lawStart N.length j n ns) = .rt (.bool true) ρ) := by
  refine okG F S (fun vs H Q E h => ?_) (fun cdv A outer s H vs Q E hcd' hgd hr h => ?_)
  · obtain ⟨a, ns, rfl, _⟩ := h
    rfl
  · obtain ⟨a, ns, rfl, hq, tb, ⟨ρ, hρ⟩, fin⟩ := h
    obtain ⟨fa, fd', ps, G, hm, hk, hbd⟩ := pd.ex
    rw [hb]
    let X := cxOf (L2.CX P w) P w K mg base N qual (defScope st) f cdv A outer s H E
    have tk : Takes X (fun cls d _ H => E cls d H) := takes_of rfl rfl rfl rfl
    have e1 := pe_callG (X := X) (p := p1) (pos := p3) G hgd hr (show Gl X pf from gl) hm hk hbd (fun σ => passAt tk σ) (pa_cons (pe_var (i := 0) (pos := p2) h0 vis hd hcd) pa_nil rfl) hpf rfl rfl
    refine ⟨_, pss_cons (ps_set (pos := p4) (pos' := p0) S.nd hj (.inl lz) e1 rfl (.inr lz)) (body cdv A outer s H E hcd' hr hgd), ?_⟩
    refine ⟨.ref a, start_get rfl, a, _, rfl, hq, fun c l p hc lc hl pc pl hp => ?_⟩
    rw [cut_take, ← List.map_take]
    have hjl : j < (L2.start N [V.ref a]).length := by
      have h1 := (List.getElem?_eq_some_iff.mp hj).1
      have h2 := (List.getElem?_eq_some_iff.mp h0).1
      simp only [L2.start, List.length_append, List.length_map, List.length_replicate, List.length_cons, List.length_nil]
      omega
    refine ⟨_, _, _, R.law (n := n) (j := j) (m := N.length) (ns := ns) tb hc lc hl pc pl hp ?_ (List.getElem?_set_self hjl), ?_⟩
    · have h2 := (List.getElem?_eq_some_iff.mp h0).1
      simp only [List.length_set, L2.start, List.length_append, List.length_map, List.length_replicate, List.length_cons, List.length_nil]
      omega
    · rw [hρ]
      intro v σ' F' H' _ _ pv
      cases pv
      exact fin H'
end
end Fl
set_option Elab.async false
set_option autoImplicit false
set_option linter.all false
set_option maxRecDepth 100000
set_option maxHeartbeats 4000000
/-! Fl23: {} against other kinds. -/
namespace Fl
open PySem PySem.Spec PySem.SeqAt PySem.MeetsSeq
open AutoSeq1 (wpAny_loadPart')
/-- a dict stands at l -/
def DictAt (h : Heap) (l : Addr) : Prop := ∃ es ep dd sl, h.get? l = some { cls := .type "dict", dict := dd, data := .dict es ep, slots := sl }
theorem dict_no_str (l : Addr) (es : Array DictEntry) (ep : Nat) (dd : Option Addr) (sl : Array (Option Value)) (b : Str) (u : Tok) :
    Meets (Builtin.«dict.__eq__» ⟨[.ref l, .str b u], []⟩) (fun _ R s => s.heap.get? l = some { cls := .type "dict", dict := dd, data := .dict es ep, slots := sl } ∧ R (.ok (.ret .notImplemented)) s) :=
  .of_wp fun prog w A R s h => by
    obtain ⟨hp, g, d, tk, os⟩ := s
    obtain ⟨hl, h⟩ := h
    have f1 := F.sub_str_dict
    wp_walk using wpAny_loadPart' hl, wpAny_load hl
    exact ⟨_, rfl, h⟩
theorem str_no_dict (b : Str) (u : Tok) (l : Addr) (es : Array DictEntry) (ep : Nat) (dd : Option Addr) (sl : Array (Option Value)) :
    Meets (Builtin.«str.__eq__» ⟨[.str b u, .ref l], []⟩) (fun _ R s => s.heap.get? l = some { cls := .type "dict", dict := dd, data := .dict es ep, slots := sl } ∧ R (.ok (.ret .notImplemented)) s) :=
  .of_wp fun prog w A R s h => by
    obtain ⟨hp, g, d, tk, os⟩ := s
    obtain ⟨hl, h⟩ := h
    wp_walk using wpAny_loadPart' hl, wpAny_load hl
    exact ⟨_, rfl, h⟩
section
variable {A : Around} {s : Shared} {l : Addr}
theorem rc_str_dict (b : Str) (u : Tok) (h : DictAt s.heap l) (hu : A.units < cLine) : RcAt A s (.str b u) (.ref l) false := by
  obtain ⟨es, ep, dd, sl, ho⟩ := h
  intro prog w E Q q
  refine rc_eq_decline_or (k := false) (typeIs_str s b u) ⟨_, ho, rfl⟩ (by decide) F.sub_dict_str F.slot_str_eq F.slot_dict_eq_refl ?_ ?_ ?_ (.inr hu) q
  · exact fun Q' q' => call_meets F.slot_str_eq (typeIs_str s b u) F.entry_str_eq (F.args_str_eq_2 _ _) (str_no_dict b u l es ep dd sl) ⟨ho, q'⟩
  · exact fun Q' q' => call_meets F.slot_dict_eq_refl ⟨_, ho, rfl⟩ F.entry_dict_eq (F.args_dict_eq_2 _ _) (dict_no_str l es ep dd sl b u) ⟨ho, q'⟩
  · exact fun Q' q' => wpAny_of_eq (show isSame (.str b u) (.ref l) = pure false from rfl) q'
theorem eq_str_dict (b : Str) (u : Tok) (h : DictAt s.heap l) (hu : A.units < cLine) : EqAt A s (.str b u) (.ref l) false := by
  intro prog w E Q q
  unfold eqBool
  exact wpAny_holding (wpAny_ite_split (fun z => absurd (eq_of_beq z) nofun) fun _ => wpAny_bind (rc_str_dict b u h hu prog w E _ (wpAny_truthy_bool q)))
end
def isStrD : PyData → Bool
  | .str _ => true
  | _ => false
/-- x in xs, x also {} where xs holds texts alone -/
def qInX (a b : PyData) : Option Bool := match a with
  | .dict [] => (match b with
    | .list xs => if xs.all isStrD = true then some false else none
    | .tuple xs => if xs.all isStrD = true then some false else none
    | _ => none)
  | .tuple ts => if ok50 (.tuple ts) = true then qIn (.tuple ts) b else (match b with
    | .list xs => if xs.all isStrD = true then some false else none
    | .tuple xs => if xs.all isStrD = true then some false else none
    | _ => none)
  | _ => qIn a b
def qNotInX (a b : PyData) : Option Bool := (qInX a b).map (!·)
end Fl
namespace Fl
open PySem PySem.Spec PyProof.Rows L2
section
variable {X : Cx} {pins : List (Addr × Obj)} {σ : L2.St} {F H : Hp} {s : Shared}
theorem dictAt_of (I : Inv X pins σ H s) {a : Addr} (h : H a = some (.dK [])) : DictAt s.heap a := by
  obtain ⟨_, _, vs, kv, o, es, ep, e1, e2, e3, _⟩ := I.hok _ _ h
  obtain ⟨c, d, da, sl⟩ := o
  obtain ⟨rfl, _⟩ := e2
  cases e3
  exact ⟨es, ep, d, sl, e1⟩
theorem strs_all : ∀ {ds : List PyData} {vs : List V} {us : List Value}, Rps X.K F vs ds → Vals vs us → ds.all isStrD = true → ∀ y ∈ us, ∃ b t, y = .str b t
  | [], _, _, h, r, _, y, hy => by
    cases h
    cases r
    cases hy
  | d :: ds, _, _, h, r, ok, y, hy => by
    simp only [List.all_cons, Bool.and_eq_true] at ok
    cases h with
    | cons h1 h2 =>
      cases r with
      | cons r1 r2 =>
        rcases List.mem_cons.mp hy with rfl | hy
        · cases h1 with
          | str x => obtain ⟨t, e⟩ := r1; exact ⟨x, t, e⟩
          | non => cases ok.1
          | bl b => cases ok.1
          | int i => cases ok.1
          | lst a b => cases ok.1
          | tup a b => cases ok.1
          | dct a => cases ok.1
          | exc a b c => cases ok.1
        · exact strs_all h2 r2 ok.2 y hy
theorem any_false {α : Type} (l : List α) : l.toArray.any (fun _ => false) = false := by simp
theorem q_inX (hu : X.A.units + 64 < cLine) : OpR X (compareOp .In) (rDC X.K qInX) := by
  rintro pins s σ H x y v u Q I rx ry ⟨F, a, b, z, sm, pa, pb, e, q⟩
  unfold qInX at e
  split at e
  · cases pa with
    | dct h1 =>
      cases rx
      have D := dictAt_of I (sm _ _ h1)
      split at e
      · split at e
        · rename_i hs
          cases e
          cases pb with
          | lst h2 h3 =>
            cases ry
            obtain ⟨its, rv, pl, hz⟩ := I.list (SqL.of (sm _ _ h2))
            refine SeqAt.in_listAt (fun _ => false) pl.isList (fun y hy => ?_) (by rw [any_false]; exact epB I sm q)
            obtain ⟨b, t, rfl⟩ := strs_all h3 rv hs y (by simpa using hy)
            exact eq_str_dict b t D (by show X.A.units + 1 < cLine; omega)
        · cases e
      · split at e
        · rename_i hs
          cases e
          cases pb with
          | tup h2 h3 =>
            cases ry
            obtain ⟨its, rv, pl, hz⟩ := I.tuple (sameT sm h2)
            refine SeqAt.in_tupleAt (fun _ => false) pl (fun y hy => ?_) (by rw [any_false]; exact epB I sm q)
            obtain ⟨b, t, rfl⟩ := strs_all h3 rv hs y (by simpa using hy)
            exact eq_str_dict b t D (by show X.A.units + 1 < cLine; omega)
        · cases e
      · cases e
  · rename_i ts
    split at e
    · exact q_in hu pins s σ H x y v u Q I rx ry ⟨F, _, b, z, sm, pa, pb, e, q⟩
    · cases pa with
      | tup h1 h1' =>
        cases rx
        obtain ⟨itx, _, D, _⟩ := I.tuple (sameT sm h1)
        split at e
        · split at e
          · rename_i hs
            cases e
            cases pb with
            | lst h2 h3 =>
              cases ry
              obtain ⟨its, rv, pl, hz⟩ := I.list (SqL.of (sm _ _ h2))
              refine SeqAt.in_listAt (fun _ => false) pl.isList (fun y hy => ?_) (by rw [any_false]; exact epB I sm q)
              obtain ⟨b, t, rfl⟩ := strs_all h3 rv hs y (by simpa using hy)
              exact SeqAt.EqAt.str_tuple b t D (by show X.A.units + 1 < cLine; omega)
          · cases e
        · split at e
          · rename_i hs
            cases e
            cases pb with
            | tup h2 h3 =>
              cases ry
              obtain ⟨its, rv, pl, hz⟩ := I.tuple (sameT sm h2)
              refine SeqAt.in_tupleAt (fun _ => false) pl (fun y hy => ?_) (by rw [any_false]; exact epB I sm q)
              obtain ⟨b, t, rfl⟩ := strs_all h3 rv hs y (by simpa using hy)
              exact SeqAt.EqAt.str_tuple b t D (by show X.A.units + 1 < cLine; omega)
          · cases e
        · cases e
  · exact q_in hu pins s σ H x y v u Q I rx ry ⟨F, a, b, z, sm, pa, pb, e, q⟩
theorem q_notInX (hu : X.A.units + 64 < cLine) : OpR X (compareOp .NotIn) (rDC X.K qNotInX) := by
  rintro pins s σ H x y v u Q I rx ry ⟨F, a, b, z, sm, pa, pb, e, q⟩
  unfold qNotInX qInX at e
  split at e
  · cases pa with
    | dct h1 =>
      cases rx
      have D := dictAt_of I (sm _ _ h1)
      split at e
      · split at e
        · rename_i hs
          cases e
          cases pb with
          | lst h2 h3 =>
            cases ry
            obtain ⟨its, rv, pl, hz⟩ := I.list (SqL.of (sm _ _ h2))
            refine SeqAt.notIn_listAt (fun _ => false) pl.isList (fun y hy => ?_) (by rw [any_false]; exact epB I sm q)
            obtain ⟨b, t, rfl⟩ := strs_all h3 rv hs y (by simpa using hy)
            exact eq_str_dict b t D (by show X.A.units + 1 < cLine; omega)
        · cases e
      · split at e
        · rename_i hs
          cases e
          cases pb with
          | tup h2 h3 =>
            cases ry
            obtain ⟨its, rv, pl, hz⟩ := I.tuple (sameT sm h2)
            refine SeqAt.notIn_tupleAt (fun _ => false) pl (fun y hy => ?_) (by rw [any_false]; exact epB I sm q)
            obtain ⟨b, t, rfl⟩ := strs_all h3 rv hs y (by simpa using hy)
            exact eq_str_dict b t D (by show X.A.units + 1 < cLine; omega)
        · cases e
      · cases e
  · rename_i ts
    split at e
    · exact q_notIn hu pins s σ H x y v u Q I rx ry ⟨F, _, b, z, sm, pa, pb, e, q⟩
    · cases pa with
      | tup h1 h1' =>
        cases rx
        obtain ⟨itx, _, D, _⟩ := I.tuple (sameT sm h1)
        split at e
        · split at e
          · rename_i hs
            cases e
            cases pb with
            | lst h2 h3 =>
              cases ry
              obtain ⟨its, rv, pl, hz⟩ := I.list (SqL.of (sm _ _ h2))
              refine SeqAt.notIn_listAt (fun _ => false) pl.isList (fun y hy => ?_) (by rw [any_false]; exact epB I sm q)
              obtain ⟨b, t, rfl⟩ := strs_all h3 rv hs y (by simpa using hy)
              exact SeqAt.EqAt.str_tuple b t D (by show X.A.units + 1 < cLine; omega)
          · cases e
        · split at e
          · rename_i hs
            cases e
            cases pb with
            | tup h2 h3 =>
              cases ry
              obtain ⟨its, rv, pl, hz⟩ := I.tuple (sameT sm h2)
              refine SeqAt.notIn_tupleAt (fun _ => false) pl (fun y hy => ?_) (by rw [any_false]; exact epB I sm q)
              obtain ⟨b, t, rfl⟩ := strs_all h3 rv hs y (by simpa using hy)
              exact SeqAt.EqAt.str_tuple b t D (by show X.A.units + 1 < cLine; omega)
          · cases e
        · cases e
  · exact q_notIn hu pins s σ H x y v u Q I rx ry ⟨F, a, b, z, sm, pa, pb, e, q⟩
end
end Fl
set_option Elab.async false
set_option autoImplicit false
set_option linter.all false
set_option maxRecDepth 100000
set_option maxHeartbeats 4000000
/-! Fl24: the mirrors computed, a combinator at a time, where the slots are known. -/
namespace Fl
open PySem PySem.Spec PyProof.Rows L2
def Out.go (o : Out) (k : PyData → Rho → Out) : Out := match o with
  | .ok d r => k d r
  | .er x r => .er x r
  | .no => .no
def Out.goS (o : Out) (k : PyData → Rho → SOut) : SOut := match o with
  | .ok d r => k d r
  | .er x r => .er x r
  | .no => .no
def AOut.go (o : AOut) (k : List PyData → Rho → Out) : Out := match o with
  | .ok d r => k d r
  | .er x r => .er x r
  | .no => .no
def Out.goA (o : Out) (k : PyData → Rho → AOut) : AOut := match o with
  | .ok d r => k d r
  | .er x r => .er x r
  | .no => .no
def AOut.put (o : AOut) (d : PyData) : AOut := match o with
  | .ok ds r => .ok (d :: ds) r
  | .er x r => .er x r
  | .no => .no
def SOut.on (o : SOut) (s : Rho → SOut) : SOut := match o with
  | .nx r => s r
  | .rt d r => .rt d r
  | .bk r => .bk r
  | .ct r => .ct r
  | .er x r => .er x r
  | .no => .no
section
variable {d : PyData} {ds : List PyData} {x : ExcD} {r ρ : Rho} {k : PyData → Rho → Out} {kS : PyData → Rho → SOut} {kA : PyData → Rho → AOut} {kL : List PyData → Rho → Out} {f fa fb fc : Rho → Out} {t : Rho → AOut} {s s1 s2 : Rho → SOut} {i : Nat}
@[simp] theorem go_ok : (Out.ok d r).go k = k d r := rfl
@[simp] theorem go_er : (Out.er x r).go k = .er x r := rfl
@[simp] theorem go_no : Out.no.go k = .no := rfl
@[simp] theorem goS_ok : (Out.ok d r).goS kS = kS d r := rfl
@[simp] theorem goS_er : (Out.er x r).goS kS = .er x r := rfl
@[simp] theorem goS_no : Out.no.goS kS = .no := rfl
@[simp] theorem goA_ok : (Out.ok d r).goA kA = kA d r := rfl
@[simp] theorem goA_er : (Out.er x r).goA kA = .er x r := rfl
@[simp] theorem goA_no : Out.no.goA kA = .no := rfl
@[simp] theorem goL_ok : (AOut.ok ds r).go kL = kL ds r := rfl
@[simp] theorem goL_er : (AOut.er x r).go kL = .er x r := rfl
@[simp] theorem goL_no : AOut.no.go kL = .no := rfl
@[simp] theorem put_ok : (AOut.ok ds r).put d = .ok (d :: ds) r := rfl
@[simp] theorem put_er : (AOut.er x r).put d = .er x r := rfl
@[simp] theorem put_no : AOut.no.put d = .no := rfl
@[simp] theorem on_nx : (SOut.nx r).on s = s r := rfl
@[simp] theorem on_rt : (SOut.rt d r).on s = .rt d r := rfl
@[simp] theorem on_bk : (SOut.bk r).on s = .bk r := rfl
@[simp] theorem on_ct : (SOut.ct r).on s = .ct r := rfl
@[simp] theorem on_er : (SOut.er x r).on s = .er x r := rfl
@[simp] theorem on_no : SOut.no.on s = .no := rfl
@[simp] theorem x_bnd : bnd f k ρ = (f ρ).go k := rfl
@[simp] theorem x_bndS : bndS f kS ρ = (f ρ).goS kS := rfl
@[simp] theorem x_aBnd : aBnd t kL ρ = (t ρ).go kL := rfl
@[simp] theorem x_aNil : aNil ρ = .ok [] ρ := rfl
def consK (t : Rho → AOut) (d : PyData) (r : Rho) : AOut := (t r).put d
@[simp] theorem x_consK : consK t d r = (t r).put d := rfl
@[simp] theorem x_aCons : aCons f t ρ = (f ρ).goA (consK t) := by
  unfold aCons consK Out.goA AOut.put
  cases f ρ <;> rfl
@[simp] theorem x_eC : eC d ρ = .ok d ρ := rfl
@[simp] theorem x_lift_some : lift (some d) ρ = .ok d ρ := rfl
@[simp] theorem x_lift_none : lift none ρ = .no := rfl
@[simp] theorem x_liftB_some {b : Bool} : liftB (some b) ρ = .ok (.bool b) ρ := rfl
@[simp] theorem x_liftB_none : liftB none ρ = .no := rfl
def opK2 (p : PyData → PyData → Option PyData) (x y : PyData) (r : Rho) : Out := lift (p x y) r
def opK (p : PyData → PyData → Option PyData) (f : Rho → Out) (x : PyData) (r : Rho) : Out := (f r).go (opK2 p x)
variable {p : PyData → PyData → Option PyData} {q : PyData → PyData → Option Bool} {y : PyData} {w : PyData}
@[simp] theorem x_opK2 : opK2 p w y r = lift (p w y) r := rfl
@[simp] theorem x_opK : opK p f w r = (f r).go (opK2 p w) := rfl
@[simp] theorem x_eOp : eOp p fa fb ρ = (fa ρ).go (opK p fb) := rfl
def cmK2 (p : PyData → PyData → Option Bool) (x y : PyData) (r : Rho) : Out := liftB (p x y) r
def cmK (p : PyData → PyData → Option Bool) (f : Rho → Out) (x : PyData) (r : Rho) : Out := (f r).go (cmK2 p x)
@[simp] theorem x_cmK2 : cmK2 q w y r = liftB (q w y) r := rfl
@[simp] theorem x_cmK : cmK q f w r = (f r).go (cmK2 q w) := rfl
@[simp] theorem x_eCmp : eCmp q fa fb ρ = (fa ρ).go (cmK q fb) := rfl
def fnK (p : List PyData → Option PyData) (ds : List PyData) (r : Rho) : Out := lift (p ds) r
@[simp] theorem x_fnK {p : List PyData → Option PyData} : fnK p ds r = lift (p ds) r := rfl
@[simp] theorem x_eFun {p : List PyData → Option PyData} : eFun p t ρ = (t ρ).go (fnK p) := rfl
def andK (f : Rho → Out) (x : PyData) (r : Rho) : Out := if truth x = true then f r else .ok x r
def orK (f : Rho → Out) (x : PyData) (r : Rho) : Out := if truth x = true then .ok x r else f r
def ifK (f g : Rho → Out) (x : PyData) (r : Rho) : Out := if truth x = true then f r else g r
def ifS (f g : Rho → SOut) (x : PyData) (r : Rho) : SOut := if truth x = true then f r else g r
def okK (x : PyData) (r : Rho) : Out := if truthOk x = true then .ok x r else .no
@[simp] theorem x_andK : andK f w r = if truth w = true then f r else .ok w r := rfl
@[simp] theorem x_orK : orK f w r = if truth w = true then .ok w r else f r := rfl
@[simp] theorem x_ifK : ifK fa fb w r = if truth w = true then fa r else fb r := rfl
@[simp] theorem x_ifS : ifS s1 s2 w r = if truth w = true then s1 r else s2 r := rfl
@[simp] theorem x_okK : okK w r = if truthOk w = true then .ok w r else .no := rfl
@[simp] theorem x_eAnd : eAnd fa fb ρ = (fa ρ).go (andK fb) := rfl
@[simp] theorem x_eOr : eOr fa fb ρ = (fa ρ).go (orK fb) := rfl
@[simp] theorem x_eIf : eIf fc fa fb ρ = (fc ρ).go (ifK fa fb) := rfl
@[simp] theorem x_eOk : eOk f ρ = (f ρ).go okK := rfl
@[simp] theorem x_sIf : sIf fc s1 s2 ρ = (fc ρ).goS (ifS s1 s2) := rfl
@[simp] theorem x_sNil : sNil ρ = .nx ρ := rfl
@[simp] theorem x_sSeq : sSeq s1 s2 ρ = (s1 ρ).on s2 := by
  unfold sSeq SOut.on
  cases s1 ρ <;> rfl
def setK (i : Nat) (d : PyData) (r : Rho) : SOut := .nx (r.set i (some (.d d)))
@[simp] theorem x_setK : setK i d r = .nx (r.set i (some (.d d))) := rfl
@[simp] theorem x_sSet : sSet i f ρ = (f ρ).goS (setK i) := rfl
def retK (d : PyData) (r : Rho) : SOut := .rt d r
@[simp] theorem x_retK : retK d r = .rt d r := rfl
@[simp] theorem x_sRet : sRet f ρ = (f ρ).goS retK := rfl
def dropK (d : PyData) (r : Rho) : SOut := .nx r
@[simp] theorem x_dropK : dropK d r = .nx r := rfl
@[simp] theorem x_sExpr : sExpr f ρ = (f ρ).goS dropK := rfl
@[simp] theorem tr_bool {b : Bool} : truth (.bool b) = b := rfl
@[simp] theorem trOk_bool {b : Bool} : truthOk (.bool b) = true := rfl
@[simp] theorem p_add {i j : Int} : pAdd (.int i) (.int j) = some (.int (i + j)) := rfl
@[simp] theorem p_sub {i j : Int} : pSub (.int i) (.int j) = some (.int (i - j)) := rfl
theorem p_mul {i j : Int} (h : mulOk i j = true) : pMul (.int i) (.int j) = some (.int (i * j)) := if_pos h
theorem p_mod {i j : Int} (h : 0 < j) : pMod (.int i) (.int j) = some (.int (i % j)) := if_pos h
theorem p_fdiv {i j : Int} (h : 0 < j ∧ j < 1073741824) : pFdiv (.int i) (.int j) = some (.int (i / j)) := if_pos h
theorem p_pow {i j : Int} (h : (0 ≤ j ∧ j ≤ 1000000) ∧ i.natAbs < 2 ^ 64) : pPow (.int i) (.int j) = some (.int (i ^ j.toNat)) := if_pos h
@[simp] theorem p_int {i : Int} : pInt [.int i] = some (.int i) := rfl
@[simp] theorem p_lenL : pLen [.list ds] = some (.int ds.length) := rfl
@[simp] theorem p_lenT : pLen [.tuple ds] = some (.int ds.length) := rfl
@[simp] theorem p_ge {i j : Int} : pGe (.int i) (.int j) = some (decide (j ≤ i)) := rfl
@[simp] theorem p_gt {i j : Int} : pGt (.int i) (.int j) = some (decide (j < i)) := rfl
@[simp] theorem p_le {i j : Int} : pLe (.int i) (.int j) = some (decide (i ≤ j)) := rfl
@[simp] theorem p_ixL {j : Int} : pIx (.list ds) (.int j) = atI ds j := rfl
@[simp] theorem p_ixT {j : Int} : pIx (.tuple ds) (.int j) = atI ds j := rfl
@[simp] theorem ok_int {i : Int} : ok50 (.int i) = true := by simp [ok50, PyData.plain, PyData.depth]
@[simp] theorem q_ltI {i j : Int} : qLt (.int i) (.int j) = some (decide (i < j)) := by
  have h : PySem.W.dataLt (.int i) (.int j) = decide (i < j) := by
    show PyProof.Rows.lexLt PyProof.Rows.itemOrd (PySem.W.keyToks (.int i)) (PySem.W.keyToks (.int j)) = _
    simp only [PySem.W.keyToks, PyProof.Rows.lexLt, Bool.and_false, Bool.or_false]
    rfl
  simp [qLt, PySem.W.alike, h]
end
end Fl
set_option Elab.async false
set_option autoImplicit false
set_option linter.all false
set_option maxRecDepth 100000
set_option maxHeartbeats 4000000
/-! Fl25: the error that bears a number, made: super's __init__ with an f-string, then the number as an attribute. -/
namespace Fl
open PySem PySem.Spec PyProof.Rows PyProof.V L2
open PySem.W PySem.Calls PySem.HandSPX

/-- the def as it is written -/
def lnA (p1 p2 : Pos) : Arguments := { posonlyargs := [], args := [{ arg := "self", annotation := none, pos := p1 }, { arg := "line", annotation := none, pos := p2 }], vararg := none, kwonlyargs := [], kw_defaults := [], kwarg := none, defaults := [] }
def lnB (t1 t2 : Str) (q1 q2 q3 q4 q5 q6 q7 q8 q9 q10 q11 q12 q13 q14 : Pos) : List Stmt :=
  [.Expr (.Call (.Attribute (.Call (.Name "super" q1) [] [] q2) "__init__" q3) [.JoinedStr [.Constant (.str t1) 0 q4, .FormattedValue (.Name "line" q5) (-1) none q6, .Constant (.str t2) 0 q7] q8] [] q9) q10,
    .Assign [.Attribute (.Name "self" q11) "line" q12] (.Name "line" q13) q14]
def lnS : Scope := { kind := .function, names := [(PySem.Str.ofString "self", .local), (PySem.Str.ofString "line", .local), (PySem.Str.ofString "__class__", .free), (PySem.Str.ofString "super", .globalImplicit)], isGenerator := false, isCoroutine := false, more := [] }
/-- what the head's part K says of the class at C, and of its __init__ at f -/
structure LineT (prog : Program) (K : Frag) (C f : Addr) : Prop where
  cls : ∃ nm q N bs bm sn sub ab col dd k0 k1 k2 k3 k5, K.lookup C = some (excClassObj nm q C N bs bm true sn sub ab col dd k0 k1 k2 k3 k5 "ValueError.__new__") ∧ refsVE bm = true ∧ alongIn K "__init__" bm = some (some (.builtin "ValueError.__init__"))
  sa : findIn K (.ref C) "__setattr__" = some (some (.builtin "object.__setattr__"))
  no : findIn K (.ref C) "line" = some none
  ini : findIn K (.ref C) "__init__" = some (some (.ref f))
  typ : typeIn K (.ref f) = some (.type "function")
  subV : subIn K (.ref C) (.type "ValueError") = some true
  mro : mroIn K C (.ref C) = some true
  opq : nsIn K cStatics "thirdparty.any" = some none
  sup : nsIn K mainGlobals "super" = some none
  top : (prog.main.scope.names.lookup ("super" : Str)).isSome = false
  fn : ∃ oc od doc pm an cda ct osl cc file tf ccl cdd vs ccs cl cld csl t1 t2 p1 p2 q1 q2 q3 q4 q5 q6 q7 q8 q9 q10 q11 q12 q13 q14,
    K.lookup f = some ⟨oc, od, .func (ksFn "__init__" "ParseError.__init__" (lnA p1 p2) (lnB t1 t2 q1 q2 q3 q4 q5 q6 q7 q8 q9 q10 q11 q12 q13 q14) lnS .none .none doc pm an (.ref cda) ct cc), osl⟩ ∧ codeIn K (.ref cda) "ParseError.__init__" = true ∧
      K.lookup cda = some ⟨ccl, cdd, .fields vs, ccs⟩ ∧ vs[2]? = some (.str file tf) ∧ ((prog.main.file : Str) == file) = true ∧ K.lookup cc = some ⟨cl, cld, .cell (some (.ref C)), csl⟩ ∧ t1.length ≤ 100 ∧ t2.length ≤ 100 ∧ (q3.endLine == q9.line) = true
/-- what __init__ leaves of the new error at x -/
structure LineEnd (h h' : Heap) (x C dx t1 : Addr) (v : Value) : Prop where
  keep : ∀ b o, b ≠ x → h.get? b = some o → h'.get? b = some o
  obj : h'.get? x = some { cls := .ref C, dict := some dx, data := .fields #[.ref t1, .none, .none, .none, .bool false, .none] }
  dbig : h.objs.size ≤ dx
  dne : dx ≠ x
  ns : h'.Ns1 dx (fun y => if y = "line" then some v else none)

section
variable {prog : Program} {w : World} {A : Around} {E : Value → Shared → Prop} {h : Heap} {g : Array GenState} {d : Drawn} {t : Nat} {os : OsState}
variable {nm q : Str} {C N : Addr} {bs bm : List Value} {hdct : Bool} {sn : List Str} {sub : List Value} {ab : Bool} {col : Option Bool} {dd : Option Addr} {k0 k1 k2 k3 k5 : Option Value}
/-- the built-in __init__, bound to the error at e, called -/
theorem bound_init {u e t0 : Addr} {rest : List Value} {Q : Value → Shared → Prop} (hC : h.get? C = some (excClassObj nm q C N bs bm hdct sn sub ab col dd k0 k1 k2 k3 k5 "ValueError.__new__")) (he : h.get? e = some (excO C t0)) (hu : h.get? u = some (kxs_mw "ValueError.__init__" e))
    (hz : rest.length ≤ sizeLine) (hq : ∀ h' t1, (∀ b o, b ≠ e → h.get? b = some o → h'.get? b = some o) → h'.get? e = some (excO C t1) → Q .none ⟨h', g, d, t, os⟩) : wpAny (model prog w) A (call (.ref u) rest) Q E ⟨h, g, d, t, os⟩ := by
  refine wpAny_call (codeAny_of_tree ?_)
  show wpAny _ A.in1 (callAny (.ref u) ⟨rest, []⟩) _ _ _
  simp only [callAny]
  refine wpAny_bind (wpAny_load hu ?_)
  simp only [kxs_mw, show (Value.type "method-wrapper" == Value.type "method" || Value.type "method-wrapper" == Value.type "builtin_function_or_method" || Value.type "method-wrapper" == Value.type "method-wrapper") = true by decide, if_true]
  refine W.KFB.if_so (by decide) ?_
  refine wpAny_bind (check_bound_init F.excBase_ValueError.toExcCallFacts hC he rfl ?_)
  refine wpAny_bind (wpAny_pure (wpAny_pure ?_))
  refine ⟨plainId_quiet F.excBase_ValueError.init.plain _, codeAny_builtin F.excBase_ValueError.initEntry ?_⟩
  exact exc_init_tree (cls := .ref C) (t0 := t0) (dv := none) (c2 := .none) (c3 := .none) (b4 := .bool false) he hz fun h' k e' _ => hq h' _ k e'
end
theorem line_call {o : Expr} {name : Str} {ap pos : Pos} {a : Expr} {env : PySem.Env} (h : (ap.endLine == pos.line) = true) (hs : starEach [a] env = (false, eval a env) :: starEach [] env := by rfl) : eval (.Call (.Attribute o name ap) [a] [] pos) env = (do
    let ov ← attributeBase o name env (eval o env)
    standAt ap.atName
    let (f, first) ← holding [ov] (getMethod ov name (do return (← importBound o env).getD true))
    callWith pos f first (backTo pos (starEach [a] env)) []) := by
  have e1 : methodCallForm 1 (backTo pos (starEach [a] env)) (backToKw pos (keywordEach [] env)) = true := by rw [hs]; rfl
  have e2 : ∀ ov, methodCall o name ap pos env ov 1 (backTo pos (starEach [a] env)) (backToKw pos (keywordEach [] env)) = (do
    let (f, first) ← holding [ov] (getMethod ov name (do return (← importBound o env).getD true))
    callWith pos f first (backTo pos (starEach [a] env)) []) := fun ov => by
      unfold methodCall methodCallPos
      rw [e1, h]
      rfl
  show (attributeBase o name env (eval o env) >>= fun ov => standAt ap.atName >>= fun _ => methodCall o name ap pos env ov 1 (backTo pos (starEach [a] env)) (backToKw pos (keywordEach [] env))) = _
  simp only [e2]
section
variable {prog : Program} {w : World} {A : Around} {R : Result → Shared → Prop} {s : Shared} {K : Frag} {C f : Addr} {mg mb : Str → Option Value}
theorem line_init (T : LineT prog K C f) {x t0 : Addr} {n : Int} {tn : Tok} {args : Args} (X : K.In s.heap) (hg : s.heap.Ns mainGlobals mg) (hb : s.heap.Ns builtinsNs mb) (hbb : ∀ y : Str, y ≠ "__name__" → mb y = bootBuiltins y) (hlim : s.heap.NoLimit)
    (hx : s.heap.get? x = some (excO C t0)) (hnx : K.lookup x = none) (room : A.depth < recursionLimit) (hn : n.natAbs.log2 < 1920) (ha : args = ⟨[.ref x, .int n tn], []⟩ ∨ args = ⟨[.ref x], [("line", .int n tn)]⟩)
    (hq : ∀ h' tk dx t1, LineEnd s.heap h' x C dx t1 (.int n tn) → R (.ok (.ret .none)) { s with heap := h', toks := tk }) : codeAny (model prog w) A (.call (.ref f) args) R s := by
  obtain ⟨oc, od, doc, pm, an, cda, ct, osl, cc, file, tf, ccl, cdd, vs, ccs, cl, cld, csl, t1, t2, p1, p2, q1, q2, q3, q4, q5, q6, q7, q8, q9, q10, q11, q12, q13, q14, hf, hcd, hcode, hvs, hfile, hcell, l1, l2, hln⟩ := T.fn
  obtain ⟨nm, q, N, bs, bm, sn, sub, ab, col, dd, k0, k1, k2, k3, k5, hC, hbm, hal⟩ := T.cls
  have hcl : clsIn K C = some { name := nm, bases := bs, mro := .ref C :: bm, ns := N, qualname := q, hasDict := true, slotNames := sn, subclasses := sub, abstract := ab, collection := col, hasDel := false } := by unfold clsIn; rw [hC] <;> rfl
  have hb' : BindsTo s (ksFn "__init__" "ParseError.__init__" (lnA p1 p2) (lnB t1 t2 q1 q2 q3 q4 q5 q6 q7 q8 q9 q10 q11 q12 q13 q14) lnS .none .none doc pm an (.ref cda) ct cc) args [("self", .ref x), ("line", .int n tn)] := by
    rcases ha with rfl | rfl
    · exact BindsTo.of_eq (by first | rfl | with_unfolding_all rfl)
    · exact BindsTo.of_eq (by first | rfl | with_unfolding_all rfl)
  refine ks_codeAny_call_defAt (binds := [("self", .ref x), ("line", .int n tn)]) room (X _ _ hf) rfl hlim (codeRec_of X hcd) rfl hb' (show ∀ z ∈ lnS.names, z.2 ≠ .cell by decide) (locs rfl) (fun h1 hns k => ?_) rfl rfl rfl
  obtain ⟨hp, gs, dr, tk, os⟩ := s
  have X1 : K.In h1 := X.keeps k
  have hx1 := k _ _ hx
  have hC1 := X1 _ _ hC
  have hxL : hp.objs.size ≠ x := Nat.ne_of_gt (Heap.lt_size hx)
  have I1 : InstAt h1 x (excO C t0) C none := ⟨hx1, rfl, rfl, trivial⟩
  have isub : Looks (model prog w) h1 (isInstance (.ref x) (.type "ValueError")) true := I1.type.andThen (looks_subIn X1 T.subV)
  let ev := ksEnv "ParseError.__init__" lnS hp.objs.size f (.ref cda) cc
  show _root_.PySem.wpAt (model prog w) (A.deeper ev) (.func (lnB t1 t2 q1 q2 q3 q4 q5 q6 q7 q8 q9 q10 q11 q12 q13 q14) ev) (execs (lnB t1 t2 q1 q2 q3 q4 q5 q6 q7 q8 q9 q10 q11 q12 q13 q14) ev) _ _ _
  refine ks_wpAt_execs_cons (ks_wpAt_Expr_any (ks_wpAt_MethodCall (pl := do return (← importBound (.Call (.Name "super" q1) [] [] q2) ev).getD true) ?_ (line_call hln)))
  refine ks_wpAt_super_base (f := f) rfl rfl rfl rfl (X1 _ _ hf) rfl rfl rfl (X1 _ _ hcode) rfl hvs hfile T.top ?_
  refine ks_loadName_global rfl rfl (loadGlobal_builtin (hg.keeps k) (mg_none_of X hg T.sup) (hb.keeps k) ((hbb _ (by decide +kernel)).trans (by first | boot_by_name | rfl | kernel_rfl)) ⟨rfl, ?_⟩)
  refine wpAny_loadName_free rfl rfl rfl ⟨_, X1 _ _ hcell, rfl⟩ ?_
  refine wpAny_loadName_local rfl rfl hns (show _ = some (Value.ref x) by first | rfl | kernel_rfl) ?_
  refine ks_wpAny_isType_cls hC1 rfl ⟨rfl, ?_⟩
  refine ks_wpAny_call_super hC1 rfl hx1 rfl (fun c e => by cases e) (looks_mroIn X1 T.mro) (fun h2 e2 k2 => ?_)
  have X2 : K.In h2 := X1.keeps k2
  have hmr : Looks (model prog w) h2 (mroOf (.ref C)) (.ref C :: bm) := (looks_clsIn X2 hcl).andThen .now
  refine kxs_getMethod kxs_ValueError e2 (looks_opaque X2 T.opq) hmr (l := bm) (by simp [List.dropWhile_cons]) X2 hal (isub.keeps k2) (ks_ne X1 I1 hcl) (by decide) ?_
  have k3 : ∀ b o, h2.get? b = some o → (h2.push (kxs_mw "ValueError.__init__" x)).get? b = some o := fun b o e => Heap.get?_push_of_some _ e
  have hu := Heap.get?_push_size h2 (o := kxs_mw "ValueError.__init__" x) rfl
  refine kxs_callWith (i := "ValueError.__init__") (x := x) rfl (evalArgs_plain (Calls.spliced_cons (wpAny_JoinedStr (pos := q8) ?_)))
  have hn3 := hns.keeps fun b o e => k3 b o (k2 b o e)
  have z1 : (toString n : Str).length ≤ sizeLine := int_text_fits hn
  have zn : (toString n : Str).length ≤ 5000 := by
    have e := int_text_length_le (k := 1920) (by decide) hn
    show (Str.ofString (toString n)).length ≤ _
    rw [PySem.ofString_length]
    omega
  have ev3 : evalEach [.Constant (.str t1) 0 q4, .FormattedValue (.Name "line" q5) (-1) none q6, .Constant (.str t2) 0 q7] ev = [eval (.Constant (.str t1) 0 q4) ev, eval (.FormattedValue (.Name "line" q5) (-1) none q6) ev, eval (.Constant (.str t2) 0 q7) ev] := by first | rfl | simp [evalEach]
  rw [ev3]
  have w1 : (Str.empty ++ t1).length ≤ sizeLine := by rw [strLen_append, sizeLine_eq]; show 0 + _ ≤ _; omega
  have w2 : (Str.empty ++ t1 ++ (toString n : Str)).length ≤ sizeLine := by rw [strLen_append, strLen_append, sizeLine_eq]; show 0 + _ + _ ≤ _; omega
  have w3 : (Str.empty ++ t1 ++ (toString n : Str) ++ t2).length ≤ sizeLine := by rw [strLen_append, strLen_append, strLen_append, sizeLine_eq]; show 0 + _ + _ + _ ≤ _; omega
  refine wpAny_Constant_str ⟨t1, _, rfl, w1, ?_⟩
  refine wpAny_FormattedValue_plain (wpAny_Name (wpAny_loadName_local rfl rfl hn3 (show _ = some (Value.int n tn) by first | rfl | kernel_rfl) ?_) rfl)
  refine wpAny_formatField_int hn ⟨toString n, _, rfl, w2, ?_⟩
  refine wpAny_Constant_str ⟨t2, _, rfl, w3, w3, ?_⟩
  refine Calls.spliced_nil ⟨hu, ?_⟩
  refine bound_init (k3 _ _ (k2 _ _ hC1)) (k3 _ _ (k2 _ _ hx1)) hu (by show 1 ≤ sizeLine; rw [sizeLine_eq]; omega) (fun h4 t4 k4 e4 => ?_)
  obtain ⟨oL, es, ep, hL, r⟩ := hn3
  have hn4 : h4.Ns hp.objs.size _ := ⟨oL, es, ep, k4 _ _ hxL hL, r⟩
  have X4 : K.In h4 := fun b o e => k4 _ _ (fun z => by rw [z, hnx] at e; cases e) (k3 _ _ (X2 _ _ e))
  show _root_.PySem.wpAt _ _ _ (execs [_] ev) _ _ _
  refine wpAt_of_wpAny (wpAny_execs_cons (plainObj_wpAny_Assign_Attribute ?_))
  refine wpAny_Name (wpAny_loadName_local rfl rfl hn4 (show _ = some (Value.int n tn) by first | rfl | kernel_rfl) ?_) rfl
  refine wpAny_Name (wpAny_loadName_local rfl rfl hn4 (show _ = some (Value.ref x) by first | rfl | kernel_rfl) ?_) rfl
  refine set_plain X4 (ox := excO C t4) (od := none) ⟨e4, rfl, rfl, trivial⟩ T.sa ?_
  refine exc_osa X4 e4 hcl (show refsVE (.ref C :: bm) = true from hbm) rfl T.no (fun h5 tk5 dx k5 dn dne hx5 hn5 => ?_)
  show wpAny _ _ (execs _ _) _ _ _
  have z : hp.objs.size < h4.objs.size := hn4.lt
  exact wpAny_execs_nil (hq h5 tk5 dx t4 ⟨fun b o hb e => k5 b o hb (k4 b o hb (k3 b o (k2 b o (k b o e)))), hx5, Nat.le_of_lt (Nat.lt_of_lt_of_le z dn), dne, hn5⟩)
/-- the class called with one number, by place -/
theorem line_made (T : LineT prog K C f) {n : Int} {tn : Tok} (X : K.In s.heap) (hg : s.heap.Ns mainGlobals mg) (hb : s.heap.Ns builtinsNs mb) (hbb : ∀ y : Str, y ≠ "__name__" → mb y = bootBuiltins y) (hlim : s.heap.NoLimit) (room : A.depth + 1 < recursionLimit) (hn : n.natAbs.log2 < 1920)
    (hq : ∀ h' tk e dx, (∀ b o, s.heap.get? b = some o → h'.get? b = some o) → s.heap.objs.size ≤ e → s.heap.objs.size ≤ dx → dx ≠ e → (∃ t1, h'.get? e = some { cls := .ref C, dict := some dx, data := .fields #[.ref t1, .none, .none, .none, .bool false, .none] }) → h'.Ns1 dx (fun y => if y = "line" then some (.int n tn) else none) →
      R (.ok (.ret (.ref e))) { s with heap := h', toks := tk }) : codeAny (model prog w) A (.call (.ref C) ⟨[.int n tn], []⟩) R s := by
  obtain ⟨nm, q, N, bs, bm, sn, sub, ab, col, dd, k0, k1, k2, k3, k5, hC, hbm, hal⟩ := T.cls
  obtain ⟨hp, g, dr, tk, os⟩ := s
  have k : ∀ b o, hp.get? b = some o → ((hp.push (kdv_tup [.int n tn])).push (excO C hp.objs.size)).get? b = some o := fun b o e => Heap.get?_push_of_some _ (Heap.get?_push_of_some _ e)
  have hget : ((hp.push (kdv_tup [.int n tn])).push (excO C hp.objs.size)).get? (hp.objs.size + 1) = some (excO C hp.objs.size) := by heap_get
  have hnx : K.lookup (hp.objs.size + 1) = none := by
    cases e : K.lookup (hp.objs.size + 1) with
    | none => rfl
    | some o => exact absurd (Nat.lt_of_succ_lt (Heap.lt_size (X _ _ e))) (Nat.lt_irrefl _)
  refine call_own F.excBase_ValueError (fun Y => refsVE_contains Y bm hbm) (X _ _ hC) (looks_findIn X T.ini) (fun self => bind_fn X self T.typ) (by show 1 ≤ sizeLine; rw [sizeLine_eq]; omega) ?_
  refine line_init (s := ⟨(hp.push (kdv_tup [.int n tn])).push (excO C hp.objs.size), g, dr, tk, os⟩) T (X.keeps k) (hg.keeps k) (hb.keeps k) hbb (hlim.keeps k) hget hnx room hn (.inl rfl) fun h' tk' dx t1 en => ?_
  have z : hp.objs.size + 1 + 1 ≤ dx := by
    have q := en.dbig
    rw [Heap.size_push, Heap.size_push] at q
    exact q
  exact ⟨rfl, hq h' tk' (hp.objs.size + 1) dx (fun b o e => en.keep b o (Nat.ne_of_lt (Nat.lt_succ_of_lt (Heap.lt_size e))) (k b o e)) (Nat.le_succ _) (Nat.le_trans (Nat.le_trans (Nat.le_succ _) (Nat.le_succ _)) z) en.dne ⟨t1, en.obj⟩ en.ns⟩
end
/-! the class called with the number by its name -/
section
variable {prog : Program} {w : World} {M : Model} {A : Around} {E : Value → Shared → Prop} {R : Result → Shared → Prop} {h : Heap} {g : Array GenState} {d : Drawn} {t : Nat} {os : OsState}
variable {nm q : Str} {C N : Addr} {bs bm bmB : List Value} {hdct : Bool} {sn : List Str} {sub : List Value} {ab : Bool} {col : Option Bool} {dd : Option Addr} {k0 k1 k2 k3 k5 : Option Value} {B nid iid : String} {kw : List (Str × Value)}
theorem kwCheck (Fb : ExcBaseFacts B nid iid bmB) (hT : ∀ Y : String, bm.contains (.type Y) = bmB.contains (.type Y)) {Q : Unit → Shared → Prop}
    (hC : h.get? C = some (excClassObj nm q C N bs bm hdct sn sub ab col dd k0 k1 k2 k3 k5 nid)) (hq : Q () ⟨h, g, d, t, os⟩) : wpAny M A (checkBuiltinCall nid ⟨[.ref C], kw⟩) Q E ⟨h, g, d, t, os⟩ := by
  have has : (Value.ref C :: bm).contains (.type B) = true := by rw [List.contains_cons, hT, Fb.hasB, Bool.or_true]
  have star := Fb.noStar
  simp only [checkBuiltinCall, Fb.newKind, Fb.newSplit, Fb.newRow]
  repeat (first | refine wpAny_loadPart_at hC ?_ | (refine wpAny_isSubtype_exc hC ?_; rw [has]) | refine wpAny_staticBase_exc hC ?_ | refine wpAny_madeBy_exc hC ?_ | simp only [bne_self_eq_false, Bool.false_eq_true, if_false] | wp_step)
  exact hq
theorem kwNew (Fb : ExcBaseFacts B nid iid bmB) (hT : ∀ Y : String, bm.contains (.type Y) = bmB.contains (.type Y)) (hC : h.get? C = some (excClassObj nm q C N bs bm hdct sn sub ab col dd k0 k1 k2 k3 k5 nid))
    (hq : R (.ok (.ret (.ref (h.objs.size + 1)))) ⟨(h.push (kdv_tup [])).push (excO C h.objs.size), g, d, t, os⟩) : codeAny (model prog w) A (.builtin nid ⟨[.ref C], kw⟩) R ⟨h, g, d, t, os⟩ := by
  have fin := Fb.ends
  have has : (Value.ref C :: bm).contains (.type B) = true := by rw [List.contains_cons, hT, Fb.hasB, Bool.or_true]
  have hasA : (Value.ref C :: bm).contains (.type "AttributeError") = false := by rw [List.contains_cons, hT, Fb.noAttr]; rfl
  have hasN : (Value.ref C :: bm).contains (.type "NameError") = false := by rw [List.contains_cons, hT, Fb.noName]; rfl
  refine codeAny_builtinAt Fb.entry ?_
  unfold Builtin.«BaseException.__new__»
  refine _root_.PySem.wpAt_bind ?_
  show _root_.PySem.wpAt _ _ _ (stack >>= _) _ _ _
  refine _root_.PySem.wpAt_bind (_root_.PySem.wpAt_stack fun p below => _root_.PySem.wpAt_of_wpAny ?_)
  wp_walk
  refine _root_.PySem.wpAt_of_wpAny ?_
  rw [Fb.owner]
  repeat (first | with_reducible refine wpAny_madeHere_exc Fb.canon hC ?_ | with_reducible refine wpAny_loadPart_at hC ?_ | (with_reducible refine wpAny_isSubtype_exc hC ?_; first | rw [has] | rw [hasA] | rw [hasN]) | wp_step)
  show R _ _
  rw [Heap.size_push]
  exact hq
theorem kwTypeCall (Fb : ExcBaseFacts B nid iid bmB) (hT : ∀ Y : String, bm.contains (.type Y) = bmB.contains (.type Y)) {f : Addr} {Q : Fin → Shared → Prop} (hC : h.get? C = some (excClassObj nm q C N bs bm hdct sn sub ab col dd k0 k1 k2 k3 k5 nid))
    (hi : Looks (model prog w) h (typeLookup (.ref C) "__init__") (some (.ref f))) (hb : ∀ self, Looks (model prog w) h (bindSpecial (.ref f) self) (.ref f, [self]))
    (hq : codeAny (model prog w) A (.call (.ref f) ⟨[.ref (h.objs.size + 1)], kw⟩)
      (fun r s' => match r with | .ok (.ret v) => v = .none ∧ Q (.done (.ret (.ref (h.objs.size + 1)))) s' | .ok _ => False | .error e => E e s') ⟨(h.push (kdv_tup [])).push (excO C h.objs.size), g, d, t, os⟩) :
    wpAny (model prog w) A (Builtin.«type.__call__» ⟨[.ref C], kw⟩) Q E ⟨h, g, d, t, os⟩ := by
  repeat (first | with_reducible refine wpAny_loadPart_at hC ?_ | with_reducible refine wpAny_madeBy_exc hC ?_ | wp_step)
  refine codeAny_call_builtin_code (Code.quiet_builtin _ Fb.quiet) (kwCheck Fb hT hC ?_)
  refine kwNew Fb hT hC ?_
  show wpAny _ _ _ _ _ _
  have k : ∀ b o, h.get? b = some o → ((h.push (kdv_tup [])).push (excO C h.objs.size)).get? b = some o := fun b o e => Heap.get?_push_of_some _ (Heap.get?_push_of_some _ e)
  have hC1 := k _ _ hC
  have here : ((h.push (kdv_tup [])).push (excO C h.objs.size)).get? (h.objs.size + 1) = some (excO C h.objs.size) := by heap_get
  have self : (Value.ref C :: bm).contains (.ref C) = true := by simp
  have ii := hi.keeps k
  have bb := (hb (.ref (h.objs.size + 1))).keeps k
  unfold isInstance
  repeat (first | with_reducible refine wpAny_loadPart_at here ?_ | (with_reducible refine wpAny_isSubtype_exc hC1 ?_; rw [self]) | wp_step)
  show wpAny _ _ (typeLookup (.ref C) _) _ _ _
  refine ii.at ?_
  refine wpAny_holding (wpAny_bind (bb.at ?_))
  refine wpAny_bind (wpAny_call (codeAny_mono hq fun r s' z => ?_))
  rcases r with e | (v | _ | _ | _) <;> first | exact z | exact z.elim | skip
  obtain ⟨rfl, z⟩ := z
  first
    | exact wpAny_pure (wpAny_pure z)
    | (wp_walk; exact z)
theorem kwCall (Fb : ExcBaseFacts B nid iid bmB) (hT : ∀ Y : String, bm.contains (.type Y) = bmB.contains (.type Y)) {f : Addr} (hC : h.get? C = some (excClassObj nm q C N bs bm hdct sn sub ab col dd k0 k1 k2 k3 k5 nid))
    (hi : Looks (model prog w) h (typeLookup (.ref C) "__init__") (some (.ref f))) (hb : ∀ self, Looks (model prog w) h (bindSpecial (.ref f) self) (.ref f, [self]))
    (hq : codeAny (model prog w) (A.under (.builtin "type.__call__" ⟨[.ref C], kw⟩)) (.call (.ref f) ⟨[.ref (h.objs.size + 1)], kw⟩) (InitBack (h.objs.size + 1) R) ⟨(h.push (kdv_tup [])).push (excO C h.objs.size), g, d, t, os⟩) :
    codeAny (model prog w) A (.call (.ref C) ⟨[], kw⟩) R ⟨h, g, d, t, os⟩ := by
  have f1 := tc_lookup
  have f2 := tc_bind (.ref C)
  have hTy : (⟨h, g, d, t, os⟩ : Shared).TypeIs (.ref C) "type" := ⟨_, hC, rfl⟩
  refine codeAny_of_tree ?_
  show wpAny _ _ (callAny (.ref C) _) _ _ _
  repeat (any_goals (first | assumption | with_reducible refine wpAny_loadPart_at hC ?_ | wp_step))
  refine ⟨rfl, ?_⟩
  refine codeAny_call_builtin_at (Code.quiet_builtin _ (by decide +kernel)) entry_typeCall (wpAny_check_type_call_sub hC (kwTypeCall Fb hT hC hi hb ?_))
  refine codeAny_mono hq fun r s' z => ?_
  rcases r with e | (v | _ | _ | _) <;> exact z
end
end Fl
set_option Elab.async false
set_option autoImplicit false
set_option linter.all false
set_option maxRecDepth 100000
set_option maxHeartbeats 4000000
/-! Fl26: errors made as values, and what is asked of them. -/
namespace Fl
open PySem PySem.Spec PyProof.Rows L2
/-- the class of the name x: its __init__ keeps a number -/
structure LineG (P : Program) (K : PySem.W.Frag) (mg : Str → Option Value) (x : Str) : Prop where
  ex : ∃ C f, mg x = some (.ref C) ∧ PySem.W.nsIn K mainGlobals x = some (some (.ref C)) ∧ PySem.W.keepIn K (.ref C) = true ∧ LineT P K C f ∧ XfC K C
/-- the class of the name x: an error without an __init__ of its own -/
structure ErrG (K : PySem.W.Frag) (mg : Str → Option Value) (x : Str) : Prop where
  ex : ∃ C, mg x = some (.ref C) ∧ PySem.W.nsIn K mainGlobals x = some (some (.ref C)) ∧ PySem.W.keepIn K (.ref C) = true ∧ PySem.W.excIn K C [.type "ValueError", .type "Exception", .type "BaseException", .type "object"] "ValueError.__new__" = true
theorem none_of_le {h : Heap} {a : Addr} (l : h.objs.size ≤ a) : h.get? a = none := by
  cases e : h.get? a with
  | none => rfl
  | some o => exact absurd (Heap.lt_size e) (Nat.not_lt.mpr l)
theorem lookup_line (f : Str) (i : Int) (t : Tok) : RelO (List.lookup f [(("line" : Str), V.int i)]) (if f = "line" then some (Value.int i t) else none) := by
  by_cases h : f = "line"
  · subst h
    rw [if_pos rfl]
    have q : List.lookup ("line" : Str) [(("line" : Str), V.int i)] = some (.int i) := by simp [List.lookup]
    rw [q]
    exact ⟨t, rfl⟩
  · rw [if_neg h]
    have b : (f == ("line" : Str)) = false := by simpa using h
    have q : List.lookup f [(("line" : Str), V.int i)] = none := by simp [List.lookup, b]
    rw [q]
    trivial
section
variable {X : Cx} {pins : List (Addr × Obj)} {σ : L2.St} {H : Hp} {s : Shared}
/-- two new objects: the error at a, its dict at q -/
theorem inv_line {h' : Heap} {a q C : Addr} {i : Int} {tn : Tok} {oe : Obj} {vs : Array Value} {t' : Nat} (I : Inv X pins σ H s) (k : ∀ b o, s.heap.get? b = some o → h'.get? b = some o) (l1 : s.heap.objs.size ≤ a) (l2 : s.heap.objs.size ≤ q) (ne : q ≠ a)
    (ho : h'.get? a = some oe) (hz : Zc (.ref C) (some q) oe) (hd : oe.data = .fields vs) (hn : h'.Ns1 q (fun y => if y = "line" then some (.int i tn) else none)) :
    Inv X pins σ (upd (upd H q (.xd [(("line" : Str), .int i)])) a (ExV (.ref C) (some q) a)) { s with heap := h', toks := t' } := by
  obtain ⟨G, g1, g2⟩ := restrict h' fun b => decide (b ≠ a)
  have na := none_of_le l1
  have nq := none_of_le l2
  have Ga : G.get? a = none := g2 a (by simp)
  have Gk : ∀ b, b ≠ a → G.get? b = h'.get? b := fun b hb => g1 b (decide_eq_true hb)
  have hnq : G.Ns1 q (fun y => if y = "line" then some (.int i tn) else none) := by
    obtain ⟨o, r⟩ := hn
    exact ⟨o, by rw [Gk q ne]; exact r⟩
  have J := I.laidN (h' := G) (a := q) (o := .xd [(("line" : Str), .int i)]) (t' := s.toks) (fun b u e => by
    rw [Gk b (fun z => by rw [z, na] at e; cases e)]
    exact k b u e) nq (I.hok.gone nq) ⟨_, hnq, fun f => lookup_line f i tn⟩
  exact J.laidN (h' := h') (a := a) (o := ExV (.ref C) (some q) a) (t' := t') (fun b u e => by
    have hb : b ≠ a := fun z => by rw [z] at e; rw [show G.get? a = none from Ga] at e; cases e
    rw [← Gk b hb]
    exact e) Ga (by rw [upd_ne (Ne.symm ne)]; exact I.hok.gone na) (exV_ok ho hz hd)
/-- X(n), by place -/
theorem pe_mkN {x : Str} {C f : Addr} {e : Expr} {te : TE} {p pos : Pos} (gC : X.mg x = some (.ref C)) (kC : PySem.W.keepIn X.K (.ref C) = true) (T : LineT X.prog X.K C f) (room : Room 1 X.A) (hg : Gl X x) (he : PE X e te)
    (hs : starEach [e] X.env = (false, eval e X.env) :: starEach [] X.env := by rfl) (hdb : (x == ("__debug__" : Str)) = false := by decide) :
    PE X (.Call (.Name x p) [e] [] pos) (fun σ H Q => te σ H fun v H1 => ∃ i : Int, v = .int i ∧ i.natAbs.log2 < 1920 ∧ ∀ a q, H1 a = none → H1 q = none → q ≠ a → Q (.ref a) (upd (upd H1 q (.xd [(("line" : Str), .int i)])) a (ExV (.ref C) (some q) a))) := by
  refine ⟨fun pins s σ H Q I h => ?_⟩
  refine wpAny_Call_Name_kw (ld_glob I hg gC ?_ hdb)
  refine PySem.W.callWith_K (h₀ := X.base) I.ok.mod.kin kC ?_ hs (by rfl)
  rw [hs]
  show wpAny _ _ (spliced ((false, eval e X.env) :: backTo pos (starEach [] X.env))) _ _ s
  refine Calls.spliced_cons (thn (he.run pins s σ H _ I h) fun u s1 ⟨v, H1, I1, r1, i, ev, hi, q1⟩ => ?_)
  subst ev
  obtain ⟨tn, rfl⟩ := r1
  refine Calls.spliced_nil ⟨I1.kIn, ?_⟩
  show wpAny _ _ (call (.ref C) [Value.int i tn]) _ _ _
  have M := I1.ok.mod
  obtain ⟨mb, hb, hbb⟩ := M.blt
  refine wpAny_call (line_made T I1.kIn (M.glob.keeps I1.bk) (hb.keeps I1.bk) hbb (M.nolimit.keeps I1.bk) (by have := room.dp; omega) hi fun h' tk a q k l1 l2 ne ⟨t1, ho⟩ hn => ?_)
  exact ⟨.ref a, _, inv_line I1 k l1 l2 ne ho ⟨rfl, rfl⟩ rfl hn, rfl, q1 a q (I1.hok.gone (none_of_le l1)) (I1.hok.gone (none_of_le l2)) ne⟩
end
section
variable {prog : Program} {w : World} {A : Around} {R : Result → Shared → Prop} {s : Shared} {K : PySem.W.Frag} {C f : Addr} {mg mb : Str → Option Value}
open PySem.W PySem.Calls PySem.HandSPX in
/-- the class called with one number, by its name -/
theorem line_madeK (T : LineT prog K C f) {n : Int} {tn : Tok} (X : K.In s.heap) (hg : s.heap.Ns mainGlobals mg) (hb : s.heap.Ns builtinsNs mb) (hbb : ∀ y : Str, y ≠ "__name__" → mb y = bootBuiltins y) (hlim : s.heap.NoLimit) (room : A.depth + 1 < recursionLimit) (hn : n.natAbs.log2 < 1920)
    (hq : ∀ h' tk e dx, (∀ b o, s.heap.get? b = some o → h'.get? b = some o) → s.heap.objs.size ≤ e → s.heap.objs.size ≤ dx → dx ≠ e → (∃ t1, h'.get? e = some { cls := .ref C, dict := some dx, data := .fields #[.ref t1, .none, .none, .none, .bool false, .none] }) → h'.Ns1 dx (fun y => if y = "line" then some (.int n tn) else none) →
      R (.ok (.ret (.ref e))) { s with heap := h', toks := tk }) : codeAny (model prog w) A (.call (.ref C) ⟨[], [("line", .int n tn)]⟩) R s := by
  obtain ⟨nm, q, N, bs, bm, sn, sub, ab, col, dd, k0, k1, k2, k3, k5, hC, hbm, hal⟩ := T.cls
  obtain ⟨hp, g, dr, tk, os⟩ := s
  have k : ∀ b o, hp.get? b = some o → ((hp.push (kdv_tup [])).push (excO C hp.objs.size)).get? b = some o := fun b o e => Heap.get?_push_of_some _ (Heap.get?_push_of_some _ e)
  have hget : ((hp.push (kdv_tup [])).push (excO C hp.objs.size)).get? (hp.objs.size + 1) = some (excO C hp.objs.size) := by heap_get
  have hnx : K.lookup (hp.objs.size + 1) = none := by
    cases e : K.lookup (hp.objs.size + 1) with
    | none => rfl
    | some o => exact absurd (Nat.lt_of_succ_lt (Heap.lt_size (X _ _ e))) (Nat.lt_irrefl _)
  refine kwCall PySem.F.excBase_ValueError (fun Y => refsVE_contains Y bm hbm) (X _ _ hC) (looks_findIn X T.ini) (fun self => bind_fn X self T.typ) ?_
  refine line_init (s := ⟨(hp.push (kdv_tup [])).push (excO C hp.objs.size), g, dr, tk, os⟩) T (X.keeps k) (hg.keeps k) (hb.keeps k) hbb (hlim.keeps k) hget hnx room hn (.inr rfl) fun h' tk' dx t1 en => ?_
  have z : hp.objs.size + 1 + 1 ≤ dx := by
    have q := en.dbig
    rw [Heap.size_push, Heap.size_push] at q
    exact q
  exact ⟨rfl, hq h' tk' (hp.objs.size + 1) dx (fun b o e => en.keep b o (Nat.ne_of_lt (Nat.lt_succ_of_lt (Heap.lt_size e))) (k b o e)) (Nat.le_succ _) (Nat.le_trans (Nat.le_trans (Nat.le_succ _) (Nat.le_succ _)) z) en.dne ⟨t1, en.obj⟩ en.ns⟩
end
section
variable {X : Cx} {pins : List (Addr × Obj)} {σ : L2.St} {H : Hp} {s : Shared}
/-- X(line=n) -/
theorem pe_mkK {x : Str} {C f : Addr} {e : Expr} {te : TE} {p pos kp : Pos} (gC : X.mg x = some (.ref C)) (kC : PySem.W.keepIn X.K (.ref C) = true) (T : LineT X.prog X.K C f) (room : Room 1 X.A) (hg : Gl X x) (he : PE X e te) (hdb : (x == ("__debug__" : Str)) = false := by decide) :
    PE X (.Call (.Name x p) [] [⟨some "line", e, kp⟩] pos) (fun σ H Q => te σ H fun v H1 => ∃ i : Int, v = .int i ∧ i.natAbs.log2 < 1920 ∧ ∀ a q, H1 a = none → H1 q = none → q ≠ a → Q (.ref a) (upd (upd H1 q (.xd [(("line" : Str), .int i)])) a (ExV (.ref C) (some q) a))) := by
  refine ⟨fun pins s σ H Q I h => ?_⟩
  refine wpAny_Call_Name_kw (ld_glob I hg gC ?_ hdb)
  refine PySem.W.callWith_KW0 (h₀ := X.base) I.ok.mod.kin kC (by rfl) ?_ (by rfl)
  refine thn ((pk_cons (kpos := kp) (nm := some "line") he pk_nil).run pos pins s σ H (fun vs H1 => match vs with
    | [v] => ∃ i : Int, v = .int i ∧ i.natAbs.log2 < 1920 ∧ ∀ a q, H1 a = none → H1 q = none → q ≠ a → Q (.ref a) (upd (upd H1 q (.xd [(("line" : Str), .int i)])) a (ExV (.ref C) (some q) a))
    | _ => False) I h) fun us s1 ⟨vs, H1, I1, r, hv⟩ => ?_
  · obtain ⟨v, u, rfl, rfl, ru⟩ : ∃ v u, vs = [v] ∧ us = [u] ∧ RelV v u := by
      cases r with
      | nil => exact hv.elim
      | cons r1 r2 => cases r2 with
        | nil => exact ⟨_, _, rfl, rfl, r1⟩
        | cons _ _ => exact hv.elim
    obtain ⟨i, ei, hi, q1⟩ := hv
    subst ei
    obtain ⟨tn, rfl⟩ := ru
    refine ⟨I1.kIn, ?_⟩
    show wpAny _ _ (call (.ref C) [] [(("line" : Str), Value.int i tn)]) _ _ _
    have M := I1.ok.mod
    obtain ⟨mb, hb, hbb⟩ := M.blt
    refine wpAny_call (line_madeK T I1.kIn (M.glob.keeps I1.bk) (hb.keeps I1.bk) hbb (M.nolimit.keeps I1.bk) (by have := room.dp; omega) hi fun h' tk a q k l1 l2 ne ⟨t1, ho⟩ hn => ?_)
    exact ⟨.ref a, _, inv_line I1 k l1 l2 ne ho ⟨rfl, rfl⟩ rfl hn, rfl, q1 a q (I1.hok.gone (none_of_le l1)) (I1.hok.gone (none_of_le l2)) ne⟩
open PySem.W in
/-- X(e): an error without an __init__ of its own -/
theorem pe_mkT {x : Str} {C : Addr} {e : Expr} {te : TE} {p pos : Pos} (gC : X.mg x = some (.ref C)) (kC : PySem.W.keepIn X.K (.ref C) = true) (xC : excIn X.K C [.type "ValueError", .type "Exception", .type "BaseException", .type "object"] "ValueError.__new__" = true) (hg : Gl X x) (he : PE X e te)
    (hs : starEach [e] X.env = (false, eval e X.env) :: starEach [] X.env := by rfl) (hdb : (x == ("__debug__" : Str)) = false := by decide) :
    PE X (.Call (.Name x p) [e] [] pos) (fun σ H Q => te σ H fun _ H1 => ∀ a, H1 a = none → Q (.ref a) (upd H1 a (ExV (.ref C) none a))) := by
  refine ⟨fun pins s σ H Q I h => ?_⟩
  refine wpAny_Call_Name_kw (ld_glob I hg gC ?_ hdb)
  refine callWith_K (h₀ := X.base) I.ok.mod.kin kC ?_ hs (by rfl)
  rw [hs]
  show wpAny _ _ (spliced ((false, eval e X.env) :: backTo pos (starEach [] X.env))) _ _ s
  refine Calls.spliced_cons (thn (he.run pins s σ H _ I h) fun u s1 ⟨v, H1, I1, r1, q1⟩ => ?_)
  refine Calls.spliced_nil ⟨I1.kIn, ?_⟩
  show wpAny _ _ (call (.ref C) [u]) _ _ _
  obtain ⟨bm, N, nm, qn, bs, hd, sn, sub, ab, col, dd, k0, k1, k2, k3, k5, mN, hC, hN, hni, T⟩ := exc_obj I1.kIn xC
  refine wpAny_call_exc_subT PySem.F.excBase_ValueError T hC hN hni (fun h' a hm => ?_) (by show 1 ≤ sizeLine; rw [sizeLine_eq]; omega)
  obtain ⟨t, ht, _, _⟩ := hm.there
  have hn := I1.hok.gone hm.new
  exact ⟨.ref a, _, I1.laidN (o := ExV (.ref C) none a) hm.keeps hm.new hn (exV_ok ht ⟨rfl, rfl⟩ rfl), rfl, q1 a hn⟩
end
end Fl
set_option Elab.async false
set_option autoImplicit false
set_option linter.all false
set_option maxRecDepth 100000
set_option maxHeartbeats 4000000
/-! Fl27: the same over data. -/
namespace Fl
open PySem PySem.Spec PyProof.Rows L2
def mkN (n : Str) : PyData → Option PyData
  | .int i => if i.natAbs.log2 < 1920 then some (excD n (.int i)) else none
  | _ => none
theorem mkN_inv {n : Str} {d z : PyData} (e : mkN n d = some z) : ∃ i : Int, d = .int i ∧ i.natAbs.log2 < 1920 ∧ z = excD n (.int i) := by
  unfold mkN at e
  split at e
  · rename_i i
    split at e
    · rename_i h
      cases e
      exact ⟨i, rfl, h, rfl⟩
    · cases e
  · cases e
/-- X(n) -/
def eMkN (n : Str) (f : Rho → Out) : Rho → Out := bnd f fun d => lift (mkN n d)
/-- X(text) -/
def eMkT (n : Str) (f : Rho → Out) : Rho → Out := bnd f fun _ => lift (some (excD n .none))
/-- the number that an error of the class n bears -/
def lineOf (n : Str) : PyData → Option PyData
  | .dict [(.list [], .str m), (.none, .int i)] => if m = n then some (.int i) else none
  | _ => none
theorem lineOf_inv {n : Str} {d z : PyData} (e : lineOf n d = some z) : ∃ i : Int, d = excD n (.int i) ∧ z = .int i := by
  unfold lineOf at e
  split at e
  · rename_i m i
    split at e
    · rename_i h
      cases e
      subst h
      exact ⟨i, rfl, rfl⟩
    · cases e
  · cases e
def eLine (n : Str) (f : Rho → Out) : Rho → Out := bnd f fun d => lift (lineOf n d)
section
variable {X : Cx} {W : WX} {a : Expr} {fa : Rho → Out} {p pos kp : Pos} {x : Str}
theorem made_line {K : PySem.W.Frag} {g : Gd} {F H : Hp} {σ : L2.St} {ρ : Rho} {C e q : Addr} {i : Int} {n : Str} (r : R K g F H σ ρ) (hC : PySem.W.nsIn K mainGlobals n = some (some (.ref C))) (ha : H e = none) (hq : H q = none) (ne : q ≠ e) :
    ∃ F', Same F F' ∧ R K g F' (upd (upd H q (.xd [(("line" : Str), .int i)])) e (ExV (.ref C) (some q) e)) σ ρ ∧ Rp K F' (.ref e) (excD n (.int i)) := by
  have g1 := Grow.new1 (o := .xd [(("line" : Str), .int i)]) r.sF hq
  have g2 := Grow.new1 (o := ExV (.ref C) (some q) e) g1.fh (show upd H q _ e = none by rw [upd_ne (Ne.symm ne)]; exact ha)
  exact ⟨_, g1.f.trans g2.f, (r.grow g1).grow g2, .exc hC upd_same (.inr ⟨i, q, rfl, rfl, by rw [upd_ne ne]; exact upd_same⟩)⟩
theorem se_mkN (ha : SE X W a fa) (G : LineG X.prog X.K X.mg x) (room : Room 1 X.A) (hg : Gl X x) (hs : starEach [a] X.env = (false, eval a X.env) :: starEach [] X.env := by rfl) (hdb : (x == ("__debug__" : Str)) = false := by decide) :
    SE X W (.Call (.Name x p) [a] [] pos) (eMkN x fa) := by
  obtain ⟨C, f, gC, nC, kC, T, _⟩ := G.ex
  refine pe_imp (pe_mkN gC kC T room hg ha hs hdb) fun σ H Q ⟨g, F, ρ, r, h⟩ => ?_
  refine re_then r h fun u F1 H1 ρ1 d s1 r1 p1 h1 => ?_
  obtain ⟨z, e, qz⟩ := lift_af h1
  obtain ⟨i, rfl, hi, rfl⟩ := mkN_inv e
  cases p1
  refine ⟨i, rfl, hi, fun b q hb hq ne => ?_⟩
  obtain ⟨F', s2, r2, p2⟩ := made_line r1 nC hb hq ne
  exact qz _ _ _ s2 r2 p2
theorem se_mkK (ha : SE X W a fa) (G : LineG X.prog X.K X.mg x) (room : Room 1 X.A) (hg : Gl X x) (hdb : (x == ("__debug__" : Str)) = false := by decide) : SE X W (.Call (.Name x p) [] [⟨some "line", a, kp⟩] pos) (eMkN x fa) := by
  obtain ⟨C, f, gC, nC, kC, T, _⟩ := G.ex
  refine pe_imp (pe_mkK gC kC T room hg ha hdb) fun σ H Q ⟨g, F, ρ, r, h⟩ => ?_
  refine re_then r h fun u F1 H1 ρ1 d s1 r1 p1 h1 => ?_
  obtain ⟨z, e, qz⟩ := lift_af h1
  obtain ⟨i, rfl, hi, rfl⟩ := mkN_inv e
  cases p1
  refine ⟨i, rfl, hi, fun b q hb hq ne => ?_⟩
  obtain ⟨F', s2, r2, p2⟩ := made_line r1 nC hb hq ne
  exact qz _ _ _ s2 r2 p2
theorem se_mkT (ha : SE X W a fa) (G : ErrG X.K X.mg x) (hg : Gl X x) (hs : starEach [a] X.env = (false, eval a X.env) :: starEach [] X.env := by rfl) (hdb : (x == ("__debug__" : Str)) = false := by decide) :
    SE X W (.Call (.Name x p) [a] [] pos) (eMkT x fa) := by
  obtain ⟨C, gC, nC, kC, xC⟩ := G.ex
  refine pe_imp (pe_mkT gC kC xC hg ha hs hdb) fun σ H Q ⟨g, F, ρ, r, h⟩ => ?_
  refine re_then r h fun u F1 H1 ρ1 d s1 r1 p1 h1 => ?_
  obtain ⟨z, e, qz⟩ := lift_af h1
  cases e
  intro b hb
  have g1 := Grow.new1 (o := ExV (.ref C) none b) r1.sF hb
  exact qz _ _ _ g1.f (r1.grow g1) (.exc nC upd_same (.inl ⟨rfl, rfl⟩))
/-- e.line -/
theorem se_line {n : Str} (ha : SE X W a fa) (G : LineG X.prog X.K X.mg n) (hb : attributeBase a "line" X.env (eval a X.env) = eval a X.env := by rfl) : SE X W (.Attribute a "line" pos) (eLine n fa) := by
  obtain ⟨C, f, gC, nC, kC, T, Y⟩ := G.ex
  refine ⟨fun pins s σ H Q I h => ?_⟩
  obtain ⟨g, F, ρ, r, h⟩ := h
  refine attr_of hb (thn (ha.run pins s σ H (fun u H1 => ∃ F1 ρ1 d, R X.K g F1 H1 σ ρ1 ∧ Rp X.K F1 u d ∧ AfE X.K X.mg W g F1 σ (lift (lineOf n d) ρ1) Q) I (re_then r h fun u F1 H1 ρ1 d s1 r1 p1 h1 => ⟨F1, ρ1, d, r1, p1, h1⟩)) fun u s1 ⟨v, H1, I1, ru, F1, ρ1, d, r1, p1, h1⟩ => ?_)
  obtain ⟨z, e, qz⟩ := lift_af h1
  obtain ⟨i, rfl, rfl⟩ := lineOf_inv e
  cases p1 with
  | @exc b C' _ dd _ e1 e2 e3 =>
    rw [nC] at e1
    cases e1
    cases ru
    obtain ⟨⟨oe, vs, o1, o2, o3⟩, _, _⟩ := I1.hok b _ (r1.sF _ _ e2)
    rcases e3 with ⟨h3, _⟩ | ⟨j, qd, hj, rfl, h3⟩
    · cases h3
    · cases hj
      obtain ⟨mA, hns, hr⟩ : ObjOk X.prog X.w H1 s1.heap qd (.xd [(("line" : Str), .int i)]) := I1.hok qd _ (r1.sF _ _ h3)
      obtain ⟨od, ho, hl⟩ := lookIn_ns hns
      obtain ⟨w, hw, rw⟩ := RelO.some_of (v := V.int i) (o := mA "line") (by rw [← show List.lookup ("line" : Str) [(("line" : Str), V.int i)] = some (.int i) by simp [List.lookup]]; exact hr "line")
      have J : PySem.W.InstAt s1.heap b oe C (some od) := ⟨o1, o2.1, by unfold PySem.W.notCls; rw [o3] <;> rfl, by rw [o2.2]; exact ho⟩
      exact HandSPX.exc_get I1.kIn J Y.ga Y.gg Y.exC (PySem.W.findObj_own Y.hdC T.no rfl (by rw [hl, hw])) (handed_of rw) ⟨.int i, H1, I1.tok _, rw, qz _ _ _ (Same.refl _) r1 (.int i)⟩
/-- isinstance asks the errors of ns for the built-in class ValueError -/
structure IsVal (K : PySem.W.Frag) (ns : List Str) : Prop where
  ex : IsTab K ns (.type "ValueError") fun _ => true
theorem se_isVal {ns : List Str} {p0 p1 : Pos} (ha : SE X W a fa) (G : IsVal X.K ns) (hg : Gl X "isinstance") (hm : X.mg "isinstance" = none) (hD : Gl X "ValueError") (hv : X.mg "ValueError" = none)
    (h1 : starEach (a :: [.Name "ValueError" p1]) X.env = (false, eval a X.env) :: starEach [.Name "ValueError" p1] X.env := by rfl) (h2 : starEach [.Name "ValueError" p1] X.env = (false, eval (.Name "ValueError" p1) X.env) :: starEach [] X.env := by rfl)
    (h3 : (backTo pos (starEach [.Name "ValueError" p1] X.env)).any (·.1) = false := by rfl) : SE X W (.Call (.Name "isinstance" p0) [a, .Name "ValueError" p1] [] pos) (eIsX ns (fun _ => true) fa) :=
  se_isX (v := .ty "ValueError") ha G.ex (fun u r => r) ⟨fun pins s σ H Q I h => ld_blt I hD hv (by first | boot_by_name | rfl | kernel_rfl) ⟨.ty "ValueError", H, I, rfl, h⟩⟩ hg hm h1 h2 h3
end
end Fl
set_option Elab.async false
set_option autoImplicit false
set_option linter.all false
set_option maxRecDepth 100000
set_option maxHeartbeats 4000000
/-! Fl28: the end: from the law's promise to the row. -/
namespace Fl
open PySem PySem.Spec PyProof.Rows L2
/-- what the head knows of a table -/
structure TabAt0 (K : PySem.W.Frag) (h : Heap) (t : Addr × Addr × Str × Addr) : Prop where
  at0 : h.get? t.2.2.2 = some { cls := .none, data := .fields #[] }
  out : K.lookup t.2.2.2 = none
  code : PySem.W.CodeHd h t.2.1 t.2.2.2
section
variable {P : Program} {w : World} {K : PySem.W.Frag} {mg mb : Str → Option Value} {k : Nat} {fa a : Addr} {x : Str} {ok : List Int → Prop} {s : Shared} {vs : List Value} {ns : List Int}
/-- the abstract heap at the law's call: the tables, and the script unless it stands in K -/
def H0 (K : PySem.W.Frag) (a : Addr) (vs : List Value) (ns : List Int) : Hp := fun b =>
  if b = a ∧ K.lookup a = none then some (.frz { cls := .type "list", data := .seq vs.toArray } (.lst (ns.map V.int)))
  else if ∃ t ∈ tabRec K, t.2.2.2 = b then some (.tbl #[]) else none
theorem H0_at (h : K.lookup a = none) : H0 K a vs ns a = some (.frz { cls := .type "list", data := .seq vs.toArray } (.lst (ns.map V.int))) := if_pos ⟨rfl, h⟩
theorem H0_inv {b : Addr} {o : HO} (e : H0 K a vs ns b = some o) : (b = a ∧ K.lookup a = none ∧ o = .frz { cls := .type "list", data := .seq vs.toArray } (.lst (ns.map V.int))) ∨ ∃ t ∈ tabRec K, t.2.2.2 = b ∧ o = .tbl #[] := by
  unfold H0 at e
  split at e
  · rename_i h
    cases e
    exact .inl ⟨h.1, h.2, rfl⟩
  · split at e
    · rename_i h
      cases e
      obtain ⟨t, ht, z⟩ := h
      exact .inr ⟨t, ht, z, rfl⟩
    · cases e
theorem H0_tab {t : Addr × Addr × Str × Addr} (ht : t ∈ tabRec K) (ne : t.2.2.2 ≠ a) : H0 K a vs ns t.2.2.2 = some (.tbl #[]) := by
  unfold H0
  rw [if_neg (fun z => ne z.1), if_pos ⟨t, ht, rfl⟩]
theorem law_endG (KX : K.In s.heap) (hns : s.heap.Ns mainGlobals mg) (hb : s.heap.Ns builtinsNs mb) (hbb : ∀ y : Str, y ≠ "__name__" → mb y = bootBuiltins y) (hlim : s.heap.NoLimit) (hg : s.gens = #[]) (hT : ∀ t ∈ tabRec K, TabAt0 K s.heap t)
    (hbm : ∃ (bm : Addr) (ob : Obj), mg "__builtins__" = some (.ref bm) ∧ bm ≠ builtinsNs ∧ s.heap.get? bm = some ob ∧ ob.cls = .type "module" ∧ ob.dict = some builtinsNs ∧ ob.data = .plain)
    (ha : s.heap.get? a = some { cls := .type "list", data := .seq vs.toArray }) (hi : IntsAre vs ns) (hl : ns.length ≤ sizeLine) (hr : Room k callerA)
    (Fn : ∀ base : Heap, K.In base → base.Ns mainGlobals mg → (∀ t ∈ tabRec K, LamX.TabB base mg t.2.1 t.2.2.2) → ∃ fd, FnG P w K mg base (L2.CX P w) k fa fd [x] (spLaw K ok) ∧ Binds K fd [x] []) (hok : ok ns) :
    codeAny (model P w) callerA (.call (.ref fa) ⟨[.ref a], []⟩) (fun r s' => r = .ok (.ret (.bool true)) ∧ OldK s.heap s'.heap ∧ s'.os = s.os ∧ AllBare s'.gens) s := by
  have rv := vals_ints hi
  have neT : ∀ t ∈ tabRec K, t.2.2.2 ≠ a := fun t ht z => by
    have e := (hT t ht).at0
    rw [z, ha] at e
    have e' : Data.seq vs.toArray _ = Data.fields #[] := congrArg Obj.data (Option.some.inj e)
    cases e'
  -- what is tracked, as it stands
  have see : ∀ b o, H0 K a vs ns b = some o → (∃ o', s.heap.get? b = some o' ∧ ((∃ us n, o'.data = .seq us n) ∨ o'.data = .fields #[])) ∧ K.lookup b = none := fun b o e => by
    rcases H0_inv e with ⟨rfl, h1, _⟩ | ⟨t, ht, rfl, _⟩
    · exact ⟨⟨_, ha, .inl ⟨_, _, rfl⟩⟩, h1⟩
    · exact ⟨⟨_, (hT t ht).at0, .inr rfl⟩, (hT t ht).out⟩
  have hidden : ∀ {b : Addr} {o : Obj}, s.heap.get? b = some o → (∀ us n, o.data ≠ .seq us n) → o.data ≠ .fields #[] → (hidT s.heap (H0 K a vs ns)).get? b = some o := fun {b o} e h1 h2 => by
    refine hidT_get e ?_
    cases q : H0 K a vs ns b with
    | none => rfl
    | some u =>
      obtain ⟨⟨o', e', h⟩, _⟩ := see b u q
      rw [e] at e'
      cases e'
      rcases h with ⟨us, n, h⟩ | h
      · exact absurd h (h1 us n)
      · exact absurd h h2
  have nsK : ∀ {b : Addr} {m : Str → Option Value}, s.heap.Ns b m → (hidT s.heap (H0 K a vs ns)).Ns b m := fun {b m} ⟨o, es, ep, e, d, r⟩ =>
    ⟨o, es, ep, hidden e (fun us n z => by rw [d] at z; cases z) (fun z => by rw [d] at z; cases z), d, r⟩
  have inK : K.In (hidT s.heap (H0 K a vs ns)) := fun b o e => hidT_get (KX b o e) (by
    cases q : H0 K a vs ns b with
    | none => rfl
    | some u =>
      have z := (see b u q).2
      rw [e] at z
      cases z)
  have M : L2.Mod K mg (hidT s.heap (H0 K a vs ns)) := ⟨inK, nsK hns, ⟨mb, nsK hb, hbb⟩, let ⟨mc, h1, h2⟩ := hlim; ⟨mc, nsK h1, h2⟩⟩
  have TB : ∀ t ∈ tabRec K, LamX.TabB (hidT s.heap (H0 K a vs ns)) mg t.2.1 t.2.2.2 := fun t ht => by
    have z := hT t ht
    refine ⟨?_, ?_, fun q => ?_⟩
    · obtain ⟨o, us, file, tf, flags, tg, inF, text, tt, e1, r1, r2, r3, r⟩ := z.code
      refine ⟨o, us, file, tf, flags, tg, inF, text, tt, hidden e1 (fun us n q => by rw [r2] at q; cases q) (fun q => ?_), r1, r2, r3, r⟩
      rw [r2] at q
      cases q
      simp at r3
    · obtain ⟨bm, ob, b1, b2, b3, b4, b5, b6⟩ := hbm
      refine ⟨bm, ob, b1, b2, fun q => ?_, fun q => ?_, hidden b3 (fun us n q => by rw [b6] at q; cases q) (fun q => by rw [b6] at q; cases q), b4, b5, b6⟩
      · obtain ⟨o, es, ep, e, hd, _⟩ := hns
        rw [q, e] at b3
        cases b3
        rw [hd] at b6
        cases b6
      · rw [q, z.at0] at b3
        cases b3
        cases b6
    · obtain ⟨o, es, ep, e, hd, _⟩ := hns
      have y := z.at0
      rw [← q, e] at y
      cases y
      cases hd
  have okH : HOk P w (H0 K a vs ns) s.heap := fun b u e => by
    rcases H0_inv e with ⟨rfl, h1, rfl⟩ | ⟨t, ht, rfl, rfl⟩
    · exact ⟨ha, by rw [List.length_map]; exact hl, vs, _, rv, ha⟩
    · exact (hT t ht).at0
  have seq : SqL K (H0 K a vs ns) a (ns.map V.int) := by
    cases q : K.lookup a with
    | none => exact .inl (.inr ⟨_, H0_at q⟩)
    | some o =>
      have e := KX a o q
      rw [ha] at e
      cases e
      exact .inr ⟨_, vs.toArray, _, q, rfl, rfl, rfl, by rw [List.size_toArray, hi.length]; exact hl, by simpa using rv⟩
  have tabs : LamX.Tabs (tabsOf K) (H0 K a vs ns) := fun u hu => by
    obtain ⟨t, ht, rfl⟩ := List.mem_map.mp hu
    exact LamX.TabS.nil (H0_tab ht (neT t ht))
  have e0 : Env0 P w K mg (hidT s.heap (H0 K a vs ns)) callerA [] s (H0 K a vs ns) := ⟨rfl, M, fun b o e => of_hidT e, Nat.le_of_eq (hidT_size _ _), trivial, fun b hb => absurd (show b ∈ ([] : List Addr) from hb) (by simp), okH, .of_eq hg⟩
  obtain ⟨fd, Fd, hbind⟩ := Fn _ inK (nsK hns) TB
  have run := Fd.run (Q := fun v _ => v = .bl true) (E := fun _ _ _ => False) (us := [.ref a]) (vs := [.ref a]) rfl hr e0 (by have b := hbind s [.ref a] KX rfl; rw [List.append_nil] at b; exact b) (.cons rfl .nil) ⟨a, ns, rfl, seq, tabs, hok, fun _ => rfl⟩
  refine codeAny_mono run fun r s' h => ?_
  cases r with
  | error e => obtain ⟨_, _, _, _, _, _, _, _, _, _, _, _, z⟩ := h; exact z.elim
  | ok fl =>
    cases fl with
    | next => exact h.elim
    | brk => exact h.elim
    | cont => exact h.elim
    | ret u =>
      obtain ⟨v, H', os, bare, un, ok', rv', q⟩ := h
      have q' : v = .bl true := q
      subst q'
      obtain rfl : u = Value.bool true := rv'
      refine ⟨rfl, ⟨fun b o e => ?_, fun b o e => un.there b o e (fun z => nomatch z)⟩, os, bare⟩
      cases q : H0 K a vs ns b with
      | none => exact .inl (un.keep b o e q (fun z => nomatch z) (fun z => nomatch z))
      | some u =>
        rcases H0_inv q with ⟨rfl, h1, rfl⟩ | ⟨t, ht, rfl, rfl⟩
        · obtain ⟨e1, _⟩ := okH _ _ q
          obtain ⟨e2, _⟩ := ok' _ _ (un.frzs _ _ _ q)
          rw [e] at e1
          cases e1
          exact .inl e2
        · obtain ⟨more, z⟩ := un.tbls _ _ q
          have y := hT t ht
          rw [y.at0] at e
          cases e
          exact .inr (.inl ⟨(y.code.tab y.at0).isCodeTable, rfl, #[], more, rfl, ok' _ _ z⟩)
/-- the check of the tables: each table's def is one of the text, and no table stands in K -/
def tabsIn (q : Program) (K : PySem.W.Frag) : Bool := (tabRec K).all fun t => (recsOf q).any (fun e => e.name == t.2.2.1) && (K.lookup t.2.2.2).isNone
theorem recAt_inv {b : Addr} {t : Addr × Addr × Str × Addr} (e : recAt K b = some t) : ∃ o1 o2 fd o4 o5 o6 vs o7, K.lookup t.1 = some ⟨o1, o2, .func fd, o4⟩ ∧ PySem.W.nsIn K mainGlobals t.2.2.1 = some (some (.ref t.1)) ∧ fd.code = .ref t.2.1 ∧ K.lookup t.2.1 = some ⟨o5, o6, .fields vs, o7⟩ ∧ vs[11]? = some (.ref t.2.2.2) := by
  unfold recAt at e
  split at e
  · rename_i o1 o2 fd o4 h1
    split at e
    · rename_i c h2
      split at e
      · rename_i h3
        subst h3
        split at e
        · rename_i cc h4
          split at e
          · rename_i o5 o6 vs o7 h5
            split at e
            · rename_i Pt h6
              cases e
              exact ⟨_, _, _, _, _, _, _, _, h1, h2, h4, h5, h6⟩
            · cases e
          · cases e
        · cases e
      · cases e
    · cases e
  · cases e
theorem tabs_at {q : Program} {loose : List Str} {mean : ExcName → Option Value} (T : Top q loose mean mg mb s.heap) (KX : K.In s.heap) (hq : tabsIn q K = true) : ∀ t ∈ tabRec K, TabAt0 K s.heap t := by
  intro t ht
  obtain ⟨p, _, hp⟩ := List.mem_filterMap.mp ht
  obtain ⟨o1, o2, fd, o4, o5, o6, us, o7, h1, h2, h3, h4, h5⟩ := recAt_inv hp
  have z := List.all_eq_true.mp hq t ht
  rw [Bool.and_eq_true] at z
  obtain ⟨d, hd, hn⟩ := List.any_eq_true.mp z.1
  have hn := beq_iff_eq.mp hn
  obtain ⟨a', o', fd', c', P', g1, g2, g3, g4, g5, g6⟩ := T.tab d hd
  rw [hn, PySem.W.mg_of KX T.g h2] at g1
  cases g1
  rw [KX _ _ h1] at g2
  cases g2
  cases g3
  rw [h3] at g4
  cases g4
  have cd := PySem.W.CodeHd.of g5 g6
  obtain ⟨⟨oc, vc, e1, _, e3, e4⟩, hP⟩ := g6
  rw [KX _ _ h4] at e1
  cases e1
  cases e3
  rw [h5] at e4
  cases e4
  refine ⟨hP, ?_, cd⟩
  have y := z.2
  cases q : List.lookup t.2.2.2 K with
  | none => rfl
  | some o => rw [q] at y; cases y
end
/-- from the law's promise to the row -/
theorem walk_g {l : PySem.W.OpenLaw} {n k : Nat} {q : Program} {loose : List Str} {XP : (Str → Option Value) → Heap → Prop} {YP : World → Heap → Prop} {d : DefRec} {K : Params → PySem.W.Frag} {x : Str} {ok : List Int → Prop}
    (hn : l.most = some n) (hn2 : n ≤ sizeLine) (hdf : d.params.defaults = []) (hr : Room k callerA) (hY : ∀ (w : World) (h : Heap), YP w h → (K w.params).In h) (hT : ∀ w : World, tabsIn q (K w.params) = true)
    (F : ∀ (w : World) (mg : Str → Option Value) (fa : Addr) (h : Heap), (K w.params).In h → h.Ns mainGlobals mg → mg d.name = some (.ref fa) →
      ∀ base : Heap, (K w.params).In base → base.Ns mainGlobals mg → (∀ t ∈ tabRec (K w.params), LamX.TabB base mg t.2.1 t.2.2.2) → ∃ fd, FnG l.prog w (K w.params) mg base (L2.CX l.prog w) k fa fd [x] (spLaw (K w.params) ok) ∧ Binds (K w.params) fd [x] [])
    (hok : ∀ ns : List Int, ns.length ≤ n → (∀ z ∈ ns, Builtin.Int.intBits z ≤ 1048576) → ok ns) : PySem.W.WalkO q loose XP YP l.row.toRowW d [] (fun f vs => PySem.call f vs) := by
  refine Att.attach_callB hn hdf fun w s0 s1 mg mb fa o pm cd doc a vs ns G Y ho hd hcd hmg hobj hints hlen hbits hg => ?_
  have KX := hY w _ Y
  have hF := F w mg fa _ KX G.T.g hmg
  exact law_endG KX G.T.g G.T.b G.T.builtins G.T.nolimit hg (tabs_at G.T KX (hT w)) G.T.bmain hobj hints (Nat.le_trans hlen hn2) hr hF (hok ns hlen hbits)
end Fl
set_option Elab.async false
set_option autoImplicit false
set_option linter.all false
set_option maxRecDepth 100000
set_option maxHeartbeats 4000000
/-! Fl29: what is asked of the head's part K, by looks that the kernel can take. -/
namespace Fl
open PySem PySem.Spec PyProof.Rows L2
/-- the object that the module's name n names -/
def nsAt (K : PySem.W.Frag) (n : Str) : Option Addr := match PySem.W.nsIn K mainGlobals n with
  | some (some (.ref a)) => some a
  | _ => none
theorem nsAt_inv {K : PySem.W.Frag} {n : Str} {a : Addr} (e : nsAt K n = some a) : PySem.W.nsIn K mainGlobals n = some (some (.ref a)) := by
  unfold nsAt at e
  split at e
  · rename_i b h
    cases e
    exact h
  · cases e
abbrev veB : List Value := [.type "ValueError", .type "Exception", .type "BaseException", .type "object"]
def errB (K : PySem.W.Frag) (n : Str) : Bool := match nsAt K n with
  | some C => PySem.W.keepIn K (.ref C) && PySem.W.excIn K C veB "ValueError.__new__"
  | none => false
def raiB (K : PySem.W.Frag) (n : Str) : Bool := match nsAt K n with
  | some C => PySem.W.excIn K C veB "ValueError.__new__" && PySem.W.keepIn K (.ref C) && decide (PySem.W.subIn K (.ref C) (.type "BaseException") = some true) && decide (PySem.W.typeIn K (.ref C) = some (.type "type"))
  | none => false
def excB (K : PySem.W.Frag) (D : Addr) : Bool := decide (PySem.W.findIn K (.ref D) "__getattribute__" = some (some (.builtin "BaseException.__getattribute__"))) && decide (PySem.W.findIn K (.ref D) "__getattr__" = some none) &&
  decide (PySem.W.subIn K (.ref D) (.type "BaseException") = some true) && PySem.W.hasDictIn K D && decide (PySem.W.findIn K (.ref D) "__class__" = some (some (.builtin "object.__class__"))) &&
  decide (PySem.W.specialIn K (.builtin "object.__class__") "__get__" = some (some (.builtin "getset_descriptor.__get__"))) && decide (PySem.W.takesIn K (.builtin "object.__class__") = some true) && decide (PySem.W.mroIn K D (.type "object") = some true)
def tabB (K : PySem.W.Frag) (ns : List Str) (dv : Value) (tab : Str → Bool) : Bool := ns.all fun n => match nsAt K n with
  | some C => excB K C && decide (PySem.W.kitOne K (.ref C) dv = some (tab n))
  | none => false
def ownB (K : PySem.W.Frag) (ns : List Str) (D : Str) (tab : Str → Bool) : Bool := match nsAt K D with
  | some C => tabB K ns (.ref C) tab
  | none => false
def catB (K : PySem.W.Frag) (ns : List Str) (D : Str) : Bool := match nsAt K D with
  | some CS => ns.all fun n => match nsAt K n with
    | some C => decide (PySem.W.exmOne K (.ref C) (.ref CS) = some true)
    | none => false
  | none => false
def noB (K : PySem.W.Frag) (n : Str) : Bool := decide (PySem.W.nsIn K mainGlobals n = some none)
section
variable {P : Program} {K : PySem.W.Frag} {h : Heap} {mg : Str → Option Value} {n : Str} {ns : List Str} {D : Str} {tab : Str → Bool}
theorem noB_ok (X : K.In h) (G : h.Ns mainGlobals mg) (e : noB K n = true) : mg n = none := PySem.W.mg_none_of X G (of_decide_eq_true e)
theorem errB_ok (X : K.In h) (G : h.Ns mainGlobals mg) (e : errB K n = true) : ErrG K mg n := by
  unfold errB at e
  split at e
  · rename_i C hC
    have hC := nsAt_inv hC
    rw [Bool.and_eq_true] at e
    exact ⟨C, PySem.W.mg_of X G hC, hC, e.1, e.2⟩
  · cases e
theorem raiB_ok (X : K.In h) (G : h.Ns mainGlobals mg) (e : raiB K n = true) : ExcG K mg n := by
  unfold raiB at e
  split at e
  · rename_i C hC
    have hC := nsAt_inv hC
    simp only [Bool.and_eq_true, decide_eq_true_eq] at e
    exact ⟨C, PySem.W.mg_of X G hC, e.1.1.1, e.1.1.2, e.1.2, e.2⟩
  · cases e
theorem excB_ok {C : Addr} (e : excB K C = true) : ExcC K C := by
  unfold excB at e
  simp only [Bool.and_eq_true, decide_eq_true_eq] at e
  obtain ⟨⟨⟨⟨⟨⟨⟨h1, h2⟩, h3⟩, h4⟩, h5⟩, h6⟩, h7⟩, h8⟩ := e
  exact ⟨h1, h2, h3, h4, h5, h6, h7, h8⟩
theorem tabB_ok {dv : Value} (e : tabB K ns dv tab = true) : IsTab K ns dv tab := ⟨fun n hn => by
  have z := List.all_eq_true.mp e n hn
  split at z
  · rename_i C hC
    simp only [Bool.and_eq_true, decide_eq_true_eq] at z
    exact ⟨C, nsAt_inv hC, excB_ok z.1, z.2⟩
  · cases z⟩
theorem ownB_ok (X : K.In h) (G : h.Ns mainGlobals mg) (e : ownB K ns D tab = true) : IsOwn K mg ns D tab := by
  unfold ownB at e
  split at e
  · rename_i C hC
    exact ⟨C, PySem.W.mg_of X G (nsAt_inv hC), tabB_ok e⟩
  · cases e
theorem valB_ok (e : tabB K ns (.type "ValueError") (fun _ => true) = true) : IsVal K ns := ⟨tabB_ok e⟩
theorem catB_ok (X : K.In h) (G : h.Ns mainGlobals mg) (e : catB K ns D = true) : CatchG K mg ns D := by
  unfold catB at e
  split at e
  · rename_i CS hS
    refine ⟨CS, PySem.W.mg_of X G (nsAt_inv hS), ⟨fun n hn => ?_⟩⟩
    have z := List.all_eq_true.mp e n hn
    split at z
    · rename_i C hC
      simp only [decide_eq_true_eq] at z
      exact ⟨C, PySem.W.mg_of X G (nsAt_inv hC), nsAt_inv hC, z⟩
    · cases z
  · cases e
theorem def_mk {x : Str} {st : Stmt} {f : Addr} {oc : Value} {od an : Option Addr} {osl : Array (Option Value)} {kV doc pm cdv ct : Value} (X : K.In h) (G : h.Ns mainGlobals mg) (a : PySem.W.nsIn K mainGlobals x = some (some (.ref f)))
    (l : K.lookup f = some ⟨oc, od, .func (PySem.W.fnOf x x (defArgs st) (defBody st) (defScope st) .none kV doc pm an cdv ct), osl⟩) (c : PySem.W.codeIn K cdv x = true) (k : PySem.W.keepIn K (.ref f) = true) : DefF K mg x st :=
  ⟨f, _, fun_mk l c k, PySem.W.mg_of X G a⟩
/-- the looks that LineT asks besides what is written out -/
def lineB (P : Program) (K : PySem.W.Frag) (C f cda : Addr) (bm : List Value) : Bool := HandSPX.refsVE bm && decide (PySem.W.alongIn K "__init__" bm = some (some (.builtin "ValueError.__init__"))) && decide (PySem.W.findIn K (.ref C) "__setattr__" = some (some (.builtin "object.__setattr__"))) &&
  decide (PySem.W.findIn K (.ref C) "line" = some none) && decide (PySem.W.findIn K (.ref C) "__init__" = some (some (.ref f))) && decide (PySem.W.typeIn K (.ref f) = some (.type "function")) && decide (PySem.W.subIn K (.ref C) (.type "ValueError") = some true) &&
  decide (PySem.W.mroIn K C (.ref C) = some true) && decide (PySem.W.nsIn K cStatics "thirdparty.any" = some none) && decide (PySem.W.nsIn K mainGlobals "super" = some none) && !(P.main.scope.names.lookup ("super" : Str)).isSome && PySem.W.codeIn K (.ref cda) "ParseError.__init__" &&
  PySem.W.keepIn K (.ref C) && xfB K C
theorem line_mk {C f : Addr} {nm q : Str} {N : Addr} {bs bm : List Value} {sn : List Str} {sub : List Value} {ab : Bool} {col : Option Bool} {dd : Option Addr} {k0 k1 k2 k3 k5 : Option Value}
    {oc : Value} {od : Option Addr} {doc pm : Value} {an : Option Addr} {cda : Addr} {ct : Value} {osl : Array (Option Value)} {cc : Addr} {file : Str} {tf : Tok} {ccl : Value} {cdd : Option Addr} {vs : Array Value} {ccs : Array (Option Value)} {cl : Value} {cld : Option Addr} {csl : Array (Option Value)} {t1 t2 : Str} {p1 p2 q1 q2 q3 q4 q5 q6 q7 q8 q9 q10 q11 q12 q13 q14 : Pos}
    (X : K.In h) (G : h.Ns mainGlobals mg) (a : PySem.W.nsIn K mainGlobals "ParseError" = some (some (.ref C))) (l : K.lookup C = some (excClassObj nm q C N bs bm true sn sub ab col dd k0 k1 k2 k3 k5 "ValueError.__new__"))
    (i : PySem.W.findIn K (.ref C) "__init__" = some (some (.ref f)))
    (lf : K.lookup f = some ⟨oc, od, .func (PySem.W.ksFn "__init__" "ParseError.__init__" (lnA p1 p2) (lnB t1 t2 q1 q2 q3 q4 q5 q6 q7 q8 q9 q10 q11 q12 q13 q14) lnS .none .none doc pm an (.ref cda) ct cc), osl⟩)
    (lc : K.lookup cda = some ⟨ccl, cdd, .fields vs, ccs⟩) (hv : vs[2]? = some (.str file tf)) (hfile : ((P.main.file : Str) == file) = true) (lcc : K.lookup cc = some ⟨cl, cld, .cell (some (.ref C)), csl⟩) (z1 : t1.length ≤ 100) (z2 : t2.length ≤ 100) (z3 : (q3.endLine == q9.line) = true)
    (b : lineB P K C f cda bm = true) : LineG P K mg "ParseError" := by
  unfold lineB at b
  simp only [Bool.and_eq_true, decide_eq_true_eq, Bool.not_eq_true'] at b
  obtain ⟨⟨⟨⟨⟨⟨⟨⟨⟨⟨⟨⟨⟨b1, b2⟩, b3⟩, b4⟩, b5⟩, b6⟩, b7⟩, b8⟩, b9⟩, b10⟩, b11⟩, b12⟩, b13⟩, b14⟩ := b
  exact ⟨C, f, PySem.W.mg_of X G a, a, b13, ⟨⟨nm, q, N, bs, bm, sn, sub, ab, col, dd, k0, k1, k2, k3, k5, l, b1, b2⟩, b3, b4, i, b6, b7, b8, b9, b10, b11,
    ⟨oc, od, doc, pm, an, cda, ct, osl, cc, file, tf, ccl, cdd, vs, ccs, cl, cld, csl, t1, t2, p1, p2, q1, q2, q3, q4, q5, q6, q7, q8, q9, q10, q11, q12, q13, q14, lf, b12, lc, hv, hfile, lcc, z1, z2, z3⟩⟩, xfB_ok b14⟩
/-! ### the module's constants -/
def rpB (K : PySem.W.Frag) : Nat → Value → PyData → Bool
  | _, .none, .none => true
  | _, .bool b, .bool c => b == c
  | _, .int i _, .int j => decide (i = j)
  | _, .str x _, .str y => decide (x = y)
  | n + 1, .ref a, .tuple ds => (match K.lookup a with
    | some ⟨c, d, .seq its _, _⟩ => decide (c = .type "tuple") && decide (d = none) && decide (its.size ≤ sizeLine) && decide (its.toList.length = ds.length) && (its.toList.zip ds).all fun p => rpB K n p.1 p.2
    | _ => false)
  | _, _, _ => false
theorem rpsB_ok {K : PySem.W.Frag} {n : Nat} (ih : ∀ u d, rpB K n u d = true → ∃ v, RelV v u ∧ ∀ F, Rp K F v d) : ∀ (us : List Value) (ds : List PyData), us.length = ds.length → ((us.zip ds).all fun p => rpB K n p.1 p.2) = true → ∃ vs, Vals vs us ∧ ∀ F, Rps K F vs ds
  | [], [], _, _ => ⟨[], .nil, fun _ => .nil⟩
  | u :: us, d :: ds, hl, h => by
    simp only [List.zip_cons_cons, List.all_cons, Bool.and_eq_true] at h
    obtain ⟨v, r, p⟩ := ih u d h.1
    obtain ⟨vs, rs, ps⟩ := rpsB_ok ih us ds (by simpa using hl) h.2
    exact ⟨v :: vs, .cons r rs, fun F => .cons (p F) (ps F)⟩
  | [], _ :: _, hl, _ => by simp at hl
  | _ :: _, [], hl, _ => by simp at hl
theorem rpB_ok {K : PySem.W.Frag} : ∀ (n : Nat) (u : Value) (d : PyData), rpB K n u d = true → ∃ v, RelV v u ∧ ∀ F, Rp K F v d := by
  intro n
  induction n with
  | zero =>
    intro u d e
    unfold rpB at e
    split at e
    · exact ⟨.non, rfl, fun _ => .non⟩
    · rename_i b c; have := beq_iff_eq.mp e; subst this; exact ⟨.bl b, rfl, fun _ => .bl b⟩
    · rename_i i t j; have := of_decide_eq_true e; subst this; exact ⟨.int i, ⟨t, rfl⟩, fun _ => .int i⟩
    · rename_i x t y; have := of_decide_eq_true e; subst this; exact ⟨.str x, ⟨t, rfl⟩, fun _ => .str x⟩
    · rename_i h; cases h
    · cases e
  | succ n ih =>
    intro u d e
    unfold rpB at e
    split at e
    · exact ⟨.non, rfl, fun _ => .non⟩
    · rename_i b c; have := beq_iff_eq.mp e; subst this; exact ⟨.bl b, rfl, fun _ => .bl b⟩
    · rename_i i t j; have := of_decide_eq_true e; subst this; exact ⟨.int i, ⟨t, rfl⟩, fun _ => .int i⟩
    · rename_i x t y; have := of_decide_eq_true e; subst this; exact ⟨.str x, ⟨t, rfl⟩, fun _ => .str x⟩
    · rename_i m a ds hm
      cases hm
      split at e
      · rename_i c dd its sz sl hl
        simp only [Bool.and_eq_true, decide_eq_true_eq] at e
        obtain ⟨⟨⟨⟨h1, h2⟩, h3⟩, h4⟩, h5⟩ := e
        obtain ⟨vs, rs, ps⟩ := rpsB_ok ih its.toList ds h4 h5
        exact ⟨.ref a, rfl, fun F => .tup (.inr ⟨_, its, _, hl, h1, rfl, h3, rs⟩) (ps F)⟩
      · cases e
    · cases e
def globB (K : PySem.W.Frag) (x : Str) (d : PyData) : Bool := match PySem.W.nsIn K mainGlobals x with
  | some (some u) => rpB K 9 u d
  | _ => false
theorem globB_ok {x : Str} {d : PyData} (X : K.In h) (G : h.Ns mainGlobals mg) (e : globB K x d = true) : GlobD K mg x d := by
  unfold globB at e
  split at e
  · rename_i u hu
    obtain ⟨v, r, p⟩ := rpB_ok 9 u d e
    exact ⟨v, u, PySem.W.mg_of X G hu, r, p⟩
  · cases e
def globTB (K : PySem.W.Frag) (x : Str) (ds : List PyData) : Bool := match nsAt K x with
  | some a => rpB K 9 (.ref a) (.tuple ds) && (match K.lookup a with
    | some o => decide (o.cls = .type "tuple") && decide (o.dict = none)
    | none => false)
  | none => false
theorem globTB_ok {x : Str} {ds : List PyData} (X : K.In h) (G : h.Ns mainGlobals mg) (e : globTB K x ds = true) : GlobT K mg x ds := by
  unfold globTB at e
  split at e
  · rename_i a ha
    rw [Bool.and_eq_true] at e
    obtain ⟨e1, e2⟩ := e
    obtain ⟨v, r, p⟩ := rpB_ok 9 _ _ e1
    split at e2
    · rename_i o ho
      simp only [Bool.and_eq_true, decide_eq_true_eq] at e2
      refine ⟨a, o, PySem.W.mg_of X G (nsAt_inv ha), fun F => ?_, ho, e2.1, e2.2⟩
      have z := p F
      cases z with
      | tup h1 h2 => cases r; exact .tup h1 h2
    · cases e2
  · cases e
/-! ### defs that hold lambdas -/
def lamB (K : PySem.W.Frag) (x : Str) : Bool := K.all fun p => match K.lookup p.1 with
  | some ⟨_, _, .func fd, _⟩ => if fd.qualname = x then (match recAt K p.1 with
    | some t => decide (fd.code = .ref t.2.1) && decide (t.2.2.1 = x) && (K.any fun r => decide (recAt K r.1 = some t)) && (tabRec K).all fun u => if u.2.2.2 = t.2.2.2 then decide (u.2.2.1 = x) else true
    | none => false) else true
  | _ => true
theorem mem_of_lookup : ∀ {l : PySem.W.Frag} {a : Addr} {o : Obj}, l.lookup a = some o → (a, o) ∈ l
  | [], _, _, h => by simp at h
  | (b, p) :: l, a, o, h => by
    rw [List.lookup_cons] at h
    by_cases e : a = b
    · subst e
      simp at h
      subst h
      simp
    · have : (a == b) = false := by simpa using e
      rw [this] at h
      exact List.mem_cons_of_mem _ (mem_of_lookup h)
theorem lamFor_ok {base : Heap} {x : Str} (TB : ∀ t ∈ tabRec K, LamX.TabB base mg t.2.1 t.2.2.2) (e : lamB K x = true) : LamFor K mg base x := ⟨by
  rintro f cdv ⟨o, fd, h1, h2, h3, h4⟩
  have z := List.all_eq_true.mp e (f, o) (mem_of_lookup h1)
  obtain ⟨c, dd, dat, sl⟩ := o
  simp only at h2
  subst h2
  simp only [h1, h4, if_true] at z
  split at z
  · rename_i t ht
    simp only [Bool.and_eq_true, decide_eq_true_eq] at z
    obtain ⟨⟨⟨z1, z2⟩, z3⟩, z4⟩ := z
    obtain ⟨r, hr, hr2⟩ := List.any_eq_true.mp z3
    have mem : t ∈ tabRec K := List.mem_filterMap.mpr ⟨r, hr, of_decide_eq_true hr2⟩
    refine ⟨t.2.1, t.2.2.2, by rw [← h3, z1], TB t mem, List.mem_map.mpr ⟨t, mem, by rw [z2]⟩, fun p hp q => ?_⟩
    obtain ⟨u, hu, rfl⟩ := List.mem_map.mp hp
    have y := List.all_eq_true.mp z4 u hu
    rw [if_pos q] at y
    show _ = _
    rw [of_decide_eq_true y]
  · cases z⟩
end
end Fl
set_option Elab.async false
set_option autoImplicit false
set_option linter.all false
set_option maxRecDepth 100000
set_option maxHeartbeats 4000000
/-! Fl30: more of the mirrors, computed where the slots are known. -/
namespace Fl
open PySem PySem.Spec PyProof.Rows L2
def FOut.put (o : FOut) (r : Rho) : Out := match o with
  | .ok d => .ok d r
  | .er x => .er x r
  | .no => .no
def IOut.goL (o : IOut) (k : List PyData → Rho → Out) : Out := match o with
  | .ok ds r => k ds r
  | .er x r => .er x r
  | .no => .no
def IOut.goS (o : IOut) (k : List PyData → Rho → SOut) : SOut := match o with
  | .ok ds r => k ds r
  | .er x r => .er x r
  | .no => .no
def Out.goI (o : Out) (k : PyData → Rho → IOut) : IOut := match o with
  | .ok d r => k d r
  | .er x r => .er x r
  | .no => .no
def AOut.goI (o : AOut) (k : List PyData → Rho → IOut) : IOut := match o with
  | .ok ds r => k ds r
  | .er x r => .er x r
  | .no => .no
def LOut.fin (o : LOut) (r : Rho) (vs : List Nat) : Out := match o with
  | .ok ys r' => .ok (.list ys) (unw r vs r')
  | .no => .no
def LOut.cons (o : LOut) (y : PyData) : LOut := match o with
  | .ok ys r => .ok (y :: ys) r
  | .no => .no
/-- what a function gives behind its body -/
def SOut.fn (o : SOut) : FOut := match o with
  | .nx _ => .ok .none
  | .rt d _ => .ok d
  | .er x _ => .er x
  | _ => .no
def SOut.fnP (o : SOut) : POut := match o with
  | .nx ρ => (match ownAt ρ 0 with
    | some ys => .ok .none ys
    | none => .no)
  | .rt d ρ => (match ownAt ρ 0 with
    | some ys => .ok d ys
    | none => .no)
  | _ => .no
def POut.put (o : POut) (i : Nat) (r : Rho) : Out := match o with
  | .ok d ys => .ok d (r.set i (some (.o ys)))
  | .no => .no
section
variable {d : PyData} {ds : List PyData} {x : ExcD} {r ρ : Rho} {k : PyData → Rho → Out} {kS : PyData → Rho → SOut} {kL : List PyData → Rho → Out} {kLS : List PyData → Rho → SOut} {kI : PyData → Rho → IOut} {kLI : List PyData → Rho → IOut}
  {f fa fb fc ft fe : Rho → Out} {t : Rho → AOut} {s s1 s2 body : Rho → SOut} {i j n m : Nat} {fi : Rho → IOut} {tg : Tgt} {vs : List Nat} {fd : List PyData → FOut} {fp : List PyData → List PyData → POut} {ys : List PyData} {y : PyData}
@[simp] theorem fput_ok : (FOut.ok d).put r = .ok d r := rfl
@[simp] theorem fput_er : (FOut.er x).put r = .er x r := rfl
@[simp] theorem fput_no : FOut.no.put r = .no := rfl
@[simp] theorem igoL_ok : (IOut.ok ds r).goL kL = kL ds r := rfl
@[simp] theorem igoL_er : (IOut.er x r).goL kL = .er x r := rfl
@[simp] theorem igoL_no : IOut.no.goL kL = .no := rfl
@[simp] theorem igoS_ok : (IOut.ok ds r).goS kLS = kLS ds r := rfl
@[simp] theorem igoS_er : (IOut.er x r).goS kLS = .er x r := rfl
@[simp] theorem igoS_no : IOut.no.goS kLS = .no := rfl
@[simp] theorem ogoI_ok : (Out.ok d r).goI kI = kI d r := rfl
@[simp] theorem ogoI_er : (Out.er x r).goI kI = .er x r := rfl
@[simp] theorem ogoI_no : Out.no.goI kI = .no := rfl
@[simp] theorem agoI_ok : (AOut.ok ds r).goI kLI = kLI ds r := rfl
@[simp] theorem agoI_er : (AOut.er x r).goI kLI = .er x r := rfl
@[simp] theorem agoI_no : AOut.no.goI kLI = .no := rfl
@[simp] theorem lfin_ok : (LOut.ok ys r).fin ρ vs = .ok (.list ys) (unw ρ vs r) := rfl
@[simp] theorem lfin_no : LOut.no.fin ρ vs = .no := rfl
@[simp] theorem lcons_ok : (LOut.ok ys r).cons y = .ok (y :: ys) r := rfl
@[simp] theorem lcons_no : LOut.no.cons y = .no := rfl
@[simp] theorem fn_nx : (SOut.nx r).fn = .ok .none := rfl
@[simp] theorem fn_rt : (SOut.rt d r).fn = .ok d := rfl
@[simp] theorem fn_er : (SOut.er x r).fn = .er x := rfl
@[simp] theorem pput_ok : (POut.ok d ys).put i r = .ok d (r.set i (some (.o ys))) := rfl
@[simp] theorem pput_no : POut.no.put i r = .no := rfl
theorem y_fnD {fb : Rho → SOut} : fnD m fb ds = (fb (st0 m ds)).fn := rfl
theorem y_fnP {fb : Rho → SOut} : Fl.fnP m fb ys ds = (fb (stP m ys ds)).fnP := rfl
@[simp] theorem fnP_nx : (SOut.nx (some (.o ys) :: r)).fnP = .ok .none ys := rfl
@[simp] theorem fnP_rt : (SOut.rt d (some (.o ys) :: r)).fnP = .ok d ys := rfl
/-! expressions -/
def notK (x : PyData) (r : Rho) : Out := .ok (.bool (!truth x)) r
@[simp] theorem y_notK : notK d r = .ok (.bool (!truth d)) r := rfl
@[simp] theorem y_eNot : eNot f ρ = (f ρ).go notK := rfl
@[simp] theorem y_eTru : eTru f ρ = (f ρ).go okK := rfl
def tupK (xs : List PyData) (r : Rho) : Out := if xs.length ≤ sizeLine then .ok (.tuple xs) r else .no
def lstK (xs : List PyData) (r : Rho) : Out := if xs.length ≤ sizeLine then .ok (.list xs) r else .no
theorem size_le {n : Nat} (h : n ≤ 100) : n ≤ sizeLine := Nat.le_trans h (by decide +kernel)
theorem size_lt {n : Nat} (h : n ≤ 100) : n < sizeLine := Nat.lt_of_le_of_lt h (by decide +kernel)
@[simp] theorem y_tupK (h : ds.length ≤ 100) : tupK ds r = .ok (.tuple ds) r := if_pos (size_le h)
@[simp] theorem y_lstK (h : ds.length ≤ 100) : lstK ds r = .ok (.list ds) r := if_pos (size_le h)
@[simp] theorem y_eTup : eTup t ρ = (t ρ).go tupK := rfl
@[simp] theorem y_eLst : eLst t ρ = (t ρ).go lstK := rfl
def callK (n : Nat) (fd : List PyData → FOut) (xs : List PyData) (r : Rho) : Out := if xs.length = n then (fd xs).put r else .no
@[simp] theorem y_callK (h : ds.length = n) : callK n fd ds r = (fd ds).put r := if_pos h
@[simp] theorem y_eCall : eCall n fd t ρ = (t ρ).go (callK n fd) := rfl
def callPK (n i : Nat) (fp : List PyData → List PyData → POut) (xs : List PyData) (r : Rho) : Out := if xs.length + 1 = n then (match ownAt r i with
  | some zs => (fp zs xs).put i r
  | none => .no) else .no
theorem y_callPK {zs : List PyData} (h : ds.length + 1 = n) (e : ownAt r i = some zs) : callPK n i fp ds r = (fp zs ds).put i r := by
  unfold callPK
  rw [if_pos h, e]
theorem y_eCallP (e : ownAt ρ i = some ys) : eCallP n i fp t ρ = (t ρ).go (callPK n i fp) := by
  unfold eCallP
  rw [e]
  rfl
theorem y_eV (e : ρ[i]? = some (some (.d d))) : eV i ρ = .ok d ρ := by
  unfold eV
  rw [e]
def isaK (T : String) (x : PyData) (r : Rho) : Out := liftB (isaD T x) r
@[simp] theorem y_isaK {T : String} : isaK T d r = liftB (isaD T d) r := rfl
@[simp] theorem y_eIsa {T : String} : eIsa T f ρ = (f ρ).go (isaK T) := rfl
def slK (x : PyData) (lo hi : Option Int) (r : Rho) : Out := lift (pSl x lo hi) r
@[simp] theorem y_slK {lo hi : Option Int} : slK d lo hi r = lift (pSl d lo hi) r := rfl
def sl00 (x : PyData) (r : Rho) : Out := slK x none none r
def slL (fa : Rho → Out) (x : PyData) (r : Rho) : Out := (fa r).go fun y r' => match y with
  | .int i => slK x (some i) none r'
  | _ => .no
def slH (fb : Rho → Out) (x : PyData) (r : Rho) : Out := (fb r).go fun y r' => match y with
  | .int i => slK x none (some i) r'
  | _ => .no
def slLH (fa fb : Rho → Out) (x : PyData) (r : Rho) : Out := (fa r).go fun y r' => match y with
  | .int i => (fb r').go fun z r'' => (match z with
    | .int j => slK x (some i) (some j) r''
    | _ => .no)
  | _ => .no
@[simp] theorem y_slL : slL fa d r = (fa r).go fun y r' => match y with
  | .int i => slK d (some i) none r'
  | _ => .no := rfl
@[simp] theorem y_slH : slH fa d r = (fa r).go fun y r' => match y with
  | .int i => slK d none (some i) r'
  | _ => .no := rfl
@[simp] theorem y_slLH : slLH fa fb d r = (fa r).go fun y r' => match y with
  | .int i => (fb r').go fun z r'' => (match z with
    | .int j => slK d (some i) (some j) r''
    | _ => .no)
  | _ => .no := rfl
theorem go_ext {o : Out} {k1 k2 : PyData → Rho → Out} (h : ∀ d r, k1 d r = k2 d r) : o.go k1 = o.go k2 := by
  cases o <;> simp [h]
@[simp] theorem y_eSl_L : eSl f (some fa) none ρ = (f ρ).go (slL fa) := by
  show (f ρ).go _ = _
  refine go_ext fun d r => ?_
  show (fa r).go _ = (fa r).go _
  refine go_ext fun y r' => ?_
  cases y <;> rfl
@[simp] theorem y_eSl_H : eSl f none (some fb) ρ = (f ρ).go (slH fb) := by
  show (f ρ).go _ = _
  refine go_ext fun d r => ?_
  show (fb r).go _ = (fb r).go _
  refine go_ext fun y r' => ?_
  cases y <;> rfl
@[simp] theorem y_eSl_LH : eSl f (some fa) (some fb) ρ = (f ρ).go (slLH fa fb) := by
  show (f ρ).go _ = _
  refine go_ext fun d r => ?_
  show (fa r).go _ = (fa r).go _
  refine go_ext fun y r' => ?_
  cases y <;> try rfl
  show (fb r').go _ = (fb r').go _
  refine go_ext fun z r'' => ?_
  cases z <;> rfl
def revK (x : PyData) (r : Rho) : Out := lift (pRev x) r
@[simp] theorem y_revK : revK d r = lift (pRev d) r := rfl
@[simp] theorem y_eRev : eRev f ρ = (f ρ).go revK := rfl
@[simp] theorem p_revL : pRev (.list ds) = some (.list ds.reverse) := rfl
@[simp] theorem p_revT : pRev (.tuple ds) = some (.tuple ds.reverse) := rfl
def tplK (x : PyData) (r : Rho) : IOut := match x with
  | .tuple xs => .ok xs r
  | _ => .no
def llK (x : PyData) (r : Rho) : IOut := match x with
  | .list xs => .ok xs r
  | _ => .no
@[simp] theorem y_tplK : tplK (.tuple ds) r = .ok ds r := rfl
@[simp] theorem y_llK : llK (.list ds) r = .ok ds r := rfl
@[simp] theorem y_iTpl : iTpl f ρ = (f ρ).goI tplK := by
  unfold iTpl Out.goI tplK
  cases f ρ with
  | ok d r => cases d <;> rfl
  | er x r => rfl
  | no => rfl
@[simp] theorem y_iLst : iLst f ρ = (f ρ).goI llK := by
  unfold iLst Out.goI llK
  cases f ρ with
  | ok d r => cases d <;> rfl
  | er x r => rfl
  | no => rfl
def lcK (t : Tgt) (ft fe : Rho → Out) (vs : List Nat) (xs : List PyData) (r : Rho) : Out := if noOwn r vs = true then (lcLoop t ft fe vs 0 xs (wipeR r vs)).fin r vs else .no
@[simp] theorem y_eLc : eLc tg fi ft fe vs ρ = (fi ρ).goL (lcK tg ft fe vs) := by
  unfold eLc IOut.goL lcK LOut.fin
  cases fi ρ <;> rfl
theorem y_lcK (h : noOwn r vs = true) : lcK tg ft fe vs ds r = (lcLoop tg ft fe vs 0 ds (wipeR r vs)).fin r vs := if_pos h
@[simp] theorem y_lcNil : lcLoop tg ft fe vs n [] ρ = .ok [] ρ := rfl
/-- a lap without a condition -/
theorem y_lcCons {ρ1 ρ2 : Rho} (h1 : tset tg d ρ = some ρ1) (h2 : fe ρ1 = .ok y ρ2) (hn : n ≤ 100) : lcLoop tg eYes fe vs n (d :: ds) ρ = (lcLoop tg eYes fe vs (n + 1) ds (wipeR ρ2 vs)).cons y := by
  rw [lcLoop, h1]
  have e : eYes ρ1 = .ok (.bool true) ρ1 := rfl
  simp only [e, tr_bool, if_true, h2, if_pos (size_lt hn)]
  unfold LOut.cons
  cases lcLoop tg eYes fe vs (n + 1) ds (wipeR ρ2 vs) <;> rfl
def forK (t : Tgt) (body : Rho → SOut) (xs : List PyData) (r : Rho) : SOut := loop t body xs r
@[simp] theorem y_forK : forK tg body ds r = loop tg body ds r := rfl
@[simp] theorem y_sFor : sFor tg fi body ρ = (fi ρ).goS (forK tg body) := by
  unfold sFor IOut.goS forK
  cases fi ρ <;> rfl
def SOut.lap (o : SOut) (k : Rho → SOut) : SOut := match o with
  | .nx r => k r
  | .ct r => k r
  | .bk r => .nx r
  | .rt d r => .rt d r
  | .er x r => .er x r
  | .no => .no
@[simp] theorem lap_nx {kk : Rho → SOut} : (SOut.nx r).lap kk = kk r := rfl
@[simp] theorem lap_ct {kk : Rho → SOut} : (SOut.ct r).lap kk = kk r := rfl
@[simp] theorem lap_rt {kk : Rho → SOut} : (SOut.rt d r).lap kk = .rt d r := rfl
@[simp] theorem lap_er {kk : Rho → SOut} : (SOut.er x r).lap kk = .er x r := rfl
@[simp] theorem y_loop0 : loop tg body [] ρ = .nx ρ := rfl
theorem y_loop1 {ρ1 : Rho} (h : tset tg d ρ = some ρ1) : loop tg body (d :: ds) ρ = (body ρ1).lap (loop tg body ds) := by
  rw [loop, h]
  dsimp only
  unfold SOut.lap
  cases body ρ1 <;> rfl
@[simp] theorem y_loopN : loop (.nm i) body (d :: ds) ρ = (body (ρ.set i (some (.d d)))).lap (loop (.nm i) body ds) := y_loop1 rfl
def asgK (t : Tgt) (d : PyData) (r : Rho) : SOut := match tset t d r with
  | some r' => .nx r'
  | none => .no
theorem y_asgK {r' : Rho} (h : tset tg d r = some r') : asgK tg d r = .nx r' := by
  unfold asgK
  rw [h]
@[simp] theorem y_sAsg : sAsg tg f ρ = (f ρ).goS (asgK tg) := rfl
@[simp] theorem x_eYes : eYes ρ = .ok (.bool true) ρ := rfl
theorem y_eVa : eV i ρ = (match ρ[i]? with
  | some (some (.d x)) => .ok x ρ
  | some (some (.o xs)) => .ok (.list xs) (ρ.set i (some (.d (.list xs))))
  | _ => .no) := rfl
def Out.lc (o : Out) (n : Nat) (k : Rho → LOut) : LOut := match o with
  | .ok y r => if n < sizeLine then (k r).cons y else .no
  | _ => .no
@[simp] theorem lc_ok {kk : Rho → LOut} (h : n ≤ 100) : (Out.ok y r).lc n kk = (kk r).cons y := if_pos (size_lt h)
@[simp] theorem y_lcN : lcLoop (.nm i) eYes fe vs n (d :: ds) ρ = (fe (ρ.set i (some (.d d)))).lc n (fun r => lcLoop (.nm i) eYes fe vs (n + 1) ds (wipeR r vs)) := by
  have t : tset (.nm i) d ρ = some (ρ.set i (some (.d d))) := rfl
  have e : eYes (ρ.set i (some (.d d))) = .ok (.bool true) (ρ.set i (some (.d d))) := rfl
  rw [lcLoop, t]
  simp only [e, tr_bool, if_true]
  unfold Out.lc LOut.cons
  cases fe (ρ.set i (some (.d d))) with
  | er x r => rfl
  | no => rfl
  | ok y r =>
    dsimp only
    all_goals (split <;> first | rfl | (cases lcLoop (.nm i) eYes fe vs (n + 1) ds (wipeR r vs) <;> rfl))
theorem y_eCallPa : eCallP n i fp t ρ = (match ownAt ρ i with
  | none => .no
  | some _ => (t ρ).go (callPK n i fp)) := rfl
theorem y_callPKa : callPK n i fp ds r = if ds.length + 1 = n then (match ownAt r i with
  | some zs => (fp zs ds).put i r
  | none => .no) else .no := rfl
end
end Fl
set_option Elab.async false
set_option autoImplicit false
set_option linter.all false
set_option maxRecDepth 100000
set_option maxHeartbeats 4000000
/-! Fl31: x != (). -/
namespace Fl
open PySem PySem.Spec PyProof.Rows L2
def qNeT (a b : PyData) : Option Bool := match a, b with
  | .tuple xs, .tuple [] => if noExcs xs = true then some (!xs.isEmpty) else none
  | _, _ => none
section
variable {X : Cx}
theorem q_neT (hu : X.A.units + 64 < cLine) : OpR X (compareOp .NotEq) (rDC X.K qNeT) := by
  intro pins s σ H x y v u Q I rx ry ⟨F, a, b, z, sm, pa, pb, e, q⟩
  unfold qNeT at e
  split at e
  · rename_i xs
    split at e
    · rename_i hn
      cases e
      obtain ⟨as, r1, _⟩ := Rp.reads I sm _ x v pa rx (show noExc (.tuple xs) = true by simpa [noExc] using hn)
      obtain ⟨bs, r2, _⟩ := Rp.reads I sm _ y u pb ry (show noExc (.tuple []) = true by simp [noExc, noExcs])
      cases r1 with
      | @tuple l o vs n _ as1 h1 h2 h3 h4 =>
        cases r2 with
        | @tuple l' o' vs' n' _ bs1 k1 k2 k3 k4 =>
          have n1 : vs.size = xs.length := by simpa using SeqAt.ReadsAll.length _ _ _ h4
          have n2 : vs'.size = 0 := by simpa using SeqAt.ReadsAll.length _ _ _ k4
          refine SeqAt.RcNeAt.tuples ⟨_, h1, h2, _, h3⟩ ⟨_, k1, k2, _, k3⟩ (e := fun _ => true) (by omega) (fun j j1 j2 => by omega) _ _ _ _ ?_
          have hz : (!((List.range (min vs.size vs'.size)).all (fun _ => true) && vs.size == vs'.size)) = !xs.isEmpty := by
            rw [n1, n2]
            cases xs <;> simp
          rw [hz]
          exact epB I sm q
    · cases e
  · cases e
end
end Fl
set_option Elab.async false
set_option autoImplicit false
set_option linter.all false
set_option maxRecDepth 100000
set_option maxHeartbeats 4000000
namespace Lw
open PySem PySem.Spec PyProof.Rows L2 Fl
def topS (i : Nat) : Stmt := PySem.Challenge.pw_flushtold_k01_logs.main.body.getD i (.Pass ⟨0, 0, 0, 0⟩)
def l_EVENTS : List PyData := [.str "begin", .str "good", .str "bad"]
abbrev k_EVENTS : PyData := .tuple l_EVENTS
def l_LEADS : List PyData := [.str "free", .str "next", .str "stay"]
abbrev k_LEADS : PyData := .tuple l_LEADS
def l_MOVING : List PyData := [.str "new", .str "going"]
abbrev k_MOVING : PyData := .tuple l_MOVING
def l_PLACES : List PyData := [.str "new", .str "going", .str "kept", .str "gone"]
abbrev k_PLACES : PyData := .tuple l_PLACES
def l_REPORTS : List PyData := [.str "good", .str "bad"]
abbrev k_REPORTS : PyData := .tuple l_REPORTS
def l_RESULTS : List PyData := [.str "all", .str "none", .str "some"]
abbrev k_RESULTS : PyData := .tuple l_RESULTS
def l_WORDS : List PyData := [.str "yes", .str "no", .str ""]
abbrev k_WORDS : PyData := .tuple l_WORDS
def nsX : List Str := ["FlushError", "InvalidCell", "InvalidEvent", "InvalidPlace", "InvalidTable"]
def tab_InvalidCell (n : Str) : Bool := List.contains (["InvalidCell"] : List Str) n
def tab_InvalidEvent (n : Str) : Bool := List.contains (["InvalidEvent"] : List Str) n
def tab_InvalidPlace (n : Str) : Bool := List.contains (["InvalidPlace"] : List Str) n
def tab_InvalidTable (n : Str) : Bool := List.contains (["InvalidTable"] : List Str) n
structure Fx (P : Program) (K : PySem.W.Frag) (mg : Str → Option Value) : Prop where
  b_all : mg "all" = none
  b_any : mg "any" = none
  b_bool : mg "bool" = none
  b_int : mg "int" = none
  b_isinstance : mg "isinstance" = none
  b_len : mg "len" = none
  b_list : mg "list" = none
  b_min : mg "min" = none
  b_range : mg "range" = none
  b_repr : mg "repr" = none
  b_sorted : mg "sorted" = none
  b_tuple : mg "tuple" = none
  b_zip : mg "zip" = none
  c_EVENTS : GlobT K mg "EVENTS" l_EVENTS
  c_LEADS : GlobT K mg "LEADS" l_LEADS
  c_MOVING : GlobT K mg "MOVING" l_MOVING
  c_PLACES : GlobT K mg "PLACES" l_PLACES
  c_REPORTS : GlobT K mg "REPORTS" l_REPORTS
  c_RESULTS : GlobT K mg "RESULTS" l_RESULTS
  c_WORDS : GlobT K mg "WORDS" l_WORDS
  e_InvalidCell : ExcG K mg "InvalidCell"
  e_InvalidEvent : ExcG K mg "InvalidEvent"
  e_InvalidPlace : ExcG K mg "InvalidPlace"
  e_InvalidTable : ExcG K mg "InvalidTable"
  i_InvalidCell : IsOwn K mg nsX "InvalidCell" tab_InvalidCell
  i_InvalidEvent : IsOwn K mg nsX "InvalidEvent" tab_InvalidEvent
  i_InvalidPlace : IsOwn K mg nsX "InvalidPlace" tab_InvalidPlace
  i_InvalidTable : IsOwn K mg nsX "InvalidTable" tab_InvalidTable
  g_FlushError : CatchG K mg nsX "FlushError"
section
variable {P : Program} {w : World} {K : PySem.W.Frag} {mg : Str → Option Value} {base : Heap}
/-! is_tuple -/
abbrev s_is_tuple : Stmt := topS 14
abbrev N_is_tuple : List Str := ["thing", "count"]
theorem sc_is_tuple : FnScope N_is_tuple ["thing", "count"] (defScope s_is_tuple) := ⟨rfl, rfl, rfl, by decide +kernel, rfl, by decide +kernel, by decide +kernel⟩
def m_is_tuple : Rho → SOut :=
    (sRet (eAnd (eOk (eIsa "tuple" (eV 0))) (eCmp qEq (eFun pLen (aCons (eV 0) aNil)) (eV 1))))
def d_is_tuple := fnD 2 m_is_tuple
theorem cal_is_tuple (D : DefF K mg "is_tuple" s_is_tuple) (T : Fx P K mg)  : CalD P w K mg base 1 "is_tuple" 2 d_is_tuple := by
  obtain ⟨f, fd, F, hm⟩ := D.ex
  refine ⟨f, fd, ["thing", "count"], fn_data (N := N_is_tuple) F sc_is_tuple rfl fun cdv A outer s H E hcd hr hgd => ?_, hm, F.kp, F.binds fun _ _ _ _ _ _ us hl => match us, hl with | [_, _], _ => rfl⟩
  exact (sb_one (ss_ret (se_and (se_isa (T := "tuple") (se_var (i := 0)) rfl T.b_isinstance rfl T.b_tuple (by decide +kernel)) (se_one (se_cmp (q_eq hr.units) dc_rD (se_callB o_len dn_rD rfl T.b_len (by decide +kernel) (sa_cons (se_var (i := 0)) sa_nil)) (se_var (i := 1)) (nomark _))))))
/-! is_rising -/
abbrev s_is_rising : Stmt := topS 15
abbrev N_is_rising : List Str := ["parts", "low", "high"]
theorem sc_is_rising : FnScope N_is_rising ["parts"] (defScope s_is_rising) := ⟨rfl, rfl, rfl, by decide +kernel, rfl, by decide +kernel, by decide +kernel⟩
def m_is_rising : Rho → SOut :=
    (sRet (eFun pAll (aCons (eLc (.tp [(.nm 1), (.nm 2)]) (iZp (aCons (eV 0) (aCons (eSl (eV 0) (some (eC (.int 1))) none) aNil))) eYes (eCmp qLt (eV 1) (eV 2)) [1, 2]) aNil)))
def d_is_rising := fnD 3 m_is_rising
theorem cal_is_rising (D : DefF K mg "is_rising" s_is_rising) (T : Fx P K mg)  : CalD P w K mg base 1 "is_rising" 1 d_is_rising := by
  obtain ⟨f, fd, F, hm⟩ := D.ex
  refine ⟨f, fd, ["parts"], fn_data (N := N_is_rising) F sc_is_rising rfl fun cdv A outer s H E hcd hr hgd => ?_, hm, F.kp, F.binds fun _ _ _ _ _ _ us hl => match us, hl with | [_], _ => rfl⟩
  exact (sb_one (ss_ret (se_callB (o_all rfl) dn_rD rfl T.b_all (by decide +kernel) (sa_cons (se_lc (t := (.tp [(.nm 1), (.nm 2)])) (own := [("low", 1), ("high", 2)]) (ft := eYes) (fe := (eCmp qLt (eV 1) (eV 2))) rfl sc_is_rising.nd (si_zip rfl T.b_zip (sa_cons (se_var (i := 0)) (sa_cons (se_sl (se_var (i := 0)) (so_some se_int) so_none) sa_nil))) (blkOk_by (own := [("low", 1), ("high", 2)]) (N := N_is_rising) (sc := defScope s_is_rising) (by decide +kernel)) (fun _ _ _ _ _ => (sg_tp rfl (sgs_cons (sg_nm (i := 1) sc_is_rising.nd rfl (by first | exact Or.inl rfl | exact Or.inr rfl)) (sgs_cons (sg_nm (i := 2) sc_is_rising.nd rfl (by first | exact Or.inl rfl | exact Or.inr rfl)) sgs_nil)))) (fun _ _ _ _ _ => pts_yes) (fun _ _ _ _ _ => (se_cmp (q_lt hr.units) dc_rD (se_var (i := 1)) (se_var (i := 2)) (nomark _)))) sa_nil))))
/-! cell_at -/
abbrev s_cell_at : Stmt := topS 25
abbrev N_cell_at : List Str := ["table", "event", "place"]
theorem sc_cell_at : FnScope N_cell_at ["table", "event", "place"] (defScope s_cell_at) := ⟨rfl, rfl, rfl, by decide +kernel, rfl, by decide +kernel, by decide +kernel⟩
def m_cell_at : Rho → SOut :=
    (sRet (eOp pIx (eOp pIx (eV 0) (eOp pAdd (eC (.int 1)) (eIdxG l_EVENTS (aCons (eV 1) aNil)))) (eIdxG l_MOVING (aCons (eV 2) aNil))))
def d_cell_at := fnD 3 m_cell_at
theorem cal_cell_at (D : DefF K mg "cell_at" s_cell_at) (T : Fx P K mg)  : CalD P w K mg base 1 "cell_at" 3 d_cell_at := by
  obtain ⟨f, fd, F, hm⟩ := D.ex
  refine ⟨f, fd, ["table", "event", "place"], fn_data (N := N_cell_at) F sc_cell_at rfl fun cdv A outer s H E hcd hr hgd => ?_, hm, F.kp, F.binds fun _ _ _ _ _ _ us hl => match us, hl with | [_, _, _], _ => rfl⟩
  exact (sb_one (ss_ret (se_ix o_ix d2_rD (se_ix o_ix d2_rD (se_var (i := 0)) (se_op o_add d2_rD se_int (se_idxG T.c_EVENTS hr.units rfl (sa_cons (se_var (i := 1)) sa_nil)))) (se_idxG T.c_MOVING hr.units rfl (sa_cons (se_var (i := 2)) sa_nil)))))
/-! _law_pen -/
abbrev s__law_pen : Stmt := topS 29
abbrev N__law_pen : List Str := ["script"]
theorem sc__law_pen : FnScope N__law_pen ["script"] (defScope s__law_pen) := ⟨rfl, rfl, rfl, by decide +kernel, rfl, by decide +kernel, by decide +kernel⟩
theorem cal__law_pen (D : DefF K mg "_law_pen" s__law_pen) (T : Fx P K mg) : PenD P w K mg base 1 "_law_pen" 60 := by
  obtain ⟨f, fd, F, hm⟩ := D.ex
  exact ⟨f, fd, ["script"], fn_penOf (n := (60 : Nat)) F sc__law_pen rfl (Or.inl rfl) rfl rfl rfl T.b_list rfl, hm, F.kp, F.binds fun _ _ _ _ _ _ us hl => match us, hl with | [_], _ => rfl⟩
/-! _law_next -/
abbrev s__law_next : Stmt := topS 30
abbrev N__law_next : List Str := ["pen", "index", "cell_here", "some", "more", "high"]
theorem sc__law_next : FnScope N__law_next ["pen"] (defScope s__law_next) := ⟨rfl, rfl, rfl, by decide +kernel, rfl, by decide +kernel, by decide +kernel⟩
def m__law_next : Rho → SOut :=
    (sSeq (sSet 1 (eIxO 0 (eC (.int 1))))
    (sSeq (sSetIx 0 (eC (.int 1)) (eOp pAdd (eV 1) (eC (.int 1))))
    (sSeq (sSet 2 (eOp pAdd (eOp pMul (eV 1) (eC (.int 1051))) (eC (.int 53))))
    (sSeq (sIf (eCmp qNe (eIxO 0 (eC (.int 0))) (eLst aNil)) (sSet 2 (eOp pIx (eIxO 0 (eC (.int 0))) (eOp pMod (eFun pInt (aCons (eV 1) aNil)) (eFun pLen (aCons (eIxO 0 (eC (.int 0))) aNil))))) sNil)
    (sSeq (sIf (eAnd (eCmp qLt (eV 1) (eFun pLen (aCons (eIxO 0 (eC (.int 0))) aNil))) (eCmp pGe (eV 2) (eOp pPow (eC (.int 10)) (eC (.int 18))))) (sRet (eV 2)) sNil)
    (sSeq (sSet 3 (eOp pMod (eFun pInt (aCons (eOp pAdd (eOp pAdd (eOp pMod (eFun pInt (aCons (eV 2) aNil)) (eC (.int 2147483587))) (eOp pMul (eV 1) (eC (.int 30103)))) (eC (.int 79))) aNil)) (eC (.int 2147483587))))
    (sSeq (sSet 4 (eOp pMod (eFun pInt (aCons (eOp pAdd (eOp pAdd (eOp pMul (eV 3) (eV 3)) (eOp pMul (eV 1) (eC (.int 70039)))) (eC (.int 61))) aNil)) (eC (.int 2147483563))))
    (sSeq (sSet 5 (eOp pMod (eFun pInt (aCons (eOp pAdd (eOp pAdd (eOp pMul (eV 4) (eV 4)) (eV 3)) (eOp pMul (eOp pMul (eV 1) (eV 1)) (eC (.int 37)))) aNil)) (eC (.int 2147483549))))
    (sRet (eOp pAdd (eOp pMul (eOp pAdd (eOp pMul (eV 5) (eC (.int 2147483587))) (eV 4)) (eC (.int 2147483563))) (eV 3)))))))))))
def d__law_next := fnP 6 m__law_next
theorem cal__law_next (D : DefF K mg "_law_next" s__law_next) (T : Fx P K mg)  : CalP P w K mg base 1 "_law_next" 1 d__law_next := by
  obtain ⟨f, fd, F, hm⟩ := D.ex
  refine ⟨f, fd, ["pen"], fn_pen (N := N__law_next) F sc__law_next rfl fun cdv A outer s H E hcd hr hgd => ?_, hm, F.kp, F.binds fun _ _ _ _ _ _ us hl => match us, hl with | [_], _ => rfl⟩
  exact (sb_cons (ss_set (i := 1) sc__law_next.nd rfl (by first | exact Or.inl rfl | exact Or.inr rfl) (se_ixO (i := 0) se_int))
    (sb_cons (ss_setIx (i := 0) (se_op o_add d2_rD (se_var (i := 1)) se_int) se_int)
    (sb_cons (ss_set (i := 2) sc__law_next.nd rfl (by first | exact Or.inl rfl | exact Or.inr rfl) (se_op o_add d2_rD (se_op o_mul d2_rD (se_var (i := 1)) se_int) se_int))
    (sb_cons (ss_if (st_cmp (q_ne hr.units) dc_rD (se_ixO (i := 0) se_int) (se_lst sa_nil) (nomark _)) (sb_one (ss_set (i := 2) sc__law_next.nd rfl (by first | exact Or.inl rfl | exact Or.inr rfl) (se_ix o_ix d2_rD (se_ixO (i := 0) se_int) (se_op o_mod d2_rD (se_callTy o_int dn_rD rfl T.b_int (by decide +kernel) (sa_cons (se_var (i := 1)) sa_nil)) (se_callB o_len dn_rD rfl T.b_len (by decide +kernel) (sa_cons (se_ixO (i := 0) se_int) sa_nil)))))) sb_nil)
    (sb_cons (ss_if (PW.pt (st_and (st_cmp (q_lt hr.units) dc_rD (se_var (i := 1)) (se_callB o_len dn_rD rfl T.b_len (by decide +kernel) (sa_cons (se_ixO (i := 0) se_int) sa_nil)) (nomark _)) (st_and1 (st_cmp o_ge dc_rD (se_var (i := 2)) (se_op o_pow d2_rD se_int se_int) (nomark _))))) (sb_one (ss_ret (se_var (i := 2)))) sb_nil)
    (sb_cons (ss_set (i := 3) sc__law_next.nd rfl (by first | exact Or.inl rfl | exact Or.inr rfl) (se_op o_mod d2_rD (se_callTy o_int dn_rD rfl T.b_int (by decide +kernel) (sa_cons (se_op o_add d2_rD (se_op o_add d2_rD (se_op o_mod d2_rD (se_callTy o_int dn_rD rfl T.b_int (by decide +kernel) (sa_cons (se_var (i := 2)) sa_nil)) se_int) (se_op o_mul d2_rD (se_var (i := 1)) se_int)) se_int) sa_nil)) se_int))
    (sb_cons (ss_set (i := 4) sc__law_next.nd rfl (by first | exact Or.inl rfl | exact Or.inr rfl) (se_op o_mod d2_rD (se_callTy o_int dn_rD rfl T.b_int (by decide +kernel) (sa_cons (se_op o_add d2_rD (se_op o_add d2_rD (se_op o_mul d2_rD (se_var (i := 3)) (se_var (i := 3))) (se_op o_mul d2_rD (se_var (i := 1)) se_int)) se_int) sa_nil)) se_int))
    (sb_cons (ss_set (i := 5) sc__law_next.nd rfl (by first | exact Or.inl rfl | exact Or.inr rfl) (se_op o_mod d2_rD (se_callTy o_int dn_rD rfl T.b_int (by decide +kernel) (sa_cons (se_op o_add d2_rD (se_op o_add d2_rD (se_op o_mul d2_rD (se_var (i := 4)) (se_var (i := 4))) (se_var (i := 3))) (se_op o_mul d2_rD (se_op o_mul d2_rD (se_var (i := 1)) (se_var (i := 1))) se_int)) sa_nil)) se_int))
    (sb_one (ss_ret (se_op o_add d2_rD (se_op o_mul d2_rD (se_op o_add d2_rD (se_op o_mul d2_rD (se_var (i := 5)) se_int) (se_var (i := 4))) se_int) (se_var (i := 3)))))))))))))
/-! _law_word -/
abbrev s__law_word : Stmt := topS 35
abbrev N__law_word : List Str := ["act", "caught", "e", "kinds", "words_here"]
theorem sc__law_word : FnScope N__law_word ["act"] (defScope s__law_word) := ⟨rfl, rfl, rfl, by decide +kernel, rfl, by decide +kernel, by decide +kernel⟩
def m__law_word : Rho → SOut :=
    (sSeq (sIf (eCmp qIsN (eV 1) (eC .none)) (sRet (eC (.str ""))) sNil)
    (sSeq (sSet 3 (eLst (aCons (eIsX nsX tab_InvalidTable (eV 1)) (aCons (eIsX nsX tab_InvalidEvent (eV 1)) aNil))))
    (sSeq (sSet 3 (eOp pAdd (eV 3) (eLst (aCons (eIsX nsX tab_InvalidPlace (eV 1)) (aCons (eIsX nsX tab_InvalidCell (eV 1)) aNil)))))
    (sSeq (sSet 4 (eLst (aCons (eC (.str "table")) (aCons (eC (.str "event")) (aCons (eC (.str "place")) (aCons (eC (.str "cell")) aNil))))))
    (sRet (eIf (eCmp qEq (eMethL pCount (eV 3) (aCons (eC (.bool true)) aNil)) (eC (.int 1))) (eOp pIx (eV 4) (eMethL pIdxL (eV 3) (aCons (eC (.bool true)) aNil))) (eC (.str "other"))))))))
def r__law_word := resW 5 1 m__law_word
theorem cal__law_word (D : DefF K mg "_law_word" s__law_word) (T : Fx P K mg)  : WordD P w K mg base "_law_word" nsX r__law_word := by
  obtain ⟨f, fd, F, hm⟩ := D.ex
  obtain ⟨CS, hCS, hC⟩ := T.g_FlushError.ex
  refine ⟨s__law_word, f, fd, N__law_word, "act", CS, F, F.binds fun _ _ _ _ _ _ us hl => match us, hl with | [_], _ => rfl, hm, sc__law_word, rfl, Or.inl rfl, hC, rfl, rfl, ?_⟩
  intro X e1 e2 e3 e4 e5 room hgd cdg q
  subst e1 e2 e3 e4 e5
  refine word_gives (i := 2) (j := 1) rfl hCS rfl sc__law_word.nd rfl rfl rfl (by decide) (by decide) rfl rfl rfl rfl (fun s H => ?_)
  have hr := room.deeper (envOfC "_law_word" (defScope s__law_word) s.heap.objs.size f cdg)
  exact (sb_cons (ss_if (st_cmp q_isN dc_rD (se_var (i := 1)) se_non (nomark _)) (sb_one (ss_ret se_str)) sb_nil)
    (sb_cons (ss_set (i := 3) sc__law_word.nd rfl (by first | exact Or.inl rfl | exact Or.inr rfl) (se_lst (sa_cons (se_isOwn (se_var (i := 1)) T.i_InvalidTable rfl T.b_isinstance rfl) (sa_cons (se_isOwn (se_var (i := 1)) T.i_InvalidEvent rfl T.b_isinstance rfl) sa_nil))))
    (sb_cons (ss_set (i := 3) sc__law_word.nd rfl (by first | exact Or.inl rfl | exact Or.inr rfl) (se_op o_add d2_rD (se_var (i := 3)) (se_lst (sa_cons (se_isOwn (se_var (i := 1)) T.i_InvalidPlace rfl T.b_isinstance rfl) (sa_cons (se_isOwn (se_var (i := 1)) T.i_InvalidCell rfl T.b_isinstance rfl) sa_nil)))))
    (sb_cons (ss_set (i := 4) sc__law_word.nd rfl (by first | exact Or.inl rfl | exact Or.inr rfl) (se_lst (sa_cons se_str (sa_cons se_str (sa_cons se_str (sa_cons se_str sa_nil))))))
    (sb_one (ss_ret (se_if (st_cmp (q_eq hr.units) dc_rD (se_methL PySem.F.slot_list_count PySem.F.type_list_count (m_count hr.units) dm_rD (se_var (i := 3)) (sa_cons se_bl sa_nil)) se_int (nomark _)) (se_ix o_ix d2_rD (se_var (i := 4)) (se_methL PySem.F.slot_list_index PySem.F.type_list_index (m_index hr.units) dm_rD (se_var (i := 3)) (sa_cons se_bl sa_nil))) se_str)))))))
/-! _law_is_cell -/
abbrev s__law_is_cell : Stmt := topS 36
abbrev N__law_is_cell : List Str := ["thing", "places_here", "place"]
theorem sc__law_is_cell : FnScope N__law_is_cell ["thing"] (defScope s__law_is_cell) := ⟨rfl, rfl, rfl, by decide +kernel, rfl, by decide +kernel, by decide +kernel⟩
def m__law_is_cell : Rho → SOut :=
    (sSeq (sIf (eOr (eNot (eTru (eIsa "tuple" (eV 0)))) (eCmp qNe (eFun pLen (aCons (eV 0) aNil)) (eC (.int 2)))) (sRet (eC (.bool false))) sNil)
    (sSeq (sSet 1 (eLc (.nm 2) (iTpl (eTup (aCons (eC (.str "new")) (aCons (eC (.str "going")) (aCons (eC (.str "kept")) (aCons (eC (.str "gone")) aNil)))))) eYes (eFun pRepr (aCons (eV 2) aNil)) [2]))
    (sRet (eAnd (eOk (eCmp qInX (eFun pRepr (aCons (eOp pIx (eV 0) (eC (.int 0))) aNil)) (eV 1))) (eCmp qInX (eFun pRepr (aCons (eOp pIx (eV 0) (eC (.int 1))) aNil)) (eTup (aCons (eC (.str "''")) (aCons (eC (.str "'no'")) (aCons (eC (.str "'yes'")) aNil)))))))))
def d__law_is_cell := fnD 3 m__law_is_cell
theorem cal__law_is_cell (D : DefF K mg "_law_is_cell" s__law_is_cell) (T : Fx P K mg)  : CalD P w K mg base 1 "_law_is_cell" 1 d__law_is_cell := by
  obtain ⟨f, fd, F, hm⟩ := D.ex
  refine ⟨f, fd, ["thing"], fn_data (N := N__law_is_cell) F sc__law_is_cell rfl fun cdv A outer s H E hcd hr hgd => ?_, hm, F.kp, F.binds fun _ _ _ _ _ _ us hl => match us, hl with | [_], _ => rfl⟩
  exact (sb_cons (ss_if (PW.pt (st_or (st_not (st_tru (se_isa (T := "tuple") (se_var (i := 0)) rfl T.b_isinstance rfl T.b_tuple (by decide +kernel)))) (st_or1 (st_cmp (q_ne hr.units) dc_rD (se_callB o_len dn_rD rfl T.b_len (by decide +kernel) (sa_cons (se_var (i := 0)) sa_nil)) se_int (nomark _))))) (sb_one (ss_ret se_bl)) sb_nil)
    (sb_cons (ss_setLc (i := 1) (t := (.nm 2)) (own := [("place", 2)]) (ft := eYes) (fe := (eFun pRepr (aCons (eV 2) aNil))) rfl sc__law_is_cell.nd rfl rfl (sw_true rfl rfl rfl (by decide +kernel)) (si_tup (se_tup (sa_cons se_str (sa_cons se_str (sa_cons se_str (sa_cons se_str sa_nil)))))) (blkOk_by (own := [("place", 2)]) (N := N__law_is_cell) (sc := defScope s__law_is_cell) (by decide +kernel)) (fun _ _ _ _ _ => (sg_nm (i := 2) sc__law_is_cell.nd rfl (by first | exact Or.inl rfl | exact Or.inr rfl))) (fun _ _ _ _ _ => pts_yes) (fun _ _ _ _ _ => (se_callB (o_repr hgd hr.units) dn_rD rfl T.b_repr (by decide +kernel) (sa_cons (se_var (i := 2)) sa_nil))))
    (sb_one (ss_ret (se_and (se_cmp (q_inX hr.units) dc_rD (se_callB (o_repr hgd hr.units) dn_rD rfl T.b_repr (by decide +kernel) (sa_cons (se_ix o_ix d2_rD (se_var (i := 0)) se_int) sa_nil)) (se_var (i := 1)) rfl) (se_one (se_cmp (q_inX hr.units) dc_rD (se_callB (o_repr hgd hr.units) dn_rD rfl T.b_repr (by decide +kernel) (sa_cons (se_ix o_ix d2_rD (se_var (i := 0)) se_int) sa_nil)) (se_tup (sa_cons se_str (sa_cons se_str (sa_cons se_str sa_nil)))) rfl)))))))
/-! is_cell -/
abbrev s_is_cell : Stmt := topS 16
abbrev N_is_cell : List Str := ["thing"]
theorem sc_is_cell : FnScope N_is_cell ["thing"] (defScope s_is_cell) := ⟨rfl, rfl, rfl, by decide +kernel, rfl, by decide +kernel, by decide +kernel⟩
def m_is_cell : Rho → SOut :=
    (sRet (eAnd (eOk (eCall 2 d_is_tuple (aCons (eV 0) (aCons (eC (.int 2)) aNil)))) (eAnd (eOk (eCmp qInX (eOp pIx (eV 0) (eC (.int 0))) (eC k_PLACES))) (eCmp qInX (eOp pIx (eV 0) (eC (.int 1))) (eC k_WORDS)))))
def d_is_cell := fnD 1 m_is_cell
theorem cal_is_cell (D : DefF K mg "is_cell" s_is_cell) (T : Fx P K mg) (c_is_tuple : CalD P w K mg base 1 "is_tuple" 2 d_is_tuple) : CalD P w K mg base 2 "is_cell" 1 d_is_cell := by
  obtain ⟨f, fd, F, hm⟩ := D.ex
  refine ⟨f, fd, ["thing"], fn_data (N := N_is_cell) F sc_is_cell rfl fun cdv A outer s H E hcd hr hgd => ?_, hm, F.kp, F.binds fun _ _ _ _ _ _ us hl => match us, hl with | [_], _ => rfl⟩
  exact (sb_one (ss_ret (se_and (se_call c_is_tuple hgd (hr.mono (by decide)) rfl (takes_of rfl rfl rfl rfl) (sa_cons (se_var (i := 0)) (sa_cons se_int sa_nil))) (se_and (se_cmp (q_inX hr.units) dc_rD (se_ix o_ix d2_rD (se_var (i := 0)) se_int) (se_glob T.c_PLACES.d rfl) rfl) (se_one (se_cmp (q_inX hr.units) dc_rD (se_ix o_ix d2_rD (se_var (i := 0)) se_int) (se_glob T.c_WORDS.d rfl) rfl))))))
/-! is_lead -/
abbrev s_is_lead : Stmt := topS 19
abbrev N_is_lead : List Str := ["thing", "part"]
theorem sc_is_lead : FnScope N_is_lead ["thing"] (defScope s_is_lead) := ⟨rfl, rfl, rfl, by decide +kernel, rfl, by decide +kernel, by decide +kernel⟩
def m_is_lead : Rho → SOut :=
    (sRet (eAnd (eOk (eCall 2 d_is_tuple (aCons (eV 0) (aCons (eC (.int 2)) aNil)))) (eFun pAll (aCons (eLc (.nm 1) (iTpl (eV 0)) eYes (eCmp qInX (eV 1) (eC k_LEADS)) [1]) aNil))))
def d_is_lead := fnD 2 m_is_lead
theorem cal_is_lead (D : DefF K mg "is_lead" s_is_lead) (T : Fx P K mg) (c_is_tuple : CalD P w K mg base 1 "is_tuple" 2 d_is_tuple) : CalD P w K mg base 2 "is_lead" 1 d_is_lead := by
  obtain ⟨f, fd, F, hm⟩ := D.ex
  refine ⟨f, fd, ["thing"], fn_data (N := N_is_lead) F sc_is_lead rfl fun cdv A outer s H E hcd hr hgd => ?_, hm, F.kp, F.binds fun _ _ _ _ _ _ us hl => match us, hl with | [_], _ => rfl⟩
  exact (sb_one (ss_ret (se_and (se_call c_is_tuple hgd (hr.mono (by decide)) rfl (takes_of rfl rfl rfl rfl) (sa_cons (se_var (i := 0)) (sa_cons se_int sa_nil))) (se_one (se_callB (o_all rfl) dn_rD rfl T.b_all (by decide +kernel) (sa_cons (se_lc (t := (.nm 1)) (own := [("part", 1)]) (ft := eYes) (fe := (eCmp qInX (eV 1) (eC k_LEADS))) rfl sc_is_lead.nd (si_tup (se_var (i := 0))) (blkOk_by (own := [("part", 1)]) (N := N_is_lead) (sc := defScope s_is_lead) (by decide +kernel)) (fun _ _ _ _ _ => (sg_nm (i := 1) sc_is_lead.nd rfl (by first | exact Or.inl rfl | exact Or.inr rfl))) (fun _ _ _ _ _ => pts_yes) (fun _ _ _ _ _ => (se_cmp (q_inX hr.units) dc_rD (se_var (i := 1)) (se_glob T.c_LEADS.d rfl) rfl))) sa_nil))))))
/-! is_end -/
abbrev s_is_end : Stmt := topS 20
abbrev N_is_end : List Str := ["thing"]
theorem sc_is_end : FnScope N_is_end ["thing"] (defScope s_is_end) := ⟨rfl, rfl, rfl, by decide +kernel, rfl, by decide +kernel, by decide +kernel⟩
def m_is_end : Rho → SOut :=
    (sRet (eAnd (eOk (eCall 2 d_is_tuple (aCons (eV 0) (aCons (eC (.int 2)) aNil)))) (eAnd (eOk (eCmp qInX (eOp pIx (eV 0) (eC (.int 0))) (eC k_RESULTS))) (eCmp qInX (eOp pIx (eV 0) (eC (.int 1))) (eC k_REPORTS)))))
def d_is_end := fnD 1 m_is_end
theorem cal_is_end (D : DefF K mg "is_end" s_is_end) (T : Fx P K mg) (c_is_tuple : CalD P w K mg base 1 "is_tuple" 2 d_is_tuple) : CalD P w K mg base 2 "is_end" 1 d_is_end := by
  obtain ⟨f, fd, F, hm⟩ := D.ex
  refine ⟨f, fd, ["thing"], fn_data (N := N_is_end) F sc_is_end rfl fun cdv A outer s H E hcd hr hgd => ?_, hm, F.kp, F.binds fun _ _ _ _ _ _ us hl => match us, hl with | [_], _ => rfl⟩
  exact (sb_one (ss_ret (se_and (se_call c_is_tuple hgd (hr.mono (by decide)) rfl (takes_of rfl rfl rfl rfl) (sa_cons (se_var (i := 0)) (sa_cons se_int sa_nil))) (se_and (se_cmp (q_inX hr.units) dc_rD (se_ix o_ix d2_rD (se_var (i := 0)) se_int) (se_glob T.c_RESULTS.d rfl) rfl) (se_one (se_cmp (q_inX hr.units) dc_rD (se_ix o_ix d2_rD (se_var (i := 0)) se_int) (se_glob T.c_REPORTS.d rfl) rfl))))))
/-! are_seen -/
abbrev s_are_seen : Stmt := topS 22
abbrev N_are_seen : List Str := ["thing", "part"]
theorem sc_are_seen : FnScope N_are_seen ["thing"] (defScope s_are_seen) := ⟨rfl, rfl, rfl, by decide +kernel, rfl, by decide +kernel, by decide +kernel⟩
def m_are_seen : Rho → SOut :=
    (sRet (eAnd (eOk (eIsa "tuple" (eV 0))) (eAnd (eOk (eFun pAll (aCons (eLc (.nm 1) (iTpl (eV 0)) eYes (eCmp qInX (eV 1) (eC k_PLACES)) [1]) aNil))) (eCall 1 d_is_rising (aCons (eV 0) aNil)))))
def d_are_seen := fnD 2 m_are_seen
theorem cal_are_seen (D : DefF K mg "are_seen" s_are_seen) (T : Fx P K mg) (c_is_rising : CalD P w K mg base 1 "is_rising" 1 d_is_rising) : CalD P w K mg base 2 "are_seen" 1 d_are_seen := by
  obtain ⟨f, fd, F, hm⟩ := D.ex
  refine ⟨f, fd, ["thing"], fn_data (N := N_are_seen) F sc_are_seen rfl fun cdv A outer s H E hcd hr hgd => ?_, hm, F.kp, F.binds fun _ _ _ _ _ _ us hl => match us, hl with | [_], _ => rfl⟩
  exact (sb_one (ss_ret (se_and (se_isa (T := "tuple") (se_var (i := 0)) rfl T.b_isinstance rfl T.b_tuple (by decide +kernel)) (se_and (se_callB (o_all rfl) dn_rD rfl T.b_all (by decide +kernel) (sa_cons (se_lc (t := (.nm 1)) (own := [("part", 1)]) (ft := eYes) (fe := (eCmp qInX (eV 1) (eC k_PLACES))) rfl sc_are_seen.nd (si_tup (se_var (i := 0))) (blkOk_by (own := [("part", 1)]) (N := N_are_seen) (sc := defScope s_are_seen) (by decide +kernel)) (fun _ _ _ _ _ => (sg_nm (i := 1) sc_are_seen.nd rfl (by first | exact Or.inl rfl | exact Or.inr rfl))) (fun _ _ _ _ _ => pts_yes) (fun _ _ _ _ _ => (se_cmp (q_inX hr.units) dc_rD (se_var (i := 1)) (se_glob T.c_PLACES.d rfl) rfl))) sa_nil)) (se_one (se_call c_is_rising hgd (hr.mono (by decide)) rfl (takes_of rfl rfl rfl rfl) (sa_cons (se_var (i := 0)) sa_nil)))))))
/-! _law_draw -/
abbrev s__law_draw : Stmt := topS 31
abbrev N__law_draw : List Str := ["pen", "under", "digit"]
theorem sc__law_draw : FnScope N__law_draw ["pen", "under"] (defScope s__law_draw) := ⟨rfl, rfl, rfl, by decide +kernel, rfl, by decide +kernel, by decide +kernel⟩
def m__law_draw : Rho → SOut :=
    (sSeq (sIf (eCmp qLt (eIxO 0 (eC (.int 2))) (eV 1)) (sSetIx 0 (eC (.int 2)) (eCallP 1 0 d__law_next aNil)) sNil)
    (sSeq (sSet 2 (eOp pMod (eFun pInt (aCons (eIxO 0 (eC (.int 2))) aNil)) (eV 1)))
    (sSeq (sSetIx 0 (eC (.int 2)) (eOp pFdiv (eIxO 0 (eC (.int 2))) (eV 1)))
    (sRet (eV 2)))))
def d__law_draw := fnP 3 m__law_draw
theorem cal__law_draw (D : DefF K mg "_law_draw" s__law_draw) (T : Fx P K mg) (c__law_next : CalP P w K mg base 1 "_law_next" 1 d__law_next) : CalP P w K mg base 2 "_law_draw" 2 d__law_draw := by
  obtain ⟨f, fd, F, hm⟩ := D.ex
  refine ⟨f, fd, ["pen", "under"], fn_pen (N := N__law_draw) F sc__law_draw rfl fun cdv A outer s H E hcd hr hgd => ?_, hm, F.kp, F.binds fun _ _ _ _ _ _ us hl => match us, hl with | [_, _], _ => rfl⟩
  exact (sb_cons (ss_if (st_cmp (q_lt hr.units) dc_rD (se_ixO (i := 0) se_int) (se_var (i := 1)) (nomark _)) (sb_one (ss_setIx (i := 0) (se_callP (i := 0) c__law_next hgd (hr.mono (by decide)) rfl (takes_of rfl rfl rfl rfl) sa_nil) se_int)) sb_nil)
    (sb_cons (ss_set (i := 2) sc__law_draw.nd rfl (by first | exact Or.inl rfl | exact Or.inr rfl) (se_op o_mod d2_rD (se_callTy o_int dn_rD rfl T.b_int (by decide +kernel) (sa_cons (se_ixO (i := 0) se_int) sa_nil)) (se_var (i := 1))))
    (sb_cons (ss_setIx (i := 0) (se_op o_fdiv d2_rD (se_ixO (i := 0) se_int) (se_var (i := 1))) se_int)
    (sb_one (ss_ret (se_var (i := 2)))))))
/-! _law_is_table -/
abbrev s__law_is_table : Stmt := topS 37
abbrev N__law_is_table : List Str := ["thing", "cells", "cell"]
theorem sc__law_is_table : FnScope N__law_is_table ["thing"] (defScope s__law_is_table) := ⟨rfl, rfl, rfl, by decide +kernel, rfl, by decide +kernel, by decide +kernel⟩
def m__law_is_table : Rho → SOut :=
    (sSeq (sIf (eOr (eNot (eTru (eIsa "tuple" (eV 0)))) (eOr (eCmp qNe (eFun pLen (aCons (eV 0) aNil)) (eC (.int 4))) (eCmp qNotInX (eFun pRepr (aCons (eOp pIx (eV 0) (eC (.int 0))) aNil)) (eTup (aCons (eC (.str "''")) (aCons (eC (.str "'no'")) (aCons (eC (.str "'yes'")) aNil))))))) (sRet (eC (.bool false))) sNil)
    (sSeq (sFor (.nm 1) (iTpl (eSl (eV 0) (some (eC (.int 1))) none)) (sIf (eOr (eNot (eTru (eIsa "tuple" (eV 1)))) (eOr (eCmp qNe (eFun pLen (aCons (eV 1) aNil)) (eC (.int 2))) (eNot (eTru (eFun pAll (aCons (eLc (.nm 2) (iTpl (eV 1)) eYes (eCall 1 d__law_is_cell (aCons (eV 2) aNil)) [2]) aNil)))))) (sRet (eC (.bool false))) sNil))
    (sRet (eC (.bool true)))))
def d__law_is_table := fnD 3 m__law_is_table
theorem cal__law_is_table (D : DefF K mg "_law_is_table" s__law_is_table) (T : Fx P K mg) (c__law_is_cell : CalD P w K mg base 1 "_law_is_cell" 1 d__law_is_cell) : CalD P w K mg base 2 "_law_is_table" 1 d__law_is_table := by
  obtain ⟨f, fd, F, hm⟩ := D.ex
  refine ⟨f, fd, ["thing"], fn_data (N := N__law_is_table) F sc__law_is_table rfl fun cdv A outer s H E hcd hr hgd => ?_, hm, F.kp, F.binds fun _ _ _ _ _ _ us hl => match us, hl with | [_], _ => rfl⟩
  exact (sb_cons (ss_if (PW.pt (st_or (st_not (st_tru (se_isa (T := "tuple") (se_var (i := 0)) rfl T.b_isinstance rfl T.b_tuple (by decide +kernel)))) (st_or (st_cmp (q_ne hr.units) dc_rD (se_callB o_len dn_rD rfl T.b_len (by decide +kernel) (sa_cons (se_var (i := 0)) sa_nil)) se_int (nomark _)) (st_or1 (st_cmp (q_notInX hr.units) dc_rD (se_callB (o_repr hgd hr.units) dn_rD rfl T.b_repr (by decide +kernel) (sa_cons (se_ix o_ix d2_rD (se_var (i := 0)) se_int) sa_nil)) (se_tup (sa_cons se_str (sa_cons se_str (sa_cons se_str sa_nil)))) rfl))))) (sb_one (ss_ret se_bl)) sb_nil)
    (sb_cons (ss_for (t := (.nm 1)) (passes_of rfl) rfl (si_tup (se_sl (se_var (i := 0)) (so_some se_int) so_none)) (sg_nm (i := 1) sc__law_is_table.nd rfl (by first | exact Or.inl rfl | exact Or.inr rfl)) (sb_one (ss_if (PW.pt (st_or (st_not (st_tru (se_isa (T := "tuple") (se_var (i := 1)) rfl T.b_isinstance rfl T.b_tuple (by decide +kernel)))) (st_or (st_cmp (q_ne hr.units) dc_rD (se_callB o_len dn_rD rfl T.b_len (by decide +kernel) (sa_cons (se_var (i := 1)) sa_nil)) se_int (nomark _)) (st_or1 (st_not (st_tru (se_callB (o_all rfl) dn_rD rfl T.b_all (by decide +kernel) (sa_cons (se_lc (t := (.nm 2)) (own := [("cell", 2)]) (ft := eYes) (fe := (eCall 1 d__law_is_cell (aCons (eV 2) aNil))) rfl sc__law_is_table.nd (si_tup (se_var (i := 1))) (blkOk_by (own := [("cell", 2)]) (N := N__law_is_table) (sc := defScope s__law_is_table) (by decide +kernel)) (fun _ _ _ _ _ => (sg_nm (i := 2) sc__law_is_table.nd rfl (by first | exact Or.inl rfl | exact Or.inr rfl))) (fun _ _ _ _ _ => pts_yes) (fun _ _ _ _ _ => (se_call c__law_is_cell hgd (hr.mono (by decide)) rfl takes0 (sa_cons (se_var (i := 2)) sa_nil)))) sa_nil)))))))) (sb_one (ss_ret se_bl)) sb_nil)))
    (sb_one (ss_ret se_bl))))
/-! is_row -/
abbrev s_is_row : Stmt := topS 17
abbrev N_is_row : List Str := ["thing", "part"]
theorem sc_is_row : FnScope N_is_row ["thing"] (defScope s_is_row) := ⟨rfl, rfl, rfl, by decide +kernel, rfl, by decide +kernel, by decide +kernel⟩
def m_is_row : Rho → SOut :=
    (sRet (eAnd (eOk (eCall 2 d_is_tuple (aCons (eV 0) (aCons (eC (.int 2)) aNil)))) (eFun pAll (aCons (eLc (.nm 1) (iTpl (eV 0)) eYes (eCall 1 d_is_cell (aCons (eV 1) aNil)) [1]) aNil))))
def d_is_row := fnD 2 m_is_row
theorem cal_is_row (D : DefF K mg "is_row" s_is_row) (T : Fx P K mg) (c_is_cell : CalD P w K mg base 2 "is_cell" 1 d_is_cell) (c_is_tuple : CalD P w K mg base 1 "is_tuple" 2 d_is_tuple) : CalD P w K mg base 3 "is_row" 1 d_is_row := by
  obtain ⟨f, fd, F, hm⟩ := D.ex
  refine ⟨f, fd, ["thing"], fn_data (N := N_is_row) F sc_is_row rfl fun cdv A outer s H E hcd hr hgd => ?_, hm, F.kp, F.binds fun _ _ _ _ _ _ us hl => match us, hl with | [_], _ => rfl⟩
  exact (sb_one (ss_ret (se_and (se_call c_is_tuple hgd (hr.mono (by decide)) rfl (takes_of rfl rfl rfl rfl) (sa_cons (se_var (i := 0)) (sa_cons se_int sa_nil))) (se_one (se_callB (o_all rfl) dn_rD rfl T.b_all (by decide +kernel) (sa_cons (se_lc (t := (.nm 1)) (own := [("part", 1)]) (ft := eYes) (fe := (eCall 1 d_is_cell (aCons (eV 1) aNil))) rfl sc_is_row.nd (si_tup (se_var (i := 0))) (blkOk_by (own := [("part", 1)]) (N := N_is_row) (sc := defScope s_is_row) (by decide +kernel)) (fun _ _ _ _ _ => (sg_nm (i := 1) sc_is_row.nd rfl (by first | exact Or.inl rfl | exact Or.inr rfl))) (fun _ _ _ _ _ => pts_yes) (fun _ _ _ _ _ => (se_call c_is_cell hgd (hr.mono (by decide)) rfl takes0 (sa_cons (se_var (i := 1)) sa_nil)))) sa_nil))))))
/-! are_ends -/
abbrev s_are_ends : Stmt := topS 21
abbrev N_are_ends : List Str := ["thing", "part"]
theorem sc_are_ends : FnScope N_are_ends ["thing"] (defScope s_are_ends) := ⟨rfl, rfl, rfl, by decide +kernel, rfl, by decide +kernel, by decide +kernel⟩
def m_are_ends : Rho → SOut :=
    (sRet (eAnd (eOk (eIsa "tuple" (eV 0))) (eAnd (eOk (eFun pAll (aCons (eLc (.nm 1) (iTpl (eV 0)) eYes (eCall 1 d_is_end (aCons (eV 1) aNil)) [1]) aNil))) (eCall 1 d_is_rising (aCons (eV 0) aNil)))))
def d_are_ends := fnD 2 m_are_ends
theorem cal_are_ends (D : DefF K mg "are_ends" s_are_ends) (T : Fx P K mg) (c_is_rising : CalD P w K mg base 1 "is_rising" 1 d_is_rising) (c_is_end : CalD P w K mg base 2 "is_end" 1 d_is_end) : CalD P w K mg base 3 "are_ends" 1 d_are_ends := by
  obtain ⟨f, fd, F, hm⟩ := D.ex
  refine ⟨f, fd, ["thing"], fn_data (N := N_are_ends) F sc_are_ends rfl fun cdv A outer s H E hcd hr hgd => ?_, hm, F.kp, F.binds fun _ _ _ _ _ _ us hl => match us, hl with | [_], _ => rfl⟩
  exact (sb_one (ss_ret (se_and (se_isa (T := "tuple") (se_var (i := 0)) rfl T.b_isinstance rfl T.b_tuple (by decide +kernel)) (se_and (se_callB (o_all rfl) dn_rD rfl T.b_all (by decide +kernel) (sa_cons (se_lc (t := (.nm 1)) (own := [("part", 1)]) (ft := eYes) (fe := (eCall 1 d_is_end (aCons (eV 1) aNil))) rfl sc_are_ends.nd (si_tup (se_var (i := 0))) (blkOk_by (own := [("part", 1)]) (N := N_are_ends) (sc := defScope s_are_ends) (by decide +kernel)) (fun _ _ _ _ _ => (sg_nm (i := 1) sc_are_ends.nd rfl (by first | exact Or.inl rfl | exact Or.inr rfl))) (fun _ _ _ _ _ => pts_yes) (fun _ _ _ _ _ => (se_call c_is_end hgd (hr.mono (by decide)) rfl takes0 (sa_cons (se_var (i := 1)) sa_nil)))) sa_nil)) (se_one (se_call c_is_rising hgd (hr.mono (by decide)) rfl (takes_of rfl rfl rfl rfl) (sa_cons (se_var (i := 0)) sa_nil)))))))
/-! _law_some -/
abbrev s__law_some : Stmt := topS 32
abbrev N__law_some : List Str := ["pen", "pool", "most", "rest", "lap"]
theorem sc__law_some : FnScope N__law_some ["pen", "pool", "most"] (defScope s__law_some) := ⟨rfl, rfl, rfl, by decide +kernel, rfl, by decide +kernel, by decide +kernel⟩
def m__law_some : Rho → SOut :=
    (sSeq (sSetO 3 (eListOf (aCons (eV 1) aNil)))
    (sRet (eLc (.nm 4) (iRng (aCons (eCallP 2 0 d__law_draw (aCons (eOp pAdd (eFun pMin (aCons (eV 2) (aCons (eLenO 3) aNil))) (eC (.int 1))) aNil)) aNil)) eYes (ePop 3 (eCallP 2 0 d__law_draw (aCons (eLenO 3) aNil))) [4])))
def d__law_some := fnP 5 m__law_some
theorem cal__law_some (D : DefF K mg "_law_some" s__law_some) (T : Fx P K mg) (c__law_draw : CalP P w K mg base 2 "_law_draw" 2 d__law_draw) : CalP P w K mg base 3 "_law_some" 3 d__law_some := by
  obtain ⟨f, fd, F, hm⟩ := D.ex
  refine ⟨f, fd, ["pen", "pool", "most"], fn_pen (N := N__law_some) F sc__law_some rfl fun cdv A outer s H E hcd hr hgd => ?_, hm, F.kp, F.binds fun _ _ _ _ _ _ us hl => match us, hl with | [_, _, _], _ => rfl⟩
  exact (sb_cons (ss_setO gives_listOf (by decide) sc__law_some.nd rfl (by first | exact Or.inl rfl | exact Or.inr rfl) (sl_listOf rfl T.b_list (by decide +kernel) (sa_cons (se_var (i := 1)) sa_nil)))
    (sb_one (ss_ret (se_lc (t := (.nm 4)) (own := [("lap", 4)]) (ft := eYes) (fe := (ePop 3 (eCallP 2 0 d__law_draw (aCons (eLenO 3) aNil)))) rfl sc__law_some.nd (si_range rfl T.b_range (sa_cons (se_callP (i := 0) c__law_draw hgd (hr.mono (by decide)) rfl (takes_of rfl rfl rfl rfl) (sa_cons (se_op o_add d2_rD (se_callB (o_min rfl) dn_rD rfl T.b_min (by decide +kernel) (sa_cons (se_var (i := 2)) (sa_cons (se_lenO (i := 3) T.b_len) sa_nil))) se_int) sa_nil)) sa_nil)) (blkOk_by (own := [("lap", 4)]) (N := N__law_some) (sc := defScope s__law_some) (by decide +kernel)) (fun _ _ _ _ _ => (sg_nm (i := 4) sc__law_some.nd rfl (by first | exact Or.inl rfl | exact Or.inr rfl))) (fun _ _ _ _ _ => pts_yes) (fun _ _ _ _ _ => (se_pop (i := 3) (se_callP (i := 0) c__law_draw hgd (hr.mono (by decide)) rfl takes0 (sa_cons (se_lenO (i := 3) T.b_len) sa_nil))))))))
/-! _law_cell -/
abbrev s__law_cell : Stmt := topS 33
abbrev N__law_cell : List Str := ["pen", "place"]
theorem sc__law_cell : FnScope N__law_cell ["pen"] (defScope s__law_cell) := ⟨rfl, rfl, rfl, by decide +kernel, rfl, by decide +kernel, by decide +kernel⟩
def m__law_cell : Rho → SOut :=
    (sSeq (sSet 1 (eOp pIx (eLst (aCons (eC (.str "new")) (aCons (eC (.str "going")) (aCons (eC (.str "kept")) (aCons (eC (.str "gone")) aNil))))) (eCallP 2 0 d__law_draw (aCons (eC (.int 4)) aNil))))
    (sRet (eTup (aCons (eV 1) (aCons (eOp pIx (eLst (aCons (eC (.str "")) (aCons (eC (.str "")) (aCons (eC (.str "yes")) (aCons (eC (.str "no")) aNil))))) (eCallP 2 0 d__law_draw (aCons (eC (.int 4)) aNil))) aNil)))))
def d__law_cell := fnP 2 m__law_cell
theorem cal__law_cell (D : DefF K mg "_law_cell" s__law_cell) (T : Fx P K mg) (c__law_draw : CalP P w K mg base 2 "_law_draw" 2 d__law_draw) : CalP P w K mg base 3 "_law_cell" 1 d__law_cell := by
  obtain ⟨f, fd, F, hm⟩ := D.ex
  refine ⟨f, fd, ["pen"], fn_pen (N := N__law_cell) F sc__law_cell rfl fun cdv A outer s H E hcd hr hgd => ?_, hm, F.kp, F.binds fun _ _ _ _ _ _ us hl => match us, hl with | [_], _ => rfl⟩
  exact (sb_cons (ss_set (i := 1) sc__law_cell.nd rfl (by first | exact Or.inl rfl | exact Or.inr rfl) (se_ix o_ix d2_rD (se_lst (sa_cons se_str (sa_cons se_str (sa_cons se_str (sa_cons se_str sa_nil))))) (se_callP (i := 0) c__law_draw hgd (hr.mono (by decide)) rfl (takes_of rfl rfl rfl rfl) (sa_cons se_int sa_nil))))
    (sb_one (ss_ret (se_tup (sa_cons (se_var (i := 1)) (sa_cons (se_ix o_ix d2_rD (se_lst (sa_cons se_str (sa_cons se_str (sa_cons se_str (sa_cons se_str sa_nil))))) (se_callP (i := 0) c__law_draw hgd (hr.mono (by decide)) rfl (takes_of rfl rfl rfl rfl) (sa_cons se_int sa_nil))) sa_nil))))))
/-! _law_is_log -/
abbrev s__law_is_log : Stmt := topS 38
abbrev N__law_is_log : List Str := ["thing", "one", "result", "pairs_here", "pool", "part", "lots", "found", "other", "report", "some"]
theorem sc__law_is_log : FnScope N__law_is_log ["thing"] (defScope s__law_is_log) := ⟨rfl, rfl, rfl, by decide +kernel, rfl, by decide +kernel, by decide +kernel⟩
def m__law_is_log : Rho → SOut :=
    (sSeq (sIf (eOr (eNot (eTru (eIsa "tuple" (eV 0)))) (eOr (eCmp qNe (eFun pLen (aCons (eV 0) aNil)) (eC (.int 5))) (eNot (eTru (eCall 1 d__law_is_table (aCons (eOp pIx (eV 0) (eC (.int 0))) aNil)))))) (sRet (eC (.bool false))) sNil)
    (sSeq (sIf (eNot (eTru (eIsa "bool" (eOp pIx (eV 0) (eC (.int 3)))))) (sRet (eC (.bool false))) sNil)
    (sSeq (sPar2 false false 3 4 (eLst aNil) (eLst aNil))
    (sSeq (sFor (.nm 1) (iTpl (eTup (aCons (eC (.str "free")) (aCons (eC (.str "next")) (aCons (eC (.str "stay")) aNil))))) (sSet 3 (eOp pAdd (eV 3) (eLc (.nm 8) (iTpl (eTup (aCons (eC (.str "free")) (aCons (eC (.str "next")) (aCons (eC (.str "stay")) aNil))))) eYes (eFun pRepr (aCons (eTup (aCons (eV 1) (aCons (eV 8) aNil))) aNil)) [8]))))
    (sSeq (sIf (eCmp qNotInX (eFun pRepr (aCons (eOp pIx (eV 0) (eC (.int 1))) aNil)) (eV 3)) (sRet (eC (.bool false))) sNil)
    (sSeq (sFor (.nm 2) (iTpl (eTup (aCons (eC (.str "all")) (aCons (eC (.str "none")) (aCons (eC (.str "some")) aNil))))) (sSet 4 (eOp pAdd (eV 4) (eLc (.nm 9) (iTpl (eTup (aCons (eC (.str "bad")) (aCons (eC (.str "good")) aNil)))) eYes (eTup (aCons (eV 2) (aCons (eV 9) aNil))) [9]))))
    (sSeq (sFor (.tp [(.nm 5), (.nm 6)]) (iTpl (eTup (aCons (eTup (aCons (eOp pIx (eV 0) (eC (.int 2))) (aCons (eV 4) aNil))) (aCons (eTup (aCons (eOp pIx (eV 0) (eC (.int 4))) (aCons (eLst (aCons (eC (.str "going")) (aCons (eC (.str "gone")) (aCons (eC (.str "kept")) (aCons (eC (.str "new")) aNil))))) aNil))) aNil)))) (sSeq (sSet 7 (eLst (aCons (eTup aNil) aNil)))
    (sSeq (sFor (.nm 1) (iLst (eV 6)) (sSet 7 (eOp pAdd (eV 7) (eLc (.nm 10) (iLst (eV 7)) eYes (eOp pAdd (eV 10) (eTup (aCons (eV 1) aNil))) [10]))))
    (sIf (eCmp qNotInX (eFun pRepr (aCons (eV 5) aNil)) (eLc (.nm 10) (iLst (eV 7)) eYes (eFun pRepr (aCons (eV 10) aNil)) [10])) (sRet (eC (.bool false))) sNil))))
    (sRet (eC (.bool true))))))))))
def d__law_is_log := fnD 11 m__law_is_log
theorem cal__law_is_log (D : DefF K mg "_law_is_log" s__law_is_log) (T : Fx P K mg) (c__law_is_table : CalD P w K mg base 2 "_law_is_table" 1 d__law_is_table) : CalD P w K mg base 3 "_law_is_log" 1 d__law_is_log := by
  obtain ⟨f, fd, F, hm⟩ := D.ex
  refine ⟨f, fd, ["thing"], fn_data (N := N__law_is_log) F sc__law_is_log rfl fun cdv A outer s H E hcd hr hgd => ?_, hm, F.kp, F.binds fun _ _ _ _ _ _ us hl => match us, hl with | [_], _ => rfl⟩
  exact (sb_cons (ss_if (PW.pt (st_or (st_not (st_tru (se_isa (T := "tuple") (se_var (i := 0)) rfl T.b_isinstance rfl T.b_tuple (by decide +kernel)))) (st_or (st_cmp (q_ne hr.units) dc_rD (se_callB o_len dn_rD rfl T.b_len (by decide +kernel) (sa_cons (se_var (i := 0)) sa_nil)) se_int (nomark _)) (st_or1 (st_not (st_tru (se_call c__law_is_table hgd (hr.mono (by decide)) rfl (takes_of rfl rfl rfl rfl) (sa_cons (se_ix o_ix d2_rD (se_var (i := 0)) se_int) sa_nil)))))))) (sb_one (ss_ret se_bl)) sb_nil)
    (sb_cons (ss_if (st_not (st_tru (se_isa (T := "bool") (se_ix o_ix d2_rD (se_var (i := 0)) se_int) rfl T.b_isinstance rfl T.b_bool (by decide +kernel)))) (sb_one (ss_ret se_bl)) sb_nil)
    (sb_cons (ss_par_dd (i := 3) (j := 4) (hc := rfl) (hN := sc__law_is_log.nd) (hi := rfl) (hj := rfl) (hij := by decide) (hx := rfl) (hy := rfl) (h1 := (se_lst sa_nil)) (h2 := (se_lst sa_nil)))
    (sb_cons (ss_for (t := (.nm 1)) (passes_of rfl) rfl (si_tup (se_tup (sa_cons se_str (sa_cons se_str (sa_cons se_str sa_nil))))) (sg_nm (i := 1) sc__law_is_log.nd rfl (by first | exact Or.inl rfl | exact Or.inr rfl)) (sb_one (ss_set (i := 3) sc__law_is_log.nd rfl (by first | exact Or.inl rfl | exact Or.inr rfl) (se_op o_add d2_rD (se_var (i := 3)) (se_lc (t := (.nm 8)) (own := [("other", 8)]) (ft := eYes) (fe := (eFun pRepr (aCons (eTup (aCons (eV 1) (aCons (eV 8) aNil))) aNil))) rfl sc__law_is_log.nd (si_tup (se_tup (sa_cons se_str (sa_cons se_str (sa_cons se_str sa_nil))))) (blkOk_by (own := [("other", 8)]) (N := N__law_is_log) (sc := defScope s__law_is_log) (by decide +kernel)) (fun _ _ _ _ _ => (sg_nm (i := 8) sc__law_is_log.nd rfl (by first | exact Or.inl rfl | exact Or.inr rfl))) (fun _ _ _ _ _ => pts_yes) (fun _ _ _ _ _ => (se_callB (o_repr hgd hr.units) dn_rD rfl T.b_repr (by decide +kernel) (sa_cons (se_tup (sa_cons (se_var (i := 1)) (sa_cons (se_var (i := 8)) sa_nil))) sa_nil))))))))
    (sb_cons (ss_if (st_cmp (q_notInX hr.units) dc_rD (se_callB (o_repr hgd hr.units) dn_rD rfl T.b_repr (by decide +kernel) (sa_cons (se_ix o_ix d2_rD (se_var (i := 0)) se_int) sa_nil)) (se_var (i := 3)) rfl) (sb_one (ss_ret se_bl)) sb_nil)
    (sb_cons (ss_for (t := (.nm 2)) (passes_of rfl) rfl (si_tup (se_tup (sa_cons se_str (sa_cons se_str (sa_cons se_str sa_nil))))) (sg_nm (i := 2) sc__law_is_log.nd rfl (by first | exact Or.inl rfl | exact Or.inr rfl)) (sb_one (ss_set (i := 4) sc__law_is_log.nd rfl (by first | exact Or.inl rfl | exact Or.inr rfl) (se_op o_add d2_rD (se_var (i := 4)) (se_lc (t := (.nm 9)) (own := [("report", 9)]) (ft := eYes) (fe := (eTup (aCons (eV 2) (aCons (eV 9) aNil)))) rfl sc__law_is_log.nd (si_tup (se_tup (sa_cons se_str (sa_cons se_str sa_nil)))) (blkOk_by (own := [("report", 9)]) (N := N__law_is_log) (sc := defScope s__law_is_log) (by decide +kernel)) (fun _ _ _ _ _ => (sg_nm (i := 9) sc__law_is_log.nd rfl (by first | exact Or.inl rfl | exact Or.inr rfl))) (fun _ _ _ _ _ => pts_yes) (fun _ _ _ _ _ => (se_tup (sa_cons (se_var (i := 2)) (sa_cons (se_var (i := 9)) sa_nil)))))))))
    (sb_cons (ss_for (t := (.tp [(.nm 5), (.nm 6)])) (passes_of rfl) rfl (si_tup (se_tup (sa_cons (se_tup (sa_cons (se_ix o_ix d2_rD (se_var (i := 0)) se_int) (sa_cons (se_var (i := 4)) sa_nil))) (sa_cons (se_tup (sa_cons (se_ix o_ix d2_rD (se_var (i := 0)) se_int) (sa_cons (se_lst (sa_cons se_str (sa_cons se_str (sa_cons se_str (sa_cons se_str sa_nil))))) sa_nil))) sa_nil)))) (sg_tp rfl (sgs_cons (sg_nm (i := 5) sc__law_is_log.nd rfl (by first | exact Or.inl rfl | exact Or.inr rfl)) (sgs_cons (sg_nm (i := 6) sc__law_is_log.nd rfl (by first | exact Or.inl rfl | exact Or.inr rfl)) sgs_nil))) (sb_cons (ss_set (i := 7) sc__law_is_log.nd rfl (by first | exact Or.inl rfl | exact Or.inr rfl) (se_lst (sa_cons (se_tup sa_nil) sa_nil)))
    (sb_cons (ss_for (t := (.nm 1)) (passes_of rfl) rfl (si_list (se_var (i := 6))) (sg_nm (i := 1) sc__law_is_log.nd rfl (by first | exact Or.inl rfl | exact Or.inr rfl)) (sb_one (ss_set (i := 7) sc__law_is_log.nd rfl (by first | exact Or.inl rfl | exact Or.inr rfl) (se_op o_add d2_rD (se_var (i := 7)) (se_lc (t := (.nm 10)) (own := [("some", 10)]) (ft := eYes) (fe := (eOp pAdd (eV 10) (eTup (aCons (eV 1) aNil)))) rfl sc__law_is_log.nd (si_list (se_var (i := 7))) (blkOk_by (own := [("some", 10)]) (N := N__law_is_log) (sc := defScope s__law_is_log) (by decide +kernel)) (fun _ _ _ _ _ => (sg_nm (i := 10) sc__law_is_log.nd rfl (by first | exact Or.inl rfl | exact Or.inr rfl))) (fun _ _ _ _ _ => pts_yes) (fun _ _ _ _ _ => (se_op o_add d2_rD (se_var (i := 10)) (se_tup (sa_cons (se_var (i := 1)) sa_nil)))))))))
    (sb_one (ss_if (st_cmp (q_notInX hr.units) dc_rD (se_callB (o_repr hgd hr.units) dn_rD rfl T.b_repr (by decide +kernel) (sa_cons (se_var (i := 5)) sa_nil)) (se_lc (t := (.nm 10)) (own := [("some", 10)]) (ft := eYes) (fe := (eFun pRepr (aCons (eV 10) aNil))) rfl sc__law_is_log.nd (si_list (se_var (i := 7))) (blkOk_by (own := [("some", 10)]) (N := N__law_is_log) (sc := defScope s__law_is_log) (by decide +kernel)) (fun _ _ _ _ _ => (sg_nm (i := 10) sc__law_is_log.nd rfl (by first | exact Or.inl rfl | exact Or.inr rfl))) (fun _ _ _ _ _ => pts_yes) (fun _ _ _ _ _ => (se_callB (o_repr hgd hr.units) dn_rD rfl T.b_repr (by decide +kernel) (sa_cons (se_var (i := 10)) sa_nil)))) rfl) (sb_one (ss_ret se_bl)) sb_nil)))))
    (sb_one (ss_ret se_bl)))))))))
/-! _law_bent_cell -/
abbrev s__law_bent_cell : Stmt := topS 39
abbrev N__law_bent_cell : List Str := ["pen", "cell", "odd", "road"]
theorem sc__law_bent_cell : FnScope N__law_bent_cell ["pen", "cell"] (defScope s__law_bent_cell) := ⟨rfl, rfl, rfl, by decide +kernel, rfl, by decide +kernel, by decide +kernel⟩
def m__law_bent_cell : Rho → SOut :=
    (sSeq (sSet 2 (eLst (aCons (eC .none) (aCons (eC (.bool true)) (aCons (eC (.str "lost")) (aCons (eC (.str "none")) (aCons (eC (.str "New")) (aCons (eC (.str "")) (aCons (eC (.int 0)) (aCons (eLst aNil) (aCons (eTup (aCons (eC (.str "new")) aNil)) (aCons (eC (.str "stay")) (aCons (eC (.str "new ")) aNil)))))))))))))
    (sSeq (sSet 3 (eCallP 2 0 d__law_draw (aCons (eC (.int 4)) aNil)))
    (sSeq (sIf (eCmp qEq (eV 3) (eC (.int 0))) (sRet (eTup (aCons (eOp pIx (eV 2) (eCallP 2 0 d__law_draw (aCons (eC (.int 11)) aNil))) (aCons (eOp pIx (eV 1) (eC (.int 1))) aNil)))) sNil)
    (sSeq (sIf (eCmp qEq (eV 3) (eC (.int 1))) (sRet (eTup (aCons (eOp pIx (eV 1) (eC (.int 0))) (aCons (eOp pIx (eLst (aCons (eC (.str "maybe")) (aCons (eC .none) (aCons (eC (.str "Yes")) (aCons (eC (.bool true)) (aCons (eLst aNil) (aCons (eTup (aCons (eC (.str "yes")) aNil)) (aCons (eC (.str "none")) (aCons (eC (.int 1)) aNil))))))))) (eCallP 2 0 d__law_draw (aCons (eC (.int 8)) aNil))) aNil)))) sNil)
    (sRet (eOp pIx (eLst (aCons (eListOf (aCons (eV 1) aNil)) (aCons (eOp pAdd (eV 1) (eTup (aCons (eC (.str "")) aNil))) (aCons (eSl (eV 1) none (some (eC (.int 1)))) (aCons (eRev (eV 1)) (aCons (eC .none) (aCons (eTup aNil) (aCons (eC (.str "new")) (aCons (eTup (aCons (eV 1) aNil)) aNil))))))))) (eCallP 2 0 d__law_draw (aCons (eC (.int 8)) aNil))))))))
def d__law_bent_cell := fnP 4 m__law_bent_cell
theorem cal__law_bent_cell (D : DefF K mg "_law_bent_cell" s__law_bent_cell) (T : Fx P K mg) (c__law_draw : CalP P w K mg base 2 "_law_draw" 2 d__law_draw) : CalP P w K mg base 3 "_law_bent_cell" 2 d__law_bent_cell := by
  obtain ⟨f, fd, F, hm⟩ := D.ex
  refine ⟨f, fd, ["pen", "cell"], fn_pen (N := N__law_bent_cell) F sc__law_bent_cell rfl fun cdv A outer s H E hcd hr hgd => ?_, hm, F.kp, F.binds fun _ _ _ _ _ _ us hl => match us, hl with | [_, _], _ => rfl⟩
  exact (sb_cons (ss_set (i := 2) sc__law_bent_cell.nd rfl (by first | exact Or.inl rfl | exact Or.inr rfl) (se_lst (sa_cons se_non (sa_cons se_bl (sa_cons se_str (sa_cons se_str (sa_cons se_str (sa_cons se_str (sa_cons se_int (sa_cons (se_lst sa_nil) (sa_cons (se_tup (sa_cons se_str sa_nil)) (sa_cons se_str (sa_cons se_str sa_nil)))))))))))))
    (sb_cons (ss_set (i := 3) sc__law_bent_cell.nd rfl (by first | exact Or.inl rfl | exact Or.inr rfl) (se_callP (i := 0) c__law_draw hgd (hr.mono (by decide)) rfl (takes_of rfl rfl rfl rfl) (sa_cons se_int sa_nil)))
    (sb_cons (ss_if (st_cmp (q_eq hr.units) dc_rD (se_var (i := 3)) se_int (nomark _)) (sb_one (ss_ret (se_tup (sa_cons (se_ix o_ix d2_rD (se_var (i := 2)) (se_callP (i := 0) c__law_draw hgd (hr.mono (by decide)) rfl (takes_of rfl rfl rfl rfl) (sa_cons se_int sa_nil))) (sa_cons (se_ix o_ix d2_rD (se_var (i := 1)) se_int) sa_nil))))) sb_nil)
    (sb_cons (ss_if (st_cmp (q_eq hr.units) dc_rD (se_var (i := 3)) se_int (nomark _)) (sb_one (ss_ret (se_tup (sa_cons (se_ix o_ix d2_rD (se_var (i := 1)) se_int) (sa_cons (se_ix o_ix d2_rD (se_lst (sa_cons se_str (sa_cons se_non (sa_cons se_str (sa_cons se_bl (sa_cons (se_lst sa_nil) (sa_cons (se_tup (sa_cons se_str sa_nil)) (sa_cons se_str (sa_cons se_int sa_nil))))))))) (se_callP (i := 0) c__law_draw hgd (hr.mono (by decide)) rfl (takes_of rfl rfl rfl rfl) (sa_cons se_int sa_nil))) sa_nil))))) sb_nil)
    (sb_one (ss_ret (se_ix o_ix d2_rD (se_lst (sa_cons (se_of_sl gives_listOf (sl_listOf rfl T.b_list (by decide +kernel) (sa_cons (se_var (i := 1)) sa_nil))) (sa_cons (se_op o_add d2_rD (se_var (i := 1)) (se_tup (sa_cons se_str sa_nil))) (sa_cons (se_sl (se_var (i := 1)) so_none (so_some se_int)) (sa_cons (se_rev (se_var (i := 1))) (sa_cons se_non (sa_cons (se_tup sa_nil) (sa_cons se_str (sa_cons (se_tup (sa_cons (se_var (i := 1)) sa_nil)) sa_nil))))))))) (se_callP (i := 0) c__law_draw hgd (hr.mono (by decide)) rfl (takes_of rfl rfl rfl rfl) (sa_cons se_int sa_nil)))))))))
/-! is_table -/
abbrev s_is_table : Stmt := topS 18
abbrev N_is_table : List Str := ["thing", "part"]
theorem sc_is_table : FnScope N_is_table ["thing"] (defScope s_is_table) := ⟨rfl, rfl, rfl, by decide +kernel, rfl, by decide +kernel, by decide +kernel⟩
def m_is_table : Rho → SOut :=
    (sRet (eAnd (eOk (eCall 2 d_is_tuple (aCons (eV 0) (aCons (eC (.int 4)) aNil)))) (eAnd (eOk (eCmp qInX (eOp pIx (eV 0) (eC (.int 0))) (eC k_WORDS))) (eFun pAll (aCons (eLc (.nm 1) (iTpl (eSl (eV 0) (some (eC (.int 1))) none)) eYes (eCall 1 d_is_row (aCons (eV 1) aNil)) [1]) aNil)))))
def d_is_table := fnD 2 m_is_table
theorem cal_is_table (D : DefF K mg "is_table" s_is_table) (T : Fx P K mg) (c_is_row : CalD P w K mg base 3 "is_row" 1 d_is_row) (c_is_tuple : CalD P w K mg base 1 "is_tuple" 2 d_is_tuple) : CalD P w K mg base 4 "is_table" 1 d_is_table := by
  obtain ⟨f, fd, F, hm⟩ := D.ex
  refine ⟨f, fd, ["thing"], fn_data (N := N_is_table) F sc_is_table rfl fun cdv A outer s H E hcd hr hgd => ?_, hm, F.kp, F.binds fun _ _ _ _ _ _ us hl => match us, hl with | [_], _ => rfl⟩
  exact (sb_one (ss_ret (se_and (se_call c_is_tuple hgd (hr.mono (by decide)) rfl (takes_of rfl rfl rfl rfl) (sa_cons (se_var (i := 0)) (sa_cons se_int sa_nil))) (se_and (se_cmp (q_inX hr.units) dc_rD (se_ix o_ix d2_rD (se_var (i := 0)) se_int) (se_glob T.c_WORDS.d rfl) rfl) (se_one (se_callB (o_all rfl) dn_rD rfl T.b_all (by decide +kernel) (sa_cons (se_lc (t := (.nm 1)) (own := [("part", 1)]) (ft := eYes) (fe := (eCall 1 d_is_row (aCons (eV 1) aNil))) rfl sc_is_table.nd (si_tup (se_sl (se_var (i := 0)) (so_some se_int) so_none)) (blkOk_by (own := [("part", 1)]) (N := N_is_table) (sc := defScope s_is_table) (by decide +kernel)) (fun _ _ _ _ _ => (sg_nm (i := 1) sc_is_table.nd rfl (by first | exact Or.inl rfl | exact Or.inr rfl))) (fun _ _ _ _ _ => pts_yes) (fun _ _ _ _ _ => (se_call c_is_row hgd (hr.mono (by decide)) rfl takes0 (sa_cons (se_var (i := 1)) sa_nil)))) sa_nil)))))))
/-! _law_log -/
abbrev s__law_log : Stmt := topS 34
abbrev N__law_log : List Str := ["pen", "size", "plain", "lap", "table", "lead", "pool", "ends", "seen"]
theorem sc__law_log : FnScope N__law_log ["pen", "size"] (defScope s__law_log) := ⟨rfl, rfl, rfl, by decide +kernel, rfl, by decide +kernel, by decide +kernel⟩
def m__law_log : Rho → SOut :=
    (sSeq (sSetO 2 (eLst (aCons (eTup (aCons (eC (.str "going")) (aCons (eC (.str "")) aNil))) (aCons (eTup (aCons (eC (.str "going")) (aCons (eC (.str "")) aNil))) (aCons (eTup (aCons (eC (.str "new")) (aCons (eC (.str "")) aNil))) (aCons (eTup (aCons (eC (.str "kept")) (aCons (eC (.str "yes")) aNil))) (aCons (eTup (aCons (eC (.str "new")) (aCons (eC (.str "")) aNil))) (aCons (eTup (aCons (eC (.str "gone")) (aCons (eC (.str "no")) aNil))) aNil))))))))
    (sSeq (sIf (eCmp qEq (eCallP 2 0 d__law_draw (aCons (eC (.int 2)) aNil)) (eC (.int 0))) (sSetIx 2 (eC (.int 5)) (eOp pIx (eLst (aCons (eTup (aCons (eC (.str "new")) (aCons (eC (.str "")) aNil))) (aCons (eTup (aCons (eC (.str "going")) (aCons (eC (.str "")) aNil))) aNil))) (eCallP 2 0 d__law_draw (aCons (eC (.int 2)) aNil)))) sNil)
    (sSeq (sFor (.nm 3) (iRng (aCons (eOp pIx (eLst (aCons (eC (.int 0)) (aCons (eC (.int 1)) (aCons (eC (.int 1)) (aCons (eC (.int 2)) (aCons (eC (.int 6)) aNil)))))) (eCallP 2 0 d__law_draw (aCons (eC (.int 5)) aNil))) aNil)) (sSetIx 2 (eCallP 2 0 d__law_draw (aCons (eC (.int 6)) aNil)) (eCallP 1 0 d__law_cell aNil)))
    (sSeq (sSet 4 (eTup (aCons (eOp pIx (eLst (aCons (eC (.str "")) (aCons (eC (.str "")) (aCons (eC (.str "")) (aCons (eC (.str "yes")) (aCons (eC (.str "no")) aNil)))))) (eCallP 2 0 d__law_draw (aCons (eC (.int 5)) aNil))) (aCons (eFun pTuple (aCons (eSl (eV 2) none (some (eC (.int 2)))) aNil)) (aCons (eFun pTuple (aCons (eSl (eV 2) (some (eC (.int 2))) (some (eC (.int 4)))) aNil)) (aCons (eFun pTuple (aCons (eSl (eV 2) (some (eC (.int 4))) none) aNil)) aNil))))))
    (sSeq (sSet 5 (eFun pTuple (aCons (eLc (.nm 3) (iRng (aCons (eC (.int 2)) aNil)) eYes (eOp pIx (eLst (aCons (eC (.str "free")) (aCons (eC (.str "next")) (aCons (eC (.str "stay")) (aCons (eC (.str "next")) aNil))))) (eCallP 2 0 d__law_draw (aCons (eC (.int 4)) aNil))) [3]) aNil)))
    (sSeq (sSet 6 (eLst (aCons (eTup (aCons (eC (.str "all")) (aCons (eC (.str "bad")) aNil))) (aCons (eTup (aCons (eC (.str "all")) (aCons (eC (.str "good")) aNil))) (aCons (eTup (aCons (eC (.str "none")) (aCons (eC (.str "bad")) aNil))) (aCons (eTup (aCons (eC (.str "none")) (aCons (eC (.str "good")) aNil))) (aCons (eTup (aCons (eC (.str "some")) (aCons (eC (.str "bad")) aNil))) (aCons (eTup (aCons (eC (.str "some")) (aCons (eC (.str "good")) aNil))) aNil))))))))
    (sSeq (sSet 7 (eCallP 3 0 d__law_some (aCons (eV 6) (aCons (eV 1) aNil))))
    (sSeq (sIf (eAnd (eCmp qEq (eCallP 2 0 d__law_draw (aCons (eC (.int 2)) aNil)) (eC (.int 0))) (eCmp qNotInX (eTup (aCons (eC (.str "all")) (aCons (eC (.str "good")) aNil))) (eV 7))) (sSet 7 (eOp pAdd (eSl (eV 7) none (some (eOp pSub (eV 1) (eC (.int 1))))) (eLst (aCons (eTup (aCons (eC (.str "all")) (aCons (eC (.str "good")) aNil))) aNil)))) sNil)
    (sSeq (sSet 8 (eFun pSorted (aCons (eCallP 3 0 d__law_some (aCons (eLst (aCons (eC (.str "going")) (aCons (eC (.str "gone")) (aCons (eC (.str "kept")) (aCons (eC (.str "new")) aNil))))) (aCons (eC (.int 4)) aNil))) aNil)))
    (sRet (eTup (aCons (eV 4) (aCons (eV 5) (aCons (eFun pTuple (aCons (eFun pSorted (aCons (eV 7) aNil)) aNil)) (aCons (eCmp pGt (eCallP 2 0 d__law_draw (aCons (eC (.int 3)) aNil)) (eC (.int 0))) (aCons (eFun pTuple (aCons (eV 8) aNil)) aNil))))))))))))))))
def d__law_log := fnP 9 m__law_log
theorem cal__law_log (D : DefF K mg "_law_log" s__law_log) (T : Fx P K mg) (c__law_draw : CalP P w K mg base 2 "_law_draw" 2 d__law_draw) (c__law_cell : CalP P w K mg base 3 "_law_cell" 1 d__law_cell) (c__law_some : CalP P w K mg base 3 "_law_some" 3 d__law_some) : CalP P w K mg base 4 "_law_log" 2 d__law_log := by
  obtain ⟨f, fd, F, hm⟩ := D.ex
  refine ⟨f, fd, ["pen", "size"], fn_pen (N := N__law_log) F sc__law_log rfl fun cdv A outer s H E hcd hr hgd => ?_, hm, F.kp, F.binds fun _ _ _ _ _ _ us hl => match us, hl with | [_, _], _ => rfl⟩
  exact (sb_cons (ss_setO gives_lst (by decide) sc__law_log.nd rfl (by first | exact Or.inl rfl | exact Or.inr rfl) (sl_lst (sa_cons (se_tup (sa_cons se_str (sa_cons se_str sa_nil))) (sa_cons (se_tup (sa_cons se_str (sa_cons se_str sa_nil))) (sa_cons (se_tup (sa_cons se_str (sa_cons se_str sa_nil))) (sa_cons (se_tup (sa_cons se_str (sa_cons se_str sa_nil))) (sa_cons (se_tup (sa_cons se_str (sa_cons se_str sa_nil))) (sa_cons (se_tup (sa_cons se_str (sa_cons se_str sa_nil))) sa_nil))))))))
    (sb_cons (ss_if (st_cmp (q_eq hr.units) dc_rD (se_callP (i := 0) c__law_draw hgd (hr.mono (by decide)) rfl (takes_of rfl rfl rfl rfl) (sa_cons se_int sa_nil)) se_int (nomark _)) (sb_one (ss_setIx (i := 2) (se_ix o_ix d2_rD (se_lst (sa_cons (se_tup (sa_cons se_str (sa_cons se_str sa_nil))) (sa_cons (se_tup (sa_cons se_str (sa_cons se_str sa_nil))) sa_nil))) (se_callP (i := 0) c__law_draw hgd (hr.mono (by decide)) rfl (takes_of rfl rfl rfl rfl) (sa_cons se_int sa_nil))) se_int)) sb_nil)
    (sb_cons (ss_for (t := (.nm 3)) (passes_of rfl) rfl (si_range rfl T.b_range (sa_cons (se_ix o_ix d2_rD (se_lst (sa_cons se_int (sa_cons se_int (sa_cons se_int (sa_cons se_int (sa_cons se_int sa_nil)))))) (se_callP (i := 0) c__law_draw hgd (hr.mono (by decide)) rfl (takes_of rfl rfl rfl rfl) (sa_cons se_int sa_nil))) sa_nil)) (sg_nm (i := 3) sc__law_log.nd rfl (by first | exact Or.inl rfl | exact Or.inr rfl)) (sb_one (ss_setIx (i := 2) (se_callP (i := 0) c__law_cell hgd (hr.mono (by decide)) rfl (takes_of rfl rfl rfl rfl) sa_nil) (se_callP (i := 0) c__law_draw hgd (hr.mono (by decide)) rfl (takes_of rfl rfl rfl rfl) (sa_cons se_int sa_nil)))))
    (sb_cons (ss_set (i := 4) sc__law_log.nd rfl (by first | exact Or.inl rfl | exact Or.inr rfl) (se_tup (sa_cons (se_ix o_ix d2_rD (se_lst (sa_cons se_str (sa_cons se_str (sa_cons se_str (sa_cons se_str (sa_cons se_str sa_nil)))))) (se_callP (i := 0) c__law_draw hgd (hr.mono (by decide)) rfl (takes_of rfl rfl rfl rfl) (sa_cons se_int sa_nil))) (sa_cons (se_callTy o_tuple dn_rD rfl T.b_tuple (by decide +kernel) (sa_cons (se_sl (se_var (i := 2)) so_none (so_some se_int)) sa_nil)) (sa_cons (se_callTy o_tuple dn_rD rfl T.b_tuple (by decide +kernel) (sa_cons (se_sl (se_var (i := 2)) (so_some se_int) (so_some se_int)) sa_nil)) (sa_cons (se_callTy o_tuple dn_rD rfl T.b_tuple (by decide +kernel) (sa_cons (se_sl (se_var (i := 2)) (so_some se_int) so_none) sa_nil)) sa_nil))))))
    (sb_cons (ss_set (i := 5) sc__law_log.nd rfl (by first | exact Or.inl rfl | exact Or.inr rfl) (se_callTy o_tuple dn_rD rfl T.b_tuple (by decide +kernel) (sa_cons (se_lc (t := (.nm 3)) (own := [("lap", 3)]) (ft := eYes) (fe := (eOp pIx (eLst (aCons (eC (.str "free")) (aCons (eC (.str "next")) (aCons (eC (.str "stay")) (aCons (eC (.str "next")) aNil))))) (eCallP 2 0 d__law_draw (aCons (eC (.int 4)) aNil)))) rfl sc__law_log.nd (si_range rfl T.b_range (sa_cons se_int sa_nil)) (blkOk_by (own := [("lap", 3)]) (N := N__law_log) (sc := defScope s__law_log) (by decide +kernel)) (fun _ _ _ _ _ => (sg_nm (i := 3) sc__law_log.nd rfl (by first | exact Or.inl rfl | exact Or.inr rfl))) (fun _ _ _ _ _ => pts_yes) (fun _ _ _ _ _ => (se_ix o_ix d2_rD (se_lst (sa_cons se_str (sa_cons se_str (sa_cons se_str (sa_cons se_str sa_nil))))) (se_callP (i := 0) c__law_draw hgd (hr.mono (by decide)) rfl takes0 (sa_cons se_int sa_nil))))) sa_nil)))
    (sb_cons (ss_set (i := 6) sc__law_log.nd rfl (by first | exact Or.inl rfl | exact Or.inr rfl) (se_lst (sa_cons (se_tup (sa_cons se_str (sa_cons se_str sa_nil))) (sa_cons (se_tup (sa_cons se_str (sa_cons se_str sa_nil))) (sa_cons (se_tup (sa_cons se_str (sa_cons se_str sa_nil))) (sa_cons (se_tup (sa_cons se_str (sa_cons se_str sa_nil))) (sa_cons (se_tup (sa_cons se_str (sa_cons se_str sa_nil))) (sa_cons (se_tup (sa_cons se_str (sa_cons se_str sa_nil))) sa_nil))))))))
    (sb_cons (ss_set (i := 7) sc__law_log.nd rfl (by first | exact Or.inl rfl | exact Or.inr rfl) (se_callP (i := 0) c__law_some hgd (hr.mono (by decide)) rfl (takes_of rfl rfl rfl rfl) (sa_cons (se_var (i := 6)) (sa_cons (se_var (i := 1)) sa_nil))))
    (sb_cons (ss_if (PW.pt (st_and (st_cmp (q_eq hr.units) dc_rD (se_callP (i := 0) c__law_draw hgd (hr.mono (by decide)) rfl (takes_of rfl rfl rfl rfl) (sa_cons se_int sa_nil)) se_int (nomark _)) (st_and1 (st_cmp (q_notInX hr.units) dc_rD (se_tup (sa_cons se_str (sa_cons se_str sa_nil))) (se_var (i := 7)) rfl)))) (sb_one (ss_set (i := 7) sc__law_log.nd rfl (by first | exact Or.inl rfl | exact Or.inr rfl) (se_op o_add d2_rD (se_sl (se_var (i := 7)) so_none (so_some (se_op o_sub d2_rD (se_var (i := 1)) se_int))) (se_lst (sa_cons (se_tup (sa_cons se_str (sa_cons se_str sa_nil))) sa_nil))))) sb_nil)
    (sb_cons (ss_set (i := 8) sc__law_log.nd rfl (by first | exact Or.inl rfl | exact Or.inr rfl) (se_callB (o_sorted hr.units) dn_rD rfl T.b_sorted (by decide +kernel) (sa_cons (se_callP (i := 0) c__law_some hgd (hr.mono (by decide)) rfl (takes_of rfl rfl rfl rfl) (sa_cons (se_lst (sa_cons se_str (sa_cons se_str (sa_cons se_str (sa_cons se_str sa_nil))))) (sa_cons se_int sa_nil))) sa_nil)))
    (sb_one (ss_ret (se_tup (sa_cons (se_var (i := 4)) (sa_cons (se_var (i := 5)) (sa_cons (se_callTy o_tuple dn_rD rfl T.b_tuple (by decide +kernel) (sa_cons (se_callB (o_sorted hr.units) dn_rD rfl T.b_sorted (by decide +kernel) (sa_cons (se_var (i := 7)) sa_nil)) sa_nil)) (sa_cons (se_cmp o_gt dc_rD (se_callP (i := 0) c__law_draw hgd (hr.mono (by decide)) rfl (takes_of rfl rfl rfl rfl) (sa_cons se_int sa_nil)) se_int (nomark _)) (sa_cons (se_callTy o_tuple dn_rD rfl T.b_tuple (by decide +kernel) (sa_cons (se_var (i := 8)) sa_nil)) sa_nil)))))))))))))))))
/-! _law_bent_log -/
abbrev s__law_bent_log : Stmt := topS 40
abbrev N__law_bent_log : List Str := ["pen", "log", "table", "odd", "leads", "k", "road", "spot", "side", "cell", "cells", "part", "far"]
theorem sc__law_bent_log : FnScope N__law_bent_log ["pen", "log"] (defScope s__law_bent_log) := ⟨rfl, rfl, rfl, by decide +kernel, rfl, by decide +kernel, by decide +kernel⟩
def m__law_bent_log : Rho → SOut :=
    (sSeq (sPar2 false false 5 6 (eCallP 2 0 d__law_draw (aCons (eC (.int 5)) aNil)) (eCallP 2 0 d__law_draw (aCons (eC (.int 6)) aNil)))
    (sSeq (sSet 2 (eOp pIx (eV 1) (eC (.int 0))))
    (sSeq (sPar2 false false 7 8 (eOp pAdd (eC (.int 1)) (eCallP 2 0 d__law_draw (aCons (eC (.int 3)) aNil))) (eCallP 2 0 d__law_draw (aCons (eC (.int 2)) aNil)))
    (sSeq (sIf (eCmp qEq (eV 6) (eC (.int 0))) (sRet (eOp pIx (eLst (aCons (eListOf (aCons (eV 1) aNil)) (aCons (eSl (eV 1) none (some (eC (.int 4)))) (aCons (eOp pAdd (eV 1) (eTup (aCons (eTup aNil) aNil))) (aCons (eC .none) (aCons (eTup aNil) (aCons (eC (.dict [])) (aCons (eC (.str "log")) (aCons (eC (.int 0)) (aCons (eRev (eV 1)) (aCons (eV 2) aNil))))))))))) (eCallP 2 0 d__law_draw (aCons (eC (.int 10)) aNil)))) sNil)
    (sSeq (sIf (eCmp qLt (eV 6) (eC (.int 3))) (sSeq (sSet 9 (eCallP 2 0 d__law_bent_cell (aCons (eOp pIx (eOp pIx (eV 2) (eV 7)) (eV 8)) aNil)))
    (sSeq (sSet 10 (eIf (eCmp qEq (eV 8) (eC (.int 0))) (eTup (aCons (eV 9) (aCons (eOp pIx (eOp pIx (eV 2) (eV 7)) (eC (.int 1))) aNil))) (eTup (aCons (eOp pIx (eOp pIx (eV 2) (eV 7)) (eC (.int 0))) (aCons (eV 9) aNil)))))
    (sSeq (sSet 10 (eOp pIx (eLst (aCons (eV 10) (aCons (eListOf (aCons (eOp pIx (eV 2) (eV 7)) aNil)) (aCons (eSl (eOp pIx (eV 2) (eV 7)) none (some (eC (.int 1)))) (aCons (eOp pMul (eOp pIx (eV 2) (eV 7)) (eC (.int 2))) aNil))))) (eIf (eCmp qEq (eV 6) (eC (.int 1))) (eCallP 2 0 d__law_draw (aCons (eC (.int 4)) aNil)) (eC (.int 0)))))
    (sRet (eOp pAdd (eTup (aCons (eOp pAdd (eOp pAdd (eSl (eV 2) none (some (eV 7))) (eTup (aCons (eV 10) aNil))) (eSl (eV 2) (some (eOp pAdd (eV 7) (eC (.int 1)))) none)) aNil)) (eSl (eV 1) (some (eC (.int 1))) none)))))) sNil)
    (sSeq (sSetO 3 (eLst (aCons (eLst (aCons (eSl (eV 2) none (some (eC (.int 3)))) (aCons (eListOf (aCons (eV 2) aNil)) (aCons (eOp pAdd (eTup (aCons (eC (.str "maybe")) aNil)) (eSl (eV 2) (some (eC (.int 1))) none)) (aCons (eC .none) (aCons (eOp pAdd (eTup (aCons (eC .none) aNil)) (eSl (eV 2) (some (eC (.int 1))) none)) (aCons (eOp pAdd (eTup (aCons (eC (.int 0)) aNil)) (eSl (eV 2) (some (eC (.int 1))) none)) aNil))))))) aNil)))
    (sSeq (sSetIx 3 (eC (.int 0)) (eOp pAdd (eIxO 3 (eC (.int 0))) (eLst (aCons (eOp pAdd (eTup (aCons (eLst aNil) aNil)) (eSl (eV 2) (some (eC (.int 1))) none)) (aCons (eOp pAdd (eV 2) (eSl (eV 2) (some (eC (.int 1))) (some (eC (.int 2))))) (aCons (eOp pAdd (eTup (aCons (eC (.bool true)) aNil)) (eSl (eV 2) (some (eC (.int 1))) none)) (aCons (eOp pAdd (eTup (aCons (eC (.str "none")) aNil)) (eSl (eV 2) (some (eC (.int 1))) none)) aNil)))))))
    (sSeq (sSet 4 (eLst (aCons (eTup (aCons (eC (.str "free")) aNil)) (aCons (eLst (aCons (eC (.str "free")) (aCons (eC (.str "next")) aNil))) (aCons (eTup (aCons (eC (.str "go")) (aCons (eC (.str "stay")) aNil))) (aCons (eC .none) (aCons (eTup (aCons (eC (.str "free")) (aCons (eC (.str "next")) (aCons (eC (.str "stay")) aNil)))) (aCons (eTup (aCons (eC (.str "next")) (aCons (eC (.str "go")) aNil))) aNil))))))))
    (sSeq (sAppend 3 (eOp pAdd (eV 4) (eLst (aCons (eTup (aCons (eC .none) (aCons (eC (.str "free")) aNil))) aNil))))
    (sSeq (sAppend 3 (eLst (aCons (eListOf (aCons (eOp pIx (eV 1) (eC (.int 2))) aNil)) (aCons (eOp pMul (eTup (aCons (eTup (aCons (eC (.str "all")) (aCons (eC (.str "good")) aNil))) aNil)) (eC (.int 2))) (aCons (eTup (aCons (eTup (aCons (eC (.str "some")) (aCons (eC (.str "bad")) aNil))) (aCons (eTup (aCons (eC (.str "all")) (aCons (eC (.str "good")) aNil))) aNil))) (aCons (eTup (aCons (eTup (aCons (eC (.str "part")) (aCons (eC (.str "good")) aNil))) aNil)) aNil))))))
    (sSeq (sSetO 3 (eAddL (eV 3) (eLst (aCons (eLst (aCons (eC (.int 0)) (aCons (eC (.int 1)) (aCons (eC .none) (aCons (eC (.str "yes")) aNil))))) (aCons (eLst (aCons (eTup (aCons (eC (.str "new")) (aCons (eC (.str "going")) aNil))) (aCons (eTup (aCons (eC (.str "kept")) (aCons (eC (.str "kept")) aNil))) (aCons (eTup (aCons (eC (.str "lost")) aNil)) (aCons (eLst (aCons (eC (.str "kept")) aNil)) aNil))))) aNil)))))
    (sSeq (sIf (eCmp qEq (eCallP 2 0 d__law_draw (aCons (eC (.int 3)) aNil)) (eC (.int 0))) (sSeq (sSet 11 (eOp pIx (eLst (aCons (eLst (aCons (eC (.str "kept")) aNil)) (aCons (eC (.dict [])) (aCons (eC .none) (aCons (eTup (aCons (eC (.str "new")) aNil)) (aCons (eC (.int 0)) (aCons (eLst aNil) aNil))))))) (eCallP 2 0 d__law_draw (aCons (eC (.int 6)) aNil))))
    (sSeq (sSet 12 (eOp pIx (eLst (aCons (eTup (aCons (eV 11) aNil)) (aCons (eTup (aCons (eV 11) (aCons (eV 11) aNil))) (aCons (eTup (aCons (eC (.str "next")) (aCons (eV 11) aNil))) (aCons (eTup (aCons (eTup (aCons (eV 11) (aCons (eC (.str "good")) aNil))) aNil)) (aCons (eTup (aCons (eTup (aCons (eC (.str "all")) (aCons (eV 11) aNil))) aNil)) aNil)))))) (eCallP 2 0 d__law_draw (aCons (eC (.int 5)) aNil))))
    (sRet (eOp pAdd (eOp pAdd (eSl (eV 1) none (some (eV 5))) (eTup (aCons (eV 12) aNil))) (eSl (eV 1) (some (eOp pAdd (eV 5) (eC (.int 1)))) none))))) sNil)
    (sRet (eOp pAdd (eOp pAdd (eSl (eV 1) none (some (eV 5))) (eTup (aCons (eOp pIx (eIxO 3 (eV 5)) (eCallP 2 0 d__law_draw (aCons (eFun pLen (aCons (eIxO 3 (eV 5)) aNil)) aNil))) aNil))) (eSl (eV 1) (some (eOp pAdd (eV 5) (eC (.int 1)))) none)))))))))))))))
def d__law_bent_log := fnP 13 m__law_bent_log
theorem cal__law_bent_log (D : DefF K mg "_law_bent_log" s__law_bent_log) (T : Fx P K mg) (c__law_draw : CalP P w K mg base 2 "_law_draw" 2 d__law_draw) (c__law_bent_cell : CalP P w K mg base 3 "_law_bent_cell" 2 d__law_bent_cell) : CalP P w K mg base 4 "_law_bent_log" 2 d__law_bent_log := by
  obtain ⟨f, fd, F, hm⟩ := D.ex
  refine ⟨f, fd, ["pen", "log"], fn_pen (N := N__law_bent_log) F sc__law_bent_log rfl fun cdv A outer s H E hcd hr hgd => ?_, hm, F.kp, F.binds fun _ _ _ _ _ _ us hl => match us, hl with | [_, _], _ => rfl⟩
  exact (sb_cons (ss_par_dd (i := 5) (j := 6) (hc := rfl) (hN := sc__law_bent_log.nd) (hi := rfl) (hj := rfl) (hij := by decide) (hx := rfl) (hy := rfl) (h1 := (se_callP (i := 0) c__law_draw hgd (hr.mono (by decide)) rfl (takes_of rfl rfl rfl rfl) (sa_cons se_int sa_nil))) (h2 := (se_callP (i := 0) c__law_draw hgd (hr.mono (by decide)) rfl (takes_of rfl rfl rfl rfl) (sa_cons se_int sa_nil))))
    (sb_cons (ss_set (i := 2) sc__law_bent_log.nd rfl (by first | exact Or.inl rfl | exact Or.inr rfl) (se_ix o_ix d2_rD (se_var (i := 1)) se_int))
    (sb_cons (ss_par_dd (i := 7) (j := 8) (hc := rfl) (hN := sc__law_bent_log.nd) (hi := rfl) (hj := rfl) (hij := by decide) (hx := rfl) (hy := rfl) (h1 := (se_op o_add d2_rD se_int (se_callP (i := 0) c__law_draw hgd (hr.mono (by decide)) rfl (takes_of rfl rfl rfl rfl) (sa_cons se_int sa_nil)))) (h2 := (se_callP (i := 0) c__law_draw hgd (hr.mono (by decide)) rfl (takes_of rfl rfl rfl rfl) (sa_cons se_int sa_nil))))
    (sb_cons (ss_if (st_cmp (q_eq hr.units) dc_rD (se_var (i := 6)) se_int (nomark _)) (sb_one (ss_ret (se_ix o_ix d2_rD (se_lst (sa_cons (se_of_sl gives_listOf (sl_listOf rfl T.b_list (by decide +kernel) (sa_cons (se_var (i := 1)) sa_nil))) (sa_cons (se_sl (se_var (i := 1)) so_none (so_some se_int)) (sa_cons (se_op o_add d2_rD (se_var (i := 1)) (se_tup (sa_cons (se_tup sa_nil) sa_nil))) (sa_cons se_non (sa_cons (se_tup sa_nil) (sa_cons se_dict0 (sa_cons se_str (sa_cons se_int (sa_cons (se_rev (se_var (i := 1))) (sa_cons (se_var (i := 2)) sa_nil))))))))))) (se_callP (i := 0) c__law_draw hgd (hr.mono (by decide)) rfl (takes_of rfl rfl rfl rfl) (sa_cons se_int sa_nil))))) sb_nil)
    (sb_cons (ss_if (st_cmp (q_lt hr.units) dc_rD (se_var (i := 6)) se_int (nomark _)) (sb_cons (ss_set (i := 9) sc__law_bent_log.nd rfl (by first | exact Or.inl rfl | exact Or.inr rfl) (se_callP (i := 0) c__law_bent_cell hgd (hr.mono (by decide)) rfl (takes_of rfl rfl rfl rfl) (sa_cons (se_ix o_ix d2_rD (se_ix o_ix d2_rD (se_var (i := 2)) (se_var (i := 7))) (se_var (i := 8))) sa_nil)))
    (sb_cons (ss_set (i := 10) sc__law_bent_log.nd rfl (by first | exact Or.inl rfl | exact Or.inr rfl) (se_if (st_cmp (q_eq hr.units) dc_rD (se_var (i := 8)) se_int (nomark _)) (se_tup (sa_cons (se_var (i := 9)) (sa_cons (se_ix o_ix d2_rD (se_ix o_ix d2_rD (se_var (i := 2)) (se_var (i := 7))) se_int) sa_nil))) (se_tup (sa_cons (se_ix o_ix d2_rD (se_ix o_ix d2_rD (se_var (i := 2)) (se_var (i := 7))) se_int) (sa_cons (se_var (i := 9)) sa_nil)))))
    (sb_cons (ss_set (i := 10) sc__law_bent_log.nd rfl (by first | exact Or.inl rfl | exact Or.inr rfl) (se_ix o_ix d2_rD (se_lst (sa_cons (se_var (i := 10)) (sa_cons (se_of_sl gives_listOf (sl_listOf rfl T.b_list (by decide +kernel) (sa_cons (se_ix o_ix d2_rD (se_var (i := 2)) (se_var (i := 7))) sa_nil))) (sa_cons (se_sl (se_ix o_ix d2_rD (se_var (i := 2)) (se_var (i := 7))) so_none (so_some se_int)) (sa_cons (se_op o_mul d2_rD (se_ix o_ix d2_rD (se_var (i := 2)) (se_var (i := 7))) se_int) sa_nil))))) (se_if (st_cmp (q_eq hr.units) dc_rD (se_var (i := 6)) se_int (nomark _)) (se_callP (i := 0) c__law_draw hgd (hr.mono (by decide)) rfl (takes_of rfl rfl rfl rfl) (sa_cons se_int sa_nil)) se_int)))
    (sb_one (ss_ret (se_op o_add d2_rD (se_tup (sa_cons (se_op o_add d2_rD (se_op o_add d2_rD (se_sl (se_var (i := 2)) so_none (so_some (se_var (i := 7)))) (se_tup (sa_cons (se_var (i := 10)) sa_nil))) (se_sl (se_var (i := 2)) (so_some (se_op o_add d2_rD (se_var (i := 7)) se_int)) so_none)) sa_nil)) (se_sl (se_var (i := 1)) (so_some se_int) so_none))))))) sb_nil)
    (sb_cons (ss_setO gives_lst (by decide) sc__law_bent_log.nd rfl (by first | exact Or.inl rfl | exact Or.inr rfl) (sl_lst (sa_cons (se_lst (sa_cons (se_sl (se_var (i := 2)) so_none (so_some se_int)) (sa_cons (se_of_sl gives_listOf (sl_listOf rfl T.b_list (by decide +kernel) (sa_cons (se_var (i := 2)) sa_nil))) (sa_cons (se_op o_add d2_rD (se_tup (sa_cons se_str sa_nil)) (se_sl (se_var (i := 2)) (so_some se_int) so_none)) (sa_cons se_non (sa_cons (se_op o_add d2_rD (se_tup (sa_cons se_non sa_nil)) (se_sl (se_var (i := 2)) (so_some se_int) so_none)) (sa_cons (se_op o_add d2_rD (se_tup (sa_cons se_int sa_nil)) (se_sl (se_var (i := 2)) (so_some se_int) so_none)) sa_nil))))))) sa_nil)))
    (sb_cons (ss_setIx (i := 3) (se_op o_add d2_rD (se_ixO (i := 3) se_int) (se_lst (sa_cons (se_op o_add d2_rD (se_tup (sa_cons (se_lst sa_nil) sa_nil)) (se_sl (se_var (i := 2)) (so_some se_int) so_none)) (sa_cons (se_op o_add d2_rD (se_var (i := 2)) (se_sl (se_var (i := 2)) (so_some se_int) (so_some se_int))) (sa_cons (se_op o_add d2_rD (se_tup (sa_cons se_bl sa_nil)) (se_sl (se_var (i := 2)) (so_some se_int) so_none)) (sa_cons (se_op o_add d2_rD (se_tup (sa_cons se_str sa_nil)) (se_sl (se_var (i := 2)) (so_some se_int) so_none)) sa_nil)))))) se_int)
    (sb_cons (ss_set (i := 4) sc__law_bent_log.nd rfl (by first | exact Or.inl rfl | exact Or.inr rfl) (se_lst (sa_cons (se_tup (sa_cons se_str sa_nil)) (sa_cons (se_lst (sa_cons se_str (sa_cons se_str sa_nil))) (sa_cons (se_tup (sa_cons se_str (sa_cons se_str sa_nil))) (sa_cons se_non (sa_cons (se_tup (sa_cons se_str (sa_cons se_str (sa_cons se_str sa_nil)))) (sa_cons (se_tup (sa_cons se_str (sa_cons se_str sa_nil))) sa_nil))))))))
    (sb_cons (ss_append (i := 3) (se_op o_add d2_rD (se_var (i := 4)) (se_lst (sa_cons (se_tup (sa_cons se_non (sa_cons se_str sa_nil))) sa_nil))))
    (sb_cons (ss_append (i := 3) (se_lst (sa_cons (se_of_sl gives_listOf (sl_listOf rfl T.b_list (by decide +kernel) (sa_cons (se_ix o_ix d2_rD (se_var (i := 1)) se_int) sa_nil))) (sa_cons (se_op o_mul d2_rD (se_tup (sa_cons (se_tup (sa_cons se_str (sa_cons se_str sa_nil))) sa_nil)) se_int) (sa_cons (se_tup (sa_cons (se_tup (sa_cons se_str (sa_cons se_str sa_nil))) (sa_cons (se_tup (sa_cons se_str (sa_cons se_str sa_nil))) sa_nil))) (sa_cons (se_tup (sa_cons (se_tup (sa_cons se_str (sa_cons se_str sa_nil))) sa_nil)) sa_nil))))))
    (sb_cons (ss_setO gives_addL (by decide) sc__law_bent_log.nd rfl (by first | exact Or.inl rfl | exact Or.inr rfl) (sl_addL (se_var (i := 3)) (se_lst (sa_cons (se_lst (sa_cons se_int (sa_cons se_int (sa_cons se_non (sa_cons se_str sa_nil))))) (sa_cons (se_lst (sa_cons (se_tup (sa_cons se_str (sa_cons se_str sa_nil))) (sa_cons (se_tup (sa_cons se_str (sa_cons se_str sa_nil))) (sa_cons (se_tup (sa_cons se_str sa_nil)) (sa_cons (se_lst (sa_cons se_str sa_nil)) sa_nil))))) sa_nil)))))
    (sb_cons (ss_if (st_cmp (q_eq hr.units) dc_rD (se_callP (i := 0) c__law_draw hgd (hr.mono (by decide)) rfl (takes_of rfl rfl rfl rfl) (sa_cons se_int sa_nil)) se_int (nomark _)) (sb_cons (ss_set (i := 11) sc__law_bent_log.nd rfl (by first | exact Or.inl rfl | exact Or.inr rfl) (se_ix o_ix d2_rD (se_lst (sa_cons (se_lst (sa_cons se_str sa_nil)) (sa_cons se_dict0 (sa_cons se_non (sa_cons (se_tup (sa_cons se_str sa_nil)) (sa_cons se_int (sa_cons (se_lst sa_nil) sa_nil))))))) (se_callP (i := 0) c__law_draw hgd (hr.mono (by decide)) rfl (takes_of rfl rfl rfl rfl) (sa_cons se_int sa_nil))))
    (sb_cons (ss_set (i := 12) sc__law_bent_log.nd rfl (by first | exact Or.inl rfl | exact Or.inr rfl) (se_ix o_ix d2_rD (se_lst (sa_cons (se_tup (sa_cons (se_var (i := 11)) sa_nil)) (sa_cons (se_tup (sa_cons (se_var (i := 11)) (sa_cons (se_var (i := 11)) sa_nil))) (sa_cons (se_tup (sa_cons se_str (sa_cons (se_var (i := 11)) sa_nil))) (sa_cons (se_tup (sa_cons (se_tup (sa_cons (se_var (i := 11)) (sa_cons se_str sa_nil))) sa_nil)) (sa_cons (se_tup (sa_cons (se_tup (sa_cons se_str (sa_cons (se_var (i := 11)) sa_nil))) sa_nil)) sa_nil)))))) (se_callP (i := 0) c__law_draw hgd (hr.mono (by decide)) rfl (takes_of rfl rfl rfl rfl) (sa_cons se_int sa_nil))))
    (sb_one (ss_ret (se_op o_add d2_rD (se_op o_add d2_rD (se_sl (se_var (i := 1)) so_none (so_some (se_var (i := 5)))) (se_tup (sa_cons (se_var (i := 12)) sa_nil))) (se_sl (se_var (i := 1)) (so_some (se_op o_add d2_rD (se_var (i := 5)) se_int)) so_none)))))) sb_nil)
    (sb_one (ss_ret (se_op o_add d2_rD (se_op o_add d2_rD (se_sl (se_var (i := 1)) so_none (so_some (se_var (i := 5)))) (se_tup (sa_cons (se_ix o_ix d2_rD (se_ixO (i := 3) (se_var (i := 5))) (se_callP (i := 0) c__law_draw hgd (hr.mono (by decide)) rfl (takes_of rfl rfl rfl rfl) (sa_cons (se_callB o_len dn_rD rfl T.b_len (by decide +kernel) (sa_cons (se_ixO (i := 3) (se_var (i := 5))) sa_nil)) sa_nil))) sa_nil))) (se_sl (se_var (i := 1)) (so_some (se_op o_add d2_rD (se_var (i := 5)) se_int)) so_none))))))))))))))))
/-! is_log -/
abbrev s_is_log : Stmt := topS 23
abbrev N_is_log : List Str := ["thing", "table", "lead", "ends", "stops", "seen"]
theorem sc_is_log : FnScope N_is_log ["thing"] (defScope s_is_log) := ⟨rfl, rfl, rfl, by decide +kernel, rfl, by decide +kernel, by decide +kernel⟩
def m_is_log : Rho → SOut :=
    (sSeq (sIf (eNot (eTru (eCall 2 d_is_tuple (aCons (eV 0) (aCons (eC (.int 5)) aNil))))) (sRet (eC (.bool false))) sNil)
    (sSeq (sAsg (.tp [(.nm 1), (.nm 2), (.nm 3), (.nm 4), (.nm 5)]) (eV 0))
    (sRet (eAnd (eOk (eCall 1 d_is_table (aCons (eV 1) aNil))) (eAnd (eOk (eCall 1 d_is_lead (aCons (eV 2) aNil))) (eAnd (eOk (eCall 1 d_are_ends (aCons (eV 3) aNil))) (eAnd (eOk (eIsa "bool" (eV 4))) (eCall 1 d_are_seen (aCons (eV 5) aNil)))))))))
def d_is_log := fnD 6 m_is_log
theorem cal_is_log (D : DefF K mg "is_log" s_is_log) (T : Fx P K mg) (c_is_tuple : CalD P w K mg base 1 "is_tuple" 2 d_is_tuple) (c_are_seen : CalD P w K mg base 2 "are_seen" 1 d_are_seen) (c_are_ends : CalD P w K mg base 3 "are_ends" 1 d_are_ends) (c_is_lead : CalD P w K mg base 2 "is_lead" 1 d_is_lead) (c_is_table : CalD P w K mg base 4 "is_table" 1 d_is_table) : CalD P w K mg base 5 "is_log" 1 d_is_log := by
  obtain ⟨f, fd, F, hm⟩ := D.ex
  refine ⟨f, fd, ["thing"], fn_data (N := N_is_log) F sc_is_log rfl fun cdv A outer s H E hcd hr hgd => ?_, hm, F.kp, F.binds fun _ _ _ _ _ _ us hl => match us, hl with | [_], _ => rfl⟩
  exact (sb_cons (ss_if (st_not (st_tru (se_call c_is_tuple hgd (hr.mono (by decide)) rfl (takes_of rfl rfl rfl rfl) (sa_cons (se_var (i := 0)) (sa_cons se_int sa_nil))))) (sb_one (ss_ret se_bl)) sb_nil)
    (sb_cons (ss_asg (t := (.tp [(.nm 1), (.nm 2), (.nm 3), (.nm 4), (.nm 5)])) (se_var (i := 0)) (sg_tp rfl (sgs_cons (sg_nm (i := 1) sc_is_log.nd rfl (by first | exact Or.inl rfl | exact Or.inr rfl)) (sgs_cons (sg_nm (i := 2) sc_is_log.nd rfl (by first | exact Or.inl rfl | exact Or.inr rfl)) (sgs_cons (sg_nm (i := 3) sc_is_log.nd rfl (by first | exact Or.inl rfl | exact Or.inr rfl)) (sgs_cons (sg_nm (i := 4) sc_is_log.nd rfl (by first | exact Or.inl rfl | exact Or.inr rfl)) (sgs_cons (sg_nm (i := 5) sc_is_log.nd rfl (by first | exact Or.inl rfl | exact Or.inr rfl)) sgs_nil)))))))
    (sb_one (ss_ret (se_and (se_call c_is_table hgd (hr.mono (by decide)) rfl (takes_of rfl rfl rfl rfl) (sa_cons (se_var (i := 1)) sa_nil)) (se_and (se_call c_is_lead hgd (hr.mono (by decide)) rfl (takes_of rfl rfl rfl rfl) (sa_cons (se_var (i := 2)) sa_nil)) (se_and (se_call c_are_ends hgd (hr.mono (by decide)) rfl (takes_of rfl rfl rfl rfl) (sa_cons (se_var (i := 3)) sa_nil)) (se_and (se_isa (T := "bool") (se_var (i := 4)) rfl T.b_isinstance rfl T.b_bool (by decide +kernel)) (se_one (se_call c_are_seen hgd (hr.mono (by decide)) rfl (takes_of rfl rfl rfl rfl) (sa_cons (se_var (i := 5)) sa_nil)))))))))))
/-! check_cell_place -/
abbrev s_check_cell_place : Stmt := topS 24
abbrev N_check_cell_place : List Str := ["table", "event", "place"]
theorem sc_check_cell_place : FnScope N_check_cell_place ["table", "event", "place"] (defScope s_check_cell_place) := ⟨rfl, rfl, rfl, by decide +kernel, rfl, by decide +kernel, by decide +kernel⟩
def m_check_cell_place : Rho → SOut :=
    (sSeq (sIf (eNot (eTru (eCall 1 d_is_table (aCons (eV 0) aNil)))) (sRaise "InvalidTable") sNil)
    (sSeq (sIf (eCmp qNotInX (eV 1) (eC k_EVENTS)) (sRaise "InvalidEvent") sNil)
    (sIf (eCmp qNotInX (eV 2) (eC k_MOVING)) (sRaise "InvalidPlace") sNil)))
def d_check_cell_place := fnD 3 m_check_cell_place
theorem cal_check_cell_place (D : DefF K mg "check_cell_place" s_check_cell_place) (T : Fx P K mg) (c_is_table : CalD P w K mg base 4 "is_table" 1 d_is_table) : CalD P w K mg base 5 "check_cell_place" 3 d_check_cell_place := by
  obtain ⟨f, fd, F, hm⟩ := D.ex
  refine ⟨f, fd, ["table", "event", "place"], fn_data (N := N_check_cell_place) F sc_check_cell_place rfl fun cdv A outer s H E hcd hr hgd => ?_, hm, F.kp, F.binds fun _ _ _ _ _ _ us hl => match us, hl with | [_, _, _], _ => rfl⟩
  exact (sb_cons (ss_if (st_not (st_tru (se_call c_is_table hgd (hr.mono (by decide)) rfl (takes_of rfl rfl rfl rfl) (sa_cons (se_var (i := 0)) sa_nil)))) (sb_one (ss_raiseG rfl (takes_of rfl rfl rfl rfl) T.e_InvalidTable rfl)) sb_nil)
    (sb_cons (ss_if (st_cmp (q_notInX hr.units) dc_rD (se_var (i := 1)) (se_glob T.c_EVENTS.d rfl) rfl) (sb_one (ss_raiseG rfl (takes_of rfl rfl rfl rfl) T.e_InvalidEvent rfl)) sb_nil)
    (sb_one (ss_if (st_cmp (q_notInX hr.units) dc_rD (se_var (i := 2)) (se_glob T.c_MOVING.d rfl) rfl) (sb_one (ss_raiseG rfl (takes_of rfl rfl rfl rfl) T.e_InvalidPlace rfl)) sb_nil))))
/-! cell_of -/
abbrev s_cell_of : Stmt := topS 26
abbrev N_cell_of : List Str := ["table", "event", "place"]
theorem sc_cell_of : FnScope N_cell_of ["table", "event", "place"] (defScope s_cell_of) := ⟨rfl, rfl, rfl, by decide +kernel, rfl, by decide +kernel, by decide +kernel⟩
def m_cell_of : Rho → SOut :=
    (sSeq (sExpr (eCall 3 d_check_cell_place (aCons (eV 0) (aCons (eV 1) (aCons (eV 2) aNil)))))
    (sRet (eCall 3 d_cell_at (aCons (eV 0) (aCons (eV 1) (aCons (eV 2) aNil))))))
def d_cell_of := fnD 3 m_cell_of
theorem cal_cell_of (D : DefF K mg "cell_of" s_cell_of) (T : Fx P K mg) (c_check_cell_place : CalD P w K mg base 5 "check_cell_place" 3 d_check_cell_place) (c_cell_at : CalD P w K mg base 1 "cell_at" 3 d_cell_at) : CalD P w K mg base 6 "cell_of" 3 d_cell_of := by
  obtain ⟨f, fd, F, hm⟩ := D.ex
  refine ⟨f, fd, ["table", "event", "place"], fn_data (N := N_cell_of) F sc_cell_of rfl fun cdv A outer s H E hcd hr hgd => ?_, hm, F.kp, F.binds fun _ _ _ _ _ _ us hl => match us, hl with | [_, _, _], _ => rfl⟩
  exact (sb_cons (ss_expr (se_call c_check_cell_place hgd (hr.mono (by decide)) rfl (takes_of rfl rfl rfl rfl) (sa_cons (se_var (i := 0)) (sa_cons (se_var (i := 1)) (sa_cons (se_var (i := 2)) sa_nil)))))
    (sb_one (ss_ret (se_call c_cell_at hgd (hr.mono (by decide)) rfl (takes_of rfl rfl rfl rfl) (sa_cons (se_var (i := 0)) (sa_cons (se_var (i := 1)) (sa_cons (se_var (i := 2)) sa_nil)))))))
/-! with_cell -/
abbrev s_with_cell : Stmt := topS 27
abbrev N_with_cell : List Str := ["table", "event", "place", "cell", "rows", "row"]
theorem sc_with_cell : FnScope N_with_cell ["table", "event", "place", "cell"] (defScope s_with_cell) := ⟨rfl, rfl, rfl, by decide +kernel, rfl, by decide +kernel, by decide +kernel⟩
def m_with_cell : Rho → SOut :=
    (sSeq (sExpr (eCall 3 d_check_cell_place (aCons (eV 0) (aCons (eV 1) (aCons (eV 2) aNil)))))
    (sSeq (sIf (eNot (eTru (eCall 1 d_is_cell (aCons (eV 3) aNil)))) (sRaise "InvalidCell") sNil)
    (sSeq (sNest 4 5 (iTpl (eSl (eV 0) (some (eC (.int 1))) none)) (eV 3) (eIdxG l_EVENTS (aCons (eV 1) aNil)) (eIdxG l_MOVING (aCons (eV 2) aNil))) (sRet (eTup (aCons (eOp pIx (eV 0) (eC (.int 0))) (aStar (eLc (.nm 5) (iLst (eV 4)) eYes (eFun pTuple (aCons (eV 5) aNil)) [5]) aNil)))))))
def d_with_cell := fnD 6 m_with_cell
theorem cal_with_cell (D : DefF K mg "with_cell" s_with_cell) (T : Fx P K mg) (c_check_cell_place : CalD P w K mg base 5 "check_cell_place" 3 d_check_cell_place) (c_is_cell : CalD P w K mg base 2 "is_cell" 1 d_is_cell) : CalD P w K mg base 6 "with_cell" 4 d_with_cell := by
  obtain ⟨f, fd, F, hm⟩ := D.ex
  refine ⟨f, fd, ["table", "event", "place", "cell"], fn_data (N := N_with_cell) F sc_with_cell rfl fun cdv A outer s H E hcd hr hgd => ?_, hm, F.kp, F.binds fun _ _ _ _ _ _ us hl => match us, hl with | [_, _, _, _], _ => rfl⟩
  exact (sb_cons (ss_expr (se_call c_check_cell_place hgd (hr.mono (by decide)) rfl (takes_of rfl rfl rfl rfl) (sa_cons (se_var (i := 0)) (sa_cons (se_var (i := 1)) (sa_cons (se_var (i := 2)) sa_nil)))))
    (sb_cons (ss_if (st_not (st_tru (se_call c_is_cell hgd (hr.mono (by decide)) rfl (takes_of rfl rfl rfl rfl) (sa_cons (se_var (i := 3)) sa_nil)))) (sb_one (ss_raiseG rfl (takes_of rfl rfl rfl rfl) T.e_InvalidCell rfl)) sb_nil)
    (sb_nest (i := 4) (j := 5) rfl sc_with_cell.nd rfl rfl (sw_true rfl rfl rfl (by decide +kernel)) (si_tup (se_sl (se_var (i := 0)) (so_some se_int) so_none)) (blkOk_by (own := [("row", 5)]) (N := N_with_cell) (sc := defScope s_with_cell) (by decide +kernel)) (fun _ _ _ _ _ => sg_nm (i := 5) sc_with_cell.nd rfl (Or.inl rfl)) T.b_list (fun _ _ _ _ _ => se_var (i := 5)) (fun _ _ _ _ _ => rfl) (se_var (i := 3)) (se_idxG T.c_EVENTS hr.units rfl (sa_cons (se_var (i := 1)) sa_nil)) (se_idxG T.c_MOVING hr.units rfl (sa_cons (se_var (i := 2)) sa_nil)) (fun _ _ => rfl) (fun _ => rfl) rfl rfl rfl (sb_one (ss_ret (se_tup (sa_cons (se_ix o_ix d2_rD (se_var (i := 0)) se_int) (sa_star (se_lc (t := (.nm 5)) (own := [("row", 5)]) (ft := eYes) (fe := (eFun pTuple (aCons (eV 5) aNil))) rfl sc_with_cell.nd (si_list (se_var (i := 4))) (blkOk_by (own := [("row", 5)]) (N := N_with_cell) (sc := defScope s_with_cell) (by decide +kernel)) (fun _ _ _ _ _ => (sg_nm (i := 5) sc_with_cell.nd rfl (by first | exact Or.inl rfl | exact Or.inr rfl))) (fun _ _ _ _ _ => pts_yes) (fun _ _ _ _ _ => (se_callTy o_tuple dn_rD rfl T.b_tuple (by decide +kernel) (sa_cons (se_var (i := 5)) sa_nil)))) sa_nil))))))))
/-! _law_cells_right -/
abbrev s__law_cells_right : Stmt := topS 41
abbrev N__law_cells_right : List Str := ["pen", "table", "i", "bent", "odds", "odd", "j", "words_here", "cells", "event", "place", "cell"]
theorem sc__law_cells_right : FnScope N__law_cells_right ["pen", "table"] (defScope s__law_cells_right) := ⟨rfl, rfl, rfl, by decide +kernel, rfl, by decide +kernel, by decide +kernel⟩
def m__law_cells_right : Rho → SOut :=
    (sSeq (sFor (.nm 2) (iRng (aCons (eC (.int 3)) aNil)) (sFor (.nm 6) (iRng (aCons (eC (.int 2)) aNil)) (sSeq (sPar3 false false false 9 10 11 (eOp pIx (eLst (aCons (eC (.str "begin")) (aCons (eC (.str "good")) (aCons (eC (.str "bad")) aNil)))) (eV 2)) (eOp pIx (eLst (aCons (eC (.str "new")) (aCons (eC (.str "going")) aNil))) (eV 6)) (eCallP 1 0 d__law_cell aNil))
    (sSeq (sIf (eCmp qNe (eCall 3 d_cell_of (aCons (eV 1) (aCons (eV 9) (aCons (eV 10) aNil)))) (eOp pIx (eOp pIx (eV 1) (eOp pAdd (eC (.int 1)) (eV 2))) (eV 6))) (sRet (eC (.bool false))) sNil)
    (sSeq (sSet 8 (eIf (eCmp qEq (eV 6) (eC (.int 0))) (eTup (aCons (eV 11) (aCons (eOp pIx (eOp pIx (eV 1) (eOp pAdd (eC (.int 1)) (eV 2))) (eC (.int 1))) aNil))) (eTup (aCons (eOp pIx (eOp pIx (eV 1) (eOp pAdd (eC (.int 1)) (eV 2))) (eC (.int 0))) (aCons (eV 11) aNil)))))
    (sIf (eCmp qNe (eFun pRepr (aCons (eCall 4 d_with_cell (aCons (eV 1) (aCons (eV 9) (aCons (eV 10) (aCons (eV 11) aNil))))) aNil)) (eFun pRepr (aCons (eOp pAdd (eOp pAdd (eSl (eV 1) none (some (eOp pAdd (eC (.int 1)) (eV 2)))) (eTup (aCons (eV 8) aNil))) (eSl (eV 1) (some (eOp pAdd (eC (.int 2)) (eV 2))) none)) aNil))) (sRet (eC (.bool false))) sNil))))))
    (sSeq (sSet 3 (eOp pAdd (eSl (eV 1) none (some (eC (.int 3)))) (eTup (aCons (eTup (aCons (eTup (aCons (eC (.str "lost")) (aCons (eC (.str "")) aNil))) (aCons (eTup (aCons (eC (.str "new")) (aCons (eC (.str "")) aNil))) aNil))) aNil))))
    (sSeq (sSet 4 (eLst (aCons (eC .none) (aCons (eTup aNil) (aCons (eLst aNil) (aCons (eC (.dict [])) (aCons (eSl (eV 1) none (some (eC (.int 3)))) (aCons (eListOf (aCons (eV 1) aNil)) (aCons (eOp pMul (eTup (aCons (eC (.str "")) aNil)) (eC (.int 4))) (aCons (eOp pAdd (eV 1) (eSl (eV 1) (some (eC (.int 1))) (some (eC (.int 2))))) (aCons (eOp pAdd (eTup (aCons (eC .none) aNil)) (eSl (eV 1) (some (eC (.int 1))) none)) (aCons (eV 3) aNil))))))))))))
    (sSeq (sFor (.nm 5) (iLst (eV 4)) (sSeq (sSetO 7 (eLst (aCons (eWord nsX r__law_word (eCall 3 d_cell_of (aCons (eV 5) (aCons (eC .none) (aCons (eC .none) aNil))))) (aCons (eC (.str "")) aNil))))
    (sSeq (sSetIx 7 (eC (.int 1)) (eWord nsX r__law_word (eCall 4 d_with_cell (aCons (eV 5) (aCons (eC .none) (aCons (eC .none) (aCons (eC .none) aNil)))))))
    (sIf (eCmp qNe (eV 7) (eOp pMul (eLst (aCons (eC (.str "table")) aNil)) (eC (.int 2)))) (sRet (eC (.bool false))) sNil))))
    (sSeq (sFor (.nm 5) (iTpl (eTup (aCons (eC .none) (aCons (eC (.str "end")) (aCons (eC (.str "write")) (aCons (eC (.str "stop")) (aCons (eC (.str "")) (aCons (eC (.int 0)) (aCons (eLst aNil) (aCons (eTup (aCons (eC (.str "begin")) aNil)) (aCons (eC (.str "Begin")) (aCons (eC (.str "bad ")) aNil)))))))))))) (sSeq (sSetO 7 (eLst (aCons (eWord nsX r__law_word (eCall 3 d_cell_of (aCons (eV 1) (aCons (eV 5) (aCons (eC .none) aNil))))) (aCons (eC (.str "")) aNil))))
    (sSeq (sSetIx 7 (eC (.int 1)) (eWord nsX r__law_word (eCall 4 d_with_cell (aCons (eV 1) (aCons (eV 5) (aCons (eC .none) (aCons (eC .none) aNil)))))))
    (sIf (eCmp qNe (eV 7) (eOp pMul (eLst (aCons (eC (.str "event")) aNil)) (eC (.int 2)))) (sRet (eC (.bool false))) sNil))))
    (sSeq (sFor (.nm 5) (iTpl (eTup (aCons (eC .none) (aCons (eC (.str "kept")) (aCons (eC (.str "gone")) (aCons (eC (.str "lost")) (aCons (eC (.str "")) (aCons (eC (.int 0)) (aCons (eLst aNil) (aCons (eTup (aCons (eC (.str "new")) aNil)) (aCons (eC (.str "New")) (aCons (eC (.dict [])) aNil)))))))))))) (sSeq (sSetO 7 (eLst (aCons (eWord nsX r__law_word (eCall 3 d_cell_of (aCons (eV 1) (aCons (eC (.str "good")) (aCons (eV 5) aNil))))) (aCons (eC (.str "")) aNil))))
    (sSeq (sSetIx 7 (eC (.int 1)) (eWord nsX r__law_word (eCall 4 d_with_cell (aCons (eV 1) (aCons (eC (.str "good")) (aCons (eV 5) (aCons (eC .none) aNil)))))))
    (sIf (eCmp qNe (eV 7) (eOp pMul (eLst (aCons (eC (.str "place")) aNil)) (eC (.int 2)))) (sRet (eC (.bool false))) sNil))))
    (sSeq (sSet 4 (eLst (aCons (eC .none) (aCons (eTup aNil) (aCons (eC (.str "new")) (aCons (eTup (aCons (eC (.str "new")) aNil)) (aCons (eLst (aCons (eC (.str "new")) (aCons (eC (.str "")) aNil))) (aCons (eTup (aCons (eC (.str "lost")) (aCons (eC (.str "")) aNil))) (aCons (eTup (aCons (eC (.str "new")) (aCons (eC (.str "maybe")) aNil))) (aCons (eTup (aCons (eC (.str "new")) (aCons (eC .none) aNil))) (aCons (eTup (aCons (eC (.str "new")) (aCons (eC (.str "")) (aCons (eC (.str "")) aNil)))) aNil)))))))))))
    (sRet (eFun pAll (aCons (eLc (.nm 5) (iLst (eV 4)) eYes (eCmp qEq (eWord nsX r__law_word (eCall 4 d_with_cell (aCons (eV 1) (aCons (eC (.str "bad")) (aCons (eC (.str "new")) (aCons (eV 5) aNil)))))) (eC (.str "cell"))) [5]) aNil))))))))))
def d__law_cells_right := fnP 12 m__law_cells_right
theorem cal__law_cells_right (D : DefF K mg "_law_cells_right" s__law_cells_right) (T : Fx P K mg) (c__law_cell : CalP P w K mg base 3 "_law_cell" 1 d__law_cell) (c_cell_of : CalD P w K mg base 6 "cell_of" 3 d_cell_of) (c_with_cell : CalD P w K mg base 6 "with_cell" 4 d_with_cell) (c__law_word : WordD P w K mg base "_law_word" nsX r__law_word) (LG : LamFor K mg base "_law_cells_right") : CalP P w K mg base 9 "_law_cells_right" 2 d__law_cells_right := by
  obtain ⟨f, fd, F, hm⟩ := D.ex
  refine ⟨f, fd, ["pen", "table"], fn_pen (N := N__law_cells_right) F sc__law_cells_right rfl fun cdv A outer s H E hcd hr hgd => ?_, hm, F.kp, F.binds fun _ _ _ _ _ _ us hl => match us, hl with | [_, _], _ => rfl⟩
  obtain ⟨_, _, rfl, hTB, hinT, honly⟩ := LG.ex f cdv hcd
  exact (sb_cons (ss_for (t := (.nm 2)) (passes_of rfl) rfl (si_range rfl T.b_range (sa_cons se_int sa_nil)) (sg_nm (i := 2) sc__law_cells_right.nd rfl (by first | exact Or.inl rfl | exact Or.inr rfl)) (sb_one (ss_for (t := (.nm 6)) (passes_of rfl) rfl (si_range rfl T.b_range (sa_cons se_int sa_nil)) (sg_nm (i := 6) sc__law_cells_right.nd rfl (by first | exact Or.inl rfl | exact Or.inr rfl)) (sb_cons (ss_par_ddd (i := 9) (j := 10) (l := 11) (hc := rfl) (hN := sc__law_cells_right.nd) (hi := rfl) (hj := rfl) (hl := rfl) (hij := by decide) (hil := by decide) (hjl := by decide) (hx := rfl) (hy := rfl) (hz := rfl) (h1 := (se_ix o_ix d2_rD (se_lst (sa_cons se_str (sa_cons se_str (sa_cons se_str sa_nil)))) (se_var (i := 2)))) (h2 := (se_ix o_ix d2_rD (se_lst (sa_cons se_str (sa_cons se_str sa_nil))) (se_var (i := 6)))) (h3 := (se_callP (i := 0) c__law_cell hgd (hr.mono (by decide)) rfl (takes_of rfl rfl rfl rfl) sa_nil)))
    (sb_cons (ss_if (st_cmp (q_ne hr.units) dc_rD (se_call c_cell_of hgd (hr.mono (by decide)) rfl (takes_of rfl rfl rfl rfl) (sa_cons (se_var (i := 1)) (sa_cons (se_var (i := 9)) (sa_cons (se_var (i := 10)) sa_nil)))) (se_ix o_ix d2_rD (se_ix o_ix d2_rD (se_var (i := 1)) (se_op o_add d2_rD se_int (se_var (i := 2)))) (se_var (i := 6))) (nomark _)) (sb_one (ss_ret se_bl)) sb_nil)
    (sb_cons (ss_set (i := 8) sc__law_cells_right.nd rfl (by first | exact Or.inl rfl | exact Or.inr rfl) (se_if (st_cmp (q_eq hr.units) dc_rD (se_var (i := 6)) se_int (nomark _)) (se_tup (sa_cons (se_var (i := 11)) (sa_cons (se_ix o_ix d2_rD (se_ix o_ix d2_rD (se_var (i := 1)) (se_op o_add d2_rD se_int (se_var (i := 2)))) se_int) sa_nil))) (se_tup (sa_cons (se_ix o_ix d2_rD (se_ix o_ix d2_rD (se_var (i := 1)) (se_op o_add d2_rD se_int (se_var (i := 2)))) se_int) (sa_cons (se_var (i := 11)) sa_nil)))))
    (sb_one (ss_if (st_cmp (q_ne hr.units) dc_rD (se_callB (o_repr hgd hr.units) dn_rD rfl T.b_repr (by decide +kernel) (sa_cons (se_call c_with_cell hgd (hr.mono (by decide)) rfl (takes_of rfl rfl rfl rfl) (sa_cons (se_var (i := 1)) (sa_cons (se_var (i := 9)) (sa_cons (se_var (i := 10)) (sa_cons (se_var (i := 11)) sa_nil))))) sa_nil)) (se_callB (o_repr hgd hr.units) dn_rD rfl T.b_repr (by decide +kernel) (sa_cons (se_op o_add d2_rD (se_op o_add d2_rD (se_sl (se_var (i := 1)) so_none (so_some (se_op o_add d2_rD se_int (se_var (i := 2))))) (se_tup (sa_cons (se_var (i := 8)) sa_nil))) (se_sl (se_var (i := 1)) (so_some (se_op o_add d2_rD se_int (se_var (i := 2)))) so_none)) sa_nil)) (nomark _)) (sb_one (ss_ret se_bl)) sb_nil))))))))
    (sb_cons (ss_set (i := 3) sc__law_cells_right.nd rfl (by first | exact Or.inl rfl | exact Or.inr rfl) (se_op o_add d2_rD (se_sl (se_var (i := 1)) so_none (so_some se_int)) (se_tup (sa_cons (se_tup (sa_cons (se_tup (sa_cons se_str (sa_cons se_str sa_nil))) (sa_cons (se_tup (sa_cons se_str (sa_cons se_str sa_nil))) sa_nil))) sa_nil))))
    (sb_cons (ss_set (i := 4) sc__law_cells_right.nd rfl (by first | exact Or.inl rfl | exact Or.inr rfl) (se_lst (sa_cons se_non (sa_cons (se_tup sa_nil) (sa_cons (se_lst sa_nil) (sa_cons se_dict0 (sa_cons (se_sl (se_var (i := 1)) so_none (so_some se_int)) (sa_cons (se_of_sl gives_listOf (sl_listOf rfl T.b_list (by decide +kernel) (sa_cons (se_var (i := 1)) sa_nil))) (sa_cons (se_op o_mul d2_rD (se_tup (sa_cons se_str sa_nil)) se_int) (sa_cons (se_op o_add d2_rD (se_var (i := 1)) (se_sl (se_var (i := 1)) (so_some se_int) (so_some se_int))) (sa_cons (se_op o_add d2_rD (se_tup (sa_cons se_non sa_nil)) (se_sl (se_var (i := 1)) (so_some se_int) so_none)) (sa_cons (se_var (i := 3)) sa_nil))))))))))))
    (sb_cons (ss_for (t := (.nm 5)) (passes_of rfl) rfl (si_list (se_var (i := 4))) (sg_nm (i := 5) sc__law_cells_right.nd rfl (by first | exact Or.inl rfl | exact Or.inr rfl)) (sb_cons (ss_setO gives_lst (by decide) sc__law_cells_right.nd rfl (by first | exact Or.inl rfl | exact Or.inr rfl) (sl_lst (sa_cons (se_word (k := 6) c__law_word rfl hTB rfl hinT honly (hr.mono (by decide)) hgd (LamX.lamS_by rfl) rfl (fun _ _ _ _ _ => rfl) (fun _ _ _ _ _ _ _ hr hgd => (se_call c_cell_of hgd (hr.mono (by decide)) rfl (takes_of rfl rfl rfl rfl) (sa_cons (se_var (i := 5)) (sa_cons se_non (sa_cons se_non sa_nil)))))) (sa_cons se_str sa_nil))))
    (sb_cons (ss_setIx (i := 7) (se_word (k := 6) c__law_word rfl hTB rfl hinT honly (hr.mono (by decide)) hgd (LamX.lamS_by rfl) rfl (fun _ _ _ _ _ => rfl) (fun _ _ _ _ _ _ _ hr hgd => (se_call c_with_cell hgd (hr.mono (by decide)) rfl (takes_of rfl rfl rfl rfl) (sa_cons (se_var (i := 5)) (sa_cons se_non (sa_cons se_non (sa_cons se_non sa_nil))))))) se_int)
    (sb_one (ss_if (st_cmp (q_ne hr.units) dc_rD (se_var (i := 7)) (se_op o_mul d2_rD (se_lst (sa_cons se_str sa_nil)) se_int) (nomark _)) (sb_one (ss_ret se_bl)) sb_nil)))))
    (sb_cons (ss_for (t := (.nm 5)) (passes_of rfl) rfl (si_tup (se_tup (sa_cons se_non (sa_cons se_str (sa_cons se_str (sa_cons se_str (sa_cons se_str (sa_cons se_int (sa_cons (se_lst sa_nil) (sa_cons (se_tup (sa_cons se_str sa_nil)) (sa_cons se_str (sa_cons se_str sa_nil)))))))))))) (sg_nm (i := 5) sc__law_cells_right.nd rfl (by first | exact Or.inl rfl | exact Or.inr rfl)) (sb_cons (ss_setO gives_lst (by decide) sc__law_cells_right.nd rfl (by first | exact Or.inl rfl | exact Or.inr rfl) (sl_lst (sa_cons (se_word (k := 6) c__law_word rfl hTB rfl hinT honly (hr.mono (by decide)) hgd (LamX.lamS_by rfl) rfl (fun _ _ _ _ _ => rfl) (fun _ _ _ _ _ _ _ hr hgd => (se_call c_cell_of hgd (hr.mono (by decide)) rfl (takes_of rfl rfl rfl rfl) (sa_cons (se_var (i := 1)) (sa_cons (se_var (i := 5)) (sa_cons se_non sa_nil)))))) (sa_cons se_str sa_nil))))
    (sb_cons (ss_setIx (i := 7) (se_word (k := 6) c__law_word rfl hTB rfl hinT honly (hr.mono (by decide)) hgd (LamX.lamS_by rfl) rfl (fun _ _ _ _ _ => rfl) (fun _ _ _ _ _ _ _ hr hgd => (se_call c_with_cell hgd (hr.mono (by decide)) rfl (takes_of rfl rfl rfl rfl) (sa_cons (se_var (i := 1)) (sa_cons (se_var (i := 5)) (sa_cons se_non (sa_cons se_non sa_nil))))))) se_int)
    (sb_one (ss_if (st_cmp (q_ne hr.units) dc_rD (se_var (i := 7)) (se_op o_mul d2_rD (se_lst (sa_cons se_str sa_nil)) se_int) (nomark _)) (sb_one (ss_ret se_bl)) sb_nil)))))
    (sb_cons (ss_for (t := (.nm 5)) (passes_of rfl) rfl (si_tup (se_tup (sa_cons se_non (sa_cons se_str (sa_cons se_str (sa_cons se_str (sa_cons se_str (sa_cons se_int (sa_cons (se_lst sa_nil) (sa_cons (se_tup (sa_cons se_str sa_nil)) (sa_cons se_str (sa_cons se_dict0 sa_nil)))))))))))) (sg_nm (i := 5) sc__law_cells_right.nd rfl (by first | exact Or.inl rfl | exact Or.inr rfl)) (sb_cons (ss_setO gives_lst (by decide) sc__law_cells_right.nd rfl (by first | exact Or.inl rfl | exact Or.inr rfl) (sl_lst (sa_cons (se_word (k := 6) c__law_word rfl hTB rfl hinT honly (hr.mono (by decide)) hgd (LamX.lamS_by rfl) rfl (fun _ _ _ _ _ => rfl) (fun _ _ _ _ _ _ _ hr hgd => (se_call c_cell_of hgd (hr.mono (by decide)) rfl (takes_of rfl rfl rfl rfl) (sa_cons (se_var (i := 1)) (sa_cons se_str (sa_cons (se_var (i := 5)) sa_nil)))))) (sa_cons se_str sa_nil))))
    (sb_cons (ss_setIx (i := 7) (se_word (k := 6) c__law_word rfl hTB rfl hinT honly (hr.mono (by decide)) hgd (LamX.lamS_by rfl) rfl (fun _ _ _ _ _ => rfl) (fun _ _ _ _ _ _ _ hr hgd => (se_call c_with_cell hgd (hr.mono (by decide)) rfl (takes_of rfl rfl rfl rfl) (sa_cons (se_var (i := 1)) (sa_cons se_str (sa_cons (se_var (i := 5)) (sa_cons se_non sa_nil))))))) se_int)
    (sb_one (ss_if (st_cmp (q_ne hr.units) dc_rD (se_var (i := 7)) (se_op o_mul d2_rD (se_lst (sa_cons se_str sa_nil)) se_int) (nomark _)) (sb_one (ss_ret se_bl)) sb_nil)))))
    (sb_cons (ss_set (i := 4) sc__law_cells_right.nd rfl (by first | exact Or.inl rfl | exact Or.inr rfl) (se_lst (sa_cons se_non (sa_cons (se_tup sa_nil) (sa_cons se_str (sa_cons (se_tup (sa_cons se_str sa_nil)) (sa_cons (se_lst (sa_cons se_str (sa_cons se_str sa_nil))) (sa_cons (se_tup (sa_cons se_str (sa_cons se_str sa_nil))) (sa_cons (se_tup (sa_cons se_str (sa_cons se_str sa_nil))) (sa_cons (se_tup (sa_cons se_str (sa_cons se_non sa_nil))) (sa_cons (se_tup (sa_cons se_str (sa_cons se_str (sa_cons se_str sa_nil)))) sa_nil)))))))))))
    (sb_one (ss_ret (se_callB (o_all rfl) dn_rD rfl T.b_all (by decide +kernel) (sa_cons (se_lc (t := (.nm 5)) (own := [("odd", 5)]) (ft := eYes) (fe := (eCmp qEq (eWord nsX r__law_word (eCall 4 d_with_cell (aCons (eV 1) (aCons (eC (.str "bad")) (aCons (eC (.str "new")) (aCons (eV 5) aNil)))))) (eC (.str "cell")))) rfl sc__law_cells_right.nd (si_list (se_var (i := 4))) (blkOk_by (own := [("odd", 5)]) (N := N__law_cells_right) (sc := defScope s__law_cells_right) (by decide +kernel)) (fun _ _ _ _ _ => (sg_nm (i := 5) sc__law_cells_right.nd rfl (by first | exact Or.inl rfl | exact Or.inr rfl))) (fun _ _ _ _ _ => pts_yes) (fun _ _ _ _ _ => (se_cmp (q_eq hr.units) dc_rD (se_word (k := 6) c__law_word rfl hTB rfl hinT honly (hr.mono (by decide)) hgd (LamX.lamS_by rfl) rfl (fun _ _ _ _ _ => rfl) (fun _ _ _ _ _ _ _ hr hgd => (se_call c_with_cell hgd (hr.mono (by decide)) rfl (takes_of rfl rfl rfl rfl) (sa_cons (se_var (i := 1)) (sa_cons se_str (sa_cons se_str (sa_cons (se_var (i := 5)) sa_nil))))))) se_str (nomark _)))) sa_nil)))))))))))
/-! law -/
abbrev s_law : Stmt := topS 42
abbrev N_law : List Str := ["script", "pen", "lap", "odds", "log", "held", "more", "thing", "seen", "cell", "odd"]
theorem sc_law : FnScope N_law ["script"] (defScope s_law) := ⟨rfl, rfl, rfl, by decide +kernel, rfl, by decide +kernel, by decide +kernel⟩
def m_law : Rho → SOut :=
    (sSeq (sFor (.nm 2) (iRng (aCons (eC (.int 5)) aNil)) (sSeq (sSet 4 (eCallP 2 1 d__law_log (aCons (eC (.int 6)) aNil)))
    (sSeq (sSet 5 (eFun pRepr (aCons (eV 4) aNil)))
    (sSeq (sIf (eOr (eCmp qIsNotB (eCall 1 d_is_log (aCons (eV 4) aNil)) (eC (.bool true))) (eOr (eCmp qIsNotB (eCall 1 d_is_table (aCons (eOp pIx (eV 4) (eC (.int 0))) aNil)) (eC (.bool true))) (eNot (eTru (eCallP 2 1 d__law_cells_right (aCons (eOp pIx (eV 4) (eC (.int 0))) aNil)))))) (sRet (eC (.bool false))) sNil)
    (sSeq (sFor (.nm 6) (iRng (aCons (eC (.int 10)) aNil)) (sSeq (sSet 7 (eCallP 2 1 d__law_bent_log (aCons (eV 4) aNil)))
    (sSeq (sSet 8 (eFun pRepr (aCons (eV 7) aNil)))
    (sSeq (sIf (eOr (eCmp qNe (eFun pRepr (aCons (eCall 1 d_is_log (aCons (eV 7) aNil)) aNil)) (eFun pRepr (aCons (eCall 1 d__law_is_log (aCons (eV 7) aNil)) aNil))) (eCmp qNe (eFun pRepr (aCons (eV 7) aNil)) (eV 8))) (sRet (eC (.bool false))) sNil)
    (sSeq (sSet 9 (eCallP 2 1 d__law_bent_cell (aCons (eCallP 1 1 d__law_cell aNil) aNil)))
    (sSeq (sIf (eCmp qNe (eFun pRepr (aCons (eLst (aCons (eCall 1 d_is_cell (aCons (eV 9) aNil)) (aCons (eCall 1 d_is_cell (aCons (eCallP 1 1 d__law_cell aNil) aNil)) aNil))) aNil)) (eFun pRepr (aCons (eLst (aCons (eCall 1 d__law_is_cell (aCons (eV 9) aNil)) (aCons (eC (.bool true)) aNil))) aNil))) (sRet (eC (.bool false))) sNil)
    (sIf (eAnd (eTru (eIsa "tuple" (eV 7))) (eAnd (eCmp qNeT (eV 7) (eTup aNil)) (eCmp qNe (eFun pRepr (aCons (eCall 1 d_is_table (aCons (eOp pIx (eV 7) (eC (.int 0))) aNil)) aNil)) (eFun pRepr (aCons (eCall 1 d__law_is_table (aCons (eOp pIx (eV 7) (eC (.int 0))) aNil)) aNil))))) (sRet (eC (.bool false))) sNil)))))))
    (sIf (eCmp qNe (eFun pRepr (aCons (eV 4) aNil)) (eV 5)) (sRet (eC (.bool false))) sNil))))))
    (sSeq (sSet 3 (eLst (aCons (eC .none) (aCons (eTup aNil) (aCons (eLst aNil) (aCons (eC (.dict [])) (aCons (eC (.int 0)) (aCons (eC (.str "table")) (aCons (eC (.bool true)) aNil)))))))))
    (sRet (eNot (eOk (eFun pAny (aCons (eLc (.nm 10) (iLst (eV 3)) eYes (eOr (eOk (eCall 1 d_is_cell (aCons (eV 10) aNil))) (eOr (eOk (eCall 1 d_is_table (aCons (eV 10) aNil))) (eCall 1 d_is_log (aCons (eV 10) aNil)))) [10]) aNil)))))))
def okLaw (ns : List Int) : Prop := ∃ ρ, m_law (lawStart 11 1 60 ns) = .rt (.bool true) ρ
theorem cal_law (D : DefF K mg "law" s_law) (T : Fx P K mg) (c__law_log : CalP P w K mg base 4 "_law_log" 2 d__law_log) (c__law_cells_right : CalP P w K mg base 9 "_law_cells_right" 2 d__law_cells_right) (c_is_table : CalD P w K mg base 4 "is_table" 1 d_is_table) (c_is_log : CalD P w K mg base 5 "is_log" 1 d_is_log) (c__law_bent_log : CalP P w K mg base 4 "_law_bent_log" 2 d__law_bent_log) (c__law_is_log : CalD P w K mg base 3 "_law_is_log" 1 d__law_is_log) (c__law_bent_cell : CalP P w K mg base 3 "_law_bent_cell" 2 d__law_bent_cell) (c__law_cell : CalP P w K mg base 3 "_law_cell" 1 d__law_cell) (c_is_cell : CalD P w K mg base 2 "is_cell" 1 d_is_cell) (c__law_is_cell : CalD P w K mg base 1 "_law_is_cell" 1 d__law_is_cell) (c__law_is_table : CalD P w K mg base 2 "_law_is_table" 1 d__law_is_table) (c__law_pen : PenD P w K mg base 1 "_law_pen" 60) : ∃ f fd, mg "law" = some (.ref f) ∧ FnG P w K mg base (L2.CX P w) 10 f fd ["script"] (spLaw K okLaw) ∧ Binds K fd ["script"] [] := by
  obtain ⟨f, fd, F, hm⟩ := D.ex
  refine ⟨f, fd, hm, fn_law (j := 1) (z := "pen") F sc_law rfl (Or.inl rfl) rfl rfl rfl (c__law_pen.mono (by decide)) rfl rfl rfl rfl (fun cdv A outer s H E hcd hr hgd => ?_), F.binds fun _ _ _ _ _ _ us hl => match us, hl with | [_], _ => rfl⟩
  exact (sb_cons (ss_for (t := (.nm 2)) (passes_of rfl) rfl (si_range rfl T.b_range (sa_cons se_int sa_nil)) (sg_nm (i := 2) sc_law.nd rfl (by first | exact Or.inl rfl | exact Or.inr rfl)) (sb_cons (ss_set (i := 4) sc_law.nd rfl (by first | exact Or.inl rfl | exact Or.inr rfl) (se_callP (i := 1) c__law_log hgd (hr.mono (by decide)) rfl (takes_of rfl rfl rfl rfl) (sa_cons se_int sa_nil)))
    (sb_cons (ss_set (i := 5) sc_law.nd rfl (by first | exact Or.inl rfl | exact Or.inr rfl) (se_callB (o_repr hgd hr.units) dn_rD rfl T.b_repr (by decide +kernel) (sa_cons (se_var (i := 4)) sa_nil)))
    (sb_cons (ss_if (PW.pt (st_or (st_cmp q_isNotB dc_rD (se_call c_is_log hgd (hr.mono (by decide)) rfl (takes_of rfl rfl rfl rfl) (sa_cons (se_var (i := 4)) sa_nil)) se_bl (nomark _)) (st_or (st_cmp q_isNotB dc_rD (se_call c_is_table hgd (hr.mono (by decide)) rfl (takes_of rfl rfl rfl rfl) (sa_cons (se_ix o_ix d2_rD (se_var (i := 4)) se_int) sa_nil)) se_bl (nomark _)) (st_or1 (st_not (st_tru (se_callP (i := 1) c__law_cells_right hgd (hr.mono (by decide)) rfl (takes_of rfl rfl rfl rfl) (sa_cons (se_ix o_ix d2_rD (se_var (i := 4)) se_int) sa_nil)))))))) (sb_one (ss_ret se_bl)) sb_nil)
    (sb_cons (ss_for (t := (.nm 6)) (passes_of rfl) rfl (si_range rfl T.b_range (sa_cons se_int sa_nil)) (sg_nm (i := 6) sc_law.nd rfl (by first | exact Or.inl rfl | exact Or.inr rfl)) (sb_cons (ss_set (i := 7) sc_law.nd rfl (by first | exact Or.inl rfl | exact Or.inr rfl) (se_callP (i := 1) c__law_bent_log hgd (hr.mono (by decide)) rfl (takes_of rfl rfl rfl rfl) (sa_cons (se_var (i := 4)) sa_nil)))
    (sb_cons (ss_set (i := 8) sc_law.nd rfl (by first | exact Or.inl rfl | exact Or.inr rfl) (se_callB (o_repr hgd hr.units) dn_rD rfl T.b_repr (by decide +kernel) (sa_cons (se_var (i := 7)) sa_nil)))
    (sb_cons (ss_if (PW.pt (st_or (st_cmp (q_ne hr.units) dc_rD (se_callB (o_repr hgd hr.units) dn_rD rfl T.b_repr (by decide +kernel) (sa_cons (se_call c_is_log hgd (hr.mono (by decide)) rfl (takes_of rfl rfl rfl rfl) (sa_cons (se_var (i := 7)) sa_nil)) sa_nil)) (se_callB (o_repr hgd hr.units) dn_rD rfl T.b_repr (by decide +kernel) (sa_cons (se_call c__law_is_log hgd (hr.mono (by decide)) rfl (takes_of rfl rfl rfl rfl) (sa_cons (se_var (i := 7)) sa_nil)) sa_nil)) (nomark _)) (st_or1 (st_cmp (q_ne hr.units) dc_rD (se_callB (o_repr hgd hr.units) dn_rD rfl T.b_repr (by decide +kernel) (sa_cons (se_var (i := 7)) sa_nil)) (se_var (i := 8)) (nomark _))))) (sb_one (ss_ret se_bl)) sb_nil)
    (sb_cons (ss_set (i := 9) sc_law.nd rfl (by first | exact Or.inl rfl | exact Or.inr rfl) (se_callP (i := 1) c__law_bent_cell hgd (hr.mono (by decide)) rfl (takes_of rfl rfl rfl rfl) (sa_cons (se_callP (i := 1) c__law_cell hgd (hr.mono (by decide)) rfl (takes_of rfl rfl rfl rfl) sa_nil) sa_nil)))
    (sb_cons (ss_if (st_cmp (q_ne hr.units) dc_rD (se_callB (o_repr hgd hr.units) dn_rD rfl T.b_repr (by decide +kernel) (sa_cons (se_lst (sa_cons (se_call c_is_cell hgd (hr.mono (by decide)) rfl (takes_of rfl rfl rfl rfl) (sa_cons (se_var (i := 9)) sa_nil)) (sa_cons (se_call c_is_cell hgd (hr.mono (by decide)) rfl (takes_of rfl rfl rfl rfl) (sa_cons (se_callP (i := 1) c__law_cell hgd (hr.mono (by decide)) rfl (takes_of rfl rfl rfl rfl) sa_nil) sa_nil)) sa_nil))) sa_nil)) (se_callB (o_repr hgd hr.units) dn_rD rfl T.b_repr (by decide +kernel) (sa_cons (se_lst (sa_cons (se_call c__law_is_cell hgd (hr.mono (by decide)) rfl (takes_of rfl rfl rfl rfl) (sa_cons (se_var (i := 9)) sa_nil)) (sa_cons se_bl sa_nil))) sa_nil)) (nomark _)) (sb_one (ss_ret se_bl)) sb_nil)
    (sb_one (ss_if (PW.pt (st_and (st_tru (se_isa (T := "tuple") (se_var (i := 7)) rfl T.b_isinstance rfl T.b_tuple (by decide +kernel))) (st_and (st_cmp (q_neT hr.units) dc_rD (se_var (i := 7)) (se_tup sa_nil) (nomark _)) (st_and1 (st_cmp (q_ne hr.units) dc_rD (se_callB (o_repr hgd hr.units) dn_rD rfl T.b_repr (by decide +kernel) (sa_cons (se_call c_is_table hgd (hr.mono (by decide)) rfl (takes_of rfl rfl rfl rfl) (sa_cons (se_ix o_ix d2_rD (se_var (i := 7)) se_int) sa_nil)) sa_nil)) (se_callB (o_repr hgd hr.units) dn_rD rfl T.b_repr (by decide +kernel) (sa_cons (se_call c__law_is_table hgd (hr.mono (by decide)) rfl (takes_of rfl rfl rfl rfl) (sa_cons (se_ix o_ix d2_rD (se_var (i := 7)) se_int) sa_nil)) sa_nil)) (nomark _)))))) (sb_one (ss_ret se_bl)) sb_nil))))))))
    (sb_one (ss_if (st_cmp (q_ne hr.units) dc_rD (se_callB (o_repr hgd hr.units) dn_rD rfl T.b_repr (by decide +kernel) (sa_cons (se_var (i := 4)) sa_nil)) (se_var (i := 5)) (nomark _)) (sb_one (ss_ret se_bl)) sb_nil)))))))
    (sb_cons (ss_set (i := 3) sc_law.nd rfl (by first | exact Or.inl rfl | exact Or.inr rfl) (se_lst (sa_cons se_non (sa_cons (se_tup sa_nil) (sa_cons (se_lst sa_nil) (sa_cons se_dict0 (sa_cons se_int (sa_cons se_str (sa_cons se_bl sa_nil)))))))))
    (sb_one (ss_ret (se_not (se_callB (o_any rfl) dn_rD rfl T.b_any (by decide +kernel) (sa_cons (se_lc (t := (.nm 10)) (own := [("odd", 10)]) (ft := eYes) (fe := (eOr (eOk (eCall 1 d_is_cell (aCons (eV 10) aNil))) (eOr (eOk (eCall 1 d_is_table (aCons (eV 10) aNil))) (eCall 1 d_is_log (aCons (eV 10) aNil))))) rfl sc_law.nd (si_list (se_var (i := 3))) (blkOk_by (own := [("odd", 10)]) (N := N_law) (sc := defScope s_law) (by decide +kernel)) (fun _ _ _ _ _ => (sg_nm (i := 10) sc_law.nd rfl (by first | exact Or.inl rfl | exact Or.inr rfl))) (fun _ _ _ _ _ => pts_yes) (fun _ _ _ _ _ => (se_or (se_call c_is_cell hgd (hr.mono (by decide)) rfl takes0 (sa_cons (se_var (i := 10)) sa_nil)) (se_or (se_call c_is_table hgd (hr.mono (by decide)) rfl takes0 (sa_cons (se_var (i := 10)) sa_nil)) (se_one (se_call c_is_log hgd (hr.mono (by decide)) rfl takes0 (sa_cons (se_var (i := 10)) sa_nil))))))) sa_nil)))))))
end
end Lw
set_option Elab.async false
set_option autoImplicit false
set_option linter.all false
set_option maxRecDepth 100000
namespace Lw
open PySem PySem.Spec PyProof.Rows L2 Fl
theorem plain_ints : ∀ ns : List Int, PyData.plainAll (ns.map PyData.int) = true
  | [] => by simp [PyData.plainAll]
  | n :: ns => by simp [PyData.plainAll, PyData.plain, plain_ints ns]
theorem depth_ints : ∀ ns : List Int, PyData.depthAll (ns.map PyData.int) ≤ 1
  | [] => by simp [PyData.depthAll]
  | n :: ns => by have := depth_ints ns; simp [PyData.depthAll, PyData.depth]; omega
/-- the pen: the script's numbers, the index, what is left of the number -/
abbrev penD (c : List Int) (k v : Int) : List PyData := [.list (c.map .int), .int k, .int v]
theorem eqv_nil (c : List Int) : PyData.eqv (.list (c.map PyData.int)) (.list []) = decide (c = []) := by
  cases c <;> simp [PyData.eqv, PyData.eqvAll]
theorem atI_ints {c : List Int} {k : Int} (h0 : 0 ≤ k) (h1 : k < c.length) : atI (c.map PyData.int) k = some (.int (c.getD k.toNat 0)) := by
  have h2 : k.toNat < c.length := by omega
  unfold atI ixN
  simp [h0, h1, h2, List.getD]
theorem next_ok (c : List Int) (k v : Int) (hk : 0 ≤ k) (hk2 : k < 2 ^ 60) : ∃ n, 0 ≤ n ∧ d__law_next (penD c k v) [] = .ok (.int n) (penD c (k + 1) v) := by
  have d1 := depth_ints c
  have m1 : ∀ i : Int, mulOk i 1051 = true := fun i => by simp [mulOk]
  have hd : ok50 (.list (c.map PyData.int)) = true := by
    have d2 : PyData.depth (.list (c.map PyData.int)) = PyData.depthAll (c.map PyData.int) + 1 := by simp [PyData.depth] <;> omega
    simp only [ok50, PyData.plain, plain_ints, d2, Bool.true_and, decide_eq_true_eq]
    omega
  have hd0 : ok50 (.list []) = true := by simp [ok50, PyData.plain, PyData.plainAll, PyData.depth, PyData.depthAll]
  have m2 : ∀ i : Int, mulOk i 30103 = true := fun i => by simp [mulOk]
  have m3 : ∀ i : Int, mulOk i 70039 = true := fun i => by simp [mulOk]
  have m4 : ∀ i : Int, mulOk i 37 = true := fun i => by simp [mulOk]
  have m5 : ∀ i : Int, mulOk i 2147483587 = true := fun i => by simp [mulOk]
  have m6 : ∀ i : Int, mulOk i 2147483563 = true := fun i => by simp [mulOk]
  have mk : mulOk k k = true := by simp [mulOk]; omega
  have mm : ∀ (a b : Int), 0 < b → b < 2 ^ 60 → mulOk (a % b) (a % b) = true := fun a b h1 h2 => by
    have h3 := Int.emod_nonneg a (show b ≠ 0 by omega)
    have h4 := Int.emod_lt_of_pos a h1
    simp [mulOk]
    omega
  have nk : ¬ k < 0 := by omega
  have fin : ∀ (u w x : Int), 0 ≤ ((u % 2147483549) * 2147483587 + w % 2147483563) * 2147483563 + x % 2147483587 := fun u w x => by
    have h1 := Int.emod_nonneg u (show (2147483549 : Int) ≠ 0 by decide)
    have h2 := Int.emod_nonneg w (show (2147483563 : Int) ≠ 0 by decide)
    have h3 := Int.emod_nonneg x (show (2147483587 : Int) ≠ 0 by decide)
    omega
  unfold d__law_next fnP m__law_next
  by_cases hc : c = []
  · subst hc
    simp [stP, eIxO, ownAt, atI, ixN, sSetIx, eV, p_mul, m1, m2, m3, m4, m5, m6, mk, mm, p_mod, p_pow, hd0, qNe, eLst, PyData.eqv, PyData.eqvAll, nk, fin]
  · have hl : 0 < c.length := List.length_pos_iff.mpr hc
    have g0 := Int.emod_nonneg k (show (c.length : Int) ≠ 0 by omega)
    have g1 := Int.emod_lt_of_pos k (show (0 : Int) < c.length by omega)
    have at_ := atI_ints (c := c) g0 g1
    have lp : (0 : Int) < c.length := by omega
    generalize hx : c.getD (k % c.length).toNat 0 = x at at_
    have a0 : atI (penD c k v) 1 = some (.int k) := rfl
    have a1 : atI (penD c (k + 1) v) 0 = some (.list (c.map .int)) := rfl
    by_cases h1 : k < c.length
    · by_cases h2 : (1000000000000000000 : Int) ≤ x
      · refine ⟨x, by omega, ?_⟩
        simp [stP, eIxO, ownAt, ixN, sSetIx, eV, p_mul, m1, p_mod lp, p_pow, hd0, hd, qNe, eLst, hc, at_, h1, h2, eqv_nil, a0, a1]
      · simp [stP, eIxO, ownAt, ixN, sSetIx, eV, p_mul, m1, m2, m3, m4, m5, m6, mk, mm, p_mod lp, p_mod, p_pow, hd0, hd, qNe, eLst, hc, at_, h1, h2, eqv_nil, a0, a1, fin]
    · simp [stP, eIxO, ownAt, ixN, sSetIx, eV, p_mul, m1, m2, m3, m4, m5, m6, mk, mm, p_mod lp, p_mod, p_pow, hd0, hd, qNe, eLst, hc, at_, h1, eqv_nil, a0, a1, fin]
/-- a draw: some digit below, the pen goes on -/
theorem draw_ok (c : List Int) (k v u : Int) (hk : 0 ≤ k) (hk2 : k < 2 ^ 60) (hv : 0 ≤ v) (hu : 0 < u) (hu2 : u < 1073741824) :
    ∃ n k' v', 0 ≤ n ∧ n < u ∧ k ≤ k' ∧ k' ≤ k + 1 ∧ 0 ≤ v' ∧ d__law_draw (penD c k v) [.int u] = .ok (.int n) (penD c k' v') := by
  obtain ⟨n, n0, hn⟩ := next_ok c k v hk hk2
  have a2 : ∀ k v, atI (penD c k v) 2 = some (.int v) := fun k v => rfl
  unfold d__law_draw fnP m__law_draw
  by_cases h : v < u
  · refine ⟨n % u, k + 1, n / u, Int.emod_nonneg _ (by omega), Int.emod_lt_of_pos _ hu, by omega, by omega, Int.ediv_nonneg n0 (by omega), ?_⟩
    simp [stP, eIxO, ownAt, ixN, sSetIx, eV, a2, h, eCallP, hn, p_mod hu, p_fdiv ⟨hu, hu2⟩]
  · refine ⟨v % u, k, v / u, Int.emod_nonneg _ (by omega), Int.emod_lt_of_pos _ hu, by omega, by omega, Int.ediv_nonneg hv (by omega), ?_⟩
    simp [stP, eIxO, ownAt, ixN, sSetIx, eV, a2, h, p_mod hu, p_fdiv ⟨hu, hu2⟩]
end Lw
set_option Elab.async false
set_option autoImplicit false
set_option linter.all false
set_option maxRecDepth 100000
namespace Lw
open PySem PySem.Spec PyProof.Rows L2 Fl
def isPlace (d : PyData) : Prop := d = .str "new" ∨ d = .str "going" ∨ d = .str "kept" ∨ d = .str "gone"
def isWord (d : PyData) : Prop := d = .str "" ∨ d = .str "yes" ∨ d = .str "no"
def placeAt (n : Int) : PyData := if n = 0 then .str "new" else if n = 1 then .str "going" else if n = 2 then .str "kept" else .str "gone"
def wordAt (n : Int) : PyData := if n = 2 then .str "yes" else if n = 3 then .str "no" else .str ""
theorem place_is (n : Int) : isPlace (placeAt n) := by
  unfold placeAt isPlace
  split
  · exact .inl rfl
  · split
    · exact .inr (.inl rfl)
    · split
      · exact .inr (.inr (.inl rfl))
      · exact .inr (.inr (.inr rfl))
theorem word_is (n : Int) : isWord (wordAt n) := by
  unfold wordAt isWord
  split
  · exact .inr (.inl rfl)
  · split
    · exact .inr (.inr rfl)
    · exact .inl rfl
theorem small {n : Nat} (h : n ≤ 100) : n ≤ sizeLine := Nat.le_trans h (by decide +kernel)
theorem cell_ok (c : List Int) (k v : Int) (hk : 0 ≤ k) (hk2 : k < 2 ^ 59) (hv : 0 ≤ v) :
    ∃ p w k' v', isPlace p ∧ isWord w ∧ k ≤ k' ∧ k' ≤ k + 2 ∧ 0 ≤ v' ∧ d__law_cell (penD c k v) [] = .ok (.tuple [p, w]) (penD c k' v') := by
  obtain ⟨n, k1, v1, n0, n1, l1, l2, w1, e1⟩ := draw_ok c k v 4 hk (by omega) hv (by decide) (by decide)
  obtain ⟨m, k2, v2, m0, m1, l3, l4, w2, e2⟩ := draw_ok c k1 v1 4 (by omega) (by omega) w1 (by decide) (by decide)
  refine ⟨placeAt n, wordAt m, k2, v2, place_is n, word_is m, by omega, by omega, w2, ?_⟩
  unfold d__law_cell fnP m__law_cell
  have hn : n = 0 ∨ n = 1 ∨ n = 2 ∨ n = 3 := by omega
  have hm : m = 0 ∨ m = 1 ∨ m = 2 ∨ m = 3 := by omega
  rcases hn with rfl | rfl | rfl | rfl <;> rcases hm with rfl | rfl | rfl | rfl <;>
    simp [stP, eCallP, ownAt, e1, e2, eLst, eTup, eV, atI, ixN, small, placeAt, wordAt]
end Lw
set_option Elab.async false
set_option autoImplicit false
set_option linter.all false
set_option maxRecDepth 100000
namespace Lw
open PySem PySem.Spec PyProof.Rows L2 Fl
def okB (o : FOut) (b : Bool) : Bool := match o with
  | .ok (.bool c) => c == b
  | _ => false
theorem okB_eq {o : FOut} {b : Bool} (h : okB o b = true) : o = .ok (.bool b) := by
  unfold okB at h
  split at h
  · rename_i c
    have := beq_iff_eq.mp h
    subst this
    rfl
  · cases h
/-- both judges tell the same -/
def bothB (f g : List PyData → FOut) (x : PyData) : Bool := match f [x], g [x] with
  | .ok (.bool a), .ok (.bool b) => a == b
  | _, _ => false
theorem bothB_eq {f g : List PyData → FOut} {x : PyData} (h : bothB f g x = true) : ∃ b, f [x] = .ok (.bool b) ∧ g [x] = .ok (.bool b) := by
  unfold bothB at h
  split at h
  · rename_i a b e1 e2
    have := beq_iff_eq.mp h
    subst this
    exact ⟨a, e1, e2⟩
  · cases h
def placeL : List PyData := [.str "new", .str "going", .str "kept", .str "gone"]
def wordL : List PyData := [.str "", .str "yes", .str "no"]
def cellL : List PyData := placeL.flatMap fun p => wordL.map fun w => .tuple [p, w]
def cutT (x : PyData) : List PyData := match x with
  | .tuple xs => xs
  | _ => []
/-- the bent ones of a cell -/
def bentOf (c : PyData) : List PyData := match c with
  | .tuple [p, w] => [.tuple [.none, w], .tuple [.bool true, w], .tuple [.str "lost", w], .tuple [.str "none", w], .tuple [.str "New", w], .tuple [.str "", w], .tuple [.int 0, w], .tuple [.list [], w], .tuple [.tuple [.str "new"], w], .tuple [.str "stay", w], .tuple [.str "new ", w],
      .tuple [p, .str "maybe"], .tuple [p, .none], .tuple [p, .str "Yes"], .tuple [p, .bool true], .tuple [p, .list []], .tuple [p, .tuple [.str "yes"]], .tuple [p, .str "none"], .tuple [p, .int 1],
      .list [p, w], .tuple [p, w, .str ""], .tuple [p], .tuple [w, p], .none, .tuple [], .str "new", .tuple [c]]
  | _ => []
def bentL : List PyData := cellL.flatMap bentOf
def lean (d : PyData) : Bool := noExc d && d.plain && decide (d.depth ≤ 4) && decide (d.shown.length ≤ 100)
theorem cell_all : (cellL.all fun d => okB (d_is_cell [d]) true && okB (d__law_is_cell [d]) true && lean d) = true := by kernel_rfl
theorem bent_all : (bentL.all fun d => bothB d_is_cell d__law_is_cell d && lean d) = true := by kernel_rfl
end Lw
set_option Elab.async false
set_option autoImplicit false
set_option linter.all false
set_option maxRecDepth 100000
set_option maxHeartbeats 4000000
namespace Lw
open PySem PySem.Spec PyProof.Rows L2 Fl
theorem lts {n : Nat} (h : n ≤ 100) : n < sizeLine := Nat.lt_of_le_of_lt h (by decide +kernel)
theorem isaT {xs : List PyData} (h : noExcs xs = true) : isaD "tuple" (.tuple xs) = some true := by simp [isaD, noExc, h, PyData.isTuple]
theorem isaL {xs : List PyData} (h : noExcs xs = true) : isaD "tuple" (.list xs) = some false := by simp [isaD, noExc, h, PyData.isTuple]
theorem qEqI {i j : Int} : qEq (.int i) (.int j) = some (decide (i = j)) := by simp [qEq, PyData.eqv] <;> rfl
theorem qNeI {i j : Int} : qNe (.int i) (.int j) = some (!decide (i = j)) := by simp [qNe, PyData.eqv] <;> rfl
theorem tup_t {xs : List PyData} {n : Int} (h : noExcs xs = true) : d_is_tuple [.tuple xs, .int n] = .ok (.bool (decide ((xs.length : Int) = n))) := by
  unfold d_is_tuple fnD m_is_tuple
  simp [st0, stP, eV, eCall, eLc, iTpl, iLst, lcLoop, tset, tsets, wipeR, unw, noOwn, eYes, pAll, bools, truth, small, lts, eNot, eTru, eOk, eAnd, eOr, eSl, bndO, pSl, Fl.cutD, eTup, eLst, sFor, loop, sAsg, eIf, sPar2, putM, atI, ixN, eIsa, isaT h, qEqI]
theorem tup_l {xs : List PyData} {n : Int} (h : noExcs xs = true) : d_is_tuple [.list xs, .int n] = .ok (.bool false) := by
  unfold d_is_tuple fnD m_is_tuple
  simp [st0, stP, eV, eCall, eLc, iTpl, iLst, lcLoop, tset, tsets, wipeR, unw, noOwn, eYes, pAll, bools, truth, small, lts, eNot, eTru, eOk, eAnd, eOr, eSl, bndO, pSl, Fl.cutD, eTup, eLst, sFor, loop, sAsg, eIf, sPar2, putM, atI, ixN, eIsa, isaL h]
/-- the law's look at a row -/
def rowBody : Rho → SOut := (sIf (eOr (eNot (eTru (eIsa "tuple" (eV 1)))) (eOr (eCmp qNe (eFun pLen (aCons (eV 1) aNil)) (eC (.int 2))) (eNot (eTru (eFun pAll (aCons (eLc (.nm 2) (iTpl (eV 1)) eYes (eCall 1 d__law_is_cell (aCons (eV 2) aNil)) [2]) aNil)))))) (sRet (eC (.bool false))) sNil)
structure RowF (r : PyData) (b : Bool) : Prop where
  p : d_is_row [r] = .ok (.bool b)
  l : ∀ t, rowBody [some (.d t), some (.d r), none] = if b = true then .nx [some (.d t), some (.d r), none] else .rt (.bool false) [some (.d t), some (.d r), none]
  n : noExc r = true
/-- a cell, or what stands for one: both judges tell b -/
structure CelF (c : PyData) (b : Bool) : Prop where
  p : d_is_cell [c] = .ok (.bool b)
  l : d__law_is_cell [c] = .ok (.bool b)
  n : noExc c = true
theorem row2 {c d : PyData} {x y : Bool} (C : CelF c x) (D : CelF d y) : RowF (.tuple [c, d]) (x && y) := by
  have ns : noExcs [c, d] = true := by simp [noExcs, C.n, D.n]
  refine ⟨?_, fun t => ?_, by simp [noExc, ns]⟩
  · unfold d_is_row fnD m_is_row
    simp [st0, stP, eV, eCall, eLc, iTpl, iLst, lcLoop, tset, tsets, wipeR, unw, noOwn, eYes, pAll, bools, truth, small, lts, eNot, eTru, eOk, eAnd, eOr, eSl, bndO, pSl, Fl.cutD, eTup, eLst, sFor, loop, sAsg, eIf, sPar2, putM, atI, ixN, eIsa, tup_t ns, C.p, D.p]
  · unfold rowBody
    cases x <;> cases y <;> simp [st0, stP, eV, eCall, eLc, iTpl, iLst, lcLoop, tset, tsets, wipeR, unw, noOwn, eYes, pAll, bools, truth, small, lts, eNot, eTru, eOk, eAnd, eOr, eSl, bndO, pSl, Fl.cutD, eTup, eLst, sFor, loop, sAsg, eIf, sPar2, putM, atI, ixN, eIsa, isaT ns, qNeI, C.l, D.l]
theorem row_list {c d : PyData} {x y : Bool} (C : CelF c x) (D : CelF d y) : RowF (.list [c, d]) false := by
  have ns : noExcs [c, d] = true := by simp [noExcs, C.n, D.n]
  refine ⟨?_, fun t => ?_, by simp [noExc, ns]⟩
  · unfold d_is_row fnD m_is_row
    simp [st0, stP, eV, eCall, eLc, iTpl, iLst, lcLoop, tset, tsets, wipeR, unw, noOwn, eYes, pAll, bools, truth, small, lts, eNot, eTru, eOk, eAnd, eOr, eSl, bndO, pSl, Fl.cutD, eTup, eLst, sFor, loop, sAsg, eIf, sPar2, putM, atI, ixN, eIsa, tup_l ns]
  · unfold rowBody
    simp [st0, stP, eV, eCall, eLc, iTpl, iLst, lcLoop, tset, tsets, wipeR, unw, noOwn, eYes, pAll, bools, truth, small, lts, eNot, eTru, eOk, eAnd, eOr, eSl, bndO, pSl, Fl.cutD, eTup, eLst, sFor, loop, sAsg, eIf, sPar2, putM, atI, ixN, eIsa, isaL ns]
theorem row_one {c : PyData} {x : Bool} (C : CelF c x) : RowF (.tuple [c]) false := by
  have ns : noExcs [c] = true := by simp [noExcs, C.n]
  refine ⟨?_, fun t => ?_, by simp [noExc, ns]⟩
  · unfold d_is_row fnD m_is_row
    simp [st0, stP, eV, eCall, eLc, iTpl, iLst, lcLoop, tset, tsets, wipeR, unw, noOwn, eYes, pAll, bools, truth, small, lts, eNot, eTru, eOk, eAnd, eOr, eSl, bndO, pSl, Fl.cutD, eTup, eLst, sFor, loop, sAsg, eIf, sPar2, putM, atI, ixN, eIsa, tup_t ns]
  · unfold rowBody
    simp [st0, stP, eV, eCall, eLc, iTpl, iLst, lcLoop, tset, tsets, wipeR, unw, noOwn, eYes, pAll, bools, truth, small, lts, eNot, eTru, eOk, eAnd, eOr, eSl, bndO, pSl, Fl.cutD, eTup, eLst, sFor, loop, sAsg, eIf, sPar2, putM, atI, ixN, eIsa, isaT ns, qNeI]
theorem row_four {c d : PyData} {x y : Bool} (C : CelF c x) (D : CelF d y) : RowF (.tuple [c, d, c, d]) false := by
  have ns : noExcs [c, d, c, d] = true := by simp [noExcs, C.n, D.n]
  refine ⟨?_, fun t => ?_, by simp [noExc, ns]⟩
  · unfold d_is_row fnD m_is_row
    simp [st0, stP, eV, eCall, eLc, iTpl, iLst, lcLoop, tset, tsets, wipeR, unw, noOwn, eYes, pAll, bools, truth, small, lts, eNot, eTru, eOk, eAnd, eOr, eSl, bndO, pSl, Fl.cutD, eTup, eLst, sFor, loop, sAsg, eIf, sPar2, putM, atI, ixN, eIsa, tup_t ns]
  · unfold rowBody
    simp [st0, stP, eV, eCall, eLc, iTpl, iLst, lcLoop, tset, tsets, wipeR, unw, noOwn, eYes, pAll, bools, truth, small, lts, eNot, eTru, eOk, eAnd, eOr, eSl, bndO, pSl, Fl.cutD, eTup, eLst, sFor, loop, sAsg, eIf, sPar2, putM, atI, ixN, eIsa, isaT ns, qNeI]
end Lw
set_option Elab.async false
set_option autoImplicit false
set_option linter.all false
set_option maxRecDepth 100000
set_option maxHeartbeats 4000000
namespace Lw
open PySem PySem.Spec PyProof.Rows L2 Fl
theorem sIxN (n d : Nat) : HT.sIx n d none = d := rfl
theorem sIxS {n d : Nat} {i : Int} (h0 : 0 ≤ i) (h1 : i ≤ n) : HT.sIx n d (some i) = i.toNat := by
  show (if i < 0 then (i + (n : Int)).toNat else min i.toNat n) = i.toNat
  rw [if_neg (by omega)]
  omega
def quoted : PyData := .tuple [.str "''", .str "'no'", .str "'yes'"]
structure WordF (w : PyData) (b : Bool) : Prop where
  p : qInX w k_WORDS = some b
  l : ∃ s, pRepr [w] = some (.str s) ∧ qNotInX (.str s) quoted = some (!b)
  n : noExc w = true
structure TabF' (t : PyData) (b : Bool) : Prop where
  p : d_is_table [t] = .ok (.bool b)
  l : d__law_is_table [t] = .ok (.bool b)
  n : noExc t = true
theorem table4 {w r1 r2 r3 : PyData} {b b1 b2 b3 : Bool} (Wd : WordF w b) (R1 : RowF r1 b1) (R2 : RowF r2 b2) (R3 : RowF r3 b3) : TabF' (.tuple [w, r1, r2, r3]) (b && b1 && b2 && b3) := by
  have ns : noExcs [w, r1, r2, r3] = true := by simp [noExcs, Wd.n, R1.n, R2.n, R3.n]
  obtain ⟨s, hs, hq⟩ := Wd.l
  refine ⟨?_, ?_, by simp [noExc, ns]⟩
  · unfold d_is_table fnD m_is_table
    cases b <;> simp [st0, stP, eV, eCall, eLc, iTpl, iLst, lcLoop, tset, tsets, wipeR, unw, noOwn, eYes, pAll, bools, truth, small, lts, eNot, eTru, eOk, eAnd, eOr, eSl, bndO, pSl, Fl.cutD, eTup, eLst, sFor, loop, sAsg, eIf, sPar2, putM, atI, ixN, eIsa, sIxN, sIxS, tup_t ns, Wd.p, R1.p, R2.p, R3.p, Bool.and_assoc]
  · unfold quoted at hq
    have e : m__law_is_table = (sSeq (sIf (eOr (eNot (eTru (eIsa "tuple" (eV 0)))) (eOr (eCmp qNe (eFun pLen (aCons (eV 0) aNil)) (eC (.int 4))) (eCmp qNotInX (eFun pRepr (aCons (eOp pIx (eV 0) (eC (.int 0))) aNil)) (eTup (aCons (eC (.str "''")) (aCons (eC (.str "'no'")) (aCons (eC (.str "'yes'")) aNil))))))) (sRet (eC (.bool false))) sNil)
      (sSeq (sFor (.nm 1) (iTpl (eSl (eV 0) (some (eC (.int 1))) none)) rowBody) (sRet (eC (.bool true))))) := rfl
    unfold d__law_is_table fnD
    rw [e]
    have z1 := R1.l (.tuple [w, r1, r2, r3])
    have z2 := R2.l (.tuple [w, r1, r2, r3])
    have z3 := R3.l (.tuple [w, r1, r2, r3])
    cases b <;> cases b1 <;> cases b2 <;> cases b3 <;> simp only [Bool.false_eq_true, if_false, if_true] at z1 z2 z3 <;> simp [st0, stP, eV, eCall, eLc, iTpl, iLst, lcLoop, tset, tsets, wipeR, unw, noOwn, eYes, pAll, bools, truth, small, lts, eNot, eTru, eOk, eAnd, eOr, eSl, bndO, pSl, Fl.cutD, eTup, eLst, sFor, loop, sAsg, eIf, sPar2, putM, atI, ixN, eIsa, sIxN, sIxS, isaT ns, qNeI, hs, hq, z1, z2, z3]
theorem tableN {xs : List PyData} (h : noExcs xs = true) (hl : xs.length ≠ 4) : TabF' (.tuple xs) false := by
  have hl' : ¬ ((xs.length : Int) = 4) := by omega
  refine ⟨?_, ?_, by simp [noExc, h]⟩
  · unfold d_is_table fnD m_is_table
    simp [st0, stP, eV, eCall, eLc, iTpl, iLst, lcLoop, tset, tsets, wipeR, unw, noOwn, eYes, pAll, bools, truth, small, lts, eNot, eTru, eOk, eAnd, eOr, eSl, bndO, pSl, Fl.cutD, eTup, eLst, sFor, loop, sAsg, eIf, sPar2, putM, atI, ixN, eIsa, sIxN, sIxS, tup_t h, hl']
  · unfold d__law_is_table fnD m__law_is_table
    simp [st0, stP, eV, eCall, eLc, iTpl, iLst, lcLoop, tset, tsets, wipeR, unw, noOwn, eYes, pAll, bools, truth, small, lts, eNot, eTru, eOk, eAnd, eOr, eSl, bndO, pSl, Fl.cutD, eTup, eLst, sFor, loop, sAsg, eIf, sPar2, putM, atI, ixN, eIsa, sIxN, sIxS, isaT h, qNeI, hl']
theorem tableL {xs : List PyData} (h : noExcs xs = true) : TabF' (.list xs) false := by
  refine ⟨?_, ?_, by simp [noExc, h]⟩
  · unfold d_is_table fnD m_is_table
    simp [st0, stP, eV, eCall, eLc, iTpl, iLst, lcLoop, tset, tsets, wipeR, unw, noOwn, eYes, pAll, bools, truth, small, lts, eNot, eTru, eOk, eAnd, eOr, eSl, bndO, pSl, Fl.cutD, eTup, eLst, sFor, loop, sAsg, eIf, sPar2, putM, atI, ixN, eIsa, sIxN, sIxS, tup_l h]
  · unfold d__law_is_table fnD m__law_is_table
    simp [st0, stP, eV, eCall, eLc, iTpl, iLst, lcLoop, tset, tsets, wipeR, unw, noOwn, eYes, pAll, bools, truth, small, lts, eNot, eTru, eOk, eAnd, eOr, eSl, bndO, pSl, Fl.cutD, eTup, eLst, sFor, loop, sAsg, eIf, sPar2, putM, atI, ixN, eIsa, sIxN, sIxS, isaL h]
def wordB (w : PyData) (b : Bool) : Bool := (match qInX w k_WORDS with | some c => c == b | none => false) && (match pRepr [w] with | some (.str s) => (match qNotInX (.str s) quoted with | some c => c == !b | none => false) | _ => false) && noExc w
theorem wordB_ok {w : PyData} {b : Bool} (h : wordB w b = true) : WordF w b := by
  unfold wordB at h
  simp only [Bool.and_eq_true] at h
  obtain ⟨⟨h1, h2⟩, h3⟩ := h
  refine ⟨?_, ?_, h3⟩
  · split at h1
    · rename_i c e; have := beq_iff_eq.mp h1; subst this; exact e
    · cases h1
  · split at h2
    · rename_i s e
      split at h2
      · rename_i c e2; have := beq_iff_eq.mp h2; subst this; exact ⟨s, e, e2⟩
      · cases h2
    · cases h2
theorem word_all : (wordL.all fun w => wordB w true) = true := by kernel_rfl
def oddWords : List PyData := [.str "maybe", .none, .int 0, .list [], .bool true, .str "none", .str "going"]
theorem oddWord_all : (oddWords.all fun w => wordB w false) = true := by kernel_rfl
end Lw
set_option Elab.async false
set_option autoImplicit false
set_option linter.all false
set_option maxRecDepth 100000
set_option maxHeartbeats 4000000
namespace Lw
open PySem PySem.Spec PyProof.Rows L2 Fl
theorem seq3 {a b c : Rho → SOut} {ρ : Rho} : sSeq a (sSeq b c) ρ = (sSeq a b ρ).on c := by
  rw [x_sSeq, x_sSeq]
  cases a ρ with
  | nx r => rw [on_nx, on_nx, x_sSeq]
  | rt d r => rfl
  | bk r => rfl
  | ct r => rfl
  | er x r => rfl
  | no => rfl
/-! the law's look at a log, piece by piece -/
def lgA : Rho → SOut := (sIf (eOr (eNot (eTru (eIsa "tuple" (eV 0)))) (eOr (eCmp qNe (eFun pLen (aCons (eV 0) aNil)) (eC (.int 5))) (eNot (eTru (eCall 1 d__law_is_table (aCons (eOp pIx (eV 0) (eC (.int 0))) aNil)))))) (sRet (eC (.bool false))) sNil)
def lgB : Rho → SOut := (sIf (eNot (eTru (eIsa "bool" (eOp pIx (eV 0) (eC (.int 3)))))) (sRet (eC (.bool false))) sNil)
def lgC : Rho → SOut := (sPar2 false false 3 4 (eLst aNil) (eLst aNil))
def lgD : Rho → SOut := (sFor (.nm 1) (iTpl (eTup (aCons (eC (.str "free")) (aCons (eC (.str "next")) (aCons (eC (.str "stay")) aNil))))) (sSet 3 (eOp pAdd (eV 3) (eLc (.nm 8) (iTpl (eTup (aCons (eC (.str "free")) (aCons (eC (.str "next")) (aCons (eC (.str "stay")) aNil))))) eYes (eFun pRepr (aCons (eTup (aCons (eV 1) (aCons (eV 8) aNil))) aNil)) [8]))))
def lgE : Rho → SOut := (sIf (eCmp qNotInX (eFun pRepr (aCons (eOp pIx (eV 0) (eC (.int 1))) aNil)) (eV 3)) (sRet (eC (.bool false))) sNil)
def lgF : Rho → SOut := (sFor (.nm 2) (iTpl (eTup (aCons (eC (.str "all")) (aCons (eC (.str "none")) (aCons (eC (.str "some")) aNil))))) (sSet 4 (eOp pAdd (eV 4) (eLc (.nm 9) (iTpl (eTup (aCons (eC (.str "bad")) (aCons (eC (.str "good")) aNil)))) eYes (eTup (aCons (eV 2) (aCons (eV 9) aNil))) [9]))))
def lgG : Rho → IOut := (iTpl (eTup (aCons (eTup (aCons (eOp pIx (eV 0) (eC (.int 2))) (aCons (eV 4) aNil))) (aCons (eTup (aCons (eOp pIx (eV 0) (eC (.int 4))) (aCons (eLst (aCons (eC (.str "going")) (aCons (eC (.str "gone")) (aCons (eC (.str "kept")) (aCons (eC (.str "new")) aNil))))) aNil))) aNil))))
def lgH : Rho → SOut := (sSet 7 (eLst (aCons (eTup aNil) aNil)))
def lgI : Rho → SOut := (sFor (.nm 1) (iLst (eV 6)) (sSet 7 (eOp pAdd (eV 7) (eLc (.nm 10) (iLst (eV 7)) eYes (eOp pAdd (eV 10) (eTup (aCons (eV 1) aNil))) [10]))))
def lgR : Rho → Out := (eLc (.nm 10) (iLst (eV 7)) eYes (eFun pRepr (aCons (eV 10) aNil)) [10])
def lgJ : Rho → SOut := (sIf (eCmp qNotInX (eFun pRepr (aCons (eV 5) aNil)) lgR) (sRet (eC (.bool false))) sNil)
theorem law_log_eq : m__law_is_log = sSeq lgA (sSeq lgB (sSeq lgC (sSeq lgD (sSeq lgE (sSeq lgF (sSeq (sFor (.tp [(.nm 5), (.nm 6)]) lgG (sSeq lgH (sSeq lgI lgJ))) (sRet (eC (.bool true))))))))) := rfl
def leadW : List PyData := [.str "free", .str "next", .str "stay"]
def pairsL : List PyData := leadW.flatMap fun a => leadW.map fun b => .tuple [a, b]
def pairs9 : PyData := .list (pairsL.map fun x => .str x.shown)
def poolL : List PyData := [.tuple [.str "all", .str "bad"], .tuple [.str "all", .str "good"], .tuple [.str "none", .str "bad"], .tuple [.str "none", .str "good"], .tuple [.str "some", .str "bad"], .tuple [.str "some", .str "good"]]
def seenW : List PyData := [.str "going", .str "gone", .str "kept", .str "new"]
def growL (lots : List PyData) : List (List PyData) := lots.foldl (fun f one => f ++ f.map (· ++ [one])) [[]]
def endsL : List PyData := (growL poolL).map .tuple
def seenL : List PyData := (growL seenW).map .tuple
def reps64 : PyData := .list (endsL.map fun x => .str x.shown)
def reps16 : PyData := .list (seenL.map fun x => .str x.shown)
abbrev sd (x : PyData) : Option Fl.Arg := some (.d x)
theorem lg_CD (t : PyData) : sSeq lgC lgD [sd t, none, none, none, none, none, none, none, none, none, none] = .nx [sd t, sd (.str "stay"), none, sd pairs9, sd (.list []), none, none, none, none, none, none] := by kernel_rfl
theorem lg_F (t : PyData) : lgF [sd t, sd (.str "stay"), none, sd pairs9, sd (.list []), none, none, none, none, none, none] = .nx [sd t, sd (.str "stay"), sd (.str "some"), sd pairs9, sd (.list poolL), none, none, none, none, none, none] := by kernel_rfl
theorem lg_I1 (t e : PyData) : sSeq lgH lgI [sd t, sd (.str "stay"), sd (.str "some"), sd pairs9, sd (.list poolL), sd e, sd (.list poolL), none, none, none, none] = .nx [sd t, sd (.tuple [.str "some", .str "good"]), sd (.str "some"), sd pairs9, sd (.list poolL), sd e, sd (.list poolL), sd (.list endsL), none, none, none] := by kernel_rfl
theorem lg_R1 (t e : PyData) : lgR [sd t, sd (.tuple [.str "some", .str "good"]), sd (.str "some"), sd pairs9, sd (.list poolL), sd e, sd (.list poolL), sd (.list endsL), none, none, none] = .ok reps64 [sd t, sd (.tuple [.str "some", .str "good"]), sd (.str "some"), sd pairs9, sd (.list poolL), sd e, sd (.list poolL), sd (.list endsL), none, none, none] := by kernel_rfl
theorem lg_I2 (t e : PyData) : sSeq lgH lgI [sd t, sd (.tuple [.str "some", .str "good"]), sd (.str "some"), sd pairs9, sd (.list poolL), sd e, sd (.list seenW), sd (.list endsL), none, none, none] = .nx [sd t, sd (.str "new"), sd (.str "some"), sd pairs9, sd (.list poolL), sd e, sd (.list seenW), sd (.list seenL), none, none, none] := by kernel_rfl
theorem lg_R2 (t e : PyData) : lgR [sd t, sd (.str "new"), sd (.str "some"), sd pairs9, sd (.list poolL), sd e, sd (.list seenW), sd (.list seenL), none, none, none] = .ok reps16 [sd t, sd (.str "new"), sd (.str "some"), sd pairs9, sd (.list poolL), sd e, sd (.list seenW), sd (.list seenL), none, none, none] := by kernel_rfl
/-- both judges of a part tell b: the program's, and the law's by the part's text -/
structure PartF (f : List PyData → FOut) (reps : PyData) (x : PyData) (b : Bool) : Prop where
  p : f [x] = .ok (.bool b)
  l : ∃ s, pRepr [x] = some (.str s) ∧ qNotInX (.str s) reps = some (!b)
  n : noExc x = true
def partB (f : List PyData → FOut) (reps : PyData) (x : PyData) (b : Bool) : Bool := okB (f [x]) b && (match pRepr [x] with | some (.str s) => (match qNotInX (.str s) reps with | some c => c == !b | none => false) | _ => false) && noExc x
theorem partB_ok {f : List PyData → FOut} {reps x : PyData} {b : Bool} (h : partB f reps x b = true) : PartF f reps x b := by
  unfold partB at h
  simp only [Bool.and_eq_true] at h
  obtain ⟨⟨h1, h2⟩, h3⟩ := h
  refine ⟨okB_eq h1, ?_, h3⟩
  split at h2
  · rename_i s e
    split at h2
    · rename_i c e2; have := beq_iff_eq.mp h2; subst this; exact ⟨s, e, e2⟩
    · cases h2
  · cases h2
theorem log5 {t l e s n : PyData} {bt bl be bs bn : Bool} (T : TabF' t bt) (L : PartF d_is_lead pairs9 l bl) (E : PartF d_are_ends reps64 e be) (S : isaD "bool" s = some bs) (nS : noExc s = true) (N : PartF d_are_seen reps16 n bn) :
    d_is_log [.tuple [t, l, e, s, n]] = .ok (.bool (bt && bl && be && bs && bn)) ∧ d__law_is_log [.tuple [t, l, e, s, n]] = .ok (.bool (bt && bl && be && bs && bn)) ∧ noExc (.tuple [t, l, e, s, n]) = true := by
  have ns : noExcs [t, l, e, s, n] = true := by simp [noExcs, T.n, L.n, E.n, nS, N.n]
  obtain ⟨sl, hl1, hl2⟩ := L.l
  obtain ⟨se, he1, he2⟩ := E.l
  obtain ⟨sn, hn1, hn2⟩ := N.l
  refine ⟨?_, ?_, by simp [noExc, ns]⟩
  · unfold d_is_log m_is_log
    cases bt <;> cases bl <;> cases be <;> cases bs <;> simp [y_fnD, y_fnP, st0, stP, y_eVa, y_lcK, noOwn, wipeR, unw, pAll, pAny, bools, pSl, Fl.cutD, sIxN, sIxS, tset, tsets, y_asgK, atI, ixN, ownAt, y_eCallPa, y_callPKa, List.replicate, tup_t ns, T.p, L.p, E.p, S, N.p]
  · unfold d__law_is_log
    rw [law_log_eq]
    have a0 : lgA (st0 11 [.tuple [t, l, e, s, n]]) = if bt = true then .nx [sd (.tuple [t, l, e, s, n]), none, none, none, none, none, none, none, none, none, none] else .rt (.bool false) [sd (.tuple [t, l, e, s, n]), none, none, none, none, none, none, none, none, none, none] := by
      unfold lgA
      cases bt <;> simp [y_fnD, y_fnP, st0, stP, y_eVa, y_lcK, noOwn, wipeR, unw, pAll, pAny, bools, pSl, Fl.cutD, sIxN, sIxS, tset, tsets, y_asgK, atI, ixN, ownAt, y_eCallPa, y_callPKa, List.replicate, isaT ns, qNeI, T.l]
    have b0 : lgB [sd (.tuple [t, l, e, s, n]), none, none, none, none, none, none, none, none, none, none] = if bs = true then .nx [sd (.tuple [t, l, e, s, n]), none, none, none, none, none, none, none, none, none, none] else .rt (.bool false) [sd (.tuple [t, l, e, s, n]), none, none, none, none, none, none, none, none, none, none] := by
      unfold lgB
      cases bs <;> simp [y_fnD, y_fnP, st0, stP, y_eVa, y_lcK, noOwn, wipeR, unw, pAll, pAny, bools, pSl, Fl.cutD, sIxN, sIxS, tset, tsets, y_asgK, atI, ixN, ownAt, y_eCallPa, y_callPKa, List.replicate, S]
    have e0 : lgE [sd (.tuple [t, l, e, s, n]), sd (.str "stay"), none, sd pairs9, sd (.list []), none, none, none, none, none, none] = if bl = true then .nx [sd (.tuple [t, l, e, s, n]), sd (.str "stay"), none, sd pairs9, sd (.list []), none, none, none, none, none, none] else .rt (.bool false) [sd (.tuple [t, l, e, s, n]), sd (.str "stay"), none, sd pairs9, sd (.list []), none, none, none, none, none, none] := by
      unfold lgE
      cases bl <;> simp [y_fnD, y_fnP, st0, stP, y_eVa, y_lcK, noOwn, wipeR, unw, pAll, pAny, bools, pSl, Fl.cutD, sIxN, sIxS, tset, tsets, y_asgK, atI, ixN, ownAt, y_eCallPa, y_callPKa, List.replicate, hl1, hl2]
    have g0 : lgG [sd (.tuple [t, l, e, s, n]), sd (.str "stay"), sd (.str "some"), sd pairs9, sd (.list poolL), none, none, none, none, none, none] = .ok [.tuple [e, .list poolL], .tuple [n, .list seenW]] [sd (.tuple [t, l, e, s, n]), sd (.str "stay"), sd (.str "some"), sd pairs9, sd (.list poolL), none, none, none, none, none, none] := by
      unfold lgG seenW
      simp [y_fnD, y_fnP, st0, stP, y_eVa, y_lcK, noOwn, wipeR, unw, pAll, pAny, bools, pSl, Fl.cutD, sIxN, sIxS, tset, tsets, y_asgK, atI, ixN, ownAt, y_eCallPa, y_callPKa, List.replicate]
    have j1 : lgJ [sd (.tuple [t, l, e, s, n]), sd (.tuple [.str "some", .str "good"]), sd (.str "some"), sd pairs9, sd (.list poolL), sd e, sd (.list poolL), sd (.list endsL), none, none, none] = if be = true then .nx [sd (.tuple [t, l, e, s, n]), sd (.tuple [.str "some", .str "good"]), sd (.str "some"), sd pairs9, sd (.list poolL), sd e, sd (.list poolL), sd (.list endsL), none, none, none] else .rt (.bool false) [sd (.tuple [t, l, e, s, n]), sd (.tuple [.str "some", .str "good"]), sd (.str "some"), sd pairs9, sd (.list poolL), sd e, sd (.list poolL), sd (.list endsL), none, none, none] := by
      unfold lgJ
      cases be <;> simp [y_fnD, y_fnP, st0, stP, y_eVa, y_lcK, noOwn, wipeR, unw, pAll, pAny, bools, pSl, Fl.cutD, sIxN, sIxS, tset, tsets, y_asgK, atI, ixN, ownAt, y_eCallPa, y_callPKa, List.replicate, he1, he2, lg_R1]
    have j2 : lgJ [sd (.tuple [t, l, e, s, n]), sd (.str "new"), sd (.str "some"), sd pairs9, sd (.list poolL), sd n, sd (.list seenW), sd (.list seenL), none, none, none] = if bn = true then .nx [sd (.tuple [t, l, e, s, n]), sd (.str "new"), sd (.str "some"), sd pairs9, sd (.list poolL), sd n, sd (.list seenW), sd (.list seenL), none, none, none] else .rt (.bool false) [sd (.tuple [t, l, e, s, n]), sd (.str "new"), sd (.str "some"), sd pairs9, sd (.list poolL), sd n, sd (.list seenW), sd (.list seenL), none, none, none] := by
      unfold lgJ
      cases bn <;> simp [y_fnD, y_fnP, st0, stP, y_eVa, y_lcK, noOwn, wipeR, unw, pAll, pAny, bools, pSl, Fl.cutD, sIxN, sIxS, tset, tsets, y_asgK, atI, ixN, ownAt, y_eCallPa, y_callPKa, List.replicate, hn1, hn2, lg_R2]
    have t1 : tset (.tp [(.nm 5), (.nm 6)]) (.tuple [e, .list poolL]) [sd (.tuple [t, l, e, s, n]), sd (.str "stay"), sd (.str "some"), sd pairs9, sd (.list poolL), none, none, none, none, none, none] = some [sd (.tuple [t, l, e, s, n]), sd (.str "stay"), sd (.str "some"), sd pairs9, sd (.list poolL), sd e, sd (.list poolL), none, none, none, none] := rfl
    have t2 : tset (.tp [(.nm 5), (.nm 6)]) (.tuple [n, .list seenW]) [sd (.tuple [t, l, e, s, n]), sd (.tuple [.str "some", .str "good"]), sd (.str "some"), sd pairs9, sd (.list poolL), sd e, sd (.list poolL), sd (.list endsL), none, none, none] = some [sd (.tuple [t, l, e, s, n]), sd (.tuple [.str "some", .str "good"]), sd (.str "some"), sd pairs9, sd (.list poolL), sd n, sd (.list seenW), sd (.list endsL), none, none, none] := rfl
    rw [y_fnD, x_sSeq, a0]
    cases bt with
    | false => simp
    | true =>
      rw [if_pos rfl, on_nx, x_sSeq, b0]
      cases bs with
      | false => simp
      | true =>
        rw [if_pos rfl, on_nx, seq3, lg_CD, on_nx, x_sSeq, e0]
        cases bl with
        | false => simp
        | true =>
          rw [if_pos rfl, on_nx, x_sSeq, lg_F, on_nx, x_sSeq, y_sFor, g0, igoS_ok, y_forK, y_loop1 t1, seq3, lg_I1, on_nx, j1]
          cases be with
          | false => simp
          | true =>
            rw [if_pos rfl, lap_nx, y_loop1 t2, seq3, lg_I2, on_nx, j2]
            cases bn <;> simp
end Lw
set_option Elab.async false
set_option autoImplicit false
set_option linter.all false
set_option maxRecDepth 100000
set_option maxHeartbeats 4000000
namespace Lw
open PySem PySem.Spec PyProof.Rows L2 Fl
/-! what repr asks of data: short, not deep -/
structure Sm (x : PyData) (L k : Nat) : Prop where
  sh : x.showable = true
  len : x.shown.length ≤ L
  dp : x.depth ≤ k
  ne : noExc x = true
theorem Sm.mono {x : PyData} {L k L' k' : Nat} (h : Sm x L k) (h1 : L ≤ L') (h2 : k ≤ k') : Sm x L' k' := ⟨h.sh, Nat.le_trans h.len h1, Nat.le_trans h.dp h2, h.ne⟩
theorem sm_all {L k : Nat} : ∀ {xs : List PyData}, (∀ x ∈ xs, Sm x L k) → PyData.showableAll xs = true ∧ ((PyData.shownAll xs).map (·.length)).sum ≤ xs.length * L ∧ (PyData.shownAll xs).length = xs.length ∧ PyData.depthAll xs ≤ k ∧ noExcs xs = true
  | [], _ => by simp [PyData.showableAll, PyData.shownAll, PyData.depthAll, noExcs]
  | x :: xs, h => by
    have h1 := h x (by simp)
    obtain ⟨a, b, l, c, d⟩ := sm_all (xs := xs) fun y hy => h y (List.mem_cons_of_mem _ hy)
    have h2 := h1.len
    have h3 := h1.dp
    simp only [PyData.showableAll, PyData.shownAll, PyData.depthAll, noExcs, h1.sh, a, h1.ne, d, List.map_cons, List.sum_cons, List.length_cons, Bool.and_self, true_and, and_true, l]
    refine ⟨?_, ?_⟩
    · rw [Nat.add_mul]
      omega
    · omega
theorem Sm.tup {xs : List PyData} {L k : Nat} (h : ∀ x ∈ xs, Sm x L k) (hl : xs.length ≤ 10) : Sm (.tuple xs) (10 * L + 23) (k + 1) := by
  obtain ⟨a, b, l, c, d⟩ := sm_all h
  have e := tupleText_len_le (PyData.shownAll xs)
  have f : xs.length * L ≤ 10 * L := Nat.mul_le_mul_right L hl
  refine ⟨by simpa [PyData.showable] using a, ?_, ?_, by simpa [noExc] using d⟩
  · show (tupleText (PyData.shownAll xs)).length ≤ _
    omega
  · simp only [PyData.depth]
    omega
theorem Sm.lst {xs : List PyData} {L k : Nat} (h : ∀ x ∈ xs, Sm x L k) (hl : xs.length ≤ 10) : Sm (.list xs) (10 * L + 23) (k + 1) := by
  obtain ⟨a, b, l, c, d⟩ := sm_all h
  have e := listText_len_le (PyData.shownAll xs)
  have f : xs.length * L ≤ 10 * L := Nat.mul_le_mul_right L hl
  refine ⟨by simpa [PyData.showable] using a, ?_, ?_, by simpa [noExc] using d⟩
  · show (listText (PyData.shownAll xs)).length ≤ _
    omega
  · simp only [PyData.depth]
    omega
theorem Sm.repr {x : PyData} {L k : Nat} (h : Sm x L k) (hL : L ≤ 1000000) (hk : k ≤ 50) (hd : x.hasDict = false ∨ noLst x = true) : pRepr [x] = some (.str x.shown) := by
  have h1 : x.shown.length ≤ sizeLine := by have := h.len; rw [sizeLine_eq]; omega
  have h2 : x.depth ≤ 50 := Nat.le_trans h.dp hk
  have e : reprOk x = true := by
    unfold reprOk
    rcases hd with hd | hd <;> simp [h.sh, h1, h2, hd, h.ne]
  show (if reprOk x = true then _ else _) = _
  rw [if_pos e]
def smB (x : PyData) : Bool := x.showable && decide (x.shown.length ≤ 200) && decide (x.depth ≤ 4) && noExc x
theorem smB_ok {x : PyData} (h : smB x = true) : Sm x 200 4 := by
  unfold smB at h
  simp only [Bool.and_eq_true, decide_eq_true_eq] at h
  exact ⟨h.1.1.1, h.1.1.2, h.1.2, h.2⟩
/-! texts of lists and tuples differ at once -/
theorem head_app {a b : Str} {c : Nat} (h : a.cps[0]? = some c) : (a ++ b).cps[0]? = some c := by
  show (a.cps ++ b.cps)[0]? = some c
  have hl : 0 < a.cps.size := (Array.getElem?_eq_some_iff.mp h).1
  rw [Array.getElem?_append_left hl]
  exact h
theorem head_from : ∀ (ts : List Str) (n : Nat) (out : Str), out.cps[0]? = some 91 → (textFrom n out ts).cps[0]? = some 91
  | [], n, out, h => by simpa [textFrom] using h
  | t :: ts, n, out, h => by
    rw [textFrom]
    refine head_from ts _ _ (head_app ?_)
    split
    · first | exact h | exact head_app h
    · first | exact h | exact head_app h
theorem head_list {xs : List PyData} : (PyData.list xs).shown.cps[0]? = some 91 := head_app (head_from _ 0 _ rfl)
theorem head_tup {xs : List PyData} : (PyData.tuple xs).shown.cps[0]? = some 40 := head_app (head_app rfl)
theorem list_ne_tup {xs ys : List PyData} : (PyData.tuple ys).shown ≠ (PyData.list xs).shown := fun h => by
  have a := head_tup (xs := ys)
  rw [h, head_list] at a
  cases a
theorem reps_plain : ∀ L : List PyData, PyData.plainAll (L.map fun x => .str x.shown) = true
  | [] => by simp [PyData.plainAll]
  | x :: L => by simp [PyData.plainAll, PyData.plain, reps_plain L]
theorem notIn_reps (L : List PyData) (s : Str) : qNotInX (.str s) (.list (L.map fun x => .str x.shown)) = some (!(L.any fun x => x.shown == s)) := by
  have h : (ok50 (.str s) = true ∧ PyData.plainAll (L.map fun x => .str x.shown) = true) := ⟨by simp [ok50, PyData.plain, PyData.depth], reps_plain L⟩
  unfold qNotInX qInX qIn
  dsimp only
  rw [if_pos h, List.any_map]
  simp [PyData.eqv, Function.comp_def]
theorem in_reps {L : List PyData} {x : PyData} (h : x ∈ L) : qNotInX (.str x.shown) (.list (L.map fun x => .str x.shown)) = some false := by
  rw [notIn_reps, List.any_eq_true.mpr ⟨x, h, by simp⟩]
  rfl
theorem out_reps {L : List PyData} {s : Str} (h : ∀ x ∈ L, x.shown ≠ s) : qNotInX (.str s) (.list (L.map fun x => .str x.shown)) = some true := by
  have : (L.any fun x => x.shown == s) = false := by
    rw [List.any_eq_false]
    intro x hx e
    exact h x hx (by simpa using e)
  rw [notIn_reps, this]
  rfl
theorem ends_tup {x : PyData} (h : x ∈ endsL) : ∃ es, x = .tuple es := by
  obtain ⟨es, _, rfl⟩ := List.mem_map.mp h
  exact ⟨es, rfl⟩
/-! the families -/
def partL : List PyData := [.list [.str "kept"], .dict [], .none, .tuple [.str "new"], .int 0, .list []]
def farOf (p : PyData) : List PyData := [.tuple [p], .tuple [p, p], .tuple [.str "next", p], .tuple [.tuple [p, .str "good"]], .tuple [.tuple [.str "all", p]]]
def farL : List PyData := partL.flatMap farOf
def oddLead : List PyData := [.tuple [.str "free"], .list [.str "free", .str "next"], .tuple [.str "go", .str "stay"], .none, .tuple [.str "free", .str "next", .str "stay"], .tuple [.str "next", .str "go"], .tuple [.none, .str "free"]]
def listOf (x : PyData) : PyData := match x with
  | .tuple xs => .list xs
  | y => y
def oddEnds : List PyData := [.tuple [.tuple [.str "all", .str "good"], .tuple [.str "all", .str "good"]], .tuple [.tuple [.str "some", .str "bad"], .tuple [.str "all", .str "good"]], .tuple [.tuple [.str "part", .str "good"]]]
def oddStop : List PyData := [.int 0, .int 1, .none, .str "yes"]
def oddSeen : List PyData := [.tuple [.str "new", .str "going"], .tuple [.str "kept", .str "kept"], .tuple [.str "lost"], .list [.str "kept"]]
def oneB (x : PyData) : Bool := smB x && (!x.hasDict || noLst x)
theorem lead_all : (pairsL.all fun x => partB d_is_lead pairs9 x true && smB x && !x.hasDict && noLst x) = true := by kernel_rfl
theorem oddLead_all : (oddLead.all fun x => partB d_is_lead pairs9 x false && smB x && !x.hasDict) = true := by kernel_rfl
theorem farLead_all : (farL.all fun x => partB d_is_lead pairs9 x false) = true := by kernel_rfl
theorem ends_all : (endsL.all fun x => okB (d_are_ends [x]) true && smB x && !x.hasDict && noLst x) = true := by kernel_rfl
theorem ends_part {x : PyData} (h : x ∈ endsL) : PartF d_are_ends reps64 x true ∧ Sm x 200 4 ∧ x.hasDict = false ∧ noLst x = true := by
  have g := List.all_eq_true.mp ends_all x h
  simp only [Bool.and_eq_true, Bool.not_eq_true'] at g
  obtain ⟨⟨⟨g1, g2⟩, g3⟩, g4⟩ := g
  have sm := smB_ok g2
  exact ⟨⟨okB_eq g1, ⟨x.shown, sm.repr (by decide) (by decide) (.inl g3), in_reps h⟩, sm.ne⟩, sm, g3, g4⟩
theorem listEnds_all : (endsL.all fun x => okB (d_are_ends [listOf x]) false && smB (listOf x) && !(listOf x).hasDict) = true := by kernel_rfl
theorem listEnds_part {es : List PyData} (h : .tuple es ∈ endsL) : PartF d_are_ends reps64 (.list es) false ∧ Sm (.list es) 200 4 ∧ (PyData.list es).hasDict = false := by
  have g := List.all_eq_true.mp listEnds_all _ h
  simp only [Bool.and_eq_true, Bool.not_eq_true', listOf] at g
  obtain ⟨⟨g1, g2⟩, g3⟩ := g
  have sm := smB_ok g2
  refine ⟨⟨okB_eq g1, ⟨(PyData.list es).shown, sm.repr (by decide) (by decide) (.inl g3), out_reps fun x hx => ?_⟩, sm.ne⟩, sm, g3⟩
  obtain ⟨ys, rfl⟩ := ends_tup hx
  exact list_ne_tup
theorem oddEnds_all : (oddEnds.all fun x => partB d_are_ends reps64 x false && smB x && !x.hasDict) = true := by kernel_rfl
theorem farEnds_all : (farL.all fun x => partB d_are_ends reps64 x false) = true := by kernel_rfl
theorem seen_all : (seenL.all fun x => partB d_are_seen reps16 x true && smB x && !x.hasDict && noLst x && okB (d_is_table [x]) false && okB (d__law_is_table [x]) false) = true := by kernel_rfl
theorem oddSeen_all : (oddSeen.all fun x => partB d_are_seen reps16 x false && smB x && !x.hasDict) = true := by kernel_rfl
theorem farSeen_all : (farL.all fun x => partB d_are_seen reps16 x false) = true := by kernel_rfl
theorem far_all : (farL.all fun x => smB x && (!x.hasDict || noLst x) && okB (d_is_table [x]) false && okB (d__law_is_table [x]) false && !x.isBool) = true := by kernel_rfl
theorem oddStop_all : (oddStop.all fun x => smB x && !x.hasDict && !x.isBool) = true := by kernel_rfl
theorem cell_sm : (cellL.all fun x => smB x && !x.hasDict && noLst x && x.plain) = true := by kernel_rfl
theorem bent_sm : (bentL.all fun x => smB x && !x.hasDict && x.plain) = true := by kernel_rfl
theorem word_sm : (wordL.all fun x => smB x && !x.hasDict && noLst x && x.plain && okB (d_is_table [x]) false && okB (d__law_is_table [x]) false) = true := by kernel_rfl
theorem oddWord_sm : (oddWords.all fun x => smB x && !x.hasDict) = true := by kernel_rfl
end Lw
set_option Elab.async false
set_option autoImplicit false
set_option linter.all false
set_option maxRecDepth 100000
set_option maxHeartbeats 4000000
namespace Lw
open PySem PySem.Spec PyProof.Rows L2 Fl
/-! the bent cell -/
def bcA : Rho → SOut := (sSet 2 (eLst (aCons (eC .none) (aCons (eC (.bool true)) (aCons (eC (.str "lost")) (aCons (eC (.str "none")) (aCons (eC (.str "New")) (aCons (eC (.str "")) (aCons (eC (.int 0)) (aCons (eLst aNil) (aCons (eTup (aCons (eC (.str "new")) aNil)) (aCons (eC (.str "stay")) (aCons (eC (.str "new ")) aNil)))))))))))))
def bcB : Rho → SOut := (sSet 3 (eCallP 2 0 d__law_draw (aCons (eC (.int 4)) aNil)))
def bcC : Rho → SOut := (sIf (eCmp qEq (eV 3) (eC (.int 0))) (sRet (eTup (aCons (eOp pIx (eV 2) (eCallP 2 0 d__law_draw (aCons (eC (.int 11)) aNil))) (aCons (eOp pIx (eV 1) (eC (.int 1))) aNil)))) sNil)
def bcD : Rho → SOut := (sIf (eCmp qEq (eV 3) (eC (.int 1))) (sRet (eTup (aCons (eOp pIx (eV 1) (eC (.int 0))) (aCons (eOp pIx (eLst (aCons (eC (.str "maybe")) (aCons (eC .none) (aCons (eC (.str "Yes")) (aCons (eC (.bool true)) (aCons (eLst aNil) (aCons (eTup (aCons (eC (.str "yes")) aNil)) (aCons (eC (.str "none")) (aCons (eC (.int 1)) aNil))))))))) (eCallP 2 0 d__law_draw (aCons (eC (.int 8)) aNil))) aNil)))) sNil)
def bcE : Rho → SOut := (sRet (eOp pIx (eLst (aCons (eListOf (aCons (eV 1) aNil)) (aCons (eOp pAdd (eV 1) (eTup (aCons (eC (.str "")) aNil))) (aCons (eSl (eV 1) none (some (eC (.int 1)))) (aCons (eRev (eV 1)) (aCons (eC .none) (aCons (eTup aNil) (aCons (eC (.str "new")) (aCons (eTup (aCons (eV 1) aNil)) aNil))))))))) (eCallP 2 0 d__law_draw (aCons (eC (.int 8)) aNil))))
theorem bent_cell_eq : m__law_bent_cell = sSeq bcA (sSeq bcB (sSeq bcC (sSeq bcD bcE))) := rfl
abbrev po (c : List Int) (k v : Int) : Option Fl.Arg := some (.o (penD c k v))
def oddP : List PyData := [.none, .bool true, .str "lost", .str "none", .str "New", .str "", .int 0, .list [], .tuple [.str "new"], .str "stay", .str "new "]
theorem bcA_ok (x y : Option Fl.Arg) : bcA [x, y, none, none] = .nx [x, y, sd (.list oddP), none] := by kernel_rfl
theorem bcB_ok {c : List Int} {k v k' v' n : Int} {y z : Option Fl.Arg} (e : d__law_draw (penD c k v) [.int 4] = .ok (.int n) (penD c k' v')) : bcB [po c k v, y, z, none] = .nx [po c k' v', y, z, sd (.int n)] := by
  unfold bcB
  simp [y_fnD, y_fnP, st0, stP, y_eVa, y_lcK, noOwn, wipeR, unw, pAll, pAny, bools, pSl, Fl.cutD, sIxN, sIxS, tset, tsets, y_asgK, atI, ixN, ownAt, y_eCallPa, y_callPKa, List.replicate, e]
theorem at_n {α : Type} {xs : List α} {i : Nat} {y : α} (h : xs[i]? = some y) : atI xs (i : Int) = some y := by
  have hl : i < xs.length := (List.getElem?_eq_some_iff.mp h).1
  have e := (List.getElem?_eq_some_iff.mp h).2
  unfold atI ixN
  simp [hl, e]
section
variable {α : Type} {a b c d e f : α} {r : List α}
theorem at_0 : atI (a :: r) 0 = some a := at_n (i := 0) rfl
theorem at_1 : atI (a :: b :: r) 1 = some b := at_n (i := 1) rfl
theorem at_2 : atI (a :: b :: c :: r) 2 = some c := at_n (i := 2) rfl
theorem at_3 : atI (a :: b :: c :: d :: r) 3 = some d := at_n (i := 3) rfl
theorem at_4 : atI (a :: b :: c :: d :: e :: r) 4 = some e := at_n (i := 4) rfl
theorem at_5 : atI (a :: b :: c :: d :: e :: f :: r) 5 = some f := at_n (i := 5) rfl
end
theorem get_at {xs : List PyData} {n : Int} (h0 : 0 ≤ n) (h1 : n < xs.length) : ∃ x ∈ xs, atI xs n = some x := by
  have h2 : n.toNat < xs.length := by omega
  refine ⟨xs[n.toNat], List.getElem_mem h2, ?_⟩
  unfold atI ixN
  simp [h0, h1, h2]
theorem bent_cell_ok (c : List Int) (k v : Int) (p w : PyData) (hk : 0 ≤ k) (hk2 : k < 2 ^ 58) (hv : 0 ≤ v) :
    ∃ x k' v', x ∈ bentOf (.tuple [p, w]) ∧ k ≤ k' ∧ k' ≤ k + 2 ∧ 0 ≤ v' ∧ d__law_bent_cell (penD c k v) [.tuple [p, w]] = .ok x (penD c k' v') := by
  obtain ⟨n, k1, v1, n0, n1, l1, l2, w1, e1⟩ := draw_ok c k v 4 hk (by omega) hv (by decide) (by decide)
  obtain ⟨m, k2, v2, m0, m1, l3, l4, w2, e2⟩ := draw_ok c k1 v1 11 (by omega) (by omega) w1 (by decide) (by decide)
  obtain ⟨r, k3, v3, r0, r1, l5, l6, w3, e3⟩ := draw_ok c k1 v1 8 (by omega) (by omega) w1 (by decide) (by decide)
  have ST : stP 4 (penD c k v) [.tuple [p, w]] = [po c k v, sd (.tuple [p, w]), none, none] := rfl
  have hn : n = 0 ∨ n = 1 ∨ 2 ≤ n := by omega
  unfold d__law_bent_cell
  rw [y_fnP, bent_cell_eq, ST, x_sSeq, bcA_ok, on_nx, x_sSeq, bcB_ok e1, on_nx, x_sSeq]
  rcases hn with rfl | rfl | hn
  · obtain ⟨x, hx, ex⟩ := get_at (xs := oddP) m0 m1
    refine ⟨.tuple [x, w], k2, v2, ?_, by omega, by omega, w2, ?_⟩
    · have : ∀ x ∈ oddP, PyData.tuple [x, w] ∈ bentOf (.tuple [p, w]) := by
        intro x hx
        simp only [oddP, List.mem_cons, List.not_mem_nil, or_false] at hx
        rcases hx with rfl | rfl | rfl | rfl | rfl | rfl | rfl | rfl | rfl | rfl | rfl <;> simp [bentOf]
      exact this x hx
    · unfold bcC
      simp [y_fnD, y_fnP, st0, stP, y_eVa, y_lcK, noOwn, wipeR, unw, pAll, pAny, bools, pSl, Fl.cutD, sIxN, sIxS, tset, tsets, y_asgK, at_0, at_1, at_2, at_3, at_4, at_5, ownAt, y_eCallPa, y_callPKa, List.replicate, e2, qEqI, ex]
  · have hC : bcC [po c k1 v1, sd (.tuple [p, w]), sd (.list oddP), sd (.int 1)] = .nx [po c k1 v1, sd (.tuple [p, w]), sd (.list oddP), sd (.int 1)] := by
      unfold bcC
      simp [y_fnD, y_fnP, st0, stP, y_eVa, y_lcK, noOwn, wipeR, unw, pAll, pAny, bools, pSl, Fl.cutD, sIxN, sIxS, tset, tsets, y_asgK, atI, ixN, ownAt, y_eCallPa, y_callPKa, List.replicate, qEqI]
    rw [hC, on_nx, x_sSeq]
    obtain ⟨x, hx, ex⟩ := get_at (xs := [.str "maybe", .none, .str "Yes", .bool true, .list [], .tuple [.str "yes"], .str "none", .int 1]) r0 r1
    refine ⟨.tuple [p, x], k3, v3, ?_, by omega, by omega, w3, ?_⟩
    · simp only [List.mem_cons, List.not_mem_nil, or_false] at hx
      rcases hx with rfl | rfl | rfl | rfl | rfl | rfl | rfl | rfl <;> simp [bentOf]
    · unfold bcD
      simp [y_fnD, y_fnP, st0, stP, y_eVa, y_lcK, noOwn, wipeR, unw, pAll, pAny, bools, pSl, Fl.cutD, sIxN, sIxS, tset, tsets, y_asgK, at_0, at_1, at_2, at_3, at_4, at_5, ownAt, y_eCallPa, y_callPKa, List.replicate, e3, qEqI, ex]
  · have h0 : ¬ n = 0 := by omega
    have h1 : ¬ n = 1 := by omega
    have hC : bcC [po c k1 v1, sd (.tuple [p, w]), sd (.list oddP), sd (.int n)] = .nx [po c k1 v1, sd (.tuple [p, w]), sd (.list oddP), sd (.int n)] := by
      unfold bcC
      simp [y_fnD, y_fnP, st0, stP, y_eVa, y_lcK, noOwn, wipeR, unw, pAll, pAny, bools, pSl, Fl.cutD, sIxN, sIxS, tset, tsets, y_asgK, atI, ixN, ownAt, y_eCallPa, y_callPKa, List.replicate, qEqI, h0]
    have hD : bcD [po c k1 v1, sd (.tuple [p, w]), sd (.list oddP), sd (.int n)] = .nx [po c k1 v1, sd (.tuple [p, w]), sd (.list oddP), sd (.int n)] := by
      unfold bcD
      simp [y_fnD, y_fnP, st0, stP, y_eVa, y_lcK, noOwn, wipeR, unw, pAll, pAny, bools, pSl, Fl.cutD, sIxN, sIxS, tset, tsets, y_asgK, atI, ixN, ownAt, y_eCallPa, y_callPKa, List.replicate, qEqI, h1]
    rw [hC, on_nx, x_sSeq, hD, on_nx]
    have hL : (eLst (aCons (eListOf (aCons (eV 1) aNil)) (aCons (eOp pAdd (eV 1) (eTup (aCons (eC (.str "")) aNil))) (aCons (eSl (eV 1) none (some (eC (.int 1)))) (aCons (eRev (eV 1)) (aCons (eC .none) (aCons (eTup aNil) (aCons (eC (.str "new")) (aCons (eTup (aCons (eV 1) aNil)) aNil))))))))) [po c k1 v1, sd (.tuple [p, w]), sd (.list oddP), sd (.int n)]
        = .ok (.list [.list [p, w], .tuple [p, w, .str ""], .tuple [p], .tuple [w, p], .none, .tuple [], .str "new", .tuple [.tuple [p, w]]]) [po c k1 v1, sd (.tuple [p, w]), sd (.list oddP), sd (.int n)] := by kernel_rfl
    obtain ⟨x, hx, ex⟩ := get_at (xs := [.list [p, w], .tuple [p, w, .str ""], .tuple [p], .tuple [w, p], .none, .tuple [], .str "new", .tuple [.tuple [p, w]]]) r0 r1
    refine ⟨x, k3, v3, ?_, by omega, by omega, w3, ?_⟩
    · simp only [List.mem_cons, List.not_mem_nil, or_false] at hx
      rcases hx with rfl | rfl | rfl | rfl | rfl | rfl | rfl | rfl <;> simp [bentOf]
    · unfold bcE
      rw [x_sRet, x_eOp, hL, go_ok, x_opK]
      have hd : eCallP 2 0 d__law_draw (aCons (eC (.int 8)) aNil) [po c k1 v1, sd (.tuple [p, w]), sd (.list oddP), sd (.int n)] = .ok (.int r) [po c k3 v3, sd (.tuple [p, w]), sd (.list oddP), sd (.int n)] := by
        simp [y_fnD, y_fnP, st0, stP, y_eVa, y_lcK, noOwn, wipeR, unw, pAll, pAny, bools, pSl, Fl.cutD, sIxN, sIxS, tset, tsets, y_asgK, atI, ixN, ownAt, y_eCallPa, y_callPKa, List.replicate, e3]
      rw [hd, go_ok, x_opK2, p_ixL, ex]
      rfl
end Lw
set_option Elab.async false
set_option autoImplicit false
set_option linter.all false
set_option maxRecDepth 100000
set_option maxHeartbeats 4000000
namespace Lw
open PySem PySem.Spec PyProof.Rows L2 Fl
/-! what the law asks of a thing -/
structure Cm (x : PyData) (c : Bool) : Prop where
  sm : Sm x 20253 6
  fl : if c = true then x.hasDict = false else noLst x = true
structure ThingF (x : PyData) : Prop where
  lg : ∃ b, d_is_log [x] = .ok (.bool b) ∧ d__law_is_log [x] = .ok (.bool b)
  rp : pRepr [x] = some (.str x.shown)
  hd : isaD "tuple" x = some false ∨ x = .tuple [] ∨ ∃ h r, x = .tuple (h :: r) ∧ noExcs (h :: r) = true ∧ ∃ b, d_is_table [h] = .ok (.bool b) ∧ d__law_is_table [h] = .ok (.bool b)
theorem flag_tup {xs : List PyData} {c : Bool} (h : ∀ x ∈ xs, if c = true then x.hasDict = false else noLst x = true) : if c = true then (PyData.tuple xs).hasDict = false else noLst (.tuple xs) = true := by
  cases c with
  | true =>
    simp only [if_true] at h ⊢
    have : PyData.hasDictAll xs = false := by
      induction xs with
      | nil => simp [PyData.hasDictAll]
      | cons y ys ih => simp [PyData.hasDictAll, h y (by simp), ih fun z hz => h z (List.mem_cons_of_mem _ hz)]
    simpa [PyData.hasDict] using this
  | false =>
    simp only [Bool.false_eq_true, if_false] at h ⊢
    have : noLsts xs = true := by
      induction xs with
      | nil => simp [noLsts]
      | cons y ys ih => simp [noLsts, h y (by simp), ih fun z hz => h z (List.mem_cons_of_mem _ hz)]
    simpa [noLst] using this
theorem dict_list {xs : List PyData} (h : ∀ x ∈ xs, x.hasDict = false) : (PyData.list xs).hasDict = false := by
  have : PyData.hasDictAll xs = false := by
    induction xs with
    | nil => simp [PyData.hasDictAll]
    | cons y ys ih => simp [PyData.hasDictAll, h y (by simp), ih fun z hz => h z (List.mem_cons_of_mem _ hz)]
  simpa [PyData.hasDict] using this
theorem repr_tup {xs : List PyData} {c : Bool} (h : ∀ x ∈ xs, Cm x c) (hl : xs.length ≤ 10) : pRepr [.tuple xs] = some (.str (PyData.tuple xs).shown) := by
  have f := flag_tup (xs := xs) (c := c) fun x hx => (h x hx).fl
  refine Sm.repr (Sm.tup (fun x hx => (h x hx).sm) hl) (by decide) (by decide) ?_
  cases c with
  | true => exact .inl (by simpa using f)
  | false => exact .inr (by simpa using f)
theorem noEx_all {xs : List PyData} {c : Bool} (h : ∀ x ∈ xs, Cm x c) : noExcs xs = true := (sm_all fun x hx => (h x hx).sm).2.2.2.2
/-- a thing of five parts -/
theorem thing5 {t l e s n : PyData} {bt bl be bs bn c : Bool} (T : TabF' t bt) (L : PartF d_is_lead pairs9 l bl) (E : PartF d_are_ends reps64 e be) (S : isaD "bool" s = some bs) (N : PartF d_are_seen reps16 n bn)
    (h : ∀ x ∈ [t, l, e, s, n], Cm x c) : ThingF (.tuple [t, l, e, s, n]) := by
  obtain ⟨h1, h2, _⟩ := log5 T L E S ((h s (by simp)).sm.ne) N
  exact ⟨⟨_, h1, h2⟩, repr_tup h (by simp), .inr (.inr ⟨t, [l, e, s, n], rfl, noEx_all h, bt, T.p, T.l⟩)⟩
theorem logN_p {xs : List PyData} (h : noExcs xs = true) (hl : xs.length ≠ 5) : d_is_log [.tuple xs] = .ok (.bool false) := by
  have hl' : ¬ ((xs.length : Int) = 5) := by omega
  unfold d_is_log m_is_log
  simp [y_fnD, y_fnP, st0, stP, y_eVa, y_lcK, noOwn, wipeR, unw, pAll, pAny, bools, pSl, Fl.cutD, sIxN, sIxS, tset, tsets, y_asgK, atI, ixN, ownAt, y_eCallPa, y_callPKa, List.replicate, tup_t h, hl']
theorem logN_l {xs : List PyData} (h : noExcs xs = true) (hl : xs.length ≠ 5) : d__law_is_log [.tuple xs] = .ok (.bool false) := by
  have hl' : ¬ ((xs.length : Int) = 5) := by omega
  unfold d__law_is_log
  rw [law_log_eq, y_fnD, x_sSeq]
  unfold lgA
  simp [y_fnD, y_fnP, st0, stP, y_eVa, y_lcK, noOwn, wipeR, unw, pAll, pAny, bools, pSl, Fl.cutD, sIxN, sIxS, tset, tsets, y_asgK, atI, ixN, ownAt, y_eCallPa, y_callPKa, List.replicate, isaT h, qNeI, hl']
theorem logL_p {xs : List PyData} (h : noExcs xs = true) : d_is_log [.list xs] = .ok (.bool false) := by
  unfold d_is_log m_is_log
  simp [y_fnD, y_fnP, st0, stP, y_eVa, y_lcK, noOwn, wipeR, unw, pAll, pAny, bools, pSl, Fl.cutD, sIxN, sIxS, tset, tsets, y_asgK, atI, ixN, ownAt, y_eCallPa, y_callPKa, List.replicate, tup_l h]
theorem logL_l {xs : List PyData} (h : noExcs xs = true) : d__law_is_log [.list xs] = .ok (.bool false) := by
  unfold d__law_is_log
  rw [law_log_eq, y_fnD, x_sSeq]
  unfold lgA
  simp [y_fnD, y_fnP, st0, stP, y_eVa, y_lcK, noOwn, wipeR, unw, pAll, pAny, bools, pSl, Fl.cutD, sIxN, sIxS, tset, tsets, y_asgK, atI, ixN, ownAt, y_eCallPa, y_callPKa, List.replicate, isaL h]
/-- a tuple of another length -/
theorem thingN {a : PyData} {xs : List PyData} {c b : Bool} (h : ∀ x ∈ a :: xs, Cm x c) (hl : (a :: xs).length ≠ 5) (hl2 : (a :: xs).length ≤ 10) (T1 : d_is_table [a] = .ok (.bool b)) (T2 : d__law_is_table [a] = .ok (.bool b)) : ThingF (.tuple (a :: xs)) :=
  ⟨⟨false, logN_p (noEx_all h) hl, logN_l (noEx_all h) hl⟩, repr_tup h hl2, .inr (.inr ⟨a, xs, rfl, noEx_all h, b, T1, T2⟩)⟩
/-- five parts, the first no table -/
theorem thingF {t l e s n : PyData} {c : Bool} (T1 : d_is_table [t] = .ok (.bool false)) (T2 : d__law_is_table [t] = .ok (.bool false)) (h : ∀ x ∈ [t, l, e, s, n], Cm x c) : ThingF (.tuple [t, l, e, s, n]) := by
  have ns := noEx_all h
  refine ⟨⟨false, ?_, ?_⟩, repr_tup h (by simp), .inr (.inr ⟨t, [l, e, s, n], rfl, ns, false, T1, T2⟩)⟩
  · unfold d_is_log m_is_log
    simp [y_fnD, y_fnP, st0, stP, y_eVa, y_lcK, noOwn, wipeR, unw, pAll, pAny, bools, pSl, Fl.cutD, sIxN, sIxS, tset, tsets, y_asgK, atI, ixN, ownAt, y_eCallPa, y_callPKa, List.replicate, tup_t ns, T1]
  · unfold d__law_is_log
    rw [law_log_eq, y_fnD, x_sSeq]
    unfold lgA
    simp [y_fnD, y_fnP, st0, stP, y_eVa, y_lcK, noOwn, wipeR, unw, pAll, pAny, bools, pSl, Fl.cutD, sIxN, sIxS, tset, tsets, y_asgK, atI, ixN, ownAt, y_eCallPa, y_callPKa, List.replicate, isaT ns, qNeI, T2]
theorem thingL {xs : List PyData} (h : ∀ x ∈ xs, Sm x 20253 6 ∧ x.hasDict = false) (hl : xs.length ≤ 10) : ThingF (.list xs) := by
  have ns := (sm_all fun x hx => (h x hx).1).2.2.2.2
  exact ⟨⟨false, logL_p ns, logL_l ns⟩, Sm.repr (Sm.lst (fun x hx => (h x hx).1) hl) (by decide) (by decide) (.inl (dict_list fun x hx => (h x hx).2)), .inl (isaL ns)⟩
theorem leaf_all : ([PyData.none, .dict [], .str "log", .int 0].all fun x => okB (d_is_log [x]) false && okB (d__law_is_log [x]) false && reprOk x && (match isaD "tuple" x with | some b => !b | none => false)) = true := by kernel_rfl
theorem leaf_ok {x : PyData} (hx : x ∈ [PyData.none, .dict [], .str "log", .int 0]) : ThingF x := by
  have h := List.all_eq_true.mp leaf_all x hx
  simp only [Bool.and_eq_true] at h
  obtain ⟨⟨⟨h1, h2⟩, h3⟩, h4⟩ := h
  refine ⟨⟨false, okB_eq h1, okB_eq h2⟩, by show (if reprOk x = true then _ else _) = _; rw [if_pos h3], .inl ?_⟩
  split at h4
  · rename_i b e
    cases b
    · exact e
    · cases h4
  · cases h4
theorem empty_ok : ThingF (.tuple []) := ⟨⟨false, logN_p (by simp [noExcs]) (by decide), logN_l (by simp [noExcs]) (by decide)⟩, by rfl, .inr (.inl rfl)⟩
end Lw
set_option Elab.async false
set_option autoImplicit false
set_option linter.all false
set_option maxRecDepth 100000
set_option maxHeartbeats 4000000
namespace Lw
open PySem PySem.Spec PyProof.Rows L2 Fl
/-! a log that is drawn -/
structure GoodLog (w a1 a2 b1 b2 c1 c2 l : PyData) (es : List PyData) (n : PyData) : Prop where
  hw : w ∈ wordL
  h1 : a1 ∈ cellL
  h2 : a2 ∈ cellL
  h3 : b1 ∈ cellL
  h4 : b2 ∈ cellL
  h5 : c1 ∈ cellL
  h6 : c2 ∈ cellL
  hl : l ∈ pairsL
  he : .tuple es ∈ endsL
  hn : n ∈ seenL
theorem all_of {xs : List PyData} {f : PyData → Bool} (h : xs.all f = true) {x : PyData} (hx : x ∈ xs) : f x = true := List.all_eq_true.mp h x hx
theorem cel_of {x : PyData} (hx : x ∈ cellL) : CelF x true ∧ Sm x 200 4 ∧ x.hasDict = false ∧ noLst x = true := by
  have h := all_of cell_all hx
  have g := all_of cell_sm hx
  simp only [Bool.and_eq_true, Bool.not_eq_true'] at h g
  obtain ⟨⟨h1, h2⟩, _⟩ := h
  obtain ⟨⟨⟨g1, g2⟩, g3⟩, _⟩ := g
  have s := smB_ok g1
  exact ⟨⟨okB_eq h1, okB_eq h2, s.ne⟩, s, g2, g3⟩
theorem bent_of {x : PyData} (hx : x ∈ bentL) : (∃ b, CelF x b) ∧ Sm x 200 4 ∧ x.hasDict = false := by
  have h := all_of bent_all hx
  have g := all_of bent_sm hx
  simp only [Bool.and_eq_true, Bool.not_eq_true'] at h g
  obtain ⟨h1, _⟩ := h
  obtain ⟨⟨g1, g2⟩, _⟩ := g
  have s := smB_ok g1
  obtain ⟨b, e1, e2⟩ := bothB_eq h1
  exact ⟨⟨b, e1, e2, s.ne⟩, s, g2⟩
theorem cell_form {x : PyData} (hx : x ∈ cellL) : ∃ p w, x = .tuple [p, w] := by
  simp only [cellL, List.mem_flatMap, List.mem_map] at hx
  obtain ⟨p, _, w, _, rfl⟩ := hx
  exact ⟨p, w, rfl⟩
theorem bent_mem {c x : PyData} (hc : c ∈ cellL) (hx : x ∈ bentOf c) : x ∈ bentL := List.mem_flatMap.mpr ⟨c, hc, hx⟩
theorem word_of {w : PyData} (h : w ∈ wordL) : WordF w true ∧ Sm w 200 4 ∧ w.hasDict = false ∧ noLst w = true ∧ d_is_table [w] = .ok (.bool false) ∧ d__law_is_table [w] = .ok (.bool false) := by
  have g := all_of word_sm h
  simp only [Bool.and_eq_true, Bool.not_eq_true'] at g
  obtain ⟨⟨⟨⟨⟨g1, g2⟩, g3⟩, _⟩, g5⟩, g6⟩ := g
  exact ⟨wordB_ok (all_of word_all h), smB_ok g1, g2, g3, okB_eq g5, okB_eq g6⟩
theorem odd_word {w : PyData} (h : w ∈ oddWords) : WordF w false ∧ Sm w 200 4 ∧ w.hasDict = false := by
  have g := all_of oddWord_sm h
  simp only [Bool.and_eq_true, Bool.not_eq_true'] at g
  exact ⟨wordB_ok (all_of oddWord_all h), smB_ok g.1, g.2⟩
theorem lead_of {x : PyData} (h : x ∈ pairsL) : PartF d_is_lead pairs9 x true ∧ Sm x 200 4 ∧ x.hasDict = false ∧ noLst x = true := by
  have g := all_of lead_all h
  simp only [Bool.and_eq_true, Bool.not_eq_true'] at g
  obtain ⟨⟨⟨g1, g2⟩, g3⟩, g4⟩ := g
  exact ⟨partB_ok g1, smB_ok g2, g3, g4⟩
theorem ends_of {x : PyData} (h : x ∈ endsL) : PartF d_are_ends reps64 x true ∧ Sm x 200 4 ∧ x.hasDict = false ∧ noLst x = true := by
  exact ends_part h
theorem seen_of {x : PyData} (h : x ∈ seenL) : PartF d_are_seen reps16 x true ∧ Sm x 200 4 ∧ x.hasDict = false ∧ noLst x = true ∧ d_is_table [x] = .ok (.bool false) ∧ d__law_is_table [x] = .ok (.bool false) := by
  have g := all_of seen_all h
  simp only [Bool.and_eq_true, Bool.not_eq_true'] at g
  obtain ⟨⟨⟨⟨⟨g1, g2⟩, g3⟩, g4⟩, g5⟩, g6⟩ := g
  exact ⟨partB_ok g1, smB_ok g2, g3, g4, okB_eq g5, okB_eq g6⟩
theorem cm_of {x : PyData} (s : Sm x 200 4) (h : x.hasDict = false) (h2 : noLst x = true) (c : Bool) : Cm x c := ⟨s.mono (by decide) (by decide), by cases c <;> simp [h, h2]⟩
theorem cm_d {x : PyData} (s : Sm x 200 4) (h : x.hasDict = false) : Cm x true := ⟨s.mono (by decide) (by decide), by simp [h]⟩
/-- a row, of what cells or not -/
structure RowC (r : PyData) (c : Bool) : Prop where
  f : ∃ b, RowF r b
  s : Sm r 2023 5
  fl : if c = true then r.hasDict = false else noLst r = true
structure CelC (x : PyData) (c : Bool) : Prop where
  f : ∃ b, CelF x b
  s : Sm x 200 4
  fl : if c = true then x.hasDict = false else noLst x = true
theorem celC_of {x : PyData} (h : x ∈ cellL) (c : Bool) : CelC x c := by
  obtain ⟨h1, h2, h3, h4⟩ := cel_of h
  exact ⟨⟨_, h1⟩, h2, by cases c <;> simp [h3, h4]⟩
theorem celC_bent {x : PyData} (h : x ∈ bentL) : CelC x true := by
  obtain ⟨h1, h2, h3⟩ := bent_of h
  exact ⟨h1, h2, by simp [h3]⟩
theorem rowC2 {x y : PyData} {c : Bool} (X : CelC x c) (Y : CelC y c) : RowC (.tuple [x, y]) c := by
  obtain ⟨b1, f1⟩ := X.f
  obtain ⟨b2, f2⟩ := Y.f
  refine ⟨⟨_, row2 f1 f2⟩, Sm.tup (xs := [x, y]) (L := 200) (k := 4) (fun z hz => ?_) (by simp), flag_tup (xs := [x, y]) fun z hz => ?_⟩
  · simp only [List.mem_cons, List.not_mem_nil, or_false] at hz
    rcases hz with rfl | rfl
    · exact X.s
    · exact Y.s
  · simp only [List.mem_cons, List.not_mem_nil, or_false] at hz
    rcases hz with rfl | rfl
    · exact X.fl
    · exact Y.fl
theorem rowC1 {x : PyData} {c : Bool} (X : CelC x c) : RowC (.tuple [x]) c := by
  obtain ⟨b1, f1⟩ := X.f
  refine ⟨⟨_, row_one f1⟩, Sm.tup (xs := [x]) (L := 200) (k := 4) (fun z hz => ?_) (by simp), flag_tup (xs := [x]) fun z hz => ?_⟩
  · simp only [List.mem_cons, List.not_mem_nil, or_false] at hz
    subst hz
    exact X.s
  · simp only [List.mem_cons, List.not_mem_nil, or_false] at hz
    subst hz
    exact X.fl
theorem rowC4 {x y : PyData} {c : Bool} (X : CelC x c) (Y : CelC y c) : RowC (.tuple [x, y, x, y]) c := by
  obtain ⟨b1, f1⟩ := X.f
  obtain ⟨b2, f2⟩ := Y.f
  refine ⟨⟨_, row_four f1 f2⟩, Sm.tup (xs := [x, y, x, y]) (L := 200) (k := 4) (fun z hz => ?_) (by simp), flag_tup (xs := [x, y, x, y]) fun z hz => ?_⟩
  · simp only [List.mem_cons, List.not_mem_nil, or_false] at hz
    rcases hz with rfl | rfl | rfl | rfl
    · exact X.s
    · exact Y.s
    · exact X.s
    · exact Y.s
  · simp only [List.mem_cons, List.not_mem_nil, or_false] at hz
    rcases hz with rfl | rfl | rfl | rfl
    · exact X.fl
    · exact Y.fl
    · exact X.fl
    · exact Y.fl
theorem rowCL {x y : PyData} (X : CelC x true) (Y : CelC y true) : RowC (.list [x, y]) true := by
  obtain ⟨b1, f1⟩ := X.f
  obtain ⟨b2, f2⟩ := Y.f
  refine ⟨⟨_, row_list f1 f2⟩, Sm.lst (xs := [x, y]) (L := 200) (k := 4) (fun z hz => ?_) (by simp), ?_⟩
  · simp only [List.mem_cons, List.not_mem_nil, or_false] at hz
    rcases hz with rfl | rfl
    · exact X.s
    · exact Y.s
  · rw [if_pos rfl]
    refine dict_list fun z hz => ?_
    simp only [List.mem_cons, List.not_mem_nil, or_false] at hz
    rcases hz with rfl | rfl
    · simpa using X.fl
    · simpa using Y.fl
/-- a table or not: both judges agree -/
structure TabC (t : PyData) (c : Bool) : Prop where
  f : ∃ b, TabF' t b
  m : Cm t c
theorem tabC4 {w r1 r2 r3 : PyData} {b c : Bool} (Wd : WordF w b) (sw : Sm w 200 4) (fw : if c = true then w.hasDict = false else noLst w = true) (R1 : RowC r1 c) (R2 : RowC r2 c) (R3 : RowC r3 c) : TabC (.tuple [w, r1, r2, r3]) c := by
  obtain ⟨b1, f1⟩ := R1.f
  obtain ⟨b2, f2⟩ := R2.f
  obtain ⟨b3, f3⟩ := R3.f
  refine ⟨⟨_, table4 Wd f1 f2 f3⟩, Sm.tup (xs := [w, r1, r2, r3]) (L := 2023) (k := 5) (fun z hz => ?_) (by simp), flag_tup (xs := [w, r1, r2, r3]) fun z hz => ?_⟩
  · simp only [List.mem_cons, List.not_mem_nil, or_false] at hz
    rcases hz with rfl | rfl | rfl | rfl
    · exact sw.mono (by decide) (by decide)
    · exact R1.s
    · exact R2.s
    · exact R3.s
  · simp only [List.mem_cons, List.not_mem_nil, or_false] at hz
    rcases hz with rfl | rfl | rfl | rfl
    · exact fw
    · exact R1.fl
    · exact R2.fl
    · exact R3.fl
end Lw
set_option Elab.async false
set_option autoImplicit false
set_option linter.all false
set_option maxRecDepth 100000
set_option maxHeartbeats 4000000
namespace Lw
open PySem PySem.Spec PyProof.Rows L2 Fl
theorem y_sPar2 {m1 m2 : Bool} {i j : Nat} {fa fb : Rho → Out} {ρ : Rho} : sPar2 m1 m2 i j fa fb ρ = (fa ρ).goS fun d1 r1 => (fb r1).goS fun d2 r2 => (match putM m1 i d1 r2 with
  | none => .no
  | some ρ1 => match putM m2 j d2 ρ1 with
    | none => .no
    | some ρ2 => .nx ρ2) := rfl
def blA : Rho → SOut := (sPar2 false false 5 6 (eCallP 2 0 d__law_draw (aCons (eC (.int 5)) aNil)) (eCallP 2 0 d__law_draw (aCons (eC (.int 6)) aNil)))
def blB : Rho → SOut := (sSet 2 (eOp pIx (eV 1) (eC (.int 0))))
def blC : Rho → SOut := (sPar2 false false 7 8 (eOp pAdd (eC (.int 1)) (eCallP 2 0 d__law_draw (aCons (eC (.int 3)) aNil))) (eCallP 2 0 d__law_draw (aCons (eC (.int 2)) aNil)))
def blD0 : Rho → Out := (eLst (aCons (eListOf (aCons (eV 1) aNil)) (aCons (eSl (eV 1) none (some (eC (.int 4)))) (aCons (eOp pAdd (eV 1) (eTup (aCons (eTup aNil) aNil))) (aCons (eC .none) (aCons (eTup aNil) (aCons (eC (.dict [])) (aCons (eC (.str "log")) (aCons (eC (.int 0)) (aCons (eRev (eV 1)) (aCons (eV 2) aNil)))))))))))
def blD : Rho → SOut := (sIf (eCmp qEq (eV 6) (eC (.int 0))) (sRet (eOp pIx blD0 (eCallP 2 0 d__law_draw (aCons (eC (.int 10)) aNil)))) sNil)
def blE1 : Rho → SOut := (sSet 9 (eCallP 2 0 d__law_bent_cell (aCons (eOp pIx (eOp pIx (eV 2) (eV 7)) (eV 8)) aNil)))
def blE2 : Rho → SOut := (sSet 10 (eIf (eCmp qEq (eV 8) (eC (.int 0))) (eTup (aCons (eV 9) (aCons (eOp pIx (eOp pIx (eV 2) (eV 7)) (eC (.int 1))) aNil))) (eTup (aCons (eOp pIx (eOp pIx (eV 2) (eV 7)) (eC (.int 0))) (aCons (eV 9) aNil)))))
def blE30 : Rho → Out := (eLst (aCons (eV 10) (aCons (eListOf (aCons (eOp pIx (eV 2) (eV 7)) aNil)) (aCons (eSl (eOp pIx (eV 2) (eV 7)) none (some (eC (.int 1)))) (aCons (eOp pMul (eOp pIx (eV 2) (eV 7)) (eC (.int 2))) aNil)))))
def blE3 : Rho → SOut := (sSet 10 (eOp pIx blE30 (eIf (eCmp qEq (eV 6) (eC (.int 1))) (eCallP 2 0 d__law_draw (aCons (eC (.int 4)) aNil)) (eC (.int 0)))))
def blE4 : Rho → SOut := (sRet (eOp pAdd (eTup (aCons (eOp pAdd (eOp pAdd (eSl (eV 2) none (some (eV 7))) (eTup (aCons (eV 10) aNil))) (eSl (eV 2) (some (eOp pAdd (eV 7) (eC (.int 1)))) none)) aNil)) (eSl (eV 1) (some (eC (.int 1))) none)))
def blE : Rho → SOut := (sIf (eCmp qLt (eV 6) (eC (.int 3))) (sSeq blE1 (sSeq blE2 (sSeq blE3 blE4))) sNil)
def blF : Rho → SOut := (sSetO 3 (eLst (aCons (eLst (aCons (eSl (eV 2) none (some (eC (.int 3)))) (aCons (eListOf (aCons (eV 2) aNil)) (aCons (eOp pAdd (eTup (aCons (eC (.str "maybe")) aNil)) (eSl (eV 2) (some (eC (.int 1))) none)) (aCons (eC .none) (aCons (eOp pAdd (eTup (aCons (eC .none) aNil)) (eSl (eV 2) (some (eC (.int 1))) none)) (aCons (eOp pAdd (eTup (aCons (eC (.int 0)) aNil)) (eSl (eV 2) (some (eC (.int 1))) none)) aNil))))))) aNil)))
def blG : Rho → SOut := (sSetIx 3 (eC (.int 0)) (eOp pAdd (eIxO 3 (eC (.int 0))) (eLst (aCons (eOp pAdd (eTup (aCons (eLst aNil) aNil)) (eSl (eV 2) (some (eC (.int 1))) none)) (aCons (eOp pAdd (eV 2) (eSl (eV 2) (some (eC (.int 1))) (some (eC (.int 2))))) (aCons (eOp pAdd (eTup (aCons (eC (.bool true)) aNil)) (eSl (eV 2) (some (eC (.int 1))) none)) (aCons (eOp pAdd (eTup (aCons (eC (.str "none")) aNil)) (eSl (eV 2) (some (eC (.int 1))) none)) aNil)))))))
def blH : Rho → SOut := (sSet 4 (eLst (aCons (eTup (aCons (eC (.str "free")) aNil)) (aCons (eLst (aCons (eC (.str "free")) (aCons (eC (.str "next")) aNil))) (aCons (eTup (aCons (eC (.str "go")) (aCons (eC (.str "stay")) aNil))) (aCons (eC .none) (aCons (eTup (aCons (eC (.str "free")) (aCons (eC (.str "next")) (aCons (eC (.str "stay")) aNil)))) (aCons (eTup (aCons (eC (.str "next")) (aCons (eC (.str "go")) aNil))) aNil))))))))
def blI : Rho → SOut := (sAppend 3 (eOp pAdd (eV 4) (eLst (aCons (eTup (aCons (eC .none) (aCons (eC (.str "free")) aNil))) aNil))))
def blJ : Rho → SOut := (sAppend 3 (eLst (aCons (eListOf (aCons (eOp pIx (eV 1) (eC (.int 2))) aNil)) (aCons (eOp pMul (eTup (aCons (eTup (aCons (eC (.str "all")) (aCons (eC (.str "good")) aNil))) aNil)) (eC (.int 2))) (aCons (eTup (aCons (eTup (aCons (eC (.str "some")) (aCons (eC (.str "bad")) aNil))) (aCons (eTup (aCons (eC (.str "all")) (aCons (eC (.str "good")) aNil))) aNil))) (aCons (eTup (aCons (eTup (aCons (eC (.str "part")) (aCons (eC (.str "good")) aNil))) aNil)) aNil))))))
def blK : Rho → SOut := (sSetO 3 (eAddL (eV 3) (eLst (aCons (eLst (aCons (eC (.int 0)) (aCons (eC (.int 1)) (aCons (eC .none) (aCons (eC (.str "yes")) aNil))))) (aCons (eLst (aCons (eTup (aCons (eC (.str "new")) (aCons (eC (.str "going")) aNil))) (aCons (eTup (aCons (eC (.str "kept")) (aCons (eC (.str "kept")) aNil))) (aCons (eTup (aCons (eC (.str "lost")) aNil)) (aCons (eLst (aCons (eC (.str "kept")) aNil)) aNil))))) aNil)))))
def blL1 : Rho → SOut := (sSet 11 (eOp pIx (eLst (aCons (eLst (aCons (eC (.str "kept")) aNil)) (aCons (eC (.dict [])) (aCons (eC .none) (aCons (eTup (aCons (eC (.str "new")) aNil)) (aCons (eC (.int 0)) (aCons (eLst aNil) aNil))))))) (eCallP 2 0 d__law_draw (aCons (eC (.int 6)) aNil))))
def blL20 : Rho → Out := (eLst (aCons (eTup (aCons (eV 11) aNil)) (aCons (eTup (aCons (eV 11) (aCons (eV 11) aNil))) (aCons (eTup (aCons (eC (.str "next")) (aCons (eV 11) aNil))) (aCons (eTup (aCons (eTup (aCons (eV 11) (aCons (eC (.str "good")) aNil))) aNil)) (aCons (eTup (aCons (eTup (aCons (eC (.str "all")) (aCons (eV 11) aNil))) aNil)) aNil))))))
def blL2 : Rho → SOut := (sSet 12 (eOp pIx blL20 (eCallP 2 0 d__law_draw (aCons (eC (.int 5)) aNil))))
def blL3 : Rho → SOut := (sRet (eOp pAdd (eOp pAdd (eSl (eV 1) none (some (eV 5))) (eTup (aCons (eV 12) aNil))) (eSl (eV 1) (some (eOp pAdd (eV 5) (eC (.int 1)))) none)))
def blL : Rho → SOut := (sIf (eCmp qEq (eCallP 2 0 d__law_draw (aCons (eC (.int 3)) aNil)) (eC (.int 0))) (sSeq blL1 (sSeq blL2 blL3)) sNil)
def blM0 : Rho → Out := (eOp pIx (eIxO 3 (eV 5)) (eCallP 2 0 d__law_draw (aCons (eFun pLen (aCons (eIxO 3 (eV 5)) aNil)) aNil)))
def blM : Rho → SOut := (sRet (eOp pAdd (eOp pAdd (eSl (eV 1) none (some (eV 5))) (eTup (aCons blM0 aNil))) (eSl (eV 1) (some (eOp pAdd (eV 5) (eC (.int 1)))) none)))
theorem bent_log_eq : m__law_bent_log = sSeq blA (sSeq blB (sSeq blC (sSeq blD (sSeq blE (sSeq blF (sSeq blG (sSeq blH (sSeq blI (sSeq blJ (sSeq blK (sSeq blL blM))))))))))) := rfl
/-- the places at the start; behind the draws -/
abbrev bl0 (c : List Int) (k v : Int) (g : PyData) : Rho := [po c k v, sd g, none, none, none, none, none, none, none, none, none, none, none]
abbrev bl1 (c : List Int) (k v : Int) (g t : PyData) (x5 x6 x7 x8 : Int) : Rho := [po c k v, sd g, sd t, none, none, sd (.int x5), sd (.int x6), sd (.int x7), sd (.int x8), none, none, none, none]
section
variable {c : List Int} {k v k1 v1 k2 v2 : Int} {w a1 a2 b1 b2 c1 c2 l n : PyData} {es : List PyData} {s : Bool}
abbrev tabD (w a1 a2 b1 b2 c1 c2 : PyData) : PyData := .tuple [w, .tuple [a1, a2], .tuple [b1, b2], .tuple [c1, c2]]
abbrev logD (w a1 a2 b1 b2 c1 c2 l : PyData) (es : List PyData) (s : Bool) (n : PyData) : PyData := .tuple [tabD w a1 a2 b1 b2 c1 c2, l, .tuple es, .bool s, n]
theorem bl_head (hk : 0 ≤ k) (hk2 : k < 2 ^ 58) (hv : 0 ≤ v) {t : PyData} {r : List PyData} : ∃ x5 x6 x7 x8 k' v', 0 ≤ x5 ∧ x5 < 5 ∧ 0 ≤ x6 ∧ x6 < 6 ∧ 1 ≤ x7 ∧ x7 ≤ 3 ∧ 0 ≤ x8 ∧ x8 < 2 ∧ k ≤ k' ∧ k' ≤ k + 4 ∧ 0 ≤ v' ∧
    ∀ rest : Rho → SOut, sSeq blA (sSeq blB (sSeq blC rest)) (bl0 c k v (.tuple (t :: r))) = rest (bl1 c k' v' (.tuple (t :: r)) t x5 x6 x7 x8) := by
  obtain ⟨x5, k1, v1, n0, n1, l1, l2, w1, e1⟩ := draw_ok c k v 5 hk (by omega) hv (by decide) (by decide)
  obtain ⟨x6, k2, v2, m0, m1, l3, l4, w2, e2⟩ := draw_ok c k1 v1 6 (by omega) (by omega) w1 (by decide) (by decide)
  obtain ⟨x7, k3, v3, o0, o1, l5, l6, w3, e3⟩ := draw_ok c k2 v2 3 (by omega) (by omega) w2 (by decide) (by decide)
  obtain ⟨x8, k4, v4, p0, p1, l7, l8, w4, e4⟩ := draw_ok c k3 v3 2 (by omega) (by omega) w3 (by decide) (by decide)
  refine ⟨x5, x6, 1 + x7, x8, k4, v4, n0, n1, m0, m1, by omega, by omega, p0, p1, by omega, by omega, w4, fun rest => ?_⟩
  have hA : blA (bl0 c k v (.tuple (t :: r))) = .nx [po c k2 v2, sd (.tuple (t :: r)), none, none, none, sd (.int x5), sd (.int x6), none, none, none, none, none, none] := by
    unfold blA
    simp [y_fnD, y_fnP, st0, stP, y_eVa, y_lcK, noOwn, wipeR, unw, pAll, pAny, bools, pSl, Fl.cutD, sIxN, sIxS, tset, tsets, y_asgK, atI, ixN, ownAt, y_eCallPa, y_callPKa, List.replicate, y_sPar2, putM, e1, e2]
  have hB : blB [po c k2 v2, sd (.tuple (t :: r)), none, none, none, sd (.int x5), sd (.int x6), none, none, none, none, none, none] = .nx [po c k2 v2, sd (.tuple (t :: r)), sd t, none, none, sd (.int x5), sd (.int x6), none, none, none, none, none, none] := by
    have z : ¬ ((r.length : Int) + 1 ≤ 0) := by omega
    have z2 : (0 : Int) < (r.length : Int) + 1 := by omega
    unfold blB
    simp [y_fnD, y_fnP, st0, stP, y_eVa, y_lcK, noOwn, wipeR, unw, pAll, pAny, bools, pSl, Fl.cutD, sIxN, sIxS, tset, tsets, y_asgK, atI, ixN, ownAt, y_eCallPa, y_callPKa, List.replicate, z, z2]
  have hC : blC [po c k2 v2, sd (.tuple (t :: r)), sd t, none, none, sd (.int x5), sd (.int x6), none, none, none, none, none, none] = .nx (bl1 c k4 v4 (.tuple (t :: r)) t x5 x6 (1 + x7) x8) := by
    unfold blC
    simp [y_fnD, y_fnP, st0, stP, y_eVa, y_lcK, noOwn, wipeR, unw, pAll, pAny, bools, pSl, Fl.cutD, sIxN, sIxS, tset, tsets, y_asgK, atI, ixN, ownAt, y_eCallPa, y_callPKa, List.replicate, y_sPar2, putM, e3, e4]
  rw [x_sSeq, hA, on_nx, x_sSeq, hB, on_nx, x_sSeq, hC, on_nx]
end
end Lw
set_option Elab.async false
set_option autoImplicit false
set_option linter.all false
set_option maxRecDepth 100000
set_option maxHeartbeats 4000000
namespace Lw
open PySem PySem.Spec PyProof.Rows L2 Fl
section
variable {c : List Int} {k v k1 v1 x5 : Int} {w a1 a2 b1 b2 c1 c2 l n x : PyData} {es : List PyData} {s : Bool}
theorem blE_101 (hk : 0 ≤ k1) (hk2 : k1 < 2 ^ 58) (hv : 0 ≤ v1) (hx : d__law_bent_cell (penD c k v) [a1] = .ok x (penD c k1 v1)) :
    ∃ y k' v' ρ', y ∈ ([.tuple [x, a2], .list [a1, a2], .tuple [a1], .tuple [a1, a2, a1, a2]] : List PyData) ∧ k1 ≤ k' ∧ k' ≤ k1 + 1 ∧ 0 ≤ v' ∧ blE (bl1 c k v (logD w a1 a2 b1 b2 c1 c2 l es s n) (tabD w a1 a2 b1 b2 c1 c2) x5 1 1 0) = .rt (.tuple [.tuple [w, y, .tuple [b1, b2], .tuple [c1, c2]], l, .tuple es, .bool s, n]) (po c k' v' :: ρ') := by
  have hc : (eCmp qLt (eV 6) (eC (.int 3))) (bl1 c k v (logD w a1 a2 b1 b2 c1 c2 l es s n) (tabD w a1 a2 b1 b2 c1 c2) x5 1 1 0) = .ok (.bool true) (bl1 c k v (logD w a1 a2 b1 b2 c1 c2 l es s n) (tabD w a1 a2 b1 b2 c1 c2) x5 1 1 0) := by kernel_rfl
  have h1 : blE1 (bl1 c k v (logD w a1 a2 b1 b2 c1 c2 l es s n) (tabD w a1 a2 b1 b2 c1 c2) x5 1 1 0) = .nx [po c k1 v1, sd (logD w a1 a2 b1 b2 c1 c2 l es s n), sd (tabD w a1 a2 b1 b2 c1 c2), none, none, sd (.int x5), sd (.int 1), sd (.int 1), sd (.int 0), sd x, none, none, none] := by
    unfold blE1
    simp [y_fnD, y_fnP, st0, stP, y_eVa, y_lcK, noOwn, wipeR, unw, pAll, pAny, bools, pSl, Fl.cutD, sIxN, sIxS, tset, tsets, y_asgK, at_0, at_1, at_2, at_3, at_4, at_5, ownAt, y_eCallPa, y_callPKa, List.replicate, hx]
  have h2 : blE2 [po c k1 v1, sd (logD w a1 a2 b1 b2 c1 c2 l es s n), sd (tabD w a1 a2 b1 b2 c1 c2), none, none, sd (.int x5), sd (.int 1), sd (.int 1), sd (.int 0), sd x, none, none, none] = .nx [po c k1 v1, sd (logD w a1 a2 b1 b2 c1 c2 l es s n), sd (tabD w a1 a2 b1 b2 c1 c2), none, none, sd (.int x5), sd (.int 1), sd (.int 1), sd (.int 0), sd x, sd (.tuple [x, a2]), none, none] := by kernel_rfl
  have h3 : blE30 [po c k1 v1, sd (logD w a1 a2 b1 b2 c1 c2 l es s n), sd (tabD w a1 a2 b1 b2 c1 c2), none, none, sd (.int x5), sd (.int 1), sd (.int 1), sd (.int 0), sd x, sd (.tuple [x, a2]), none, none] = .ok (.list [.tuple [x, a2], .list [a1, a2], .tuple [a1], .tuple [a1, a2, a1, a2]]) [po c k1 v1, sd (logD w a1 a2 b1 b2 c1 c2 l es s n), sd (tabD w a1 a2 b1 b2 c1 c2), none, none, sd (.int x5), sd (.int 1), sd (.int 1), sd (.int 0), sd x, sd (.tuple [x, a2]), none, none] := by kernel_rfl
  obtain ⟨m, k2, v2, m0, m1, l1, l2, w2, e⟩ := draw_ok c k1 v1 4 hk (by omega) hv (by decide) (by decide)
  obtain ⟨y, hy, ey⟩ := get_at (xs := ([.tuple [x, a2], .list [a1, a2], .tuple [a1], .tuple [a1, a2, a1, a2]] : List PyData)) m0 (by simpa using m1)
  have h4 : blE3 [po c k1 v1, sd (logD w a1 a2 b1 b2 c1 c2 l es s n), sd (tabD w a1 a2 b1 b2 c1 c2), none, none, sd (.int x5), sd (.int 1), sd (.int 1), sd (.int 0), sd x, sd (.tuple [x, a2]), none, none] = .nx [po c k2 v2, sd (logD w a1 a2 b1 b2 c1 c2 l es s n), sd (tabD w a1 a2 b1 b2 c1 c2), none, none, sd (.int x5), sd (.int 1), sd (.int 1), sd (.int 0), sd x, sd y, none, none] := by
    have hd : (eIf (eCmp qEq (eV 6) (eC (.int 1))) (eCallP 2 0 d__law_draw (aCons (eC (.int 4)) aNil)) (eC (.int 0))) [po c k1 v1, sd (logD w a1 a2 b1 b2 c1 c2 l es s n), sd (tabD w a1 a2 b1 b2 c1 c2), none, none, sd (.int x5), sd (.int 1), sd (.int 1), sd (.int 0), sd x, sd (.tuple [x, a2]), none, none] = .ok (.int m) [po c k2 v2, sd (logD w a1 a2 b1 b2 c1 c2 l es s n), sd (tabD w a1 a2 b1 b2 c1 c2), none, none, sd (.int x5), sd (.int 1), sd (.int 1), sd (.int 0), sd x, sd (.tuple [x, a2]), none, none] := by
      simp [y_fnD, y_fnP, st0, stP, y_eVa, y_lcK, noOwn, wipeR, unw, pAll, pAny, bools, pSl, Fl.cutD, sIxN, sIxS, tset, tsets, y_asgK, at_0, at_1, at_2, at_3, at_4, at_5, ownAt, y_eCallPa, y_callPKa, List.replicate, e, qEqI]
    unfold blE3
    rw [x_sSet, x_eOp, h3, go_ok, x_opK, hd, go_ok, x_opK2, p_ixL, ey]
    rfl
  have h5 : blE4 [po c k2 v2, sd (logD w a1 a2 b1 b2 c1 c2 l es s n), sd (tabD w a1 a2 b1 b2 c1 c2), none, none, sd (.int x5), sd (.int 1), sd (.int 1), sd (.int 0), sd x, sd y, none, none] = .rt (.tuple [.tuple [w, y, .tuple [b1, b2], .tuple [c1, c2]], l, .tuple es, .bool s, n]) [po c k2 v2, sd (logD w a1 a2 b1 b2 c1 c2 l es s n), sd (tabD w a1 a2 b1 b2 c1 c2), none, none, sd (.int x5), sd (.int 1), sd (.int 1), sd (.int 0), sd x, sd y, none, none] := by kernel_rfl
  refine ⟨y, k2, v2, [sd (logD w a1 a2 b1 b2 c1 c2 l es s n), sd (tabD w a1 a2 b1 b2 c1 c2), none, none, sd (.int x5), sd (.int 1), sd (.int 1), sd (.int 0), sd x, sd y, none, none], hy, l1, l2, w2, ?_⟩
  unfold blE
  rw [x_sIf, hc, goS_ok, x_ifS, tr_bool, if_pos rfl, x_sSeq, h1, on_nx, x_sSeq, h2, on_nx, x_sSeq, h4, on_nx, h5]
theorem blE_102 (hk : 0 ≤ k1) (hk2 : k1 < 2 ^ 58) (hv : 0 ≤ v1) (hx : d__law_bent_cell (penD c k v) [a1] = .ok x (penD c k1 v1)) :
    ∃ y k' v' ρ', y ∈ ([.tuple [x, a2], .list [a1, a2], .tuple [a1], .tuple [a1, a2, a1, a2]] : List PyData) ∧ k1 ≤ k' ∧ k' ≤ k1 + 1 ∧ 0 ≤ v' ∧ blE (bl1 c k v (logD w a1 a2 b1 b2 c1 c2 l es s n) (tabD w a1 a2 b1 b2 c1 c2) x5 2 1 0) = .rt (.tuple [.tuple [w, y, .tuple [b1, b2], .tuple [c1, c2]], l, .tuple es, .bool s, n]) (po c k' v' :: ρ') := by
  have hc : (eCmp qLt (eV 6) (eC (.int 3))) (bl1 c k v (logD w a1 a2 b1 b2 c1 c2 l es s n) (tabD w a1 a2 b1 b2 c1 c2) x5 2 1 0) = .ok (.bool true) (bl1 c k v (logD w a1 a2 b1 b2 c1 c2 l es s n) (tabD w a1 a2 b1 b2 c1 c2) x5 2 1 0) := by kernel_rfl
  have h1 : blE1 (bl1 c k v (logD w a1 a2 b1 b2 c1 c2 l es s n) (tabD w a1 a2 b1 b2 c1 c2) x5 2 1 0) = .nx [po c k1 v1, sd (logD w a1 a2 b1 b2 c1 c2 l es s n), sd (tabD w a1 a2 b1 b2 c1 c2), none, none, sd (.int x5), sd (.int 2), sd (.int 1), sd (.int 0), sd x, none, none, none] := by
    unfold blE1
    simp [y_fnD, y_fnP, st0, stP, y_eVa, y_lcK, noOwn, wipeR, unw, pAll, pAny, bools, pSl, Fl.cutD, sIxN, sIxS, tset, tsets, y_asgK, at_0, at_1, at_2, at_3, at_4, at_5, ownAt, y_eCallPa, y_callPKa, List.replicate, hx]
  have h2 : blE2 [po c k1 v1, sd (logD w a1 a2 b1 b2 c1 c2 l es s n), sd (tabD w a1 a2 b1 b2 c1 c2), none, none, sd (.int x5), sd (.int 2), sd (.int 1), sd (.int 0), sd x, none, none, none] = .nx [po c k1 v1, sd (logD w a1 a2 b1 b2 c1 c2 l es s n), sd (tabD w a1 a2 b1 b2 c1 c2), none, none, sd (.int x5), sd (.int 2), sd (.int 1), sd (.int 0), sd x, sd (.tuple [x, a2]), none, none] := by kernel_rfl
  have h3 : blE30 [po c k1 v1, sd (logD w a1 a2 b1 b2 c1 c2 l es s n), sd (tabD w a1 a2 b1 b2 c1 c2), none, none, sd (.int x5), sd (.int 2), sd (.int 1), sd (.int 0), sd x, sd (.tuple [x, a2]), none, none] = .ok (.list [.tuple [x, a2], .list [a1, a2], .tuple [a1], .tuple [a1, a2, a1, a2]]) [po c k1 v1, sd (logD w a1 a2 b1 b2 c1 c2 l es s n), sd (tabD w a1 a2 b1 b2 c1 c2), none, none, sd (.int x5), sd (.int 2), sd (.int 1), sd (.int 0), sd x, sd (.tuple [x, a2]), none, none] := by kernel_rfl
  have h4 : blE3 [po c k1 v1, sd (logD w a1 a2 b1 b2 c1 c2 l es s n), sd (tabD w a1 a2 b1 b2 c1 c2), none, none, sd (.int x5), sd (.int 2), sd (.int 1), sd (.int 0), sd x, sd (.tuple [x, a2]), none, none] = .nx [po c k1 v1, sd (logD w a1 a2 b1 b2 c1 c2 l es s n), sd (tabD w a1 a2 b1 b2 c1 c2), none, none, sd (.int x5), sd (.int 2), sd (.int 1), sd (.int 0), sd x, sd (.tuple [x, a2]), none, none] := by
    have hd : (eIf (eCmp qEq (eV 6) (eC (.int 1))) (eCallP 2 0 d__law_draw (aCons (eC (.int 4)) aNil)) (eC (.int 0))) [po c k1 v1, sd (logD w a1 a2 b1 b2 c1 c2 l es s n), sd (tabD w a1 a2 b1 b2 c1 c2), none, none, sd (.int x5), sd (.int 2), sd (.int 1), sd (.int 0), sd x, sd (.tuple [x, a2]), none, none] = .ok (.int 0) [po c k1 v1, sd (logD w a1 a2 b1 b2 c1 c2 l es s n), sd (tabD w a1 a2 b1 b2 c1 c2), none, none, sd (.int x5), sd (.int 2), sd (.int 1), sd (.int 0), sd x, sd (.tuple [x, a2]), none, none] := by
      simp [y_fnD, y_fnP, st0, stP, y_eVa, y_lcK, noOwn, wipeR, unw, pAll, pAny, bools, pSl, Fl.cutD, sIxN, sIxS, tset, tsets, y_asgK, at_0, at_1, at_2, at_3, at_4, at_5, ownAt, y_eCallPa, y_callPKa, List.replicate, qEqI]
    unfold blE3
    rw [x_sSet, x_eOp, h3, go_ok, x_opK, hd, go_ok, x_opK2, p_ixL, at_0]
    rfl
  have h5 : ∀ y, blE4 [po c k1 v1, sd (logD w a1 a2 b1 b2 c1 c2 l es s n), sd (tabD w a1 a2 b1 b2 c1 c2), none, none, sd (.int x5), sd (.int 2), sd (.int 1), sd (.int 0), sd x, sd y, none, none] = .rt (.tuple [.tuple [w, y, .tuple [b1, b2], .tuple [c1, c2]], l, .tuple es, .bool s, n]) [po c k1 v1, sd (logD w a1 a2 b1 b2 c1 c2 l es s n), sd (tabD w a1 a2 b1 b2 c1 c2), none, none, sd (.int x5), sd (.int 2), sd (.int 1), sd (.int 0), sd x, sd y, none, none] := fun y => by kernel_rfl
  refine ⟨.tuple [x, a2], k1, v1, [sd (logD w a1 a2 b1 b2 c1 c2 l es s n), sd (tabD w a1 a2 b1 b2 c1 c2), none, none, sd (.int x5), sd (.int 2), sd (.int 1), sd (.int 0), sd x, sd (.tuple [x, a2]), none, none], List.mem_cons_self, by omega, by omega, hv, ?_⟩
  unfold blE
  rw [x_sIf, hc, goS_ok, x_ifS, tr_bool, if_pos rfl, x_sSeq, h1, on_nx, x_sSeq, h2, on_nx, x_sSeq, h4, on_nx, h5]
theorem blE_111 (hk : 0 ≤ k1) (hk2 : k1 < 2 ^ 58) (hv : 0 ≤ v1) (hx : d__law_bent_cell (penD c k v) [a2] = .ok x (penD c k1 v1)) :
    ∃ y k' v' ρ', y ∈ ([.tuple [a1, x], .list [a1, a2], .tuple [a1], .tuple [a1, a2, a1, a2]] : List PyData) ∧ k1 ≤ k' ∧ k' ≤ k1 + 1 ∧ 0 ≤ v' ∧ blE (bl1 c k v (logD w a1 a2 b1 b2 c1 c2 l es s n) (tabD w a1 a2 b1 b2 c1 c2) x5 1 1 1) = .rt (.tuple [.tuple [w, y, .tuple [b1, b2], .tuple [c1, c2]], l, .tuple es, .bool s, n]) (po c k' v' :: ρ') := by
  have hc : (eCmp qLt (eV 6) (eC (.int 3))) (bl1 c k v (logD w a1 a2 b1 b2 c1 c2 l es s n) (tabD w a1 a2 b1 b2 c1 c2) x5 1 1 1) = .ok (.bool true) (bl1 c k v (logD w a1 a2 b1 b2 c1 c2 l es s n) (tabD w a1 a2 b1 b2 c1 c2) x5 1 1 1) := by kernel_rfl
  have h1 : blE1 (bl1 c k v (logD w a1 a2 b1 b2 c1 c2 l es s n) (tabD w a1 a2 b1 b2 c1 c2) x5 1 1 1) = .nx [po c k1 v1, sd (logD w a1 a2 b1 b2 c1 c2 l es s n), sd (tabD w a1 a2 b1 b2 c1 c2), none, none, sd (.int x5), sd (.int 1), sd (.int 1), sd (.int 1), sd x, none, none, none] := by
    unfold blE1
    simp [y_fnD, y_fnP, st0, stP, y_eVa, y_lcK, noOwn, wipeR, unw, pAll, pAny, bools, pSl, Fl.cutD, sIxN, sIxS, tset, tsets, y_asgK, at_0, at_1, at_2, at_3, at_4, at_5, ownAt, y_eCallPa, y_callPKa, List.replicate, hx]
  have h2 : blE2 [po c k1 v1, sd (logD w a1 a2 b1 b2 c1 c2 l es s n), sd (tabD w a1 a2 b1 b2 c1 c2), none, none, sd (.int x5), sd (.int 1), sd (.int 1), sd (.int 1), sd x, none, none, none] = .nx [po c k1 v1, sd (logD w a1 a2 b1 b2 c1 c2 l es s n), sd (tabD w a1 a2 b1 b2 c1 c2), none, none, sd (.int x5), sd (.int 1), sd (.int 1), sd (.int 1), sd x, sd (.tuple [a1, x]), none, none] := by kernel_rfl
  have h3 : blE30 [po c k1 v1, sd (logD w a1 a2 b1 b2 c1 c2 l es s n), sd (tabD w a1 a2 b1 b2 c1 c2), none, none, sd (.int x5), sd (.int 1), sd (.int 1), sd (.int 1), sd x, sd (.tuple [a1, x]), none, none] = .ok (.list [.tuple [a1, x], .list [a1, a2], .tuple [a1], .tuple [a1, a2, a1, a2]]) [po c k1 v1, sd (logD w a1 a2 b1 b2 c1 c2 l es s n), sd (tabD w a1 a2 b1 b2 c1 c2), none, none, sd (.int x5), sd (.int 1), sd (.int 1), sd (.int 1), sd x, sd (.tuple [a1, x]), none, none] := by kernel_rfl
  obtain ⟨m, k2, v2, m0, m1, l1, l2, w2, e⟩ := draw_ok c k1 v1 4 hk (by omega) hv (by decide) (by decide)
  obtain ⟨y, hy, ey⟩ := get_at (xs := ([.tuple [a1, x], .list [a1, a2], .tuple [a1], .tuple [a1, a2, a1, a2]] : List PyData)) m0 (by simpa using m1)
  have h4 : blE3 [po c k1 v1, sd (logD w a1 a2 b1 b2 c1 c2 l es s n), sd (tabD w a1 a2 b1 b2 c1 c2), none, none, sd (.int x5), sd (.int 1), sd (.int 1), sd (.int 1), sd x, sd (.tuple [a1, x]), none, none] = .nx [po c k2 v2, sd (logD w a1 a2 b1 b2 c1 c2 l es s n), sd (tabD w a1 a2 b1 b2 c1 c2), none, none, sd (.int x5), sd (.int 1), sd (.int 1), sd (.int 1), sd x, sd y, none, none] := by
    have hd : (eIf (eCmp qEq (eV 6) (eC (.int 1))) (eCallP 2 0 d__law_draw (aCons (eC (.int 4)) aNil)) (eC (.int 0))) [po c k1 v1, sd (logD w a1 a2 b1 b2 c1 c2 l es s n), sd (tabD w a1 a2 b1 b2 c1 c2), none, none, sd (.int x5), sd (.int 1), sd (.int 1), sd (.int 1), sd x, sd (.tuple [a1, x]), none, none] = .ok (.int m) [po c k2 v2, sd (logD w a1 a2 b1 b2 c1 c2 l es s n), sd (tabD w a1 a2 b1 b2 c1 c2), none, none, sd (.int x5), sd (.int 1), sd (.int 1), sd (.int 1), sd x, sd (.tuple [a1, x]), none, none] := by
      simp [y_fnD, y_fnP, st0, stP, y_eVa, y_lcK, noOwn, wipeR, unw, pAll, pAny, bools, pSl, Fl.cutD, sIxN, sIxS, tset, tsets, y_asgK, at_0, at_1, at_2, at_3, at_4, at_5, ownAt, y_eCallPa, y_callPKa, List.replicate, e, qEqI]
    unfold blE3
    rw [x_sSet, x_eOp, h3, go_ok, x_opK, hd, go_ok, x_opK2, p_ixL, ey]
    rfl
  have h5 : blE4 [po c k2 v2, sd (logD w a1 a2 b1 b2 c1 c2 l es s n), sd (tabD w a1 a2 b1 b2 c1 c2), none, none, sd (.int x5), sd (.int 1), sd (.int 1), sd (.int 1), sd x, sd y, none, none] = .rt (.tuple [.tuple [w, y, .tuple [b1, b2], .tuple [c1, c2]], l, .tuple es, .bool s, n]) [po c k2 v2, sd (logD w a1 a2 b1 b2 c1 c2 l es s n), sd (tabD w a1 a2 b1 b2 c1 c2), none, none, sd (.int x5), sd (.int 1), sd (.int 1), sd (.int 1), sd x, sd y, none, none] := by kernel_rfl
  refine ⟨y, k2, v2, [sd (logD w a1 a2 b1 b2 c1 c2 l es s n), sd (tabD w a1 a2 b1 b2 c1 c2), none, none, sd (.int x5), sd (.int 1), sd (.int 1), sd (.int 1), sd x, sd y, none, none], hy, l1, l2, w2, ?_⟩
  unfold blE
  rw [x_sIf, hc, goS_ok, x_ifS, tr_bool, if_pos rfl, x_sSeq, h1, on_nx, x_sSeq, h2, on_nx, x_sSeq, h4, on_nx, h5]
theorem blE_112 (hk : 0 ≤ k1) (hk2 : k1 < 2 ^ 58) (hv : 0 ≤ v1) (hx : d__law_bent_cell (penD c k v) [a2] = .ok x (penD c k1 v1)) :
    ∃ y k' v' ρ', y ∈ ([.tuple [a1, x], .list [a1, a2], .tuple [a1], .tuple [a1, a2, a1, a2]] : List PyData) ∧ k1 ≤ k' ∧ k' ≤ k1 + 1 ∧ 0 ≤ v' ∧ blE (bl1 c k v (logD w a1 a2 b1 b2 c1 c2 l es s n) (tabD w a1 a2 b1 b2 c1 c2) x5 2 1 1) = .rt (.tuple [.tuple [w, y, .tuple [b1, b2], .tuple [c1, c2]], l, .tuple es, .bool s, n]) (po c k' v' :: ρ') := by
  have hc : (eCmp qLt (eV 6) (eC (.int 3))) (bl1 c k v (logD w a1 a2 b1 b2 c1 c2 l es s n) (tabD w a1 a2 b1 b2 c1 c2) x5 2 1 1) = .ok (.bool true) (bl1 c k v (logD w a1 a2 b1 b2 c1 c2 l es s n) (tabD w a1 a2 b1 b2 c1 c2) x5 2 1 1) := by kernel_rfl
  have h1 : blE1 (bl1 c k v (logD w a1 a2 b1 b2 c1 c2 l es s n) (tabD w a1 a2 b1 b2 c1 c2) x5 2 1 1) = .nx [po c k1 v1, sd (logD w a1 a2 b1 b2 c1 c2 l es s n), sd (tabD w a1 a2 b1 b2 c1 c2), none, none, sd (.int x5), sd (.int 2), sd (.int 1), sd (.int 1), sd x, none, none, none] := by
    unfold blE1
    simp [y_fnD, y_fnP, st0, stP, y_eVa, y_lcK, noOwn, wipeR, unw, pAll, pAny, bools, pSl, Fl.cutD, sIxN, sIxS, tset, tsets, y_asgK, at_0, at_1, at_2, at_3, at_4, at_5, ownAt, y_eCallPa, y_callPKa, List.replicate, hx]
  have h2 : blE2 [po c k1 v1, sd (logD w a1 a2 b1 b2 c1 c2 l es s n), sd (tabD w a1 a2 b1 b2 c1 c2), none, none, sd (.int x5), sd (.int 2), sd (.int 1), sd (.int 1), sd x, none, none, none] = .nx [po c k1 v1, sd (logD w a1 a2 b1 b2 c1 c2 l es s n), sd (tabD w a1 a2 b1 b2 c1 c2), none, none, sd (.int x5), sd (.int 2), sd (.int 1), sd (.int 1), sd x, sd (.tuple [a1, x]), none, none] := by kernel_rfl
  have h3 : blE30 [po c k1 v1, sd (logD w a1 a2 b1 b2 c1 c2 l es s n), sd (tabD w a1 a2 b1 b2 c1 c2), none, none, sd (.int x5), sd (.int 2), sd (.int 1), sd (.int 1), sd x, sd (.tuple [a1, x]), none, none] = .ok (.list [.tuple [a1, x], .list [a1, a2], .tuple [a1], .tuple [a1, a2, a1, a2]]) [po c k1 v1, sd (logD w a1 a2 b1 b2 c1 c2 l es s n), sd (tabD w a1 a2 b1 b2 c1 c2), none, none, sd (.int x5), sd (.int 2), sd (.int 1), sd (.int 1), sd x, sd (.tuple [a1, x]), none, none] := by kernel_rfl
  have h4 : blE3 [po c k1 v1, sd (logD w a1 a2 b1 b2 c1 c2 l es s n), sd (tabD w a1 a2 b1 b2 c1 c2), none, none, sd (.int x5), sd (.int 2), sd (.int 1), sd (.int 1), sd x, sd (.tuple [a1, x]), none, none] = .nx [po c k1 v1, sd (logD w a1 a2 b1 b2 c1 c2 l es s n), sd (tabD w a1 a2 b1 b2 c1 c2), none, none, sd (.int x5), sd (.int 2), sd (.int 1), sd (.int 1), sd x, sd (.tuple [a1, x]), none, none] := by
    have hd : (eIf (eCmp qEq (eV 6) (eC (.int 1))) (eCallP 2 0 d__law_draw (aCons (eC (.int 4)) aNil)) (eC (.int 0))) [po c k1 v1, sd (logD w a1 a2 b1 b2 c1 c2 l es s n), sd (tabD w a1 a2 b1 b2 c1 c2), none, none, sd (.int x5), sd (.int 2), sd (.int 1), sd (.int 1), sd x, sd (.tuple [a1, x]), none, none] = .ok (.int 0) [po c k1 v1, sd (logD w a1 a2 b1 b2 c1 c2 l es s n), sd (tabD w a1 a2 b1 b2 c1 c2), none, none, sd (.int x5), sd (.int 2), sd (.int 1), sd (.int 1), sd x, sd (.tuple [a1, x]), none, none] := by
      simp [y_fnD, y_fnP, st0, stP, y_eVa, y_lcK, noOwn, wipeR, unw, pAll, pAny, bools, pSl, Fl.cutD, sIxN, sIxS, tset, tsets, y_asgK, at_0, at_1, at_2, at_3, at_4, at_5, ownAt, y_eCallPa, y_callPKa, List.replicate, qEqI]
    unfold blE3
    rw [x_sSet, x_eOp, h3, go_ok, x_opK, hd, go_ok, x_opK2, p_ixL, at_0]
    rfl
  have h5 : ∀ y, blE4 [po c k1 v1, sd (logD w a1 a2 b1 b2 c1 c2 l es s n), sd (tabD w a1 a2 b1 b2 c1 c2), none, none, sd (.int x5), sd (.int 2), sd (.int 1), sd (.int 1), sd x, sd y, none, none] = .rt (.tuple [.tuple [w, y, .tuple [b1, b2], .tuple [c1, c2]], l, .tuple es, .bool s, n]) [po c k1 v1, sd (logD w a1 a2 b1 b2 c1 c2 l es s n), sd (tabD w a1 a2 b1 b2 c1 c2), none, none, sd (.int x5), sd (.int 2), sd (.int 1), sd (.int 1), sd x, sd y, none, none] := fun y => by kernel_rfl
  refine ⟨.tuple [a1, x], k1, v1, [sd (logD w a1 a2 b1 b2 c1 c2 l es s n), sd (tabD w a1 a2 b1 b2 c1 c2), none, none, sd (.int x5), sd (.int 2), sd (.int 1), sd (.int 1), sd x, sd (.tuple [a1, x]), none, none], List.mem_cons_self, by omega, by omega, hv, ?_⟩
  unfold blE
  rw [x_sIf, hc, goS_ok, x_ifS, tr_bool, if_pos rfl, x_sSeq, h1, on_nx, x_sSeq, h2, on_nx, x_sSeq, h4, on_nx, h5]
theorem blE_201 (hk : 0 ≤ k1) (hk2 : k1 < 2 ^ 58) (hv : 0 ≤ v1) (hx : d__law_bent_cell (penD c k v) [b1] = .ok x (penD c k1 v1)) :
    ∃ y k' v' ρ', y ∈ ([.tuple [x, b2], .list [b1, b2], .tuple [b1], .tuple [b1, b2, b1, b2]] : List PyData) ∧ k1 ≤ k' ∧ k' ≤ k1 + 1 ∧ 0 ≤ v' ∧ blE (bl1 c k v (logD w a1 a2 b1 b2 c1 c2 l es s n) (tabD w a1 a2 b1 b2 c1 c2) x5 1 2 0) = .rt (.tuple [.tuple [w, .tuple [a1, a2], y, .tuple [c1, c2]], l, .tuple es, .bool s, n]) (po c k' v' :: ρ') := by
  have hc : (eCmp qLt (eV 6) (eC (.int 3))) (bl1 c k v (logD w a1 a2 b1 b2 c1 c2 l es s n) (tabD w a1 a2 b1 b2 c1 c2) x5 1 2 0) = .ok (.bool true) (bl1 c k v (logD w a1 a2 b1 b2 c1 c2 l es s n) (tabD w a1 a2 b1 b2 c1 c2) x5 1 2 0) := by kernel_rfl
  have h1 : blE1 (bl1 c k v (logD w a1 a2 b1 b2 c1 c2 l es s n) (tabD w a1 a2 b1 b2 c1 c2) x5 1 2 0) = .nx [po c k1 v1, sd (logD w a1 a2 b1 b2 c1 c2 l es s n), sd (tabD w a1 a2 b1 b2 c1 c2), none, none, sd (.int x5), sd (.int 1), sd (.int 2), sd (.int 0), sd x, none, none, none] := by
    unfold blE1
    simp [y_fnD, y_fnP, st0, stP, y_eVa, y_lcK, noOwn, wipeR, unw, pAll, pAny, bools, pSl, Fl.cutD, sIxN, sIxS, tset, tsets, y_asgK, at_0, at_1, at_2, at_3, at_4, at_5, ownAt, y_eCallPa, y_callPKa, List.replicate, hx]
  have h2 : blE2 [po c k1 v1, sd (logD w a1 a2 b1 b2 c1 c2 l es s n), sd (tabD w a1 a2 b1 b2 c1 c2), none, none, sd (.int x5), sd (.int 1), sd (.int 2), sd (.int 0), sd x, none, none, none] = .nx [po c k1 v1, sd (logD w a1 a2 b1 b2 c1 c2 l es s n), sd (tabD w a1 a2 b1 b2 c1 c2), none, none, sd (.int x5), sd (.int 1), sd (.int 2), sd (.int 0), sd x, sd (.tuple [x, b2]), none, none] := by kernel_rfl
  have h3 : blE30 [po c k1 v1, sd (logD w a1 a2 b1 b2 c1 c2 l es s n), sd (tabD w a1 a2 b1 b2 c1 c2), none, none, sd (.int x5), sd (.int 1), sd (.int 2), sd (.int 0), sd x, sd (.tuple [x, b2]), none, none] = .ok (.list [.tuple [x, b2], .list [b1, b2], .tuple [b1], .tuple [b1, b2, b1, b2]]) [po c k1 v1, sd (logD w a1 a2 b1 b2 c1 c2 l es s n), sd (tabD w a1 a2 b1 b2 c1 c2), none, none, sd (.int x5), sd (.int 1), sd (.int 2), sd (.int 0), sd x, sd (.tuple [x, b2]), none, none] := by kernel_rfl
  obtain ⟨m, k2, v2, m0, m1, l1, l2, w2, e⟩ := draw_ok c k1 v1 4 hk (by omega) hv (by decide) (by decide)
  obtain ⟨y, hy, ey⟩ := get_at (xs := ([.tuple [x, b2], .list [b1, b2], .tuple [b1], .tuple [b1, b2, b1, b2]] : List PyData)) m0 (by simpa using m1)
  have h4 : blE3 [po c k1 v1, sd (logD w a1 a2 b1 b2 c1 c2 l es s n), sd (tabD w a1 a2 b1 b2 c1 c2), none, none, sd (.int x5), sd (.int 1), sd (.int 2), sd (.int 0), sd x, sd (.tuple [x, b2]), none, none] = .nx [po c k2 v2, sd (logD w a1 a2 b1 b2 c1 c2 l es s n), sd (tabD w a1 a2 b1 b2 c1 c2), none, none, sd (.int x5), sd (.int 1), sd (.int 2), sd (.int 0), sd x, sd y, none, none] := by
    have hd : (eIf (eCmp qEq (eV 6) (eC (.int 1))) (eCallP 2 0 d__law_draw (aCons (eC (.int 4)) aNil)) (eC (.int 0))) [po c k1 v1, sd (logD w a1 a2 b1 b2 c1 c2 l es s n), sd (tabD w a1 a2 b1 b2 c1 c2), none, none, sd (.int x5), sd (.int 1), sd (.int 2), sd (.int 0), sd x, sd (.tuple [x, b2]), none, none] = .ok (.int m) [po c k2 v2, sd (logD w a1 a2 b1 b2 c1 c2 l es s n), sd (tabD w a1 a2 b1 b2 c1 c2), none, none, sd (.int x5), sd (.int 1), sd (.int 2), sd (.int 0), sd x, sd (.tuple [x, b2]), none, none] := by
      simp [y_fnD, y_fnP, st0, stP, y_eVa, y_lcK, noOwn, wipeR, unw, pAll, pAny, bools, pSl, Fl.cutD, sIxN, sIxS, tset, tsets, y_asgK, at_0, at_1, at_2, at_3, at_4, at_5, ownAt, y_eCallPa, y_callPKa, List.replicate, e, qEqI]
    unfold blE3
    rw [x_sSet, x_eOp, h3, go_ok, x_opK, hd, go_ok, x_opK2, p_ixL, ey]
    rfl
  have h5 : blE4 [po c k2 v2, sd (logD w a1 a2 b1 b2 c1 c2 l es s n), sd (tabD w a1 a2 b1 b2 c1 c2), none, none, sd (.int x5), sd (.int 1), sd (.int 2), sd (.int 0), sd x, sd y, none, none] = .rt (.tuple [.tuple [w, .tuple [a1, a2], y, .tuple [c1, c2]], l, .tuple es, .bool s, n]) [po c k2 v2, sd (logD w a1 a2 b1 b2 c1 c2 l es s n), sd (tabD w a1 a2 b1 b2 c1 c2), none, none, sd (.int x5), sd (.int 1), sd (.int 2), sd (.int 0), sd x, sd y, none, none] := by kernel_rfl
  refine ⟨y, k2, v2, [sd (logD w a1 a2 b1 b2 c1 c2 l es s n), sd (tabD w a1 a2 b1 b2 c1 c2), none, none, sd (.int x5), sd (.int 1), sd (.int 2), sd (.int 0), sd x, sd y, none, none], hy, l1, l2, w2, ?_⟩
  unfold blE
  rw [x_sIf, hc, goS_ok, x_ifS, tr_bool, if_pos rfl, x_sSeq, h1, on_nx, x_sSeq, h2, on_nx, x_sSeq, h4, on_nx, h5]
theorem blE_202 (hk : 0 ≤ k1) (hk2 : k1 < 2 ^ 58) (hv : 0 ≤ v1) (hx : d__law_bent_cell (penD c k v) [b1] = .ok x (penD c k1 v1)) :
    ∃ y k' v' ρ', y ∈ ([.tuple [x, b2], .list [b1, b2], .tuple [b1], .tuple [b1, b2, b1, b2]] : List PyData) ∧ k1 ≤ k' ∧ k' ≤ k1 + 1 ∧ 0 ≤ v' ∧ blE (bl1 c k v (logD w a1 a2 b1 b2 c1 c2 l es s n) (tabD w a1 a2 b1 b2 c1 c2) x5 2 2 0) = .rt (.tuple [.tuple [w, .tuple [a1, a2], y, .tuple [c1, c2]], l, .tuple es, .bool s, n]) (po c k' v' :: ρ') := by
  have hc : (eCmp qLt (eV 6) (eC (.int 3))) (bl1 c k v (logD w a1 a2 b1 b2 c1 c2 l es s n) (tabD w a1 a2 b1 b2 c1 c2) x5 2 2 0) = .ok (.bool true) (bl1 c k v (logD w a1 a2 b1 b2 c1 c2 l es s n) (tabD w a1 a2 b1 b2 c1 c2) x5 2 2 0) := by kernel_rfl
  have h1 : blE1 (bl1 c k v (logD w a1 a2 b1 b2 c1 c2 l es s n) (tabD w a1 a2 b1 b2 c1 c2) x5 2 2 0) = .nx [po c k1 v1, sd (logD w a1 a2 b1 b2 c1 c2 l es s n), sd (tabD w a1 a2 b1 b2 c1 c2), none, none, sd (.int x5), sd (.int 2), sd (.int 2), sd (.int 0), sd x, none, none, none] := by
    unfold blE1
    simp [y_fnD, y_fnP, st0, stP, y_eVa, y_lcK, noOwn, wipeR, unw, pAll, pAny, bools, pSl, Fl.cutD, sIxN, sIxS, tset, tsets, y_asgK, at_0, at_1, at_2, at_3, at_4, at_5, ownAt, y_eCallPa, y_callPKa, List.replicate, hx]
  have h2 : blE2 [po c k1 v1, sd (logD w a1 a2 b1 b2 c1 c2 l es s n), sd (tabD w a1 a2 b1 b2 c1 c2), none, none, sd (.int x5), sd (.int 2), sd (.int 2), sd (.int 0), sd x, none, none, none] = .nx [po c k1 v1, sd (logD w a1 a2 b1 b2 c1 c2 l es s n), sd (tabD w a1 a2 b1 b2 c1 c2), none, none, sd (.int x5), sd (.int 2), sd (.int 2), sd (.int 0), sd x, sd (.tuple [x, b2]), none, none] := by kernel_rfl
  have h3 : blE30 [po c k1 v1, sd (logD w a1 a2 b1 b2 c1 c2 l es s n), sd (tabD w a1 a2 b1 b2 c1 c2), none, none, sd (.int x5), sd (.int 2), sd (.int 2), sd (.int 0), sd x, sd (.tuple [x, b2]), none, none] = .ok (.list [.tuple [x, b2], .list [b1, b2], .tuple [b1], .tuple [b1, b2, b1, b2]]) [po c k1 v1, sd (logD w a1 a2 b1 b2 c1 c2 l es s n), sd (tabD w a1 a2 b1 b2 c1 c2), none, none, sd (.int x5), sd (.int 2), sd (.int 2), sd (.int 0), sd x, sd (.tuple [x, b2]), none, none] := by kernel_rfl
  have h4 : blE3 [po c k1 v1, sd (logD w a1 a2 b1 b2 c1 c2 l es s n), sd (tabD w a1 a2 b1 b2 c1 c2), none, none, sd (.int x5), sd (.int 2), sd (.int 2), sd (.int 0), sd x, sd (.tuple [x, b2]), none, none] = .nx [po c k1 v1, sd (logD w a1 a2 b1 b2 c1 c2 l es s n), sd (tabD w a1 a2 b1 b2 c1 c2), none, none, sd (.int x5), sd (.int 2), sd (.int 2), sd (.int 0), sd x, sd (.tuple [x, b2]), none, none] := by
    have hd : (eIf (eCmp qEq (eV 6) (eC (.int 1))) (eCallP 2 0 d__law_draw (aCons (eC (.int 4)) aNil)) (eC (.int 0))) [po c k1 v1, sd (logD w a1 a2 b1 b2 c1 c2 l es s n), sd (tabD w a1 a2 b1 b2 c1 c2), none, none, sd (.int x5), sd (.int 2), sd (.int 2), sd (.int 0), sd x, sd (.tuple [x, b2]), none, none] = .ok (.int 0) [po c k1 v1, sd (logD w a1 a2 b1 b2 c1 c2 l es s n), sd (tabD w a1 a2 b1 b2 c1 c2), none, none, sd (.int x5), sd (.int 2), sd (.int 2), sd (.int 0), sd x, sd (.tuple [x, b2]), none, none] := by
      simp [y_fnD, y_fnP, st0, stP, y_eVa, y_lcK, noOwn, wipeR, unw, pAll, pAny, bools, pSl, Fl.cutD, sIxN, sIxS, tset, tsets, y_asgK, at_0, at_1, at_2, at_3, at_4, at_5, ownAt, y_eCallPa, y_callPKa, List.replicate, qEqI]
    unfold blE3
    rw [x_sSet, x_eOp, h3, go_ok, x_opK, hd, go_ok, x_opK2, p_ixL, at_0]
    rfl
  have h5 : ∀ y, blE4 [po c k1 v1, sd (logD w a1 a2 b1 b2 c1 c2 l es s n), sd (tabD w a1 a2 b1 b2 c1 c2), none, none, sd (.int x5), sd (.int 2), sd (.int 2), sd (.int 0), sd x, sd y, none, none] = .rt (.tuple [.tuple [w, .tuple [a1, a2], y, .tuple [c1, c2]], l, .tuple es, .bool s, n]) [po c k1 v1, sd (logD w a1 a2 b1 b2 c1 c2 l es s n), sd (tabD w a1 a2 b1 b2 c1 c2), none, none, sd (.int x5), sd (.int 2), sd (.int 2), sd (.int 0), sd x, sd y, none, none] := fun y => by kernel_rfl
  refine ⟨.tuple [x, b2], k1, v1, [sd (logD w a1 a2 b1 b2 c1 c2 l es s n), sd (tabD w a1 a2 b1 b2 c1 c2), none, none, sd (.int x5), sd (.int 2), sd (.int 2), sd (.int 0), sd x, sd (.tuple [x, b2]), none, none], List.mem_cons_self, by omega, by omega, hv, ?_⟩
  unfold blE
  rw [x_sIf, hc, goS_ok, x_ifS, tr_bool, if_pos rfl, x_sSeq, h1, on_nx, x_sSeq, h2, on_nx, x_sSeq, h4, on_nx, h5]
theorem blE_211 (hk : 0 ≤ k1) (hk2 : k1 < 2 ^ 58) (hv : 0 ≤ v1) (hx : d__law_bent_cell (penD c k v) [b2] = .ok x (penD c k1 v1)) :
    ∃ y k' v' ρ', y ∈ ([.tuple [b1, x], .list [b1, b2], .tuple [b1], .tuple [b1, b2, b1, b2]] : List PyData) ∧ k1 ≤ k' ∧ k' ≤ k1 + 1 ∧ 0 ≤ v' ∧ blE (bl1 c k v (logD w a1 a2 b1 b2 c1 c2 l es s n) (tabD w a1 a2 b1 b2 c1 c2) x5 1 2 1) = .rt (.tuple [.tuple [w, .tuple [a1, a2], y, .tuple [c1, c2]], l, .tuple es, .bool s, n]) (po c k' v' :: ρ') := by
  have hc : (eCmp qLt (eV 6) (eC (.int 3))) (bl1 c k v (logD w a1 a2 b1 b2 c1 c2 l es s n) (tabD w a1 a2 b1 b2 c1 c2) x5 1 2 1) = .ok (.bool true) (bl1 c k v (logD w a1 a2 b1 b2 c1 c2 l es s n) (tabD w a1 a2 b1 b2 c1 c2) x5 1 2 1) := by kernel_rfl
  have h1 : blE1 (bl1 c k v (logD w a1 a2 b1 b2 c1 c2 l es s n) (tabD w a1 a2 b1 b2 c1 c2) x5 1 2 1) = .nx [po c k1 v1, sd (logD w a1 a2 b1 b2 c1 c2 l es s n), sd (tabD w a1 a2 b1 b2 c1 c2), none, none, sd (.int x5), sd (.int 1), sd (.int 2), sd (.int 1), sd x, none, none, none] := by
    unfold blE1
    simp [y_fnD, y_fnP, st0, stP, y_eVa, y_lcK, noOwn, wipeR, unw, pAll, pAny, bools, pSl, Fl.cutD, sIxN, sIxS, tset, tsets, y_asgK, at_0, at_1, at_2, at_3, at_4, at_5, ownAt, y_eCallPa, y_callPKa, List.replicate, hx]
  have h2 : blE2 [po c k1 v1, sd (logD w a1 a2 b1 b2 c1 c2 l es s n), sd (tabD w a1 a2 b1 b2 c1 c2), none, none, sd (.int x5), sd (.int 1), sd (.int 2), sd (.int 1), sd x, none, none, none] = .nx [po c k1 v1, sd (logD w a1 a2 b1 b2 c1 c2 l es s n), sd (tabD w a1 a2 b1 b2 c1 c2), none, none, sd (.int x5), sd (.int 1), sd (.int 2), sd (.int 1), sd x, sd (.tuple [b1, x]), none, none] := by kernel_rfl
  have h3 : blE30 [po c k1 v1, sd (logD w a1 a2 b1 b2 c1 c2 l es s n), sd (tabD w a1 a2 b1 b2 c1 c2), none, none, sd (.int x5), sd (.int 1), sd (.int 2), sd (.int 1), sd x, sd (.tuple [b1, x]), none, none] = .ok (.list [.tuple [b1, x], .list [b1, b2], .tuple [b1], .tuple [b1, b2, b1, b2]]) [po c k1 v1, sd (logD w a1 a2 b1 b2 c1 c2 l es s n), sd (tabD w a1 a2 b1 b2 c1 c2), none, none, sd (.int x5), sd (.int 1), sd (.int 2), sd (.int 1), sd x, sd (.tuple [b1, x]), none, none] := by kernel_rfl
  obtain ⟨m, k2, v2, m0, m1, l1, l2, w2, e⟩ := draw_ok c k1 v1 4 hk (by omega) hv (by decide) (by decide)
  obtain ⟨y, hy, ey⟩ := get_at (xs := ([.tuple [b1, x], .list [b1, b2], .tuple [b1], .tuple [b1, b2, b1, b2]] : List PyData)) m0 (by simpa using m1)
  have h4 : blE3 [po c k1 v1, sd (logD w a1 a2 b1 b2 c1 c2 l es s n), sd (tabD w a1 a2 b1 b2 c1 c2), none, none, sd (.int x5), sd (.int 1), sd (.int 2), sd (.int 1), sd x, sd (.tuple [b1, x]), none, none] = .nx [po c k2 v2, sd (logD w a1 a2 b1 b2 c1 c2 l es s n), sd (tabD w a1 a2 b1 b2 c1 c2), none, none, sd (.int x5), sd (.int 1), sd (.int 2), sd (.int 1), sd x, sd y, none, none] := by
    have hd : (eIf (eCmp qEq (eV 6) (eC (.int 1))) (eCallP 2 0 d__law_draw (aCons (eC (.int 4)) aNil)) (eC (.int 0))) [po c k1 v1, sd (logD w a1 a2 b1 b2 c1 c2 l es s n), sd (tabD w a1 a2 b1 b2 c1 c2), none, none, sd (.int x5), sd (.int 1), sd (.int 2), sd (.int 1), sd x, sd (.tuple [b1, x]), none, none] = .ok (.int m) [po c k2 v2, sd (logD w a1 a2 b1 b2 c1 c2 l es s n), sd (tabD w a1 a2 b1 b2 c1 c2), none, none, sd (.int x5), sd (.int 1), sd (.int 2), sd (.int 1), sd x, sd (.tuple [b1, x]), none, none] := by
      simp [y_fnD, y_fnP, st0, stP, y_eVa, y_lcK, noOwn, wipeR, unw, pAll, pAny, bools, pSl, Fl.cutD, sIxN, sIxS, tset, tsets, y_asgK, at_0, at_1, at_2, at_3, at_4, at_5, ownAt, y_eCallPa, y_callPKa, List.replicate, e, qEqI]
    unfold blE3
    rw [x_sSet, x_eOp, h3, go_ok, x_opK, hd, go_ok, x_opK2, p_ixL, ey]
    rfl
  have h5 : blE4 [po c k2 v2, sd (logD w a1 a2 b1 b2 c1 c2 l es s n), sd (tabD w a1 a2 b1 b2 c1 c2), none, none, sd (.int x5), sd (.int 1), sd (.int 2), sd (.int 1), sd x, sd y, none, none] = .rt (.tuple [.tuple [w, .tuple [a1, a2], y, .tuple [c1, c2]], l, .tuple es, .bool s, n]) [po c k2 v2, sd (logD w a1 a2 b1 b2 c1 c2 l es s n), sd (tabD w a1 a2 b1 b2 c1 c2), none, none, sd (.int x5), sd (.int 1), sd (.int 2), sd (.int 1), sd x, sd y, none, none] := by kernel_rfl
  refine ⟨y, k2, v2, [sd (logD w a1 a2 b1 b2 c1 c2 l es s n), sd (tabD w a1 a2 b1 b2 c1 c2), none, none, sd (.int x5), sd (.int 1), sd (.int 2), sd (.int 1), sd x, sd y, none, none], hy, l1, l2, w2, ?_⟩
  unfold blE
  rw [x_sIf, hc, goS_ok, x_ifS, tr_bool, if_pos rfl, x_sSeq, h1, on_nx, x_sSeq, h2, on_nx, x_sSeq, h4, on_nx, h5]
theorem blE_212 (hk : 0 ≤ k1) (hk2 : k1 < 2 ^ 58) (hv : 0 ≤ v1) (hx : d__law_bent_cell (penD c k v) [b2] = .ok x (penD c k1 v1)) :
    ∃ y k' v' ρ', y ∈ ([.tuple [b1, x], .list [b1, b2], .tuple [b1], .tuple [b1, b2, b1, b2]] : List PyData) ∧ k1 ≤ k' ∧ k' ≤ k1 + 1 ∧ 0 ≤ v' ∧ blE (bl1 c k v (logD w a1 a2 b1 b2 c1 c2 l es s n) (tabD w a1 a2 b1 b2 c1 c2) x5 2 2 1) = .rt (.tuple [.tuple [w, .tuple [a1, a2], y, .tuple [c1, c2]], l, .tuple es, .bool s, n]) (po c k' v' :: ρ') := by
  have hc : (eCmp qLt (eV 6) (eC (.int 3))) (bl1 c k v (logD w a1 a2 b1 b2 c1 c2 l es s n) (tabD w a1 a2 b1 b2 c1 c2) x5 2 2 1) = .ok (.bool true) (bl1 c k v (logD w a1 a2 b1 b2 c1 c2 l es s n) (tabD w a1 a2 b1 b2 c1 c2) x5 2 2 1) := by kernel_rfl
  have h1 : blE1 (bl1 c k v (logD w a1 a2 b1 b2 c1 c2 l es s n) (tabD w a1 a2 b1 b2 c1 c2) x5 2 2 1) = .nx [po c k1 v1, sd (logD w a1 a2 b1 b2 c1 c2 l es s n), sd (tabD w a1 a2 b1 b2 c1 c2), none, none, sd (.int x5), sd (.int 2), sd (.int 2), sd (.int 1), sd x, none, none, none] := by
    unfold blE1
    simp [y_fnD, y_fnP, st0, stP, y_eVa, y_lcK, noOwn, wipeR, unw, pAll, pAny, bools, pSl, Fl.cutD, sIxN, sIxS, tset, tsets, y_asgK, at_0, at_1, at_2, at_3, at_4, at_5, ownAt, y_eCallPa, y_callPKa, List.replicate, hx]
  have h2 : blE2 [po c k1 v1, sd (logD w a1 a2 b1 b2 c1 c2 l es s n), sd (tabD w a1 a2 b1 b2 c1 c2), none, none, sd (.int x5), sd (.int 2), sd (.int 2), sd (.int 1), sd x, none, none, none] = .nx [po c k1 v1, sd (logD w a1 a2 b1 b2 c1 c2 l es s n), sd (tabD w a1 a2 b1 b2 c1 c2), none, none, sd (.int x5), sd (.int 2), sd (.int 2), sd (.int 1), sd x, sd (.tuple [b1, x]), none, none] := by kernel_rfl
  have h3 : blE30 [po c k1 v1, sd (logD w a1 a2 b1 b2 c1 c2 l es s n), sd (tabD w a1 a2 b1 b2 c1 c2), none, none, sd (.int x5), sd (.int 2), sd (.int 2), sd (.int 1), sd x, sd (.tuple [b1, x]), none, none] = .ok (.list [.tuple [b1, x], .list [b1, b2], .tuple [b1], .tuple [b1, b2, b1, b2]]) [po c k1 v1, sd (logD w a1 a2 b1 b2 c1 c2 l es s n), sd (tabD w a1 a2 b1 b2 c1 c2), none, none, sd (.int x5), sd (.int 2), sd (.int 2), sd (.int 1), sd x, sd (.tuple [b1, x]), none, none] := by kernel_rfl
  have h4 : blE3 [po c k1 v1, sd (logD w a1 a2 b1 b2 c1 c2 l es s n), sd (tabD w a1 a2 b1 b2 c1 c2), none, none, sd (.int x5), sd (.int 2), sd (.int 2), sd (.int 1), sd x, sd (.tuple [b1, x]), none, none] = .nx [po c k1 v1, sd (logD w a1 a2 b1 b2 c1 c2 l es s n), sd (tabD w a1 a2 b1 b2 c1 c2), none, none, sd (.int x5), sd (.int 2), sd (.int 2), sd (.int 1), sd x, sd (.tuple [b1, x]), none, none] := by
    have hd : (eIf (eCmp qEq (eV 6) (eC (.int 1))) (eCallP 2 0 d__law_draw (aCons (eC (.int 4)) aNil)) (eC (.int 0))) [po c k1 v1, sd (logD w a1 a2 b1 b2 c1 c2 l es s n), sd (tabD w a1 a2 b1 b2 c1 c2), none, none, sd (.int x5), sd (.int 2), sd (.int 2), sd (.int 1), sd x, sd (.tuple [b1, x]), none, none] = .ok (.int 0) [po c k1 v1, sd (logD w a1 a2 b1 b2 c1 c2 l es s n), sd (tabD w a1 a2 b1 b2 c1 c2), none, none, sd (.int x5), sd (.int 2), sd (.int 2), sd (.int 1), sd x, sd (.tuple [b1, x]), none, none] := by
      simp [y_fnD, y_fnP, st0, stP, y_eVa, y_lcK, noOwn, wipeR, unw, pAll, pAny, bools, pSl, Fl.cutD, sIxN, sIxS, tset, tsets, y_asgK, at_0, at_1, at_2, at_3, at_4, at_5, ownAt, y_eCallPa, y_callPKa, List.replicate, qEqI]
    unfold blE3
    rw [x_sSet, x_eOp, h3, go_ok, x_opK, hd, go_ok, x_opK2, p_ixL, at_0]
    rfl
  have h5 : ∀ y, blE4 [po c k1 v1, sd (logD w a1 a2 b1 b2 c1 c2 l es s n), sd (tabD w a1 a2 b1 b2 c1 c2), none, none, sd (.int x5), sd (.int 2), sd (.int 2), sd (.int 1), sd x, sd y, none, none] = .rt (.tuple [.tuple [w, .tuple [a1, a2], y, .tuple [c1, c2]], l, .tuple es, .bool s, n]) [po c k1 v1, sd (logD w a1 a2 b1 b2 c1 c2 l es s n), sd (tabD w a1 a2 b1 b2 c1 c2), none, none, sd (.int x5), sd (.int 2), sd (.int 2), sd (.int 1), sd x, sd y, none, none] := fun y => by kernel_rfl
  refine ⟨.tuple [b1, x], k1, v1, [sd (logD w a1 a2 b1 b2 c1 c2 l es s n), sd (tabD w a1 a2 b1 b2 c1 c2), none, none, sd (.int x5), sd (.int 2), sd (.int 2), sd (.int 1), sd x, sd (.tuple [b1, x]), none, none], List.mem_cons_self, by omega, by omega, hv, ?_⟩
  unfold blE
  rw [x_sIf, hc, goS_ok, x_ifS, tr_bool, if_pos rfl, x_sSeq, h1, on_nx, x_sSeq, h2, on_nx, x_sSeq, h4, on_nx, h5]
theorem blE_301 (hk : 0 ≤ k1) (hk2 : k1 < 2 ^ 58) (hv : 0 ≤ v1) (hx : d__law_bent_cell (penD c k v) [c1] = .ok x (penD c k1 v1)) :
    ∃ y k' v' ρ', y ∈ ([.tuple [x, c2], .list [c1, c2], .tuple [c1], .tuple [c1, c2, c1, c2]] : List PyData) ∧ k1 ≤ k' ∧ k' ≤ k1 + 1 ∧ 0 ≤ v' ∧ blE (bl1 c k v (logD w a1 a2 b1 b2 c1 c2 l es s n) (tabD w a1 a2 b1 b2 c1 c2) x5 1 3 0) = .rt (.tuple [.tuple [w, .tuple [a1, a2], .tuple [b1, b2], y], l, .tuple es, .bool s, n]) (po c k' v' :: ρ') := by
  have hc : (eCmp qLt (eV 6) (eC (.int 3))) (bl1 c k v (logD w a1 a2 b1 b2 c1 c2 l es s n) (tabD w a1 a2 b1 b2 c1 c2) x5 1 3 0) = .ok (.bool true) (bl1 c k v (logD w a1 a2 b1 b2 c1 c2 l es s n) (tabD w a1 a2 b1 b2 c1 c2) x5 1 3 0) := by kernel_rfl
  have h1 : blE1 (bl1 c k v (logD w a1 a2 b1 b2 c1 c2 l es s n) (tabD w a1 a2 b1 b2 c1 c2) x5 1 3 0) = .nx [po c k1 v1, sd (logD w a1 a2 b1 b2 c1 c2 l es s n), sd (tabD w a1 a2 b1 b2 c1 c2), none, none, sd (.int x5), sd (.int 1), sd (.int 3), sd (.int 0), sd x, none, none, none] := by
    unfold blE1
    simp [y_fnD, y_fnP, st0, stP, y_eVa, y_lcK, noOwn, wipeR, unw, pAll, pAny, bools, pSl, Fl.cutD, sIxN, sIxS, tset, tsets, y_asgK, at_0, at_1, at_2, at_3, at_4, at_5, ownAt, y_eCallPa, y_callPKa, List.replicate, hx]
  have h2 : blE2 [po c k1 v1, sd (logD w a1 a2 b1 b2 c1 c2 l es s n), sd (tabD w a1 a2 b1 b2 c1 c2), none, none, sd (.int x5), sd (.int 1), sd (.int 3), sd (.int 0), sd x, none, none, none] = .nx [po c k1 v1, sd (logD w a1 a2 b1 b2 c1 c2 l es s n), sd (tabD w a1 a2 b1 b2 c1 c2), none, none, sd (.int x5), sd (.int 1), sd (.int 3), sd (.int 0), sd x, sd (.tuple [x, c2]), none, none] := by kernel_rfl
  have h3 : blE30 [po c k1 v1, sd (logD w a1 a2 b1 b2 c1 c2 l es s n), sd (tabD w a1 a2 b1 b2 c1 c2), none, none, sd (.int x5), sd (.int 1), sd (.int 3), sd (.int 0), sd x, sd (.tuple [x, c2]), none, none] = .ok (.list [.tuple [x, c2], .list [c1, c2], .tuple [c1], .tuple [c1, c2, c1, c2]]) [po c k1 v1, sd (logD w a1 a2 b1 b2 c1 c2 l es s n), sd (tabD w a1 a2 b1 b2 c1 c2), none, none, sd (.int x5), sd (.int 1), sd (.int 3), sd (.int 0), sd x, sd (.tuple [x, c2]), none, none] := by kernel_rfl
  obtain ⟨m, k2, v2, m0, m1, l1, l2, w2, e⟩ := draw_ok c k1 v1 4 hk (by omega) hv (by decide) (by decide)
  obtain ⟨y, hy, ey⟩ := get_at (xs := ([.tuple [x, c2], .list [c1, c2], .tuple [c1], .tuple [c1, c2, c1, c2]] : List PyData)) m0 (by simpa using m1)
  have h4 : blE3 [po c k1 v1, sd (logD w a1 a2 b1 b2 c1 c2 l es s n), sd (tabD w a1 a2 b1 b2 c1 c2), none, none, sd (.int x5), sd (.int 1), sd (.int 3), sd (.int 0), sd x, sd (.tuple [x, c2]), none, none] = .nx [po c k2 v2, sd (logD w a1 a2 b1 b2 c1 c2 l es s n), sd (tabD w a1 a2 b1 b2 c1 c2), none, none, sd (.int x5), sd (.int 1), sd (.int 3), sd (.int 0), sd x, sd y, none, none] := by
    have hd : (eIf (eCmp qEq (eV 6) (eC (.int 1))) (eCallP 2 0 d__law_draw (aCons (eC (.int 4)) aNil)) (eC (.int 0))) [po c k1 v1, sd (logD w a1 a2 b1 b2 c1 c2 l es s n), sd (tabD w a1 a2 b1 b2 c1 c2), none, none, sd (.int x5), sd (.int 1), sd (.int 3), sd (.int 0), sd x, sd (.tuple [x, c2]), none, none] = .ok (.int m) [po c k2 v2, sd (logD w a1 a2 b1 b2 c1 c2 l es s n), sd (tabD w a1 a2 b1 b2 c1 c2), none, none, sd (.int x5), sd (.int 1), sd (.int 3), sd (.int 0), sd x, sd (.tuple [x, c2]), none, none] := by
      simp [y_fnD, y_fnP, st0, stP, y_eVa, y_lcK, noOwn, wipeR, unw, pAll, pAny, bools, pSl, Fl.cutD, sIxN, sIxS, tset, tsets, y_asgK, at_0, at_1, at_2, at_3, at_4, at_5, ownAt, y_eCallPa, y_callPKa, List.replicate, e, qEqI]
    unfold blE3
    rw [x_sSet, x_eOp, h3, go_ok, x_opK, hd, go_ok, x_opK2, p_ixL, ey]
    rfl
  have h5 : blE4 [po c k2 v2, sd (logD w a1 a2 b1 b2 c1 c2 l es s n), sd (tabD w a1 a2 b1 b2 c1 c2), none, none, sd (.int x5), sd (.int 1), sd (.int 3), sd (.int 0), sd x, sd y, none, none] = .rt (.tuple [.tuple [w, .tuple [a1, a2], .tuple [b1, b2], y], l, .tuple es, .bool s, n]) [po c k2 v2, sd (logD w a1 a2 b1 b2 c1 c2 l es s n), sd (tabD w a1 a2 b1 b2 c1 c2), none, none, sd (.int x5), sd (.int 1), sd (.int 3), sd (.int 0), sd x, sd y, none, none] := by kernel_rfl
  refine ⟨y, k2, v2, [sd (logD w a1 a2 b1 b2 c1 c2 l es s n), sd (tabD w a1 a2 b1 b2 c1 c2), none, none, sd (.int x5), sd (.int 1), sd (.int 3), sd (.int 0), sd x, sd y, none, none], hy, l1, l2, w2, ?_⟩
  unfold blE
  rw [x_sIf, hc, goS_ok, x_ifS, tr_bool, if_pos rfl, x_sSeq, h1, on_nx, x_sSeq, h2, on_nx, x_sSeq, h4, on_nx, h5]
theorem blE_302 (hk : 0 ≤ k1) (hk2 : k1 < 2 ^ 58) (hv : 0 ≤ v1) (hx : d__law_bent_cell (penD c k v) [c1] = .ok x (penD c k1 v1)) :
    ∃ y k' v' ρ', y ∈ ([.tuple [x, c2], .list [c1, c2], .tuple [c1], .tuple [c1, c2, c1, c2]] : List PyData) ∧ k1 ≤ k' ∧ k' ≤ k1 + 1 ∧ 0 ≤ v' ∧ blE (bl1 c k v (logD w a1 a2 b1 b2 c1 c2 l es s n) (tabD w a1 a2 b1 b2 c1 c2) x5 2 3 0) = .rt (.tuple [.tuple [w, .tuple [a1, a2], .tuple [b1, b2], y], l, .tuple es, .bool s, n]) (po c k' v' :: ρ') := by
  have hc : (eCmp qLt (eV 6) (eC (.int 3))) (bl1 c k v (logD w a1 a2 b1 b2 c1 c2 l es s n) (tabD w a1 a2 b1 b2 c1 c2) x5 2 3 0) = .ok (.bool true) (bl1 c k v (logD w a1 a2 b1 b2 c1 c2 l es s n) (tabD w a1 a2 b1 b2 c1 c2) x5 2 3 0) := by kernel_rfl
  have h1 : blE1 (bl1 c k v (logD w a1 a2 b1 b2 c1 c2 l es s n) (tabD w a1 a2 b1 b2 c1 c2) x5 2 3 0) = .nx [po c k1 v1, sd (logD w a1 a2 b1 b2 c1 c2 l es s n), sd (tabD w a1 a2 b1 b2 c1 c2), none, none, sd (.int x5), sd (.int 2), sd (.int 3), sd (.int 0), sd x, none, none, none] := by
    unfold blE1
    simp [y_fnD, y_fnP, st0, stP, y_eVa, y_lcK, noOwn, wipeR, unw, pAll, pAny, bools, pSl, Fl.cutD, sIxN, sIxS, tset, tsets, y_asgK, at_0, at_1, at_2, at_3, at_4, at_5, ownAt, y_eCallPa, y_callPKa, List.replicate, hx]
  have h2 : blE2 [po c k1 v1, sd (logD w a1 a2 b1 b2 c1 c2 l es s n), sd (tabD w a1 a2 b1 b2 c1 c2), none, none, sd (.int x5), sd (.int 2), sd (.int 3), sd (.int 0), sd x, none, none, none] = .nx [po c k1 v1, sd (logD w a1 a2 b1 b2 c1 c2 l es s n), sd (tabD w a1 a2 b1 b2 c1 c2), none, none, sd (.int x5), sd (.int 2), sd (.int 3), sd (.int 0), sd x, sd (.tuple [x, c2]), none, none] := by kernel_rfl
  have h3 : blE30 [po c k1 v1, sd (logD w a1 a2 b1 b2 c1 c2 l es s n), sd (tabD w a1 a2 b1 b2 c1 c2), none, none, sd (.int x5), sd (.int 2), sd (.int 3), sd (.int 0), sd x, sd (.tuple [x, c2]), none, none] = .ok (.list [.tuple [x, c2], .list [c1, c2], .tuple [c1], .tuple [c1, c2, c1, c2]]) [po c k1 v1, sd (logD w a1 a2 b1 b2 c1 c2 l es s n), sd (tabD w a1 a2 b1 b2 c1 c2), none, none, sd (.int x5), sd (.int 2), sd (.int 3), sd (.int 0), sd x, sd (.tuple [x, c2]), none, none] := by kernel_rfl
  have h4 : blE3 [po c k1 v1, sd (logD w a1 a2 b1 b2 c1 c2 l es s n), sd (tabD w a1 a2 b1 b2 c1 c2), none, none, sd (.int x5), sd (.int 2), sd (.int 3), sd (.int 0), sd x, sd (.tuple [x, c2]), none, none] = .nx [po c k1 v1, sd (logD w a1 a2 b1 b2 c1 c2 l es s n), sd (tabD w a1 a2 b1 b2 c1 c2), none, none, sd (.int x5), sd (.int 2), sd (.int 3), sd (.int 0), sd x, sd (.tuple [x, c2]), none, none] := by
    have hd : (eIf (eCmp qEq (eV 6) (eC (.int 1))) (eCallP 2 0 d__law_draw (aCons (eC (.int 4)) aNil)) (eC (.int 0))) [po c k1 v1, sd (logD w a1 a2 b1 b2 c1 c2 l es s n), sd (tabD w a1 a2 b1 b2 c1 c2), none, none, sd (.int x5), sd (.int 2), sd (.int 3), sd (.int 0), sd x, sd (.tuple [x, c2]), none, none] = .ok (.int 0) [po c k1 v1, sd (logD w a1 a2 b1 b2 c1 c2 l es s n), sd (tabD w a1 a2 b1 b2 c1 c2), none, none, sd (.int x5), sd (.int 2), sd (.int 3), sd (.int 0), sd x, sd (.tuple [x, c2]), none, none] := by
      simp [y_fnD, y_fnP, st0, stP, y_eVa, y_lcK, noOwn, wipeR, unw, pAll, pAny, bools, pSl, Fl.cutD, sIxN, sIxS, tset, tsets, y_asgK, at_0, at_1, at_2, at_3, at_4, at_5, ownAt, y_eCallPa, y_callPKa, List.replicate, qEqI]
    unfold blE3
    rw [x_sSet, x_eOp, h3, go_ok, x_opK, hd, go_ok, x_opK2, p_ixL, at_0]
    rfl
  have h5 : ∀ y, blE4 [po c k1 v1, sd (logD w a1 a2 b1 b2 c1 c2 l es s n), sd (tabD w a1 a2 b1 b2 c1 c2), none, none, sd (.int x5), sd (.int 2), sd (.int 3), sd (.int 0), sd x, sd y, none, none] = .rt (.tuple [.tuple [w, .tuple [a1, a2], .tuple [b1, b2], y], l, .tuple es, .bool s, n]) [po c k1 v1, sd (logD w a1 a2 b1 b2 c1 c2 l es s n), sd (tabD w a1 a2 b1 b2 c1 c2), none, none, sd (.int x5), sd (.int 2), sd (.int 3), sd (.int 0), sd x, sd y, none, none] := fun y => by kernel_rfl
  refine ⟨.tuple [x, c2], k1, v1, [sd (logD w a1 a2 b1 b2 c1 c2 l es s n), sd (tabD w a1 a2 b1 b2 c1 c2), none, none, sd (.int x5), sd (.int 2), sd (.int 3), sd (.int 0), sd x, sd (.tuple [x, c2]), none, none], List.mem_cons_self, by omega, by omega, hv, ?_⟩
  unfold blE
  rw [x_sIf, hc, goS_ok, x_ifS, tr_bool, if_pos rfl, x_sSeq, h1, on_nx, x_sSeq, h2, on_nx, x_sSeq, h4, on_nx, h5]
theorem blE_311 (hk : 0 ≤ k1) (hk2 : k1 < 2 ^ 58) (hv : 0 ≤ v1) (hx : d__law_bent_cell (penD c k v) [c2] = .ok x (penD c k1 v1)) :
    ∃ y k' v' ρ', y ∈ ([.tuple [c1, x], .list [c1, c2], .tuple [c1], .tuple [c1, c2, c1, c2]] : List PyData) ∧ k1 ≤ k' ∧ k' ≤ k1 + 1 ∧ 0 ≤ v' ∧ blE (bl1 c k v (logD w a1 a2 b1 b2 c1 c2 l es s n) (tabD w a1 a2 b1 b2 c1 c2) x5 1 3 1) = .rt (.tuple [.tuple [w, .tuple [a1, a2], .tuple [b1, b2], y], l, .tuple es, .bool s, n]) (po c k' v' :: ρ') := by
  have hc : (eCmp qLt (eV 6) (eC (.int 3))) (bl1 c k v (logD w a1 a2 b1 b2 c1 c2 l es s n) (tabD w a1 a2 b1 b2 c1 c2) x5 1 3 1) = .ok (.bool true) (bl1 c k v (logD w a1 a2 b1 b2 c1 c2 l es s n) (tabD w a1 a2 b1 b2 c1 c2) x5 1 3 1) := by kernel_rfl
  have h1 : blE1 (bl1 c k v (logD w a1 a2 b1 b2 c1 c2 l es s n) (tabD w a1 a2 b1 b2 c1 c2) x5 1 3 1) = .nx [po c k1 v1, sd (logD w a1 a2 b1 b2 c1 c2 l es s n), sd (tabD w a1 a2 b1 b2 c1 c2), none, none, sd (.int x5), sd (.int 1), sd (.int 3), sd (.int 1), sd x, none, none, none] := by
    unfold blE1
    simp [y_fnD, y_fnP, st0, stP, y_eVa, y_lcK, noOwn, wipeR, unw, pAll, pAny, bools, pSl, Fl.cutD, sIxN, sIxS, tset, tsets, y_asgK, at_0, at_1, at_2, at_3, at_4, at_5, ownAt, y_eCallPa, y_callPKa, List.replicate, hx]
  have h2 : blE2 [po c k1 v1, sd (logD w a1 a2 b1 b2 c1 c2 l es s n), sd (tabD w a1 a2 b1 b2 c1 c2), none, none, sd (.int x5), sd (.int 1), sd (.int 3), sd (.int 1), sd x, none, none, none] = .nx [po c k1 v1, sd (logD w a1 a2 b1 b2 c1 c2 l es s n), sd (tabD w a1 a2 b1 b2 c1 c2), none, none, sd (.int x5), sd (.int 1), sd (.int 3), sd (.int 1), sd x, sd (.tuple [c1, x]), none, none] := by kernel_rfl
  have h3 : blE30 [po c k1 v1, sd (logD w a1 a2 b1 b2 c1 c2 l es s n), sd (tabD w a1 a2 b1 b2 c1 c2), none, none, sd (.int x5), sd (.int 1), sd (.int 3), sd (.int 1), sd x, sd (.tuple [c1, x]), none, none] = .ok (.list [.tuple [c1, x], .list [c1, c2], .tuple [c1], .tuple [c1, c2, c1, c2]]) [po c k1 v1, sd (logD w a1 a2 b1 b2 c1 c2 l es s n), sd (tabD w a1 a2 b1 b2 c1 c2), none, none, sd (.int x5), sd (.int 1), sd (.int 3), sd (.int 1), sd x, sd (.tuple [c1, x]), none, none] := by kernel_rfl
  obtain ⟨m, k2, v2, m0, m1, l1, l2, w2, e⟩ := draw_ok c k1 v1 4 hk (by omega) hv (by decide) (by decide)
  obtain ⟨y, hy, ey⟩ := get_at (xs := ([.tuple [c1, x], .list [c1, c2], .tuple [c1], .tuple [c1, c2, c1, c2]] : List PyData)) m0 (by simpa using m1)
  have h4 : blE3 [po c k1 v1, sd (logD w a1 a2 b1 b2 c1 c2 l es s n), sd (tabD w a1 a2 b1 b2 c1 c2), none, none, sd (.int x5), sd (.int 1), sd (.int 3), sd (.int 1), sd x, sd (.tuple [c1, x]), none, none] = .nx [po c k2 v2, sd (logD w a1 a2 b1 b2 c1 c2 l es s n), sd (tabD w a1 a2 b1 b2 c1 c2), none, none, sd (.int x5), sd (.int 1), sd (.int 3), sd (.int 1), sd x, sd y, none, none] := by
    have hd : (eIf (eCmp qEq (eV 6) (eC (.int 1))) (eCallP 2 0 d__law_draw (aCons (eC (.int 4)) aNil)) (eC (.int 0))) [po c k1 v1, sd (logD w a1 a2 b1 b2 c1 c2 l es s n), sd (tabD w a1 a2 b1 b2 c1 c2), none, none, sd (.int x5), sd (.int 1), sd (.int 3), sd (.int 1), sd x, sd (.tuple [c1, x]), none, none] = .ok (.int m) [po c k2 v2, sd (logD w a1 a2 b1 b2 c1 c2 l es s n), sd (tabD w a1 a2 b1 b2 c1 c2), none, none, sd (.int x5), sd (.int 1), sd (.int 3), sd (.int 1), sd x, sd (.tuple [c1, x]), none, none] := by
      simp [y_fnD, y_fnP, st0, stP, y_eVa, y_lcK, noOwn, wipeR, unw, pAll, pAny, bools, pSl, Fl.cutD, sIxN, sIxS, tset, tsets, y_asgK, at_0, at_1, at_2, at_3, at_4, at_5, ownAt, y_eCallPa, y_callPKa, List.replicate, e, qEqI]
    unfold blE3
    rw [x_sSet, x_eOp, h3, go_ok, x_opK, hd, go_ok, x_opK2, p_ixL, ey]
    rfl
  have h5 : blE4 [po c k2 v2, sd (logD w a1 a2 b1 b2 c1 c2 l es s n), sd (tabD w a1 a2 b1 b2 c1 c2), none, none, sd (.int x5), sd (.int 1), sd (.int 3), sd (.int 1), sd x, sd y, none, none] = .rt (.tuple [.tuple [w, .tuple [a1, a2], .tuple [b1, b2], y], l, .tuple es, .bool s, n]) [po c k2 v2, sd (logD w a1 a2 b1 b2 c1 c2 l es s n), sd (tabD w a1 a2 b1 b2 c1 c2), none, none, sd (.int x5), sd (.int 1), sd (.int 3), sd (.int 1), sd x, sd y, none, none] := by kernel_rfl
  refine ⟨y, k2, v2, [sd (logD w a1 a2 b1 b2 c1 c2 l es s n), sd (tabD w a1 a2 b1 b2 c1 c2), none, none, sd (.int x5), sd (.int 1), sd (.int 3), sd (.int 1), sd x, sd y, none, none], hy, l1, l2, w2, ?_⟩
  unfold blE
  rw [x_sIf, hc, goS_ok, x_ifS, tr_bool, if_pos rfl, x_sSeq, h1, on_nx, x_sSeq, h2, on_nx, x_sSeq, h4, on_nx, h5]
theorem blE_312 (hk : 0 ≤ k1) (hk2 : k1 < 2 ^ 58) (hv : 0 ≤ v1) (hx : d__law_bent_cell (penD c k v) [c2] = .ok x (penD c k1 v1)) :
    ∃ y k' v' ρ', y ∈ ([.tuple [c1, x], .list [c1, c2], .tuple [c1], .tuple [c1, c2, c1, c2]] : List PyData) ∧ k1 ≤ k' ∧ k' ≤ k1 + 1 ∧ 0 ≤ v' ∧ blE (bl1 c k v (logD w a1 a2 b1 b2 c1 c2 l es s n) (tabD w a1 a2 b1 b2 c1 c2) x5 2 3 1) = .rt (.tuple [.tuple [w, .tuple [a1, a2], .tuple [b1, b2], y], l, .tuple es, .bool s, n]) (po c k' v' :: ρ') := by
  have hc : (eCmp qLt (eV 6) (eC (.int 3))) (bl1 c k v (logD w a1 a2 b1 b2 c1 c2 l es s n) (tabD w a1 a2 b1 b2 c1 c2) x5 2 3 1) = .ok (.bool true) (bl1 c k v (logD w a1 a2 b1 b2 c1 c2 l es s n) (tabD w a1 a2 b1 b2 c1 c2) x5 2 3 1) := by kernel_rfl
  have h1 : blE1 (bl1 c k v (logD w a1 a2 b1 b2 c1 c2 l es s n) (tabD w a1 a2 b1 b2 c1 c2) x5 2 3 1) = .nx [po c k1 v1, sd (logD w a1 a2 b1 b2 c1 c2 l es s n), sd (tabD w a1 a2 b1 b2 c1 c2), none, none, sd (.int x5), sd (.int 2), sd (.int 3), sd (.int 1), sd x, none, none, none] := by
    unfold blE1
    simp [y_fnD, y_fnP, st0, stP, y_eVa, y_lcK, noOwn, wipeR, unw, pAll, pAny, bools, pSl, Fl.cutD, sIxN, sIxS, tset, tsets, y_asgK, at_0, at_1, at_2, at_3, at_4, at_5, ownAt, y_eCallPa, y_callPKa, List.replicate, hx]
  have h2 : blE2 [po c k1 v1, sd (logD w a1 a2 b1 b2 c1 c2 l es s n), sd (tabD w a1 a2 b1 b2 c1 c2), none, none, sd (.int x5), sd (.int 2), sd (.int 3), sd (.int 1), sd x, none, none, none] = .nx [po c k1 v1, sd (logD w a1 a2 b1 b2 c1 c2 l es s n), sd (tabD w a1 a2 b1 b2 c1 c2), none, none, sd (.int x5), sd (.int 2), sd (.int 3), sd (.int 1), sd x, sd (.tuple [c1, x]), none, none] := by kernel_rfl
  have h3 : blE30 [po c k1 v1, sd (logD w a1 a2 b1 b2 c1 c2 l es s n), sd (tabD w a1 a2 b1 b2 c1 c2), none, none, sd (.int x5), sd (.int 2), sd (.int 3), sd (.int 1), sd x, sd (.tuple [c1, x]), none, none] = .ok (.list [.tuple [c1, x], .list [c1, c2], .tuple [c1], .tuple [c1, c2, c1, c2]]) [po c k1 v1, sd (logD w a1 a2 b1 b2 c1 c2 l es s n), sd (tabD w a1 a2 b1 b2 c1 c2), none, none, sd (.int x5), sd (.int 2), sd (.int 3), sd (.int 1), sd x, sd (.tuple [c1, x]), none, none] := by kernel_rfl
  have h4 : blE3 [po c k1 v1, sd (logD w a1 a2 b1 b2 c1 c2 l es s n), sd (tabD w a1 a2 b1 b2 c1 c2), none, none, sd (.int x5), sd (.int 2), sd (.int 3), sd (.int 1), sd x, sd (.tuple [c1, x]), none, none] = .nx [po c k1 v1, sd (logD w a1 a2 b1 b2 c1 c2 l es s n), sd (tabD w a1 a2 b1 b2 c1 c2), none, none, sd (.int x5), sd (.int 2), sd (.int 3), sd (.int 1), sd x, sd (.tuple [c1, x]), none, none] := by
    have hd : (eIf (eCmp qEq (eV 6) (eC (.int 1))) (eCallP 2 0 d__law_draw (aCons (eC (.int 4)) aNil)) (eC (.int 0))) [po c k1 v1, sd (logD w a1 a2 b1 b2 c1 c2 l es s n), sd (tabD w a1 a2 b1 b2 c1 c2), none, none, sd (.int x5), sd (.int 2), sd (.int 3), sd (.int 1), sd x, sd (.tuple [c1, x]), none, none] = .ok (.int 0) [po c k1 v1, sd (logD w a1 a2 b1 b2 c1 c2 l es s n), sd (tabD w a1 a2 b1 b2 c1 c2), none, none, sd (.int x5), sd (.int 2), sd (.int 3), sd (.int 1), sd x, sd (.tuple [c1, x]), none, none] := by
      simp [y_fnD, y_fnP, st0, stP, y_eVa, y_lcK, noOwn, wipeR, unw, pAll, pAny, bools, pSl, Fl.cutD, sIxN, sIxS, tset, tsets, y_asgK, at_0, at_1, at_2, at_3, at_4, at_5, ownAt, y_eCallPa, y_callPKa, List.replicate, qEqI]
    unfold blE3
    rw [x_sSet, x_eOp, h3, go_ok, x_opK, hd, go_ok, x_opK2, p_ixL, at_0]
    rfl
  have h5 : ∀ y, blE4 [po c k1 v1, sd (logD w a1 a2 b1 b2 c1 c2 l es s n), sd (tabD w a1 a2 b1 b2 c1 c2), none, none, sd (.int x5), sd (.int 2), sd (.int 3), sd (.int 1), sd x, sd y, none, none] = .rt (.tuple [.tuple [w, .tuple [a1, a2], .tuple [b1, b2], y], l, .tuple es, .bool s, n]) [po c k1 v1, sd (logD w a1 a2 b1 b2 c1 c2 l es s n), sd (tabD w a1 a2 b1 b2 c1 c2), none, none, sd (.int x5), sd (.int 2), sd (.int 3), sd (.int 1), sd x, sd y, none, none] := fun y => by kernel_rfl
  refine ⟨.tuple [c1, x], k1, v1, [sd (logD w a1 a2 b1 b2 c1 c2 l es s n), sd (tabD w a1 a2 b1 b2 c1 c2), none, none, sd (.int x5), sd (.int 2), sd (.int 3), sd (.int 1), sd x, sd (.tuple [c1, x]), none, none], List.mem_cons_self, by omega, by omega, hv, ?_⟩
  unfold blE
  rw [x_sIf, hc, goS_ok, x_ifS, tr_bool, if_pos rfl, x_sSeq, h1, on_nx, x_sSeq, h2, on_nx, x_sSeq, h4, on_nx, h5]
end
end Lw
set_option Elab.async false
set_option autoImplicit false
set_option linter.all false
set_option maxRecDepth 100000
set_option maxHeartbeats 4000000
namespace Lw
open PySem PySem.Spec PyProof.Rows L2 Fl
/-! the parts of a drawn log -/
section
variable {c : List Int} {k v x5 x6 x7 x8 : Int} {w a1 a2 b1 b2 c1 c2 l n : PyData} {es : List PyData} {s : Bool}
theorem bool_sm (s : Bool) : Sm (.bool s) 200 4 := by cases s <;> exact smB_ok (by kernel_rfl)
structure Parts (w r1 r2 r3 t l e : PyData) (s : Bool) (n : PyData) : Prop where
  W : WordF w true
  sw : Sm w 200 4
  mw : ∀ c, Cm w c
  R1 : ∀ c, RowC r1 c
  R2 : ∀ c, RowC r2 c
  R3 : ∀ c, RowC r3 c
  T : TabF' t true
  mt : ∀ c, Cm t c
  L : PartF d_is_lead pairs9 l true
  ml : ∀ c, Cm l c
  E : PartF d_are_ends reps64 e true
  me : ∀ c, Cm e c
  S : ∀ c, Cm (.bool s) c
  N : PartF d_are_seen reps16 n true
  mn : ∀ c, Cm n c
  tn1 : d_is_table [n] = .ok (.bool false)
  tn2 : d__law_is_table [n] = .ok (.bool false)
  tw1 : d_is_table [w] = .ok (.bool false)
  tw2 : d__law_is_table [w] = .ok (.bool false)
theorem GoodLog.parts (G : GoodLog w a1 a2 b1 b2 c1 c2 l es n) (s : Bool) : Parts w (.tuple [a1, a2]) (.tuple [b1, b2]) (.tuple [c1, c2]) (tabD w a1 a2 b1 b2 c1 c2) l (.tuple es) s n := by
  obtain ⟨W, sw, dw, lw, tw1, tw2⟩ := word_of G.hw
  obtain ⟨L, sl, dl, ll⟩ := lead_of G.hl
  obtain ⟨E, se, de, le⟩ := ends_of G.he
  obtain ⟨N, sn, dn, ln, tn1, tn2⟩ := seen_of G.hn
  have r1 := fun c => rowC2 (celC_of G.h1 c) (celC_of G.h2 c)
  have r2 := fun c => rowC2 (celC_of G.h3 c) (celC_of G.h4 c)
  have r3 := fun c => rowC2 (celC_of G.h5 c) (celC_of G.h6 c)
  have T : TabF' (tabD w a1 a2 b1 b2 c1 c2) true := by
    have z := table4 W (row2 (cel_of G.h1).1 (cel_of G.h2).1) (row2 (cel_of G.h3).1 (cel_of G.h4).1) (row2 (cel_of G.h5).1 (cel_of G.h6).1)
    exact z
  have t := fun c => (tabC4 W sw (by cases c <;> simp [dw, lw]) (r1 c) (r2 c) (r3 c)).m
  exact ⟨W, sw, cm_of sw dw lw, r1, r2, r3, T, t, L, cm_of sl dl ll, E, cm_of se de le, fun c => cm_of (bool_sm s) (by simp [PyData.hasDict]) (by simp [noLst]) c, N, cm_of sn dn ln, tn1, tn2, tw1, tw2⟩
theorem mem5 {p : PyData → Prop} {a b c d e : PyData} (h1 : p a) (h2 : p b) (h3 : p c) (h4 : p d) (h5 : p e) : ∀ x ∈ [a, b, c, d, e], p x := by
  intro x hx
  simp only [List.mem_cons, List.not_mem_nil, or_false] at hx
  rcases hx with rfl | rfl | rfl | rfl | rfl <;> assumption
theorem mem4 {p : PyData → Prop} {a b c d : PyData} (h1 : p a) (h2 : p b) (h3 : p c) (h4 : p d) : ∀ x ∈ [a, b, c, d], p x := by
  intro x hx
  simp only [List.mem_cons, List.not_mem_nil, or_false] at hx
  rcases hx with rfl | rfl | rfl | rfl <;> assumption
theorem mem3 {p : PyData → Prop} {a b c : PyData} (h1 : p a) (h2 : p b) (h3 : p c) : ∀ x ∈ [a, b, c], p x := by
  intro x hx
  simp only [List.mem_cons, List.not_mem_nil, or_false] at hx
  rcases hx with rfl | rfl | rfl <;> assumption
theorem mem6 {p : PyData → Prop} {a b c d e f : PyData} (h1 : p a) (h2 : p b) (h3 : p c) (h4 : p d) (h5 : p e) (h6 : p f) : ∀ x ∈ [a, b, c, d, e, f], p x := by
  intro x hx
  simp only [List.mem_cons, List.not_mem_nil, or_false] at hx
  rcases hx with rfl | rfl | rfl | rfl | rfl | rfl <;> assumption
theorem isaB {s : Bool} : isaD "bool" (.bool s) = some true := by cases s <;> kernel_rfl
theorem rowCm {r : PyData} {c : Bool} (R : RowC r c) : Cm r c := ⟨R.s.mono (by decide) (by decide), R.fl⟩
abbrev lst10 (w r1 r2 r3 l e : PyData) (s : Bool) (n : PyData) : List PyData := [.list [.tuple [w, r1, r2, r3], l, e, .bool s, n], .tuple [.tuple [w, r1, r2, r3], l, e, .bool s], .tuple [.tuple [w, r1, r2, r3], l, e, .bool s, n, .tuple []], .none, .tuple [], .dict [], .str "log", .int 0, .tuple [n, .bool s, e, l, .tuple [w, r1, r2, r3]], .tuple [w, r1, r2, r3]]
theorem empty_cm (c : Bool) : Cm (.tuple []) c := cm_of (smB_ok (by kernel_rfl)) (by simp [PyData.hasDict, PyData.hasDictAll]) (by simp [noLst, noLsts]) c
theorem ten_ok {r1 r2 r3 e : PyData} (Q : Parts w r1 r2 r3 (.tuple [w, r1, r2, r3]) l e s n) : ∀ x ∈ lst10 w r1 r2 r3 l e s n, ThingF x := by
  have d : ∀ {x}, Cm x true → Sm x 20253 6 ∧ x.hasDict = false := fun h => ⟨h.sm, by simpa using h.fl⟩
  intro x hx
  simp only [lst10, List.mem_cons, List.not_mem_nil, or_false] at hx
  rcases hx with rfl | rfl | rfl | rfl | rfl | rfl | rfl | rfl | rfl | rfl
  · exact thingL (mem5 (d (Q.mt true)) (d (Q.ml true)) (d (Q.me true)) (d (Q.S true)) (d (Q.mn true))) (by simp)
  · exact thingN (c := true) (mem4 (Q.mt true) (Q.ml true) (Q.me true) (Q.S true)) (by simp) (by simp) Q.T.p Q.T.l
  · exact thingN (c := true) (mem6 (Q.mt true) (Q.ml true) (Q.me true) (Q.S true) (Q.mn true) (empty_cm true)) (by simp) (by simp) Q.T.p Q.T.l
  · exact leaf_ok (by simp)
  · exact empty_ok
  · exact leaf_ok (by simp)
  · exact leaf_ok (by simp)
  · exact leaf_ok (by simp)
  · exact thingF (c := true) Q.tn1 Q.tn2 (mem5 (Q.mn true) (Q.S true) (Q.me true) (Q.ml true) (Q.mt true))
  · exact thingN (c := true) (mem4 (Q.mw true) (rowCm (Q.R1 true)) (rowCm (Q.R2 true)) (rowCm (Q.R3 true))) (by simp) (by simp) Q.tw1 Q.tw2
/-- the first road -/
theorem bl_D (hk : 0 ≤ k) (hk2 : k < 2 ^ 58) (hv : 0 ≤ v) : ∃ x k' v' ρ', x ∈ lst10 w (.tuple [a1, a2]) (.tuple [b1, b2]) (.tuple [c1, c2]) l (.tuple es) s n ∧ k ≤ k' ∧ k' ≤ k + 1 ∧ 0 ≤ v' ∧
    blD (bl1 c k v (logD w a1 a2 b1 b2 c1 c2 l es s n) (tabD w a1 a2 b1 b2 c1 c2) x5 0 x7 x8) = .rt x (po c k' v' :: ρ') := by
  obtain ⟨m, k1, v1, m0, m1, l1, l2, w1, e⟩ := draw_ok c k v 10 hk (by omega) hv (by decide) (by decide)
  obtain ⟨x, hx, ex⟩ := get_at (xs := lst10 w (.tuple [a1, a2]) (.tuple [b1, b2]) (.tuple [c1, c2]) l (.tuple es) s n) m0 (by simpa using m1)
  have h0 : blD0 (bl1 c k v (logD w a1 a2 b1 b2 c1 c2 l es s n) (tabD w a1 a2 b1 b2 c1 c2) x5 0 x7 x8) = .ok (.list (lst10 w (.tuple [a1, a2]) (.tuple [b1, b2]) (.tuple [c1, c2]) l (.tuple es) s n)) (bl1 c k v (logD w a1 a2 b1 b2 c1 c2 l es s n) (tabD w a1 a2 b1 b2 c1 c2) x5 0 x7 x8) := by kernel_rfl
  have hc : (eCmp qEq (eV 6) (eC (.int 0))) (bl1 c k v (logD w a1 a2 b1 b2 c1 c2 l es s n) (tabD w a1 a2 b1 b2 c1 c2) x5 0 x7 x8) = .ok (.bool true) (bl1 c k v (logD w a1 a2 b1 b2 c1 c2 l es s n) (tabD w a1 a2 b1 b2 c1 c2) x5 0 x7 x8) := by kernel_rfl
  have hd : eCallP 2 0 d__law_draw (aCons (eC (.int 10)) aNil) (bl1 c k v (logD w a1 a2 b1 b2 c1 c2 l es s n) (tabD w a1 a2 b1 b2 c1 c2) x5 0 x7 x8) = .ok (.int m) (bl1 c k1 v1 (logD w a1 a2 b1 b2 c1 c2 l es s n) (tabD w a1 a2 b1 b2 c1 c2) x5 0 x7 x8) := by
    simp [y_fnD, y_fnP, st0, stP, y_eVa, y_lcK, noOwn, wipeR, unw, pAll, pAny, bools, pSl, Fl.cutD, sIxN, sIxS, tset, tsets, y_asgK, at_0, at_1, at_2, at_3, at_4, at_5, ownAt, y_eCallPa, y_callPKa, List.replicate, e]
  refine ⟨x, k1, v1, (bl1 c k1 v1 (logD w a1 a2 b1 b2 c1 c2 l es s n) (tabD w a1 a2 b1 b2 c1 c2) x5 0 x7 x8).tail, hx, l1, l2, w1, ?_⟩
  unfold blD
  rw [x_sIf, hc, goS_ok, x_ifS, tr_bool, if_pos rfl, x_sRet, x_eOp, h0, go_ok, x_opK, hd, go_ok, x_opK2, p_ixL, ex]
  rfl
theorem bl_D2 (h : x6 ≠ 0) {g t : PyData} : blD (bl1 c k v g t x5 x6 x7 x8) = .nx (bl1 c k v g t x5 x6 x7 x8) := by
  unfold blD
  simp [y_fnD, y_fnP, st0, stP, y_eVa, y_lcK, noOwn, wipeR, unw, pAll, pAny, bools, pSl, Fl.cutD, sIxN, sIxS, tset, tsets, y_asgK, at_0, at_1, at_2, at_3, at_4, at_5, ownAt, y_eCallPa, y_callPKa, List.replicate, qEqI, h]
theorem bl_E2 (h : 3 ≤ x6) {g t : PyData} : blE (bl1 c k v g t x5 x6 x7 x8) = .nx (bl1 c k v g t x5 x6 x7 x8) := by
  have h' : ¬ x6 < 3 := by omega
  unfold blE
  simp [y_fnD, y_fnP, st0, stP, y_eVa, y_lcK, noOwn, wipeR, unw, pAll, pAny, bools, pSl, Fl.cutD, sIxN, sIxS, tset, tsets, y_asgK, at_0, at_1, at_2, at_3, at_4, at_5, ownAt, y_eCallPa, y_callPKa, List.replicate, h']
abbrev oddTabs (w r1 r2 r3 : PyData) : List PyData := [.tuple [w, r1, r2], .list [w, r1, r2, r3], .tuple [.str "maybe", r1, r2, r3], .none, .tuple [.none, r1, r2, r3], .tuple [.int 0, r1, r2, r3], .tuple [.list [], r1, r2, r3], .tuple [w, r1, r2, r3, r1], .tuple [.bool true, r1, r2, r3], .tuple [.str "none", r1, r2, r3]]
def lead6 : List PyData := [.tuple [.str "free"], .list [.str "free", .str "next"], .tuple [.str "go", .str "stay"], .none, .tuple [.str "free", .str "next", .str "stay"], .tuple [.str "next", .str "go"]]
abbrev oddAll (w r1 r2 r3 : PyData) (es : List PyData) : List PyData := [.list (oddTabs w r1 r2 r3), .list oddLead, .list (.list es :: oddEnds), .list oddStop, .list oddSeen]
abbrev bl2 (c : List Int) (k v : Int) (g t : PyData) (o : List PyData) (x5 x6 x7 x8 : Int) : Rho := [po c k v, sd g, sd t, some (.o o), sd (.list lead6), sd (.int x5), sd (.int x6), sd (.int x7), sd (.int x8), none, none, none, none]
theorem bl_FK : sSeq blF (sSeq blG (sSeq blH (sSeq blI (sSeq blJ blK)))) (bl1 c k v (logD w a1 a2 b1 b2 c1 c2 l es s n) (tabD w a1 a2 b1 b2 c1 c2) x5 x6 x7 x8) = .nx (bl2 c k v (logD w a1 a2 b1 b2 c1 c2 l es s n) (tabD w a1 a2 b1 b2 c1 c2) (oddAll w (.tuple [a1, a2]) (.tuple [b1, b2]) (.tuple [c1, c2]) es) x5 x6 x7 x8) := by kernel_rfl
theorem sSeq_assoc {a b d : Rho → SOut} : sSeq (sSeq a b) d = sSeq a (sSeq b d) := funext fun ρ => by rw [x_sSeq, seq3]
theorem bent_log_eq2 : m__law_bent_log = sSeq blA (sSeq blB (sSeq blC (sSeq blD (sSeq blE (sSeq (sSeq blF (sSeq blG (sSeq blH (sSeq blI (sSeq blJ blK))))) (sSeq blL blM)))))) := by
  rw [bent_log_eq]
  simp only [sSeq_assoc]
end
end Lw
set_option Elab.async false
set_option autoImplicit false
set_option linter.all false
set_option maxRecDepth 100000
set_option maxHeartbeats 4000000
namespace Lw
open PySem PySem.Spec PyProof.Rows L2 Fl
section
variable {c : List Int} {k v x5 x6 x7 x8 : Int} {w a1 a2 b1 b2 c1 c2 l n : PyData} {es : List PyData} {s : Bool}
abbrev bl3 (c : List Int) (k v : Int) (g t : PyData) (o : List PyData) (x5 x6 x7 x8 : Int) (x11 x12 : Option Fl.Arg) : Rho := [po c k v, sd g, sd t, some (.o o), sd (.list lead6), sd (.int x5), sd (.int x6), sd (.int x7), sd (.int x8), none, none, x11, x12]
theorem partE (ρ : Rho) : (eLst (aCons (eLst (aCons (eC (.str "kept")) aNil)) (aCons (eC (.dict [])) (aCons (eC .none) (aCons (eTup (aCons (eC (.str "new")) aNil)) (aCons (eC (.int 0)) (aCons (eLst aNil) aNil))))))) ρ = .ok (.list partL) ρ := by kernel_rfl
theorem farE (g t p : PyData) (o : List PyData) : blL20 (bl3 c k v g t o x5 x6 x7 x8 (sd p) none) = .ok (.list (farOf p)) (bl3 c k v g t o x5 x6 x7 x8 (sd p) none) := by kernel_rfl
theorem draw_at {t : Rho → AOut} {k1 v1 u m : Int} {r : Rho} (h : t (po c k v :: r) = .ok [.int u] (po c k v :: r)) (e : d__law_draw (penD c k v) [.int u] = .ok (.int m) (penD c k1 v1)) : eCallP 2 0 d__law_draw t (po c k v :: r) = .ok (.int m) (po c k1 v1 :: r) := by
  rw [y_eCallPa]
  show (t (po c k v :: r)).go _ = _
  rw [h, goL_ok, y_callPKa, if_pos (show [PyData.int u].length + 1 = 2 from rfl)]
  show (d__law_draw (penD c k v) [.int u]).put 0 _ = _
  rw [e]
  rfl
theorem draw_lit {k1 v1 u m : Int} {r : Rho} (e : d__law_draw (penD c k v) [.int u] = .ok (.int m) (penD c k1 v1)) : eCallP 2 0 d__law_draw (aCons (eC (.int u)) aNil) (po c k v :: r) = .ok (.int m) (po c k1 v1 :: r) := draw_at rfl e
theorem mem_far {p y : PyData} (hp : p ∈ partL) (hy : y ∈ farOf p) : y ∈ farL := List.mem_flatMap.mpr ⟨p, hp, hy⟩
theorem bl_cond {m : Int} {k1 v1 : Int} {r : Rho} (e : d__law_draw (penD c k v) [.int 3] = .ok (.int m) (penD c k1 v1)) : (eCmp qEq (eCallP 2 0 d__law_draw (aCons (eC (.int 3)) aNil)) (eC (.int 0))) (po c k v :: r) = .ok (.bool (decide (m = 0))) (po c k1 v1 :: r) := by
  rw [x_eCmp, draw_lit e]
  simp [qEqI]
theorem bl_rest0 (hk : 0 ≤ k) (hk2 : k < 2 ^ 58) (hv : 0 ≤ v) : ∃ y k' v' ρ', (y ∈ farL ∨ y ∈ (oddTabs w (.tuple [a1, a2]) (.tuple [b1, b2]) (.tuple [c1, c2]))) ∧ k ≤ k' ∧ k' ≤ k + 3 ∧ 0 ≤ v' ∧ sSeq blL blM (bl2 c k v (logD w a1 a2 b1 b2 c1 c2 l es s n) (tabD w a1 a2 b1 b2 c1 c2) (oddAll w (.tuple [a1, a2]) (.tuple [b1, b2]) (.tuple [c1, c2]) es) 0 x6 x7 x8) = .rt (.tuple [y, l, (.tuple es), (.bool s), n]) (po c k' v' :: ρ') := by
  obtain ⟨z, k1, v1, z0, z1, l1, l2, w1, e1⟩ := draw_ok c k v 3 hk (by omega) hv (by decide) (by decide)
  have hc : (eCmp qEq (eCallP 2 0 d__law_draw (aCons (eC (.int 3)) aNil)) (eC (.int 0))) (bl2 c k v (logD w a1 a2 b1 b2 c1 c2 l es s n) (tabD w a1 a2 b1 b2 c1 c2) (oddAll w (.tuple [a1, a2]) (.tuple [b1, b2]) (.tuple [c1, c2]) es) 0 x6 x7 x8) = .ok (.bool (decide (z = 0))) (bl3 c k1 v1 (logD w a1 a2 b1 b2 c1 c2 l es s n) (tabD w a1 a2 b1 b2 c1 c2) (oddAll w (.tuple [a1, a2]) (.tuple [b1, b2]) (.tuple [c1, c2]) es) 0 x6 x7 x8 none none) := bl_cond e1
  by_cases hz : z = 0
  · subst hz
    obtain ⟨m, k2, v2, m0, m1, l3, l4, w2, e2⟩ := draw_ok c k1 v1 6 (by omega) (by omega) w1 (by decide) (by decide)
    obtain ⟨p, hp, ep⟩ := get_at (xs := partL) m0 (by simpa [partL] using m1)
    obtain ⟨f, k3, v3, f0, f1, l5, l6, w3, e3⟩ := draw_ok c k2 v2 5 (by omega) (by omega) w2 (by decide) (by decide)
    obtain ⟨y, hy, ey⟩ := get_at (xs := farOf p) f0 (by simpa [farOf] using f1)
    have h1 : blL1 (bl3 c k1 v1 (logD w a1 a2 b1 b2 c1 c2 l es s n) (tabD w a1 a2 b1 b2 c1 c2) (oddAll w (.tuple [a1, a2]) (.tuple [b1, b2]) (.tuple [c1, c2]) es) 0 x6 x7 x8 none none) = .nx (bl3 c k2 v2 (logD w a1 a2 b1 b2 c1 c2 l es s n) (tabD w a1 a2 b1 b2 c1 c2) (oddAll w (.tuple [a1, a2]) (.tuple [b1, b2]) (.tuple [c1, c2]) es) 0 x6 x7 x8 (sd p) none) := by
      unfold blL1
      rw [x_sSet, x_eOp, partE, go_ok, x_opK, draw_lit e2, go_ok, x_opK2, p_ixL, ep]
      rfl
    have h2 : blL2 (bl3 c k2 v2 (logD w a1 a2 b1 b2 c1 c2 l es s n) (tabD w a1 a2 b1 b2 c1 c2) (oddAll w (.tuple [a1, a2]) (.tuple [b1, b2]) (.tuple [c1, c2]) es) 0 x6 x7 x8 (sd p) none) = .nx (bl3 c k3 v3 (logD w a1 a2 b1 b2 c1 c2 l es s n) (tabD w a1 a2 b1 b2 c1 c2) (oddAll w (.tuple [a1, a2]) (.tuple [b1, b2]) (.tuple [c1, c2]) es) 0 x6 x7 x8 (sd p) (sd y)) := by
      unfold blL2
      rw [x_sSet, x_eOp, farE, go_ok, x_opK, draw_lit e3, go_ok, x_opK2, p_ixL, ey]
      rfl
    have h3 : blL3 (bl3 c k3 v3 (logD w a1 a2 b1 b2 c1 c2 l es s n) (tabD w a1 a2 b1 b2 c1 c2) (oddAll w (.tuple [a1, a2]) (.tuple [b1, b2]) (.tuple [c1, c2]) es) 0 x6 x7 x8 (sd p) (sd y)) = .rt (.tuple [y, l, (.tuple es), (.bool s), n]) (bl3 c k3 v3 (logD w a1 a2 b1 b2 c1 c2 l es s n) (tabD w a1 a2 b1 b2 c1 c2) (oddAll w (.tuple [a1, a2]) (.tuple [b1, b2]) (.tuple [c1, c2]) es) 0 x6 x7 x8 (sd p) (sd y)) := by kernel_rfl
    refine ⟨y, k3, v3, (bl3 c k3 v3 (logD w a1 a2 b1 b2 c1 c2 l es s n) (tabD w a1 a2 b1 b2 c1 c2) (oddAll w (.tuple [a1, a2]) (.tuple [b1, b2]) (.tuple [c1, c2]) es) 0 x6 x7 x8 (sd p) (sd y)).tail, .inl (mem_far hp hy), by omega, by omega, w3, ?_⟩
    unfold blL
    rw [x_sSeq, x_sIf, hc, goS_ok, x_ifS, tr_bool, if_pos (by simp), x_sSeq, h1, on_nx, x_sSeq, h2, on_nx, h3]
    rfl
  · obtain ⟨m, k2, v2, m0, m1, l3, l4, w2, e2⟩ := draw_ok c k1 v1 10 (by omega) (by omega) w1 (by decide) (by decide)
    obtain ⟨y, hy, ey⟩ := get_at (xs := (oddTabs w (.tuple [a1, a2]) (.tuple [b1, b2]) (.tuple [c1, c2]))) m0 (by simpa [oddLead, oddStop, oddSeen, oddEnds] using m1)
    have h1 : (eIxO 3 (eV 5)) (bl3 c k1 v1 (logD w a1 a2 b1 b2 c1 c2 l es s n) (tabD w a1 a2 b1 b2 c1 c2) (oddAll w (.tuple [a1, a2]) (.tuple [b1, b2]) (.tuple [c1, c2]) es) 0 x6 x7 x8 none none) = .ok (.list (oddTabs w (.tuple [a1, a2]) (.tuple [b1, b2]) (.tuple [c1, c2]))) (bl3 c k1 v1 (logD w a1 a2 b1 b2 c1 c2 l es s n) (tabD w a1 a2 b1 b2 c1 c2) (oddAll w (.tuple [a1, a2]) (.tuple [b1, b2]) (.tuple [c1, c2]) es) 0 x6 x7 x8 none none) := by kernel_rfl
    have h2 : (aCons (eFun pLen (aCons (eIxO 3 (eV 5)) aNil)) aNil) (bl3 c k1 v1 (logD w a1 a2 b1 b2 c1 c2 l es s n) (tabD w a1 a2 b1 b2 c1 c2) (oddAll w (.tuple [a1, a2]) (.tuple [b1, b2]) (.tuple [c1, c2]) es) 0 x6 x7 x8 none none) = .ok [.int 10] (bl3 c k1 v1 (logD w a1 a2 b1 b2 c1 c2 l es s n) (tabD w a1 a2 b1 b2 c1 c2) (oddAll w (.tuple [a1, a2]) (.tuple [b1, b2]) (.tuple [c1, c2]) es) 0 x6 x7 x8 none none) := by kernel_rfl
    have h3 : blM0 (bl3 c k1 v1 (logD w a1 a2 b1 b2 c1 c2 l es s n) (tabD w a1 a2 b1 b2 c1 c2) (oddAll w (.tuple [a1, a2]) (.tuple [b1, b2]) (.tuple [c1, c2]) es) 0 x6 x7 x8 none none) = .ok y (bl3 c k2 v2 (logD w a1 a2 b1 b2 c1 c2 l es s n) (tabD w a1 a2 b1 b2 c1 c2) (oddAll w (.tuple [a1, a2]) (.tuple [b1, b2]) (.tuple [c1, c2]) es) 0 x6 x7 x8 none none) := by
      unfold blM0
      rw [x_eOp, h1, go_ok, x_opK, draw_at h2 e2, go_ok, x_opK2, p_ixL, ey]
      rfl
    have h4 : (eSl (eV 1) none (some (eV 5))) (bl3 c k1 v1 (logD w a1 a2 b1 b2 c1 c2 l es s n) (tabD w a1 a2 b1 b2 c1 c2) (oddAll w (.tuple [a1, a2]) (.tuple [b1, b2]) (.tuple [c1, c2]) es) 0 x6 x7 x8 none none) = .ok (.tuple []) (bl3 c k1 v1 (logD w a1 a2 b1 b2 c1 c2 l es s n) (tabD w a1 a2 b1 b2 c1 c2) (oddAll w (.tuple [a1, a2]) (.tuple [b1, b2]) (.tuple [c1, c2]) es) 0 x6 x7 x8 none none) := by kernel_rfl
    refine ⟨y, k2, v2, (bl3 c k2 v2 (logD w a1 a2 b1 b2 c1 c2 l es s n) (tabD w a1 a2 b1 b2 c1 c2) (oddAll w (.tuple [a1, a2]) (.tuple [b1, b2]) (.tuple [c1, c2]) es) 0 x6 x7 x8 none none).tail, .inr hy, by omega, by omega, w2, ?_⟩
    have h5 : blM (bl3 c k1 v1 (logD w a1 a2 b1 b2 c1 c2 l es s n) (tabD w a1 a2 b1 b2 c1 c2) (oddAll w (.tuple [a1, a2]) (.tuple [b1, b2]) (.tuple [c1, c2]) es) 0 x6 x7 x8 none none) = .rt (.tuple [y, l, (.tuple es), (.bool s), n]) (bl3 c k2 v2 (logD w a1 a2 b1 b2 c1 c2 l es s n) (tabD w a1 a2 b1 b2 c1 c2) (oddAll w (.tuple [a1, a2]) (.tuple [b1, b2]) (.tuple [c1, c2]) es) 0 x6 x7 x8 none none) := by
      unfold blM
      rw [x_sRet, x_eOp, x_eOp, h4, go_ok, x_opK, y_eTup, x_aCons, h3]
      kernel_rfl
    unfold blL
    rw [x_sSeq, x_sIf, hc, goS_ok, x_ifS, tr_bool, if_neg (by simpa using hz), x_sNil, on_nx, h5]
    rfl
theorem bl_rest1 (hk : 0 ≤ k) (hk2 : k < 2 ^ 58) (hv : 0 ≤ v) : ∃ y k' v' ρ', (y ∈ farL ∨ y ∈ oddLead) ∧ k ≤ k' ∧ k' ≤ k + 3 ∧ 0 ≤ v' ∧ sSeq blL blM (bl2 c k v (logD w a1 a2 b1 b2 c1 c2 l es s n) (tabD w a1 a2 b1 b2 c1 c2) (oddAll w (.tuple [a1, a2]) (.tuple [b1, b2]) (.tuple [c1, c2]) es) 1 x6 x7 x8) = .rt (.tuple [(tabD w a1 a2 b1 b2 c1 c2), y, (.tuple es), (.bool s), n]) (po c k' v' :: ρ') := by
  obtain ⟨z, k1, v1, z0, z1, l1, l2, w1, e1⟩ := draw_ok c k v 3 hk (by omega) hv (by decide) (by decide)
  have hc : (eCmp qEq (eCallP 2 0 d__law_draw (aCons (eC (.int 3)) aNil)) (eC (.int 0))) (bl2 c k v (logD w a1 a2 b1 b2 c1 c2 l es s n) (tabD w a1 a2 b1 b2 c1 c2) (oddAll w (.tuple [a1, a2]) (.tuple [b1, b2]) (.tuple [c1, c2]) es) 1 x6 x7 x8) = .ok (.bool (decide (z = 0))) (bl3 c k1 v1 (logD w a1 a2 b1 b2 c1 c2 l es s n) (tabD w a1 a2 b1 b2 c1 c2) (oddAll w (.tuple [a1, a2]) (.tuple [b1, b2]) (.tuple [c1, c2]) es) 1 x6 x7 x8 none none) := bl_cond e1
  by_cases hz : z = 0
  · subst hz
    obtain ⟨m, k2, v2, m0, m1, l3, l4, w2, e2⟩ := draw_ok c k1 v1 6 (by omega) (by omega) w1 (by decide) (by decide)
    obtain ⟨p, hp, ep⟩ := get_at (xs := partL) m0 (by simpa [partL] using m1)
    obtain ⟨f, k3, v3, f0, f1, l5, l6, w3, e3⟩ := draw_ok c k2 v2 5 (by omega) (by omega) w2 (by decide) (by decide)
    obtain ⟨y, hy, ey⟩ := get_at (xs := farOf p) f0 (by simpa [farOf] using f1)
    have h1 : blL1 (bl3 c k1 v1 (logD w a1 a2 b1 b2 c1 c2 l es s n) (tabD w a1 a2 b1 b2 c1 c2) (oddAll w (.tuple [a1, a2]) (.tuple [b1, b2]) (.tuple [c1, c2]) es) 1 x6 x7 x8 none none) = .nx (bl3 c k2 v2 (logD w a1 a2 b1 b2 c1 c2 l es s n) (tabD w a1 a2 b1 b2 c1 c2) (oddAll w (.tuple [a1, a2]) (.tuple [b1, b2]) (.tuple [c1, c2]) es) 1 x6 x7 x8 (sd p) none) := by
      unfold blL1
      rw [x_sSet, x_eOp, partE, go_ok, x_opK, draw_lit e2, go_ok, x_opK2, p_ixL, ep]
      rfl
    have h2 : blL2 (bl3 c k2 v2 (logD w a1 a2 b1 b2 c1 c2 l es s n) (tabD w a1 a2 b1 b2 c1 c2) (oddAll w (.tuple [a1, a2]) (.tuple [b1, b2]) (.tuple [c1, c2]) es) 1 x6 x7 x8 (sd p) none) = .nx (bl3 c k3 v3 (logD w a1 a2 b1 b2 c1 c2 l es s n) (tabD w a1 a2 b1 b2 c1 c2) (oddAll w (.tuple [a1, a2]) (.tuple [b1, b2]) (.tuple [c1, c2]) es) 1 x6 x7 x8 (sd p) (sd y)) := by
      unfold blL2
      rw [x_sSet, x_eOp, farE, go_ok, x_opK, draw_lit e3, go_ok, x_opK2, p_ixL, ey]
      rfl
    have h3 : blL3 (bl3 c k3 v3 (logD w a1 a2 b1 b2 c1 c2 l es s n) (tabD w a1 a2 b1 b2 c1 c2) (oddAll w (.tuple [a1, a2]) (.tuple [b1, b2]) (.tuple [c1, c2]) es) 1 x6 x7 x8 (sd p) (sd y)) = .rt (.tuple [(tabD w a1 a2 b1 b2 c1 c2), y, (.tuple es), (.bool s), n]) (bl3 c k3 v3 (logD w a1 a2 b1 b2 c1 c2 l es s n) (tabD w a1 a2 b1 b2 c1 c2) (oddAll w (.tuple [a1, a2]) (.tuple [b1, b2]) (.tuple [c1, c2]) es) 1 x6 x7 x8 (sd p) (sd y)) := by kernel_rfl
    refine ⟨y, k3, v3, (bl3 c k3 v3 (logD w a1 a2 b1 b2 c1 c2 l es s n) (tabD w a1 a2 b1 b2 c1 c2) (oddAll w (.tuple [a1, a2]) (.tuple [b1, b2]) (.tuple [c1, c2]) es) 1 x6 x7 x8 (sd p) (sd y)).tail, .inl (mem_far hp hy), by omega, by omega, w3, ?_⟩
    unfold blL
    rw [x_sSeq, x_sIf, hc, goS_ok, x_ifS, tr_bool, if_pos (by simp), x_sSeq, h1, on_nx, x_sSeq, h2, on_nx, h3]
    rfl
  · obtain ⟨m, k2, v2, m0, m1, l3, l4, w2, e2⟩ := draw_ok c k1 v1 7 (by omega) (by omega) w1 (by decide) (by decide)
    obtain ⟨y, hy, ey⟩ := get_at (xs := oddLead) m0 (by simpa [oddLead, oddStop, oddSeen, oddEnds] using m1)
    have h1 : (eIxO 3 (eV 5)) (bl3 c k1 v1 (logD w a1 a2 b1 b2 c1 c2 l es s n) (tabD w a1 a2 b1 b2 c1 c2) (oddAll w (.tuple [a1, a2]) (.tuple [b1, b2]) (.tuple [c1, c2]) es) 1 x6 x7 x8 none none) = .ok (.list oddLead) (bl3 c k1 v1 (logD w a1 a2 b1 b2 c1 c2 l es s n) (tabD w a1 a2 b1 b2 c1 c2) (oddAll w (.tuple [a1, a2]) (.tuple [b1, b2]) (.tuple [c1, c2]) es) 1 x6 x7 x8 none none) := by kernel_rfl
    have h2 : (aCons (eFun pLen (aCons (eIxO 3 (eV 5)) aNil)) aNil) (bl3 c k1 v1 (logD w a1 a2 b1 b2 c1 c2 l es s n) (tabD w a1 a2 b1 b2 c1 c2) (oddAll w (.tuple [a1, a2]) (.tuple [b1, b2]) (.tuple [c1, c2]) es) 1 x6 x7 x8 none none) = .ok [.int 7] (bl3 c k1 v1 (logD w a1 a2 b1 b2 c1 c2 l es s n) (tabD w a1 a2 b1 b2 c1 c2) (oddAll w (.tuple [a1, a2]) (.tuple [b1, b2]) (.tuple [c1, c2]) es) 1 x6 x7 x8 none none) := by kernel_rfl
    have h3 : blM0 (bl3 c k1 v1 (logD w a1 a2 b1 b2 c1 c2 l es s n) (tabD w a1 a2 b1 b2 c1 c2) (oddAll w (.tuple [a1, a2]) (.tuple [b1, b2]) (.tuple [c1, c2]) es) 1 x6 x7 x8 none none) = .ok y (bl3 c k2 v2 (logD w a1 a2 b1 b2 c1 c2 l es s n) (tabD w a1 a2 b1 b2 c1 c2) (oddAll w (.tuple [a1, a2]) (.tuple [b1, b2]) (.tuple [c1, c2]) es) 1 x6 x7 x8 none none) := by
      unfold blM0
      rw [x_eOp, h1, go_ok, x_opK, draw_at h2 e2, go_ok, x_opK2, p_ixL, ey]
      rfl
    have h4 : (eSl (eV 1) none (some (eV 5))) (bl3 c k1 v1 (logD w a1 a2 b1 b2 c1 c2 l es s n) (tabD w a1 a2 b1 b2 c1 c2) (oddAll w (.tuple [a1, a2]) (.tuple [b1, b2]) (.tuple [c1, c2]) es) 1 x6 x7 x8 none none) = .ok (.tuple [(tabD w a1 a2 b1 b2 c1 c2)]) (bl3 c k1 v1 (logD w a1 a2 b1 b2 c1 c2 l es s n) (tabD w a1 a2 b1 b2 c1 c2) (oddAll w (.tuple [a1, a2]) (.tuple [b1, b2]) (.tuple [c1, c2]) es) 1 x6 x7 x8 none none) := by kernel_rfl
    refine ⟨y, k2, v2, (bl3 c k2 v2 (logD w a1 a2 b1 b2 c1 c2 l es s n) (tabD w a1 a2 b1 b2 c1 c2) (oddAll w (.tuple [a1, a2]) (.tuple [b1, b2]) (.tuple [c1, c2]) es) 1 x6 x7 x8 none none).tail, .inr hy, by omega, by omega, w2, ?_⟩
    have h5 : blM (bl3 c k1 v1 (logD w a1 a2 b1 b2 c1 c2 l es s n) (tabD w a1 a2 b1 b2 c1 c2) (oddAll w (.tuple [a1, a2]) (.tuple [b1, b2]) (.tuple [c1, c2]) es) 1 x6 x7 x8 none none) = .rt (.tuple [(tabD w a1 a2 b1 b2 c1 c2), y, (.tuple es), (.bool s), n]) (bl3 c k2 v2 (logD w a1 a2 b1 b2 c1 c2 l es s n) (tabD w a1 a2 b1 b2 c1 c2) (oddAll w (.tuple [a1, a2]) (.tuple [b1, b2]) (.tuple [c1, c2]) es) 1 x6 x7 x8 none none) := by
      unfold blM
      rw [x_sRet, x_eOp, x_eOp, h4, go_ok, x_opK, y_eTup, x_aCons, h3]
      kernel_rfl
    unfold blL
    rw [x_sSeq, x_sIf, hc, goS_ok, x_ifS, tr_bool, if_neg (by simpa using hz), x_sNil, on_nx, h5]
    rfl
theorem bl_rest2 (hk : 0 ≤ k) (hk2 : k < 2 ^ 58) (hv : 0 ≤ v) : ∃ y k' v' ρ', (y ∈ farL ∨ y ∈ (.list es :: oddEnds)) ∧ k ≤ k' ∧ k' ≤ k + 3 ∧ 0 ≤ v' ∧ sSeq blL blM (bl2 c k v (logD w a1 a2 b1 b2 c1 c2 l es s n) (tabD w a1 a2 b1 b2 c1 c2) (oddAll w (.tuple [a1, a2]) (.tuple [b1, b2]) (.tuple [c1, c2]) es) 2 x6 x7 x8) = .rt (.tuple [(tabD w a1 a2 b1 b2 c1 c2), l, y, (.bool s), n]) (po c k' v' :: ρ') := by
  obtain ⟨z, k1, v1, z0, z1, l1, l2, w1, e1⟩ := draw_ok c k v 3 hk (by omega) hv (by decide) (by decide)
  have hc : (eCmp qEq (eCallP 2 0 d__law_draw (aCons (eC (.int 3)) aNil)) (eC (.int 0))) (bl2 c k v (logD w a1 a2 b1 b2 c1 c2 l es s n) (tabD w a1 a2 b1 b2 c1 c2) (oddAll w (.tuple [a1, a2]) (.tuple [b1, b2]) (.tuple [c1, c2]) es) 2 x6 x7 x8) = .ok (.bool (decide (z = 0))) (bl3 c k1 v1 (logD w a1 a2 b1 b2 c1 c2 l es s n) (tabD w a1 a2 b1 b2 c1 c2) (oddAll w (.tuple [a1, a2]) (.tuple [b1, b2]) (.tuple [c1, c2]) es) 2 x6 x7 x8 none none) := bl_cond e1
  by_cases hz : z = 0
  · subst hz
    obtain ⟨m, k2, v2, m0, m1, l3, l4, w2, e2⟩ := draw_ok c k1 v1 6 (by omega) (by omega) w1 (by decide) (by decide)
    obtain ⟨p, hp, ep⟩ := get_at (xs := partL) m0 (by simpa [partL] using m1)
    obtain ⟨f, k3, v3, f0, f1, l5, l6, w3, e3⟩ := draw_ok c k2 v2 5 (by omega) (by omega) w2 (by decide) (by decide)
    obtain ⟨y, hy, ey⟩ := get_at (xs := farOf p) f0 (by simpa [farOf] using f1)
    have h1 : blL1 (bl3 c k1 v1 (logD w a1 a2 b1 b2 c1 c2 l es s n) (tabD w a1 a2 b1 b2 c1 c2) (oddAll w (.tuple [a1, a2]) (.tuple [b1, b2]) (.tuple [c1, c2]) es) 2 x6 x7 x8 none none) = .nx (bl3 c k2 v2 (logD w a1 a2 b1 b2 c1 c2 l es s n) (tabD w a1 a2 b1 b2 c1 c2) (oddAll w (.tuple [a1, a2]) (.tuple [b1, b2]) (.tuple [c1, c2]) es) 2 x6 x7 x8 (sd p) none) := by
      unfold blL1
      rw [x_sSet, x_eOp, partE, go_ok, x_opK, draw_lit e2, go_ok, x_opK2, p_ixL, ep]
      rfl
    have h2 : blL2 (bl3 c k2 v2 (logD w a1 a2 b1 b2 c1 c2 l es s n) (tabD w a1 a2 b1 b2 c1 c2) (oddAll w (.tuple [a1, a2]) (.tuple [b1, b2]) (.tuple [c1, c2]) es) 2 x6 x7 x8 (sd p) none) = .nx (bl3 c k3 v3 (logD w a1 a2 b1 b2 c1 c2 l es s n) (tabD w a1 a2 b1 b2 c1 c2) (oddAll w (.tuple [a1, a2]) (.tuple [b1, b2]) (.tuple [c1, c2]) es) 2 x6 x7 x8 (sd p) (sd y)) := by
      unfold blL2
      rw [x_sSet, x_eOp, farE, go_ok, x_opK, draw_lit e3, go_ok, x_opK2, p_ixL, ey]
      rfl
    have h3 : blL3 (bl3 c k3 v3 (logD w a1 a2 b1 b2 c1 c2 l es s n) (tabD w a1 a2 b1 b2 c1 c2) (oddAll w (.tuple [a1, a2]) (.tuple [b1, b2]) (.tuple [c1, c2]) es) 2 x6 x7 x8 (sd p) (sd y)) = .rt (.tuple [(tabD w a1 a2 b1 b2 c1 c2), l, y, (.bool s), n]) (bl3 c k3 v3 (logD w a1 a2 b1 b2 c1 c2 l es s n) (tabD w a1 a2 b1 b2 c1 c2) (oddAll w (.tuple [a1, a2]) (.tuple [b1, b2]) (.tuple [c1, c2]) es) 2 x6 x7 x8 (sd p) (sd y)) := by kernel_rfl
    refine ⟨y, k3, v3, (bl3 c k3 v3 (logD w a1 a2 b1 b2 c1 c2 l es s n) (tabD w a1 a2 b1 b2 c1 c2) (oddAll w (.tuple [a1, a2]) (.tuple [b1, b2]) (.tuple [c1, c2]) es) 2 x6 x7 x8 (sd p) (sd y)).tail, .inl (mem_far hp hy), by omega, by omega, w3, ?_⟩
    unfold blL
    rw [x_sSeq, x_sIf, hc, goS_ok, x_ifS, tr_bool, if_pos (by simp), x_sSeq, h1, on_nx, x_sSeq, h2, on_nx, h3]
    rfl
  · obtain ⟨m, k2, v2, m0, m1, l3, l4, w2, e2⟩ := draw_ok c k1 v1 4 (by omega) (by omega) w1 (by decide) (by decide)
    obtain ⟨y, hy, ey⟩ := get_at (xs := (.list es :: oddEnds)) m0 (by simpa [oddLead, oddStop, oddSeen, oddEnds] using m1)
    have h1 : (eIxO 3 (eV 5)) (bl3 c k1 v1 (logD w a1 a2 b1 b2 c1 c2 l es s n) (tabD w a1 a2 b1 b2 c1 c2) (oddAll w (.tuple [a1, a2]) (.tuple [b1, b2]) (.tuple [c1, c2]) es) 2 x6 x7 x8 none none) = .ok (.list (.list es :: oddEnds)) (bl3 c k1 v1 (logD w a1 a2 b1 b2 c1 c2 l es s n) (tabD w a1 a2 b1 b2 c1 c2) (oddAll w (.tuple [a1, a2]) (.tuple [b1, b2]) (.tuple [c1, c2]) es) 2 x6 x7 x8 none none) := by kernel_rfl
    have h2 : (aCons (eFun pLen (aCons (eIxO 3 (eV 5)) aNil)) aNil) (bl3 c k1 v1 (logD w a1 a2 b1 b2 c1 c2 l es s n) (tabD w a1 a2 b1 b2 c1 c2) (oddAll w (.tuple [a1, a2]) (.tuple [b1, b2]) (.tuple [c1, c2]) es) 2 x6 x7 x8 none none) = .ok [.int 4] (bl3 c k1 v1 (logD w a1 a2 b1 b2 c1 c2 l es s n) (tabD w a1 a2 b1 b2 c1 c2) (oddAll w (.tuple [a1, a2]) (.tuple [b1, b2]) (.tuple [c1, c2]) es) 2 x6 x7 x8 none none) := by kernel_rfl
    have h3 : blM0 (bl3 c k1 v1 (logD w a1 a2 b1 b2 c1 c2 l es s n) (tabD w a1 a2 b1 b2 c1 c2) (oddAll w (.tuple [a1, a2]) (.tuple [b1, b2]) (.tuple [c1, c2]) es) 2 x6 x7 x8 none none) = .ok y (bl3 c k2 v2 (logD w a1 a2 b1 b2 c1 c2 l es s n) (tabD w a1 a2 b1 b2 c1 c2) (oddAll w (.tuple [a1, a2]) (.tuple [b1, b2]) (.tuple [c1, c2]) es) 2 x6 x7 x8 none none) := by
      unfold blM0
      rw [x_eOp, h1, go_ok, x_opK, draw_at h2 e2, go_ok, x_opK2, p_ixL, ey]
      rfl
    have h4 : (eSl (eV 1) none (some (eV 5))) (bl3 c k1 v1 (logD w a1 a2 b1 b2 c1 c2 l es s n) (tabD w a1 a2 b1 b2 c1 c2) (oddAll w (.tuple [a1, a2]) (.tuple [b1, b2]) (.tuple [c1, c2]) es) 2 x6 x7 x8 none none) = .ok (.tuple [(tabD w a1 a2 b1 b2 c1 c2), l]) (bl3 c k1 v1 (logD w a1 a2 b1 b2 c1 c2 l es s n) (tabD w a1 a2 b1 b2 c1 c2) (oddAll w (.tuple [a1, a2]) (.tuple [b1, b2]) (.tuple [c1, c2]) es) 2 x6 x7 x8 none none) := by kernel_rfl
    refine ⟨y, k2, v2, (bl3 c k2 v2 (logD w a1 a2 b1 b2 c1 c2 l es s n) (tabD w a1 a2 b1 b2 c1 c2) (oddAll w (.tuple [a1, a2]) (.tuple [b1, b2]) (.tuple [c1, c2]) es) 2 x6 x7 x8 none none).tail, .inr hy, by omega, by omega, w2, ?_⟩
    have h5 : blM (bl3 c k1 v1 (logD w a1 a2 b1 b2 c1 c2 l es s n) (tabD w a1 a2 b1 b2 c1 c2) (oddAll w (.tuple [a1, a2]) (.tuple [b1, b2]) (.tuple [c1, c2]) es) 2 x6 x7 x8 none none) = .rt (.tuple [(tabD w a1 a2 b1 b2 c1 c2), l, y, (.bool s), n]) (bl3 c k2 v2 (logD w a1 a2 b1 b2 c1 c2 l es s n) (tabD w a1 a2 b1 b2 c1 c2) (oddAll w (.tuple [a1, a2]) (.tuple [b1, b2]) (.tuple [c1, c2]) es) 2 x6 x7 x8 none none) := by
      unfold blM
      rw [x_sRet, x_eOp, x_eOp, h4, go_ok, x_opK, y_eTup, x_aCons, h3]
      kernel_rfl
    unfold blL
    rw [x_sSeq, x_sIf, hc, goS_ok, x_ifS, tr_bool, if_neg (by simpa using hz), x_sNil, on_nx, h5]
    rfl
theorem bl_rest3 (hk : 0 ≤ k) (hk2 : k < 2 ^ 58) (hv : 0 ≤ v) : ∃ y k' v' ρ', (y ∈ farL ∨ y ∈ oddStop) ∧ k ≤ k' ∧ k' ≤ k + 3 ∧ 0 ≤ v' ∧ sSeq blL blM (bl2 c k v (logD w a1 a2 b1 b2 c1 c2 l es s n) (tabD w a1 a2 b1 b2 c1 c2) (oddAll w (.tuple [a1, a2]) (.tuple [b1, b2]) (.tuple [c1, c2]) es) 3 x6 x7 x8) = .rt (.tuple [(tabD w a1 a2 b1 b2 c1 c2), l, (.tuple es), y, n]) (po c k' v' :: ρ') := by
  obtain ⟨z, k1, v1, z0, z1, l1, l2, w1, e1⟩ := draw_ok c k v 3 hk (by omega) hv (by decide) (by decide)
  have hc : (eCmp qEq (eCallP 2 0 d__law_draw (aCons (eC (.int 3)) aNil)) (eC (.int 0))) (bl2 c k v (logD w a1 a2 b1 b2 c1 c2 l es s n) (tabD w a1 a2 b1 b2 c1 c2) (oddAll w (.tuple [a1, a2]) (.tuple [b1, b2]) (.tuple [c1, c2]) es) 3 x6 x7 x8) = .ok (.bool (decide (z = 0))) (bl3 c k1 v1 (logD w a1 a2 b1 b2 c1 c2 l es s n) (tabD w a1 a2 b1 b2 c1 c2) (oddAll w (.tuple [a1, a2]) (.tuple [b1, b2]) (.tuple [c1, c2]) es) 3 x6 x7 x8 none none) := bl_cond e1
  by_cases hz : z = 0
  · subst hz
    obtain ⟨m, k2, v2, m0, m1, l3, l4, w2, e2⟩ := draw_ok c k1 v1 6 (by omega) (by omega) w1 (by decide) (by decide)
    obtain ⟨p, hp, ep⟩ := get_at (xs := partL) m0 (by simpa [partL] using m1)
    obtain ⟨f, k3, v3, f0, f1, l5, l6, w3, e3⟩ := draw_ok c k2 v2 5 (by omega) (by omega) w2 (by decide) (by decide)
    obtain ⟨y, hy, ey⟩ := get_at (xs := farOf p) f0 (by simpa [farOf] using f1)
    have h1 : blL1 (bl3 c k1 v1 (logD w a1 a2 b1 b2 c1 c2 l es s n) (tabD w a1 a2 b1 b2 c1 c2) (oddAll w (.tuple [a1, a2]) (.tuple [b1, b2]) (.tuple [c1, c2]) es) 3 x6 x7 x8 none none) = .nx (bl3 c k2 v2 (logD w a1 a2 b1 b2 c1 c2 l es s n) (tabD w a1 a2 b1 b2 c1 c2) (oddAll w (.tuple [a1, a2]) (.tuple [b1, b2]) (.tuple [c1, c2]) es) 3 x6 x7 x8 (sd p) none) := by
      unfold blL1
      rw [x_sSet, x_eOp, partE, go_ok, x_opK, draw_lit e2, go_ok, x_opK2, p_ixL, ep]
      rfl
    have h2 : blL2 (bl3 c k2 v2 (logD w a1 a2 b1 b2 c1 c2 l es s n) (tabD w a1 a2 b1 b2 c1 c2) (oddAll w (.tuple [a1, a2]) (.tuple [b1, b2]) (.tuple [c1, c2]) es) 3 x6 x7 x8 (sd p) none) = .nx (bl3 c k3 v3 (logD w a1 a2 b1 b2 c1 c2 l es s n) (tabD w a1 a2 b1 b2 c1 c2) (oddAll w (.tuple [a1, a2]) (.tuple [b1, b2]) (.tuple [c1, c2]) es) 3 x6 x7 x8 (sd p) (sd y)) := by
      unfold blL2
      rw [x_sSet, x_eOp, farE, go_ok, x_opK, draw_lit e3, go_ok, x_opK2, p_ixL, ey]
      rfl
    have h3 : blL3 (bl3 c k3 v3 (logD w a1 a2 b1 b2 c1 c2 l es s n) (tabD w a1 a2 b1 b2 c1 c2) (oddAll w (.tuple [a1, a2]) (.tuple [b1, b2]) (.tuple [c1, c2]) es) 3 x6 x7 x8 (sd p) (sd y)) = .rt (.tuple [(tabD w a1 a2 b1 b2 c1 c2), l, (.tuple es), y, n]) (bl3 c k3 v3 (logD w a1 a2 b1 b2 c1 c2 l es s n) (tabD w a1 a2 b1 b2 c1 c2) (oddAll w (.tuple [a1, a2]) (.tuple [b1, b2]) (.tuple [c1, c2]) es) 3 x6 x7 x8 (sd p) (sd y)) := by kernel_rfl
    refine ⟨y, k3, v3, (bl3 c k3 v3 (logD w a1 a2 b1 b2 c1 c2 l es s n) (tabD w a1 a2 b1 b2 c1 c2) (oddAll w (.tuple [a1, a2]) (.tuple [b1, b2]) (.tuple [c1, c2]) es) 3 x6 x7 x8 (sd p) (sd y)).tail, .inl (mem_far hp hy), by omega, by omega, w3, ?_⟩
    unfold blL
    rw [x_sSeq, x_sIf, hc, goS_ok, x_ifS, tr_bool, if_pos (by simp), x_sSeq, h1, on_nx, x_sSeq, h2, on_nx, h3]
    rfl
  · obtain ⟨m, k2, v2, m0, m1, l3, l4, w2, e2⟩ := draw_ok c k1 v1 4 (by omega) (by omega) w1 (by decide) (by decide)
    obtain ⟨y, hy, ey⟩ := get_at (xs := oddStop) m0 (by simpa [oddLead, oddStop, oddSeen, oddEnds] using m1)
    have h1 : (eIxO 3 (eV 5)) (bl3 c k1 v1 (logD w a1 a2 b1 b2 c1 c2 l es s n) (tabD w a1 a2 b1 b2 c1 c2) (oddAll w (.tuple [a1, a2]) (.tuple [b1, b2]) (.tuple [c1, c2]) es) 3 x6 x7 x8 none none) = .ok (.list oddStop) (bl3 c k1 v1 (logD w a1 a2 b1 b2 c1 c2 l es s n) (tabD w a1 a2 b1 b2 c1 c2) (oddAll w (.tuple [a1, a2]) (.tuple [b1, b2]) (.tuple [c1, c2]) es) 3 x6 x7 x8 none none) := by kernel_rfl
    have h2 : (aCons (eFun pLen (aCons (eIxO 3 (eV 5)) aNil)) aNil) (bl3 c k1 v1 (logD w a1 a2 b1 b2 c1 c2 l es s n) (tabD w a1 a2 b1 b2 c1 c2) (oddAll w (.tuple [a1, a2]) (.tuple [b1, b2]) (.tuple [c1, c2]) es) 3 x6 x7 x8 none none) = .ok [.int 4] (bl3 c k1 v1 (logD w a1 a2 b1 b2 c1 c2 l es s n) (tabD w a1 a2 b1 b2 c1 c2) (oddAll w (.tuple [a1, a2]) (.tuple [b1, b2]) (.tuple [c1, c2]) es) 3 x6 x7 x8 none none) := by kernel_rfl
    have h3 : blM0 (bl3 c k1 v1 (logD w a1 a2 b1 b2 c1 c2 l es s n) (tabD w a1 a2 b1 b2 c1 c2) (oddAll w (.tuple [a1, a2]) (.tuple [b1, b2]) (.tuple [c1, c2]) es) 3 x6 x7 x8 none none) = .ok y (bl3 c k2 v2 (logD w a1 a2 b1 b2 c1 c2 l es s n) (tabD w a1 a2 b1 b2 c1 c2) (oddAll w (.tuple [a1, a2]) (.tuple [b1, b2]) (.tuple [c1, c2]) es) 3 x6 x7 x8 none none) := by
      unfold blM0
      rw [x_eOp, h1, go_ok, x_opK, draw_at h2 e2, go_ok, x_opK2, p_ixL, ey]
      rfl
    have h4 : (eSl (eV 1) none (some (eV 5))) (bl3 c k1 v1 (logD w a1 a2 b1 b2 c1 c2 l es s n) (tabD w a1 a2 b1 b2 c1 c2) (oddAll w (.tuple [a1, a2]) (.tuple [b1, b2]) (.tuple [c1, c2]) es) 3 x6 x7 x8 none none) = .ok (.tuple [(tabD w a1 a2 b1 b2 c1 c2), l, (.tuple es)]) (bl3 c k1 v1 (logD w a1 a2 b1 b2 c1 c2 l es s n) (tabD w a1 a2 b1 b2 c1 c2) (oddAll w (.tuple [a1, a2]) (.tuple [b1, b2]) (.tuple [c1, c2]) es) 3 x6 x7 x8 none none) := by kernel_rfl
    refine ⟨y, k2, v2, (bl3 c k2 v2 (logD w a1 a2 b1 b2 c1 c2 l es s n) (tabD w a1 a2 b1 b2 c1 c2) (oddAll w (.tuple [a1, a2]) (.tuple [b1, b2]) (.tuple [c1, c2]) es) 3 x6 x7 x8 none none).tail, .inr hy, by omega, by omega, w2, ?_⟩
    have h5 : blM (bl3 c k1 v1 (logD w a1 a2 b1 b2 c1 c2 l es s n) (tabD w a1 a2 b1 b2 c1 c2) (oddAll w (.tuple [a1, a2]) (.tuple [b1, b2]) (.tuple [c1, c2]) es) 3 x6 x7 x8 none none) = .rt (.tuple [(tabD w a1 a2 b1 b2 c1 c2), l, (.tuple es), y, n]) (bl3 c k2 v2 (logD w a1 a2 b1 b2 c1 c2 l es s n) (tabD w a1 a2 b1 b2 c1 c2) (oddAll w (.tuple [a1, a2]) (.tuple [b1, b2]) (.tuple [c1, c2]) es) 3 x6 x7 x8 none none) := by
      unfold blM
      rw [x_sRet, x_eOp, x_eOp, h4, go_ok, x_opK, y_eTup, x_aCons, h3]
      kernel_rfl
    unfold blL
    rw [x_sSeq, x_sIf, hc, goS_ok, x_ifS, tr_bool, if_neg (by simpa using hz), x_sNil, on_nx, h5]
    rfl
theorem bl_rest4 (hk : 0 ≤ k) (hk2 : k < 2 ^ 58) (hv : 0 ≤ v) : ∃ y k' v' ρ', (y ∈ farL ∨ y ∈ oddSeen) ∧ k ≤ k' ∧ k' ≤ k + 3 ∧ 0 ≤ v' ∧ sSeq blL blM (bl2 c k v (logD w a1 a2 b1 b2 c1 c2 l es s n) (tabD w a1 a2 b1 b2 c1 c2) (oddAll w (.tuple [a1, a2]) (.tuple [b1, b2]) (.tuple [c1, c2]) es) 4 x6 x7 x8) = .rt (.tuple [(tabD w a1 a2 b1 b2 c1 c2), l, (.tuple es), (.bool s), y]) (po c k' v' :: ρ') := by
  obtain ⟨z, k1, v1, z0, z1, l1, l2, w1, e1⟩ := draw_ok c k v 3 hk (by omega) hv (by decide) (by decide)
  have hc : (eCmp qEq (eCallP 2 0 d__law_draw (aCons (eC (.int 3)) aNil)) (eC (.int 0))) (bl2 c k v (logD w a1 a2 b1 b2 c1 c2 l es s n) (tabD w a1 a2 b1 b2 c1 c2) (oddAll w (.tuple [a1, a2]) (.tuple [b1, b2]) (.tuple [c1, c2]) es) 4 x6 x7 x8) = .ok (.bool (decide (z = 0))) (bl3 c k1 v1 (logD w a1 a2 b1 b2 c1 c2 l es s n) (tabD w a1 a2 b1 b2 c1 c2) (oddAll w (.tuple [a1, a2]) (.tuple [b1, b2]) (.tuple [c1, c2]) es) 4 x6 x7 x8 none none) := bl_cond e1
  by_cases hz : z = 0
  · subst hz
    obtain ⟨m, k2, v2, m0, m1, l3, l4, w2, e2⟩ := draw_ok c k1 v1 6 (by omega) (by omega) w1 (by decide) (by decide)
    obtain ⟨p, hp, ep⟩ := get_at (xs := partL) m0 (by simpa [partL] using m1)
    obtain ⟨f, k3, v3, f0, f1, l5, l6, w3, e3⟩ := draw_ok c k2 v2 5 (by omega) (by omega) w2 (by decide) (by decide)
    obtain ⟨y, hy, ey⟩ := get_at (xs := farOf p) f0 (by simpa [farOf] using f1)
    have h1 : blL1 (bl3 c k1 v1 (logD w a1 a2 b1 b2 c1 c2 l es s n) (tabD w a1 a2 b1 b2 c1 c2) (oddAll w (.tuple [a1, a2]) (.tuple [b1, b2]) (.tuple [c1, c2]) es) 4 x6 x7 x8 none none) = .nx (bl3 c k2 v2 (logD w a1 a2 b1 b2 c1 c2 l es s n) (tabD w a1 a2 b1 b2 c1 c2) (oddAll w (.tuple [a1, a2]) (.tuple [b1, b2]) (.tuple [c1, c2]) es) 4 x6 x7 x8 (sd p) none) := by
      unfold blL1
      rw [x_sSet, x_eOp, partE, go_ok, x_opK, draw_lit e2, go_ok, x_opK2, p_ixL, ep]
      rfl
    have h2 : blL2 (bl3 c k2 v2 (logD w a1 a2 b1 b2 c1 c2 l es s n) (tabD w a1 a2 b1 b2 c1 c2) (oddAll w (.tuple [a1, a2]) (.tuple [b1, b2]) (.tuple [c1, c2]) es) 4 x6 x7 x8 (sd p) none) = .nx (bl3 c k3 v3 (logD w a1 a2 b1 b2 c1 c2 l es s n) (tabD w a1 a2 b1 b2 c1 c2) (oddAll w (.tuple [a1, a2]) (.tuple [b1, b2]) (.tuple [c1, c2]) es) 4 x6 x7 x8 (sd p) (sd y)) := by
      unfold blL2
      rw [x_sSet, x_eOp, farE, go_ok, x_opK, draw_lit e3, go_ok, x_opK2, p_ixL, ey]
      rfl
    have h3 : blL3 (bl3 c k3 v3 (logD w a1 a2 b1 b2 c1 c2 l es s n) (tabD w a1 a2 b1 b2 c1 c2) (oddAll w (.tuple [a1, a2]) (.tuple [b1, b2]) (.tuple [c1, c2]) es) 4 x6 x7 x8 (sd p) (sd y)) = .rt (.tuple [(tabD w a1 a2 b1 b2 c1 c2), l, (.tuple es), (.bool s), y]) (bl3 c k3 v3 (logD w a1 a2 b1 b2 c1 c2 l es s n) (tabD w a1 a2 b1 b2 c1 c2) (oddAll w (.tuple [a1, a2]) (.tuple [b1, b2]) (.tuple [c1, c2]) es) 4 x6 x7 x8 (sd p) (sd y)) := by kernel_rfl
    refine ⟨y, k3, v3, (bl3 c k3 v3 (logD w a1 a2 b1 b2 c1 c2 l es s n) (tabD w a1 a2 b1 b2 c1 c2) (oddAll w (.tuple [a1, a2]) (.tuple [b1, b2]) (.tuple [c1, c2]) es) 4 x6 x7 x8 (sd p) (sd y)).tail, .inl (mem_far hp hy), by omega, by omega, w3, ?_⟩
    unfold blL
    rw [x_sSeq, x_sIf, hc, goS_ok, x_ifS, tr_bool, if_pos (by simp), x_sSeq, h1, on_nx, x_sSeq, h2, on_nx, h3]
    rfl
  · obtain ⟨m, k2, v2, m0, m1, l3, l4, w2, e2⟩ := draw_ok c k1 v1 4 (by omega) (by omega) w1 (by decide) (by decide)
    obtain ⟨y, hy, ey⟩ := get_at (xs := oddSeen) m0 (by simpa [oddLead, oddStop, oddSeen, oddEnds] using m1)
    have h1 : (eIxO 3 (eV 5)) (bl3 c k1 v1 (logD w a1 a2 b1 b2 c1 c2 l es s n) (tabD w a1 a2 b1 b2 c1 c2) (oddAll w (.tuple [a1, a2]) (.tuple [b1, b2]) (.tuple [c1, c2]) es) 4 x6 x7 x8 none none) = .ok (.list oddSeen) (bl3 c k1 v1 (logD w a1 a2 b1 b2 c1 c2 l es s n) (tabD w a1 a2 b1 b2 c1 c2) (oddAll w (.tuple [a1, a2]) (.tuple [b1, b2]) (.tuple [c1, c2]) es) 4 x6 x7 x8 none none) := by kernel_rfl
    have h2 : (aCons (eFun pLen (aCons (eIxO 3 (eV 5)) aNil)) aNil) (bl3 c k1 v1 (logD w a1 a2 b1 b2 c1 c2 l es s n) (tabD w a1 a2 b1 b2 c1 c2) (oddAll w (.tuple [a1, a2]) (.tuple [b1, b2]) (.tuple [c1, c2]) es) 4 x6 x7 x8 none none) = .ok [.int 4] (bl3 c k1 v1 (logD w a1 a2 b1 b2 c1 c2 l es s n) (tabD w a1 a2 b1 b2 c1 c2) (oddAll w (.tuple [a1, a2]) (.tuple [b1, b2]) (.tuple [c1, c2]) es) 4 x6 x7 x8 none none) := by kernel_rfl
    have h3 : blM0 (bl3 c k1 v1 (logD w a1 a2 b1 b2 c1 c2 l es s n) (tabD w a1 a2 b1 b2 c1 c2) (oddAll w (.tuple [a1, a2]) (.tuple [b1, b2]) (.tuple [c1, c2]) es) 4 x6 x7 x8 none none) = .ok y (bl3 c k2 v2 (logD w a1 a2 b1 b2 c1 c2 l es s n) (tabD w a1 a2 b1 b2 c1 c2) (oddAll w (.tuple [a1, a2]) (.tuple [b1, b2]) (.tuple [c1, c2]) es) 4 x6 x7 x8 none none) := by
      unfold blM0
      rw [x_eOp, h1, go_ok, x_opK, draw_at h2 e2, go_ok, x_opK2, p_ixL, ey]
      rfl
    have h4 : (eSl (eV 1) none (some (eV 5))) (bl3 c k1 v1 (logD w a1 a2 b1 b2 c1 c2 l es s n) (tabD w a1 a2 b1 b2 c1 c2) (oddAll w (.tuple [a1, a2]) (.tuple [b1, b2]) (.tuple [c1, c2]) es) 4 x6 x7 x8 none none) = .ok (.tuple [(tabD w a1 a2 b1 b2 c1 c2), l, (.tuple es), (.bool s)]) (bl3 c k1 v1 (logD w a1 a2 b1 b2 c1 c2 l es s n) (tabD w a1 a2 b1 b2 c1 c2) (oddAll w (.tuple [a1, a2]) (.tuple [b1, b2]) (.tuple [c1, c2]) es) 4 x6 x7 x8 none none) := by kernel_rfl
    refine ⟨y, k2, v2, (bl3 c k2 v2 (logD w a1 a2 b1 b2 c1 c2 l es s n) (tabD w a1 a2 b1 b2 c1 c2) (oddAll w (.tuple [a1, a2]) (.tuple [b1, b2]) (.tuple [c1, c2]) es) 4 x6 x7 x8 none none).tail, .inr hy, by omega, by omega, w2, ?_⟩
    have h5 : blM (bl3 c k1 v1 (logD w a1 a2 b1 b2 c1 c2 l es s n) (tabD w a1 a2 b1 b2 c1 c2) (oddAll w (.tuple [a1, a2]) (.tuple [b1, b2]) (.tuple [c1, c2]) es) 4 x6 x7 x8 none none) = .rt (.tuple [(tabD w a1 a2 b1 b2 c1 c2), l, (.tuple es), (.bool s), y]) (bl3 c k2 v2 (logD w a1 a2 b1 b2 c1 c2 l es s n) (tabD w a1 a2 b1 b2 c1 c2) (oddAll w (.tuple [a1, a2]) (.tuple [b1, b2]) (.tuple [c1, c2]) es) 4 x6 x7 x8 none none) := by
      unfold blM
      rw [x_sRet, x_eOp, x_eOp, h4, go_ok, x_opK, y_eTup, x_aCons, h3]
      kernel_rfl
    unfold blL
    rw [x_sSeq, x_sIf, hc, goS_ok, x_ifS, tr_bool, if_neg (by simpa using hz), x_sNil, on_nx, h5]
    rfl
end
end Lw
set_option Elab.async false
set_option autoImplicit false
set_option linter.all false
set_option maxRecDepth 100000
set_option maxHeartbeats 4000000
namespace Lw
open PySem PySem.Spec PyProof.Rows L2 Fl
section
variable {c : List Int} {k v x5 x6 x7 x8 : Int} {w r1 r2 r3 a1 a2 b1 b2 c1 c2 l n e t : PyData} {es : List PyData} {s : Bool}
theorem isa_bool {x : PyData} (h : noExc x = true) : isaD "bool" x = some x.isBool := by simp [isaD, h]
theorem thing_tab (Q : Parts w r1 r2 r3 t l e s n) {y : PyData} {d : Bool} (Y : TabC y d) : ThingF (.tuple [y, l, e, .bool s, n]) := by
  obtain ⟨b, f⟩ := Y.f
  exact thing5 f Q.L Q.E isaB Q.N (mem5 Y.m (Q.ml d) (Q.me d) (Q.S d) (Q.mn d))
structure FarF (y : PyData) (d : Bool) : Prop where
  m : Cm y d
  t1 : d_is_table [y] = .ok (.bool false)
  t2 : d__law_is_table [y] = .ok (.bool false)
  L : PartF d_is_lead pairs9 y false
  E : PartF d_are_ends reps64 y false
  N : PartF d_are_seen reps16 y false
  S : isaD "bool" y = some false
theorem far_of {y : PyData} (h : y ∈ farL) : ∃ d, FarF y d := by
  have g := all_of far_all h
  simp only [Bool.and_eq_true, Bool.or_eq_true, Bool.not_eq_true'] at g
  obtain ⟨⟨⟨⟨g1, g2⟩, g3⟩, g4⟩, g5⟩ := g
  have sm := smB_ok g1
  have S : isaD "bool" y = some false := by rw [isa_bool sm.ne, g5]
  have L := partB_ok (all_of farLead_all h)
  have E := partB_ok (all_of farEnds_all h)
  have N := partB_ok (all_of farSeen_all h)
  rcases g2 with g2 | g2
  · exact ⟨true, ⟨sm.mono (by decide) (by decide), by simp [g2]⟩, okB_eq g3, okB_eq g4, L, E, N, S⟩
  · exact ⟨false, ⟨sm.mono (by decide) (by decide), by simp [g2]⟩, okB_eq g3, okB_eq g4, L, E, N, S⟩
theorem tab_cm {xs : List PyData} (h : ∀ x ∈ xs, Sm x 2023 5 ∧ x.hasDict = false) (hl : xs.length ≤ 10) : Cm (.tuple xs) true ∧ Cm (.list xs) true := by
  have f := flag_tup (xs := xs) (c := true) fun x hx => by simp [(h x hx).2]
  refine ⟨⟨Sm.tup (fun x hx => (h x hx).1) hl, f⟩, ⟨Sm.lst (fun x hx => (h x hx).1) hl, ?_⟩⟩
  rw [if_pos rfl]
  exact dict_list fun x hx => (h x hx).2
theorem none_tab : TabF' .none false := ⟨by kernel_rfl, by kernel_rfl, by kernel_rfl⟩
theorem tabs_ok (Q : Parts w r1 r2 r3 t l e s n) : ∀ y ∈ oddTabs w r1 r2 r3, TabC y true := by
  have R1 := Q.R1 true
  have R2 := Q.R2 true
  have R3 := Q.R3 true
  have d1 : Sm r1 2023 5 ∧ r1.hasDict = false := ⟨R1.s, by simpa using R1.fl⟩
  have d2 : Sm r2 2023 5 ∧ r2.hasDict = false := ⟨R2.s, by simpa using R2.fl⟩
  have d3 : Sm r3 2023 5 ∧ r3.hasDict = false := ⟨R3.s, by simpa using R3.fl⟩
  have dw : Sm w 2023 5 ∧ w.hasDict = false := ⟨Q.sw.mono (by decide) (by decide), by simpa using (Q.mw true).fl⟩
  have od : ∀ {z}, z ∈ oddWords → TabC (.tuple [z, r1, r2, r3]) true := fun hz => by
    obtain ⟨W, sw, fw⟩ := odd_word hz
    exact tabC4 W sw (by simp [fw]) R1 R2 R3
  intro y hy
  simp only [oddTabs, List.mem_cons, List.not_mem_nil, or_false] at hy
  rcases hy with rfl | rfl | rfl | rfl | rfl | rfl | rfl | rfl | rfl | rfl
  · have m := (tab_cm (mem3 dw d1 d2) (by simp)).1
    exact ⟨⟨false, tableN (by simpa [noExc] using m.sm.ne) (by simp)⟩, m⟩
  · have m := (tab_cm (mem4 dw d1 d2 d3) (by simp)).2
    exact ⟨⟨false, tableL (by simpa [noExc] using m.sm.ne)⟩, m⟩
  · exact od (by simp [oddWords])
  · exact ⟨⟨false, none_tab⟩, cm_d (smB_ok (by kernel_rfl)) (by simp [PyData.hasDict])⟩
  · exact od (by simp [oddWords])
  · exact od (by simp [oddWords])
  · exact od (by simp [oddWords])
  · have m := (tab_cm (mem5 dw d1 d2 d3 d1) (by simp)).1
    exact ⟨⟨false, tableN (by simpa [noExc] using m.sm.ne) (by simp)⟩, m⟩
  · exact od (by simp [oddWords])
  · exact od (by simp [oddWords])
theorem rest_ok0 (Q : Parts w r1 r2 r3 t l e s n) {y : PyData} (h : y ∈ farL ∨ y ∈ oddTabs w r1 r2 r3) : ThingF (.tuple [y, l, e, .bool s, n]) := by
  rcases h with h | h
  · obtain ⟨d, f⟩ := far_of h
    exact thingF (c := d) f.t1 f.t2 (mem5 f.m (Q.ml d) (Q.me d) (Q.S d) (Q.mn d))
  · exact thing_tab Q (tabs_ok Q y h)
theorem rest_ok1 (Q : Parts w r1 r2 r3 t l e s n) {y : PyData} (h : y ∈ farL ∨ y ∈ oddLead) : ThingF (.tuple [t, y, e, .bool s, n]) := by
  rcases h with h | h
  · obtain ⟨d, f⟩ := far_of h
    exact thing5 Q.T f.L Q.E isaB Q.N (mem5 (Q.mt d) f.m (Q.me d) (Q.S d) (Q.mn d))
  · have g := all_of oddLead_all h
    simp only [Bool.and_eq_true, Bool.not_eq_true'] at g
    exact thing5 Q.T (partB_ok g.1.1) Q.E isaB Q.N (mem5 (Q.mt true) (cm_d (smB_ok g.1.2) g.2) (Q.me true) (Q.S true) (Q.mn true))
theorem rest_ok2 (Q : Parts w r1 r2 r3 t l e s n) (he : .tuple es ∈ endsL) {y : PyData} (h : y ∈ farL ∨ y ∈ (.list es :: oddEnds)) : ThingF (.tuple [t, l, y, .bool s, n]) := by
  rcases h with h | h
  · obtain ⟨d, f⟩ := far_of h
    exact thing5 Q.T Q.L f.E isaB Q.N (mem5 (Q.mt d) (Q.ml d) f.m (Q.S d) (Q.mn d))
  · rcases List.mem_cons.mp h with rfl | h
    · obtain ⟨g1, g2, g3⟩ := listEnds_part he
      exact thing5 Q.T Q.L g1 isaB Q.N (mem5 (Q.mt true) (Q.ml true) (cm_d g2 g3) (Q.S true) (Q.mn true))
    · have g := all_of oddEnds_all h
      simp only [Bool.and_eq_true, Bool.not_eq_true'] at g
      exact thing5 Q.T Q.L (partB_ok g.1.1) isaB Q.N (mem5 (Q.mt true) (Q.ml true) (cm_d (smB_ok g.1.2) g.2) (Q.S true) (Q.mn true))
theorem rest_ok3 (Q : Parts w r1 r2 r3 t l e s n) {y : PyData} (h : y ∈ farL ∨ y ∈ oddStop) : ThingF (.tuple [t, l, e, y, n]) := by
  rcases h with h | h
  · obtain ⟨d, f⟩ := far_of h
    exact thing5 Q.T Q.L Q.E f.S Q.N (mem5 (Q.mt d) (Q.ml d) (Q.me d) f.m (Q.mn d))
  · have g := all_of oddStop_all h
    simp only [Bool.and_eq_true, Bool.not_eq_true'] at g
    have sm := smB_ok g.1.1
    exact thing5 Q.T Q.L Q.E (by rw [isa_bool sm.ne, g.2]) Q.N (mem5 (Q.mt true) (Q.ml true) (Q.me true) (cm_d sm g.1.2) (Q.mn true))
theorem rest_ok4 (Q : Parts w r1 r2 r3 t l e s n) {y : PyData} (h : y ∈ farL ∨ y ∈ oddSeen) : ThingF (.tuple [t, l, e, .bool s, y]) := by
  rcases h with h | h
  · obtain ⟨d, f⟩ := far_of h
    exact thing5 Q.T Q.L Q.E isaB f.N (mem5 (Q.mt d) (Q.ml d) (Q.me d) (Q.S d) f.m)
  · have g := all_of oddSeen_all h
    simp only [Bool.and_eq_true, Bool.not_eq_true'] at g
    exact thing5 Q.T Q.L Q.E isaB (partB_ok g.1.1) (mem5 (Q.mt true) (Q.ml true) (Q.me true) (Q.S true) (cm_d (smB_ok g.1.2) g.2))
theorem vary {u z x y new : PyData} (U : CelC u true) (Z : CelC z true) (N : RowC new true) (h : y ∈ ([new, .list [u, z], .tuple [u], .tuple [u, z, u, z]] : List PyData)) : RowC y true := by
  simp only [List.mem_cons, List.not_mem_nil, or_false] at h
  rcases h with rfl | rfl | rfl | rfl
  · exact N
  · exact rowCL U Z
  · exact rowC1 U
  · exact rowC4 U Z
theorem bent_E (G : GoodLog w a1 a2 b1 b2 c1 c2 l es n) (hk : 0 ≤ k) (hk2 : k < 2 ^ 57) (hv : 0 ≤ v) (h6 : x6 = 1 ∨ x6 = 2) (h7 : x7 = 1 ∨ x7 = 2 ∨ x7 = 3) (h8 : x8 = 0 ∨ x8 = 1) :
    ∃ x k' v' ρ', ThingF x ∧ k ≤ k' ∧ k' ≤ k + 3 ∧ 0 ≤ v' ∧ blE (bl1 c k v (logD w a1 a2 b1 b2 c1 c2 l es s n) (tabD w a1 a2 b1 b2 c1 c2) x5 x6 x7 x8) = .rt x (po c k' v' :: ρ') := by
  have Q := G.parts s
  have wf : (if true = true then w.hasDict = false else noLst w = true) := (Q.mw true).fl
  rcases h7 with rfl | rfl | rfl <;> rcases h8 with rfl | rfl
  · obtain ⟨p, q, hp⟩ := cell_form G.h1
    obtain ⟨x, k1, v1, hx, l1, l2, w1, e1⟩ := bent_cell_ok c k v p q hk (by omega) hv
    rw [← hp] at hx e1
    have N := rowC2 (celC_bent (bent_mem G.h1 hx)) (celC_of G.h2 true)
    rcases h6 with rfl | rfl
    · obtain ⟨y, k2, v2, ρ', hy, l3, l4, w2, e2⟩ := blE_101 (x5 := x5) (l := l) (n := n) (es := es) (s := s) (w := w) (a1 := a1) (a2 := a2) (b1 := b1) (b2 := b2) (c1 := c1) (c2 := c2) (by omega) (by omega) w1 e1
      have Y := vary (x := x) (celC_of G.h1 true) (celC_of G.h2 true) N hy
      exact ⟨_, k2, v2, ρ', thing_tab Q (tabC4 Q.W Q.sw wf Y (Q.R2 true) (Q.R3 true)), by omega, by omega, w2, e2⟩
    · obtain ⟨y, k2, v2, ρ', hy, l3, l4, w2, e2⟩ := blE_102 (x5 := x5) (l := l) (n := n) (es := es) (s := s) (w := w) (a1 := a1) (a2 := a2) (b1 := b1) (b2 := b2) (c1 := c1) (c2 := c2) (by omega) (by omega) w1 e1
      have Y := vary (x := x) (celC_of G.h1 true) (celC_of G.h2 true) N hy
      exact ⟨_, k2, v2, ρ', thing_tab Q (tabC4 Q.W Q.sw wf Y (Q.R2 true) (Q.R3 true)), by omega, by omega, w2, e2⟩
  · obtain ⟨p, q, hp⟩ := cell_form G.h2
    obtain ⟨x, k1, v1, hx, l1, l2, w1, e1⟩ := bent_cell_ok c k v p q hk (by omega) hv
    rw [← hp] at hx e1
    have N := rowC2 (celC_of G.h1 true) (celC_bent (bent_mem G.h2 hx))
    rcases h6 with rfl | rfl
    · obtain ⟨y, k2, v2, ρ', hy, l3, l4, w2, e2⟩ := blE_111 (x5 := x5) (l := l) (n := n) (es := es) (s := s) (w := w) (a1 := a1) (a2 := a2) (b1 := b1) (b2 := b2) (c1 := c1) (c2 := c2) (by omega) (by omega) w1 e1
      have Y := vary (x := x) (celC_of G.h1 true) (celC_of G.h2 true) N hy
      exact ⟨_, k2, v2, ρ', thing_tab Q (tabC4 Q.W Q.sw wf Y (Q.R2 true) (Q.R3 true)), by omega, by omega, w2, e2⟩
    · obtain ⟨y, k2, v2, ρ', hy, l3, l4, w2, e2⟩ := blE_112 (x5 := x5) (l := l) (n := n) (es := es) (s := s) (w := w) (a1 := a1) (a2 := a2) (b1 := b1) (b2 := b2) (c1 := c1) (c2 := c2) (by omega) (by omega) w1 e1
      have Y := vary (x := x) (celC_of G.h1 true) (celC_of G.h2 true) N hy
      exact ⟨_, k2, v2, ρ', thing_tab Q (tabC4 Q.W Q.sw wf Y (Q.R2 true) (Q.R3 true)), by omega, by omega, w2, e2⟩
  · obtain ⟨p, q, hp⟩ := cell_form G.h3
    obtain ⟨x, k1, v1, hx, l1, l2, w1, e1⟩ := bent_cell_ok c k v p q hk (by omega) hv
    rw [← hp] at hx e1
    have N := rowC2 (celC_bent (bent_mem G.h3 hx)) (celC_of G.h4 true)
    rcases h6 with rfl | rfl
    · obtain ⟨y, k2, v2, ρ', hy, l3, l4, w2, e2⟩ := blE_201 (x5 := x5) (l := l) (n := n) (es := es) (s := s) (w := w) (a1 := a1) (a2 := a2) (b1 := b1) (b2 := b2) (c1 := c1) (c2 := c2) (by omega) (by omega) w1 e1
      have Y := vary (x := x) (celC_of G.h3 true) (celC_of G.h4 true) N hy
      exact ⟨_, k2, v2, ρ', thing_tab Q (tabC4 Q.W Q.sw wf (Q.R1 true) Y (Q.R3 true)), by omega, by omega, w2, e2⟩
    · obtain ⟨y, k2, v2, ρ', hy, l3, l4, w2, e2⟩ := blE_202 (x5 := x5) (l := l) (n := n) (es := es) (s := s) (w := w) (a1 := a1) (a2 := a2) (b1 := b1) (b2 := b2) (c1 := c1) (c2 := c2) (by omega) (by omega) w1 e1
      have Y := vary (x := x) (celC_of G.h3 true) (celC_of G.h4 true) N hy
      exact ⟨_, k2, v2, ρ', thing_tab Q (tabC4 Q.W Q.sw wf (Q.R1 true) Y (Q.R3 true)), by omega, by omega, w2, e2⟩
  · obtain ⟨p, q, hp⟩ := cell_form G.h4
    obtain ⟨x, k1, v1, hx, l1, l2, w1, e1⟩ := bent_cell_ok c k v p q hk (by omega) hv
    rw [← hp] at hx e1
    have N := rowC2 (celC_of G.h3 true) (celC_bent (bent_mem G.h4 hx))
    rcases h6 with rfl | rfl
    · obtain ⟨y, k2, v2, ρ', hy, l3, l4, w2, e2⟩ := blE_211 (x5 := x5) (l := l) (n := n) (es := es) (s := s) (w := w) (a1 := a1) (a2 := a2) (b1 := b1) (b2 := b2) (c1 := c1) (c2 := c2) (by omega) (by omega) w1 e1
      have Y := vary (x := x) (celC_of G.h3 true) (celC_of G.h4 true) N hy
      exact ⟨_, k2, v2, ρ', thing_tab Q (tabC4 Q.W Q.sw wf (Q.R1 true) Y (Q.R3 true)), by omega, by omega, w2, e2⟩
    · obtain ⟨y, k2, v2, ρ', hy, l3, l4, w2, e2⟩ := blE_212 (x5 := x5) (l := l) (n := n) (es := es) (s := s) (w := w) (a1 := a1) (a2 := a2) (b1 := b1) (b2 := b2) (c1 := c1) (c2 := c2) (by omega) (by omega) w1 e1
      have Y := vary (x := x) (celC_of G.h3 true) (celC_of G.h4 true) N hy
      exact ⟨_, k2, v2, ρ', thing_tab Q (tabC4 Q.W Q.sw wf (Q.R1 true) Y (Q.R3 true)), by omega, by omega, w2, e2⟩
  · obtain ⟨p, q, hp⟩ := cell_form G.h5
    obtain ⟨x, k1, v1, hx, l1, l2, w1, e1⟩ := bent_cell_ok c k v p q hk (by omega) hv
    rw [← hp] at hx e1
    have N := rowC2 (celC_bent (bent_mem G.h5 hx)) (celC_of G.h6 true)
    rcases h6 with rfl | rfl
    · obtain ⟨y, k2, v2, ρ', hy, l3, l4, w2, e2⟩ := blE_301 (x5 := x5) (l := l) (n := n) (es := es) (s := s) (w := w) (a1 := a1) (a2 := a2) (b1 := b1) (b2 := b2) (c1 := c1) (c2 := c2) (by omega) (by omega) w1 e1
      have Y := vary (x := x) (celC_of G.h5 true) (celC_of G.h6 true) N hy
      exact ⟨_, k2, v2, ρ', thing_tab Q (tabC4 Q.W Q.sw wf (Q.R1 true) (Q.R2 true) Y), by omega, by omega, w2, e2⟩
    · obtain ⟨y, k2, v2, ρ', hy, l3, l4, w2, e2⟩ := blE_302 (x5 := x5) (l := l) (n := n) (es := es) (s := s) (w := w) (a1 := a1) (a2 := a2) (b1 := b1) (b2 := b2) (c1 := c1) (c2 := c2) (by omega) (by omega) w1 e1
      have Y := vary (x := x) (celC_of G.h5 true) (celC_of G.h6 true) N hy
      exact ⟨_, k2, v2, ρ', thing_tab Q (tabC4 Q.W Q.sw wf (Q.R1 true) (Q.R2 true) Y), by omega, by omega, w2, e2⟩
  · obtain ⟨p, q, hp⟩ := cell_form G.h6
    obtain ⟨x, k1, v1, hx, l1, l2, w1, e1⟩ := bent_cell_ok c k v p q hk (by omega) hv
    rw [← hp] at hx e1
    have N := rowC2 (celC_of G.h5 true) (celC_bent (bent_mem G.h6 hx))
    rcases h6 with rfl | rfl
    · obtain ⟨y, k2, v2, ρ', hy, l3, l4, w2, e2⟩ := blE_311 (x5 := x5) (l := l) (n := n) (es := es) (s := s) (w := w) (a1 := a1) (a2 := a2) (b1 := b1) (b2 := b2) (c1 := c1) (c2 := c2) (by omega) (by omega) w1 e1
      have Y := vary (x := x) (celC_of G.h5 true) (celC_of G.h6 true) N hy
      exact ⟨_, k2, v2, ρ', thing_tab Q (tabC4 Q.W Q.sw wf (Q.R1 true) (Q.R2 true) Y), by omega, by omega, w2, e2⟩
    · obtain ⟨y, k2, v2, ρ', hy, l3, l4, w2, e2⟩ := blE_312 (x5 := x5) (l := l) (n := n) (es := es) (s := s) (w := w) (a1 := a1) (a2 := a2) (b1 := b1) (b2 := b2) (c1 := c1) (c2 := c2) (by omega) (by omega) w1 e1
      have Y := vary (x := x) (celC_of G.h5 true) (celC_of G.h6 true) N hy
      exact ⟨_, k2, v2, ρ', thing_tab Q (tabC4 Q.W Q.sw wf (Q.R1 true) (Q.R2 true) Y), by omega, by omega, w2, e2⟩
/-- the bent log: both judges agree of it -/
theorem bent_log_ok (G : GoodLog w a1 a2 b1 b2 c1 c2 l es n) (s : Bool) (hk : 0 ≤ k) (hk2 : k < 2 ^ 56) (hv : 0 ≤ v) :
    ∃ x k' v', ThingF x ∧ k ≤ k' ∧ k' ≤ k + 8 ∧ 0 ≤ v' ∧ d__law_bent_log (penD c k v) [(logD w a1 a2 b1 b2 c1 c2 l es s n)] = .ok x (penD c k' v') := by
  have Q := G.parts s
  obtain ⟨x5, x6, x7, x8, k1, v1, a0, a1_, d0, d1, f0, f1, g0, g1, l1, l2, w1, hd⟩ := bl_head (c := c) (k := k) (v := v) hk (by omega) hv (t := (tabD w a1 a2 b1 b2 c1 c2)) (r := [l, .tuple es, .bool s, n])
  have start : d__law_bent_log (penD c k v) [(logD w a1 a2 b1 b2 c1 c2 l es s n)] = ((sSeq blD (sSeq blE (sSeq (sSeq blF (sSeq blG (sSeq blH (sSeq blI (sSeq blJ blK))))) (sSeq blL blM)))) (bl1 c k1 v1 (logD w a1 a2 b1 b2 c1 c2 l es s n) (tabD w a1 a2 b1 b2 c1 c2) x5 x6 x7 x8)).fnP := by
    unfold d__law_bent_log
    rw [y_fnP, bent_log_eq2]
    exact congrArg SOut.fnP (hd _)
  rw [start, x_sSeq]
  by_cases h0 : x6 = 0
  · subst h0
    obtain ⟨x, k2, v2, ρ', hx, l3, l4, w2, e⟩ := bl_D (c := c) (k := k1) (v := v1) (x5 := x5) (x7 := x7) (x8 := x8) (l := l) (n := n) (es := es) (s := s) (w := w) (a1 := a1) (a2 := a2) (b1 := b1) (b2 := b2) (c1 := c1) (c2 := c2) (by omega) (by omega) w1
    refine ⟨x, k2, v2, ten_ok Q x hx, by omega, by omega, w2, ?_⟩
    rw [e]
    rfl
  · rw [bl_D2 h0, on_nx, x_sSeq]
    by_cases h3 : x6 < 3
    · obtain ⟨x, k2, v2, ρ', hx, l3, l4, w2, e⟩ := bent_E (c := c) (x5 := x5) (s := s) G (show 0 ≤ k1 by omega) (by omega) w1 (show x6 = 1 ∨ x6 = 2 by omega) (show x7 = 1 ∨ x7 = 2 ∨ x7 = 3 by omega) (show x8 = 0 ∨ x8 = 1 by omega)
      refine ⟨x, k2, v2, hx, by omega, by omega, w2, ?_⟩
      rw [e]
      rfl
    · rw [bl_E2 (by omega), on_nx, x_sSeq, bl_FK, on_nx]
      have h5 : x5 = 0 ∨ x5 = 1 ∨ x5 = 2 ∨ x5 = 3 ∨ x5 = 4 := by omega
      rcases h5 with rfl | rfl | rfl | rfl | rfl
      · obtain ⟨y, k2, v2, ρ', hy, l3, l4, w2, e⟩ := bl_rest0 (c := c) (k := k1) (v := v1) (x6 := x6) (x7 := x7) (x8 := x8) (l := l) (n := n) (es := es) (s := s) (w := w) (a1 := a1) (a2 := a2) (b1 := b1) (b2 := b2) (c1 := c1) (c2 := c2) (by omega) (by omega) w1
        refine ⟨_, k2, v2, rest_ok0 Q hy, by omega, by omega, w2, ?_⟩
        rw [e]
        rfl
      · obtain ⟨y, k2, v2, ρ', hy, l3, l4, w2, e⟩ := bl_rest1 (c := c) (k := k1) (v := v1) (x6 := x6) (x7 := x7) (x8 := x8) (l := l) (n := n) (es := es) (s := s) (w := w) (a1 := a1) (a2 := a2) (b1 := b1) (b2 := b2) (c1 := c1) (c2 := c2) (by omega) (by omega) w1
        refine ⟨_, k2, v2, rest_ok1 Q hy, by omega, by omega, w2, ?_⟩
        rw [e]
        rfl
      · obtain ⟨y, k2, v2, ρ', hy, l3, l4, w2, e⟩ := bl_rest2 (c := c) (k := k1) (v := v1) (x6 := x6) (x7 := x7) (x8 := x8) (l := l) (n := n) (es := es) (s := s) (w := w) (a1 := a1) (a2 := a2) (b1 := b1) (b2 := b2) (c1 := c1) (c2 := c2) (by omega) (by omega) w1
        refine ⟨_, k2, v2, rest_ok2 Q G.he hy, by omega, by omega, w2, ?_⟩
        rw [e]
        rfl
      · obtain ⟨y, k2, v2, ρ', hy, l3, l4, w2, e⟩ := bl_rest3 (c := c) (k := k1) (v := v1) (x6 := x6) (x7 := x7) (x8 := x8) (l := l) (n := n) (es := es) (s := s) (w := w) (a1 := a1) (a2 := a2) (b1 := b1) (b2 := b2) (c1 := c1) (c2 := c2) (by omega) (by omega) w1
        refine ⟨_, k2, v2, rest_ok3 Q hy, by omega, by omega, w2, ?_⟩
        rw [e]
        rfl
      · obtain ⟨y, k2, v2, ρ', hy, l3, l4, w2, e⟩ := bl_rest4 (c := c) (k := k1) (v := v1) (x6 := x6) (x7 := x7) (x8 := x8) (l := l) (n := n) (es := es) (s := s) (w := w) (a1 := a1) (a2 := a2) (b1 := b1) (b2 := b2) (c1 := c1) (c2 := c2) (by omega) (by omega) w1
        refine ⟨_, k2, v2, rest_ok4 Q hy, by omega, by omega, w2, ?_⟩
        rw [e]
        rfl
end
end Lw
set_option Elab.async false
set_option autoImplicit false
set_option linter.all false
set_option maxRecDepth 100000
set_option maxHeartbeats 4000000
namespace Lw
open PySem PySem.Spec PyProof.Rows L2 Fl
/-! _law_some: some of the pool, none twice -/
theorem erase_map {α β : Type} (f : α → β) : ∀ (l : List α) (i : Nat), (l.map f).eraseIdx i = (l.eraseIdx i).map f
  | [], _ => rfl
  | _ :: _, 0 => rfl
  | x :: l, i + 1 => by simp [erase_map f l i]
theorem perm_erase {α : Type} : ∀ (l : List α) (i : Nat) (h : i < l.length), (l[i] :: l.eraseIdx i).Perm l
  | [], _, h => absurd h (by simp)
  | x :: l, 0, _ => .refl _
  | x :: l, i + 1, h => by
    have h' : i < l.length := by simpa using h
    show (l[i] :: x :: l.eraseIdx i).Perm (x :: l)
    exact (List.Perm.swap _ _ _).trans (List.Perm.cons x (perm_erase l i h'))
theorem lenO {xs : List PyData} {ρ : Rho} {i : Nat} (h : ownAt ρ i = some xs) : eLenO i ρ = .ok (.int xs.length) ρ := by
  unfold eLenO
  rw [h]
theorem pop_at {xs : List PyData} {y : PyData} {m : Int} {i : Nat} {f : Rho → Out} {ρ ρ1 : Rho} {xs0 : List PyData} (h0 : ownAt ρ i = some xs0) (hf : f ρ = .ok (.int m) ρ1) (h1 : ownAt ρ1 i = some xs) (m0 : 0 ≤ m) (m1 : m < 2 ^ 62) (hy : xs[m.toNat]? = some y) :
    ePop i f ρ = .ok y (ρ1.set i (some (.o (xs.eraseIdx m.toNat)))) := by
  unfold ePop
  rw [h0]
  dsimp only
  rw [x_bnd, hf, go_ok, h1]
  dsimp only
  rw [if_pos ⟨m0, by omega⟩, hy]
abbrev popF : Rho → Out := ePop 3 (eCallP 2 0 d__law_draw (aCons (eLenO 3) aNil))
section
variable {c : List Int} {k v : Int}
theorem some_loop (f : Nat → PyData) (x1 x2 : Option Fl.Arg) : ∀ (laps : List PyData) (n : Nat) (rs : List Nat) (k v : Int), n + laps.length ≤ 100 → laps.length ≤ rs.length → rs.length ≤ 50 → 0 ≤ k → k + laps.length < 2 ^ 57 → 0 ≤ v →
    ∃ (ys rs' : List Nat) (k' v' : Int), lcLoop (.nm 4) eYes popF [4] n laps [po c k v, x1, x2, some (.o (rs.map f)), none] = .ok (ys.map f) [po c k' v', x1, x2, some (.o (rs'.map f)), none] ∧ (ys ++ rs').Perm rs ∧ k ≤ k' ∧ k' ≤ k + laps.length ∧ 0 ≤ v'
  | [], n, rs, k, v, _, _, _, hk, _, hv => ⟨[], rs, k, v, rfl, .refl _, by omega, by simp, hv⟩
  | d :: laps, n, rs, k, v, hn, hl, hr, hk, hk2, hv => by
    simp only [List.length_cons] at hn hl hk2
    obtain ⟨m, k1, v1, m0, m1, l1, l2, w1, e1⟩ := draw_ok c k v rs.length hk (by omega) hv (by omega) (by omega)
    have hm : m.toNat < rs.length := by omega
    have hy : (rs.map f)[m.toNat]? = some (f rs[m.toNat]) := by rw [List.getElem?_map, List.getElem?_eq_getElem hm]; rfl
    have step : popF [po c k v, x1, x2, some (.o (rs.map f)), sd d] = .ok (f rs[m.toNat]) [po c k1 v1, x1, x2, some (.o ((rs.eraseIdx m.toNat).map f)), sd d] := by
      have hd : eCallP 2 0 d__law_draw (aCons (eLenO 3) aNil) [po c k v, x1, x2, some (.o (rs.map f)), sd d] = .ok (.int m) [po c k1 v1, x1, x2, some (.o (rs.map f)), sd d] := draw_at (u := rs.length) (by rw [x_aCons, lenO (xs := rs.map f) rfl, goA_ok]; simp) e1
      show ePop 3 (eCallP 2 0 d__law_draw (aCons (eLenO 3) aNil)) _ = _
      rw [pop_at (i := 3) (xs0 := rs.map f) rfl hd (xs := rs.map f) rfl m0 (by omega) hy, erase_map]
      rfl
    obtain ⟨ys, rs', k2, v2, e2, p2, l3, l4, w2⟩ := some_loop f x1 x2 laps (n + 1) (rs.eraseIdx m.toNat) k1 v1 (by omega) (by rw [List.length_eraseIdx_of_lt hm]; omega) (by rw [List.length_eraseIdx_of_lt hm]; omega) (by omega) (by omega) w1
    refine ⟨rs[m.toNat] :: ys, rs', k2, v2, ?_, ?_, by omega, by simp only [List.length_cons]; omega, w2⟩
    · rw [y_lcN]
      show (popF [po c k v, x1, x2, some (.o (rs.map f)), sd d]).lc n _ = _
      rw [step, lc_ok (by omega)]
      show (lcLoop (.nm 4) eYes popF [4] (n + 1) laps [po c k1 v1, x1, x2, some (.o ((rs.eraseIdx m.toNat).map f)), none]).cons _ = _
      rw [e2]
      rfl
    · exact (List.Perm.cons _ p2).trans (perm_erase rs m.toNat hm)
theorem some_ok (f : Nat → PyData) (rs : List Nat) (most : Int) (h1 : 0 ≤ most) (h2 : most ≤ 50) (hr : rs.length ≤ 50) (hk : 0 ≤ k) (hk2 : k < 2 ^ 56) (hv : 0 ≤ v) :
    ∃ (ys rs' : List Nat) (k' v' : Int), d__law_some (penD c k v) [.list (rs.map f), .int most] = .ok (.list (ys.map f)) (penD c k' v') ∧ (ys ++ rs').Perm rs ∧ k ≤ k' ∧ k' ≤ k + 60 ∧ 0 ≤ v' := by
  have hmin : ∃ q : Int, pMin [.int most, .int (rs.map f).length] = some (.int q) ∧ 0 ≤ q ∧ q ≤ most ∧ q ≤ rs.length := by
    refine ⟨if ((rs.map f).length : Int) < most then (rs.map f).length else most, rfl, ?_⟩
    simp only [List.length_map]
    split <;> omega
  obtain ⟨q, hq, q0, q1, q2⟩ := hmin
  obtain ⟨d, k1, v1, d0, d1, l1, l2, w1, e1⟩ := draw_ok c k v (q + 1) hk (by omega) hv (by omega) (by omega)
  have hn : ∀ (m : Nat) (lo : Int), (nums lo m).length = m := fun m lo => nums_len m lo
  obtain ⟨ys, rs', k2, v2, e2, p2, l3, l4, w2⟩ := some_loop (c := c) f (sd (.list (rs.map f))) (sd (.int most)) (nums 0 d.toNat) 0 rs k1 v1 (by rw [hn]; omega) (by rw [hn]; omega) hr (by omega) (by rw [hn]; omega) w1
  refine ⟨ys, rs', k2, v2, ?_, p2, by omega, by rw [hn] at l4; omega, w2⟩
  have s1 : sSetO 3 (eListOf (aCons (eV 1) aNil)) [po c k v, sd (.list (rs.map f)), sd (.int most), none, none] = .nx [po c k v, sd (.list (rs.map f)), sd (.int most), some (.o (rs.map f)), none] := by kernel_rfl
  have a1 : (aCons (eOp pAdd (eFun pMin (aCons (eV 2) (aCons (eLenO 3) aNil))) (eC (.int 1))) aNil) [po c k v, sd (.list (rs.map f)), sd (.int most), some (.o (rs.map f)), none] = .ok [.int (q + 1)] [po c k v, sd (.list (rs.map f)), sd (.int most), some (.o (rs.map f)), none] := by
    have e0 : eV 2 [po c k v, sd (.list (rs.map f)), sd (.int most), some (.o (rs.map f)), none] = .ok (.int most) [po c k v, sd (.list (rs.map f)), sd (.int most), some (.o (rs.map f)), none] := rfl
    have e9 : eLenO 3 [po c k v, sd (.list (rs.map f)), sd (.int most), some (.o (rs.map f)), none] = .ok (.int (rs.map f).length) [po c k v, sd (.list (rs.map f)), sd (.int most), some (.o (rs.map f)), none] := rfl
    rw [x_aCons, x_eOp, x_eFun, x_aCons, e0, goA_ok, x_consK, x_aCons, e9]
    simp only [goA_ok, x_consK, x_aNil, put_ok, goL_ok, x_fnK, hq, x_lift_some, go_ok, x_opK, x_eC, x_opK2, p_add]
  have r1 : (iRng (aCons (eCallP 2 0 d__law_draw (aCons (eOp pAdd (eFun pMin (aCons (eV 2) (aCons (eLenO 3) aNil))) (eC (.int 1))) aNil)) aNil)) [po c k v, sd (.list (rs.map f)), sd (.int most), some (.o (rs.map f)), none] = .ok (nums 0 d.toNat) [po c k1 v1, sd (.list (rs.map f)), sd (.int most), some (.o (rs.map f)), none] := by
    unfold iRng
    rw [x_aCons, draw_at a1 e1, goA_ok, x_consK, x_aNil, put_ok]
    dsimp only
    rw [if_pos (by omega)]
  unfold d__law_some
  rw [y_fnP]
  show (m__law_some [po c k v, sd (.list (rs.map f)), sd (.int most), none, none]).fnP = _
  unfold m__law_some
  rw [x_sSeq, s1, on_nx, x_sRet, y_eLc, r1, igoL_ok, y_lcK rfl]
  show (((lcLoop (.nm 4) eYes popF [4] 0 (nums 0 d.toNat) [po c k1 v1, sd (.list (rs.map f)), sd (.int most), some (.o (rs.map f)), none]).fin _ [4]).goS retK).fnP = _
  rw [e2]
  rfl
end
/-! ascending lists of small numbers -/
def growG {α : Type} (l : List α) : List (List α) := l.foldl (fun F one => F ++ F.map (· ++ [one])) [[]]
theorem grow_snoc {α : Type} (l : List α) (x : α) : growG (l ++ [x]) = growG l ++ (growG l).map (· ++ [x]) := by
  unfold growG
  rw [List.foldl_append]
  rfl
theorem grow_rev {α β : Type} (f : α → β) : ∀ r : List α, growG (r.reverse.map f) = (growG r.reverse).map (·.map f)
  | [] => rfl
  | x :: r => by
    rw [List.reverse_cons, List.map_append, List.map_singleton, grow_snoc, grow_snoc, grow_rev f r]
    simp [List.map_append, List.map_map, Function.comp_def]
theorem grow_map {α β : Type} (f : α → β) (l : List α) : growG (l.map f) = (growG l).map (·.map f) := by
  have h := grow_rev f l.reverse
  rwa [List.reverse_reverse] at h
theorem asc_mem : ∀ (m : Nat) (is : List Nat), is.Pairwise (· < ·) → (∀ i ∈ is, i < m) → is ∈ growG (List.range m)
  | 0, is, _, h => by
    have : is = [] := by
      cases is with
      | nil => rfl
      | cons i r => exact absurd (h i (by simp)) (by omega)
    subst this
    simp [growG]
  | m + 1, is, hp, h => by
    rw [List.range_succ, grow_snoc]
    rcases List.eq_nil_or_concat is with rfl | ⟨L, b, rfl⟩
    · exact List.mem_append_left _ (asc_mem m [] hp (by simp))
    · rw [List.concat_eq_append] at *
      obtain ⟨p1, _, p3⟩ := List.pairwise_append.mp hp
      have hL : ∀ a ∈ L, a < b := fun a ha => p3 a ha b (by simp)
      have hb := h b (by simp)
      by_cases e : b = m
      · subst e
        exact List.mem_append_right _ (List.mem_map.mpr ⟨L, asc_mem b L p1 hL, rfl⟩)
      · refine List.mem_append_left _ (asc_mem m _ hp fun i hi => ?_)
        rcases List.mem_append.mp hi with hi | hi
        · have := hL i hi; omega
        · have : i = b := by simpa using hi
          omega
end Lw
set_option Elab.async false
set_option autoImplicit false
set_option linter.all false
set_option maxRecDepth 100000
set_option maxHeartbeats 4000000
namespace Lw
open PySem PySem.Spec PyProof.Rows L2 Fl
/-! sorted, over what the numbers below N stand for -/
def ordB (f : Nat → PyData) (N : Nat) : Bool := (List.range N).all fun i => ok50 (f i) && (f i).plain && (List.range N).all fun j => (PySem.W.dataLe false id (f i) (f j) == decide (i ≤ j)) && PySem.W.alike (f i) (f j) && (PyData.eqv (f i) (f j) == decide (i = j))
structure Ord (f : Nat → PyData) (N : Nat) : Prop where
  le : ∀ i j, i < N → j < N → PySem.W.dataLe false id (f i) (f j) = decide (i ≤ j)
  al : ∀ i j, i < N → j < N → PySem.W.alike (f i) (f j) = true
  eq : ∀ i j, i < N → j < N → PyData.eqv (f i) (f j) = decide (i = j)
  ok : ∀ i, i < N → ok50 (f i) = true
  pl : ∀ i, i < N → (f i).plain = true
  kd : (∀ i, i < N → isCons (f i) = true) ∨ ∀ i, i < N → isOther (f i) = true
theorem ord_of {f : Nat → PyData} {N : Nat} (h : ordB f N = true) (hk : ((List.range N).all (fun i => isCons (f i)) || (List.range N).all fun i => isOther (f i)) = true) : Ord f N := by
  have a : ∀ i, i < N → (ok50 (f i) = true ∧ (f i).plain = true) ∧ ∀ j, j < N → (PySem.W.dataLe false id (f i) (f j) = decide (i ≤ j) ∧ PySem.W.alike (f i) (f j) = true) ∧ PyData.eqv (f i) (f j) = decide (i = j) := by
    intro i hi
    have z := List.all_eq_true.mp h i (List.mem_range.mpr hi)
    simp only [Bool.and_eq_true] at z
    refine ⟨z.1, fun j hj => ?_⟩
    have y := List.all_eq_true.mp z.2 j (List.mem_range.mpr hj)
    simp only [Bool.and_eq_true] at y
    exact ⟨⟨beq_iff_eq.mp y.1.1, y.1.2⟩, beq_iff_eq.mp y.2⟩
  refine ⟨fun i j hi hj => ((a i hi).2 j hj).1.1, fun i j hi hj => ((a i hi).2 j hj).1.2, fun i j hi hj => ((a i hi).2 j hj).2, fun i hi => (a i hi).1.1, fun i hi => (a i hi).1.2, ?_⟩
  rcases Bool.or_eq_true _ _ ▸ hk with h1 | h1
  · exact .inl fun i hi => List.all_eq_true.mp h1 i (List.mem_range.mpr hi)
  · exact .inr fun i hi => List.all_eq_true.mp h1 i (List.mem_range.mpr hi)
theorem sort_ok {f : Nat → PyData} {N : Nat} (O : Ord f N) {ys : List Nat} (hn : ys.Nodup) (hl : ∀ i ∈ ys, i < N) (hz : ys.length ≤ 100) :
    ∃ zs : List Nat, pSorted [.list (ys.map f)] = some (.list (zs.map f)) ∧ zs.map f ∈ growG ((List.range N).map f) := by
  let le : Nat → Nat → Bool := fun a b => decide (a ≤ b)
  have m : (ys.map f).mergeSort (PySem.W.dataLe false id) = (ys.mergeSort le).map f := (List.map_mergeSort (r := le) (s := PySem.W.dataLe false id) (f := f) fun a ha b hb => (O.le a b (hl a ha) (hl b hb)).symm).symm
  have p := List.mergeSort_perm ys le
  have srt : (ys.mergeSort le).Pairwise (fun a b => le a b = true) := List.pairwise_mergeSort (fun a b c h1 h2 => by simp only [le, decide_eq_true_eq] at *; omega) (fun a b => by simp only [le, Bool.or_eq_true, decide_eq_true_eq]; omega) ys
  have nd : (ys.mergeSort le).Nodup := (List.Perm.nodup_iff p).mpr hn
  have asc : (ys.mergeSort le).Pairwise (· < ·) := by
    refine List.Pairwise.imp₂ (R := fun a b => le a b = true) (S := (· ≠ ·)) (fun a b h1 h2 => ?_) srt nd
    simp only [le, decide_eq_true_eq] at h1
    omega
  have lt : ∀ i ∈ ys.mergeSort le, i < N := fun i hi => hl i (p.mem_iff.mp hi)
  refine ⟨ys.mergeSort le, ?_, ?_⟩
  · have so : sortOk (ys.map f) = true := by
      unfold sortOk
      simp only [Bool.and_eq_true, List.all_eq_true, List.mem_map, forall_exists_index, and_imp, decide_eq_true_eq, Bool.or_eq_true, forall_apply_eq_imp_iff₂, List.length_map]
      refine ⟨⟨⟨fun i hi j hj => O.al i j (hl i hi) (hl j hj), ?_⟩, by rw [sizeLine_eq]; omega⟩, fun i hi => O.ok i (hl i hi)⟩
      rcases O.kd with h | h
      · exact .inl fun i hi => h i (hl i hi)
      · exact .inr fun i hi => h i (hl i hi)
    show (if sortOk (ys.map f) = true then _ else _) = _
    rw [if_pos so, m]
  · rw [grow_map]
    exact List.mem_map.mpr ⟨_, asc_mem N _ asc lt, rfl⟩
def fE (i : Nat) : PyData := poolL.getD i .none
def fS (i : Nat) : PyData := seenW.getD i .none
theorem pool_map : poolL = (List.range 6).map fE := by kernel_rfl
theorem seen_map : seenW = (List.range 4).map fS := by kernel_rfl
theorem ordE : Ord fE 6 := ord_of (by kernel_rfl) (by kernel_rfl)
theorem ordS : Ord fS 4 := ord_of (by kernel_rfl) (by kernel_rfl)
/-- what is sorted of the pool is one of the drawn ends -/
theorem ends_sorted {ys : List Nat} (hn : ys.Nodup) (hl : ∀ i ∈ ys, i < 6) (hz : ys.length ≤ 100) : ∃ es, pSorted [.list (ys.map fE)] = some (.list es) ∧ .tuple es ∈ endsL := by
  obtain ⟨zs, h1, h2⟩ := sort_ok ordE hn hl hz
  rw [← pool_map] at h2
  exact ⟨_, h1, List.mem_map.mpr ⟨_, h2, rfl⟩⟩
theorem seen_sorted {ys : List Nat} (hn : ys.Nodup) (hl : ∀ i ∈ ys, i < 4) (hz : ys.length ≤ 100) : ∃ es, pSorted [.list (ys.map fS)] = some (.list es) ∧ .tuple es ∈ seenL := by
  obtain ⟨zs, h1, h2⟩ := sort_ok ordS hn hl hz
  rw [← seen_map] at h2
  exact ⟨_, h1, List.mem_map.mpr ⟨_, h2, rfl⟩⟩
end Lw
set_option Elab.async false
set_option autoImplicit false
set_option linter.all false
set_option maxRecDepth 100000
set_option maxHeartbeats 4000000
namespace Lw
open PySem PySem.Spec PyProof.Rows L2 Fl
/-! the drawn log -/
abbrev adp (x : Option PyData) : Option Fl.Arg := x.map .d
def llA : Rho → SOut := (sSetO 2 (eLst (aCons (eTup (aCons (eC (.str "going")) (aCons (eC (.str "")) aNil))) (aCons (eTup (aCons (eC (.str "going")) (aCons (eC (.str "")) aNil))) (aCons (eTup (aCons (eC (.str "new")) (aCons (eC (.str "")) aNil))) (aCons (eTup (aCons (eC (.str "kept")) (aCons (eC (.str "yes")) aNil))) (aCons (eTup (aCons (eC (.str "new")) (aCons (eC (.str "")) aNil))) (aCons (eTup (aCons (eC (.str "gone")) (aCons (eC (.str "no")) aNil))) aNil))))))))
def llB : Rho → SOut := (sIf (eCmp qEq (eCallP 2 0 d__law_draw (aCons (eC (.int 2)) aNil)) (eC (.int 0))) (sSetIx 2 (eC (.int 5)) (eOp pIx (eLst (aCons (eTup (aCons (eC (.str "new")) (aCons (eC (.str "")) aNil))) (aCons (eTup (aCons (eC (.str "going")) (aCons (eC (.str "")) aNil))) aNil))) (eCallP 2 0 d__law_draw (aCons (eC (.int 2)) aNil)))) sNil)
def llC1 : Rho → SOut := (sSetIx 2 (eCallP 2 0 d__law_draw (aCons (eC (.int 6)) aNil)) (eCallP 1 0 d__law_cell aNil))
def llC : Rho → SOut := (sFor (.nm 3) (iRng (aCons (eOp pIx (eLst (aCons (eC (.int 0)) (aCons (eC (.int 1)) (aCons (eC (.int 1)) (aCons (eC (.int 2)) (aCons (eC (.int 6)) aNil)))))) (eCallP 2 0 d__law_draw (aCons (eC (.int 5)) aNil))) aNil)) llC1)
def llD0 : Rho → AOut := (aCons (eFun pTuple (aCons (eSl (eV 2) none (some (eC (.int 2)))) aNil)) (aCons (eFun pTuple (aCons (eSl (eV 2) (some (eC (.int 2))) (some (eC (.int 4)))) aNil)) (aCons (eFun pTuple (aCons (eSl (eV 2) (some (eC (.int 4))) none) aNil)) aNil)))
def llD : Rho → SOut := (sSet 4 (eTup (aCons (eOp pIx (eLst (aCons (eC (.str "")) (aCons (eC (.str "")) (aCons (eC (.str "")) (aCons (eC (.str "yes")) (aCons (eC (.str "no")) aNil)))))) (eCallP 2 0 d__law_draw (aCons (eC (.int 5)) aNil))) llD0)))
def llE1 : Rho → Out := (eOp pIx (eLst (aCons (eC (.str "free")) (aCons (eC (.str "next")) (aCons (eC (.str "stay")) (aCons (eC (.str "next")) aNil))))) (eCallP 2 0 d__law_draw (aCons (eC (.int 4)) aNil)))
def llE : Rho → SOut := (sSet 5 (eFun pTuple (aCons (eLc (.nm 3) (iRng (aCons (eC (.int 2)) aNil)) eYes llE1 [3]) aNil)))
def llF : Rho → SOut := (sSet 6 (eLst (aCons (eTup (aCons (eC (.str "all")) (aCons (eC (.str "bad")) aNil))) (aCons (eTup (aCons (eC (.str "all")) (aCons (eC (.str "good")) aNil))) (aCons (eTup (aCons (eC (.str "none")) (aCons (eC (.str "bad")) aNil))) (aCons (eTup (aCons (eC (.str "none")) (aCons (eC (.str "good")) aNil))) (aCons (eTup (aCons (eC (.str "some")) (aCons (eC (.str "bad")) aNil))) (aCons (eTup (aCons (eC (.str "some")) (aCons (eC (.str "good")) aNil))) aNil))))))))
def llG : Rho → SOut := (sSet 7 (eCallP 3 0 d__law_some (aCons (eV 6) (aCons (eV 1) aNil))))
def llH : Rho → SOut := (sIf (eAnd (eCmp qEq (eCallP 2 0 d__law_draw (aCons (eC (.int 2)) aNil)) (eC (.int 0))) (eCmp qNotInX (eTup (aCons (eC (.str "all")) (aCons (eC (.str "good")) aNil))) (eV 7))) (sSet 7 (eOp pAdd (eSl (eV 7) none (some (eOp pSub (eV 1) (eC (.int 1))))) (eLst (aCons (eTup (aCons (eC (.str "all")) (aCons (eC (.str "good")) aNil))) aNil)))) sNil)
def llI : Rho → SOut := (sSet 8 (eFun pSorted (aCons (eCallP 3 0 d__law_some (aCons (eLst (aCons (eC (.str "going")) (aCons (eC (.str "gone")) (aCons (eC (.str "kept")) (aCons (eC (.str "new")) aNil))))) (aCons (eC (.int 4)) aNil))) aNil)))
def llJ : Rho → SOut := (sRet (eTup (aCons (eV 4) (aCons (eV 5) (aCons (eFun pTuple (aCons (eFun pSorted (aCons (eV 7) aNil)) aNil)) (aCons (eCmp pGt (eCallP 2 0 d__law_draw (aCons (eC (.int 3)) aNil)) (eC (.int 0))) (aCons (eFun pTuple (aCons (eV 8) aNil)) aNil)))))))
theorem law_log_gen_eq : m__law_log = sSeq llA (sSeq llB (sSeq llC (sSeq llD (sSeq llE (sSeq llF (sSeq llG (sSeq llH (sSeq llI llJ)))))))) := rfl
section
variable {c : List Int} {k v : Int}
abbrev cells0 : List PyData := [.tuple [.str "going", .str ""], .tuple [.str "going", .str ""], .tuple [.str "new", .str ""], .tuple [.str "kept", .str "yes"], .tuple [.str "new", .str ""], .tuple [.str "gone", .str "no"]]
structure Six (xs : List PyData) : Prop where
  len : xs.length = 6
  mem : ∀ x ∈ xs, x ∈ cellL
theorem mem_cell {p w : PyData} (hp : isPlace p) (hw : isWord w) : .tuple [p, w] ∈ cellL := by
  have h1 : p ∈ placeL := by rcases hp with rfl | rfl | rfl | rfl <;> simp [placeL]
  have h2 : w ∈ wordL := by rcases hw with rfl | rfl | rfl <;> simp [wordL]
  exact List.mem_flatMap.mpr ⟨p, h1, List.mem_map.mpr ⟨w, h2, rfl⟩⟩
theorem six_set {xs : List PyData} (S : Six xs) {y : PyData} (hy : y ∈ cellL) (i : Nat) : Six (xs.set i y) :=
  ⟨by rw [List.length_set]; exact S.len, fun x hx => by
    rcases List.mem_or_eq_of_mem_set hx with h | rfl
    · exact S.mem x h
    · exact hy⟩
theorem six0 : Six cells0 := ⟨rfl, fun x hx => by
  have h : (cells0.all fun x => decide (x.shown ∈ cellL.map PyData.shown)) = true := by kernel_rfl
  simp only [cells0, List.mem_cons, List.not_mem_nil, or_false] at hx
  rcases hx with rfl | rfl | rfl | rfl | rfl | rfl <;> exact mem_cell (by simp [isPlace]) (by simp [isWord])⟩
/-- xs[i] = y -/
theorem set_at {xs xs0 : List PyData} {y : PyData} {m : Int} {i : Nat} {fk fv : Rho → Out} {ρ ρ1 ρ2 : Rho} (hv : fv ρ = .ok y ρ1) (h0 : ownAt ρ1 i = some xs0) (hk : fk ρ1 = .ok (.int m) ρ2) (h1 : ownAt ρ2 i = some xs) (m0 : 0 ≤ m) (m1 : m < xs.length) :
    sSetIx i fk fv ρ = .nx (ρ2.set i (some (.o (xs.set m.toNat y)))) := by
  unfold sSetIx
  rw [x_bndS, hv, goS_ok, h0]
  dsimp only
  rw [x_bndS, hk, goS_ok, h1]
  dsimp only
  unfold ixN
  rw [if_pos m0, if_pos m1]
theorem cell_at0 {r : Rho} (hk : 0 ≤ k) (hk2 : k < 2 ^ 59) (hv : 0 ≤ v) : ∃ x k' v', x ∈ cellL ∧ k ≤ k' ∧ k' ≤ k + 2 ∧ 0 ≤ v' ∧ ∀ r : Rho, eCallP 1 0 d__law_cell aNil (po c k v :: r) = .ok x (po c k' v' :: r) := by
  obtain ⟨p, w, k1, v1, hp, hw, l1, l2, w1, e⟩ := cell_ok c k v hk hk2 hv
  refine ⟨_, k1, v1, mem_cell hp hw, l1, l2, w1, fun r => ?_⟩
  rw [y_eCallPa]
  show (aNil (po c k v :: r)).go _ = _
  rw [x_aNil, goL_ok, y_callPKa, if_pos (show ([] : List PyData).length + 1 = 1 from rfl)]
  show (d__law_cell (penD c k v) []).put 0 _ = _
  rw [e]
  rfl
abbrev ll (c : List Int) (k v : Int) (xs : List PyData) (x3 x4 x5 x6 x7 x8 : Option Fl.Arg) : Rho := [po c k v, sd (.int 6), some (.o xs), x3, x4, x5, x6, x7, x8]
theorem llC_loop (x4 x5 x6 x7 x8 : Option Fl.Arg) : ∀ (laps : List PyData) (k v : Int) (xs : List PyData) (x3 : Option PyData), Six xs → 0 ≤ k → k + 3 * laps.length < 2 ^ 58 → 0 ≤ v →
    ∃ xs' k' v' x3', Six xs' ∧ k ≤ k' ∧ k' ≤ k + 3 * laps.length ∧ 0 ≤ v' ∧ loop (.nm 3) llC1 laps (ll c k v xs (adp x3) x4 x5 x6 x7 x8) = .nx (ll c k' v' xs' (adp x3') x4 x5 x6 x7 x8)
  | [], k, v, xs, x3, S, hk, _, hv => ⟨xs, k, v, x3, S, by omega, by simp, hv, rfl⟩
  | d :: laps, k, v, xs, x3, S, hk, hk2, hv => by
    simp only [List.length_cons] at hk2
    obtain ⟨y, k1, v1, hy, l1, l2, w1, e1⟩ := cell_at0 (c := c) (r := []) hk (by omega) hv
    obtain ⟨m, k2, v2, m0, m1, l3, l4, w2, e2⟩ := draw_ok c k1 v1 6 (by omega) (by omega) w1 (by decide) (by decide)
    obtain ⟨xs', k3, v3, x3', S', l5, l6, w3, e3⟩ := llC_loop x4 x5 x6 x7 x8 laps k2 v2 (xs.set m.toNat y) (some d) (six_set S hy _) (by omega) (by omega) w2
    refine ⟨xs', k3, v3, x3', S', by omega, by simp only [List.length_cons]; omega, w3, ?_⟩
    rw [y_loopN]
    have step : llC1 (ll c k v xs (sd d) x4 x5 x6 x7 x8) = .nx (ll c k2 v2 (xs.set m.toNat y) (sd d) x4 x5 x6 x7 x8) := by
      unfold llC1
      rw [set_at (i := 2) (xs0 := xs) (xs := xs) (e1 _) rfl (draw_lit e2) rfl m0 (by rw [S.len]; omega)]
      rfl
    show (llC1 (ll c k v xs (sd d) x4 x5 x6 x7 x8)).lap _ = _
    rw [step, lap_nx]
    exact e3
theorem six_form {xs : List PyData} (S : Six xs) : ∃ a1 a2 b1 b2 c1 c2, xs = [a1, a2, b1, b2, c1, c2] := by
  obtain ⟨h, _⟩ := S
  match xs, h with
  | [a, b, d, e, f, g], _ => exact ⟨_, _, _, _, _, _, rfl⟩
end
end Lw
set_option Elab.async false
set_option autoImplicit false
set_option linter.all false
set_option maxRecDepth 100000
set_option maxHeartbeats 4000000
namespace Lw
open PySem PySem.Spec PyProof.Rows L2 Fl
section
variable {c : List Int} {k v : Int}
abbrev lf (c : List Int) (k v : Int) (xs : List PyData) (x3 x4 x5 x6 x7 x8 : Option Fl.Arg) : Rho := [po c k v, sd (.int 6), sd (.list xs), x3, x4, x5, x6, x7, x8]
theorem drawE {L : Rho → Out} {u m : Int} {xs : List PyData} {y : PyData} {k1 v1 : Int} {r : Rho} (hL : L (po c k v :: r) = .ok (.list xs) (po c k v :: r)) (e : d__law_draw (penD c k v) [.int u] = .ok (.int m) (penD c k1 v1)) (hy : atI xs m = some y) :
    eOp pIx L (eCallP 2 0 d__law_draw (aCons (eC (.int u)) aNil)) (po c k v :: r) = .ok y (po c k1 v1 :: r) := by
  rw [x_eOp, hL, go_ok, x_opK, draw_lit e, go_ok, x_opK2, p_ixL, hy]
  rfl
theorem llA_ok : llA [po c k v, sd (.int 6), none, none, none, none, none, none, none] = .nx (ll c k v cells0 none none none none none none) := by kernel_rfl
theorem llB_ok {xs : List PyData} (S : Six xs) (hk : 0 ≤ k) (hk2 : k < 2 ^ 58) (hv : 0 ≤ v) : ∃ xs' k' v', Six xs' ∧ k ≤ k' ∧ k' ≤ k + 2 ∧ 0 ≤ v' ∧ llB (ll c k v xs none none none none none none) = .nx (ll c k' v' xs' none none none none none none) := by
  obtain ⟨z, k1, v1, z0, z1, l1, l2, w1, e1⟩ := draw_ok c k v 2 hk (by omega) hv (by decide) (by decide)
  have hc : (eCmp qEq (eCallP 2 0 d__law_draw (aCons (eC (.int 2)) aNil)) (eC (.int 0))) (ll c k v xs none none none none none none) = .ok (.bool (decide (z = 0))) (ll c k1 v1 xs none none none none none none) := by
    rw [x_eCmp, draw_lit e1]
    simp [qEqI]
  unfold llB
  by_cases hz : z = 0
  · subst hz
    obtain ⟨m, k2, v2, m0, m1, l3, l4, w2, e2⟩ := draw_ok c k1 v1 2 (by omega) (by omega) w1 (by decide) (by decide)
    obtain ⟨y, hy, ey⟩ := get_at (xs := [.tuple [.str "new", .str ""], .tuple [.str "going", .str ""]]) m0 (by simpa using m1)
    have hy' : y ∈ cellL := by
      simp only [List.mem_cons, List.not_mem_nil, or_false] at hy
      rcases hy with rfl | rfl <;> exact mem_cell (by simp [isPlace]) (by simp [isWord])
    refine ⟨_, k2, v2, six_set S hy' 5, by omega, by omega, w2, ?_⟩
    rw [x_sIf, hc, goS_ok, x_ifS, tr_bool, if_pos (by simp), set_at (i := 2) (xs0 := xs) (xs := xs) (drawE (by kernel_rfl) e2 ey) rfl (x_eC (d := .int 5)) rfl (by decide) (by rw [S.len]; decide)]
    rfl
  · refine ⟨xs, k1, v1, S, l1, by omega, w1, ?_⟩
    rw [x_sIf, hc, goS_ok, x_ifS, tr_bool, if_neg (by simpa using hz), x_sNil]
theorem llC_ok {xs : List PyData} (S : Six xs) (hk : 0 ≤ k) (hk2 : k < 2 ^ 57) (hv : 0 ≤ v) : ∃ xs' k' v' x3, Six xs' ∧ k ≤ k' ∧ k' ≤ k + 20 ∧ 0 ≤ v' ∧ llC (ll c k v xs none none none none none none) = .nx (ll c k' v' xs' (adp x3) none none none none none) := by
  obtain ⟨z, k1, v1, z0, z1, l1, l2, w1, e1⟩ := draw_ok c k v 5 hk (by omega) hv (by decide) (by decide)
  obtain ⟨y, hy, ey⟩ := get_at (xs := [.int 0, .int 1, .int 1, .int 2, .int 6]) z0 (by simpa using z1)
  have hq : ∃ q : Int, y = .int q ∧ 0 ≤ q ∧ q ≤ 6 := by
    simp only [List.mem_cons, List.not_mem_nil, or_false] at hy
    rcases hy with rfl | rfl | rfl | rfl | rfl
    · exact ⟨0, rfl, by decide, by decide⟩
    · exact ⟨1, rfl, by decide, by decide⟩
    · exact ⟨1, rfl, by decide, by decide⟩
    · exact ⟨2, rfl, by decide, by decide⟩
    · exact ⟨6, rfl, by decide, by decide⟩
  obtain ⟨q, rfl, q0, q1⟩ := hq
  have r1 : (iRng (aCons (eOp pIx (eLst (aCons (eC (.int 0)) (aCons (eC (.int 1)) (aCons (eC (.int 1)) (aCons (eC (.int 2)) (aCons (eC (.int 6)) aNil)))))) (eCallP 2 0 d__law_draw (aCons (eC (.int 5)) aNil))) aNil)) (ll c k v xs none none none none none none) = .ok (nums 0 q.toNat) (ll c k1 v1 xs none none none none none none) := by
    unfold iRng
    rw [x_aCons, drawE (by kernel_rfl) e1 ey, goA_ok, x_consK, x_aNil, put_ok]
    dsimp only
    rw [if_pos (by omega)]
  have hn := nums_len q.toNat 0
  obtain ⟨xs', k2, v2, x3, S', l3, l4, w2, e2⟩ := llC_loop (c := c) none none none none none (nums 0 q.toNat) k1 v1 xs none S (by omega) (by rw [hn]; omega) w1
  rw [hn] at l4
  refine ⟨xs', k2, v2, x3, S', by omega, by omega, w2, ?_⟩
  unfold llC
  rw [y_sFor, r1, igoS_ok, y_forK]
  exact e2
theorem llD_ok {a1 a2 b1 b2 c1 c2 : PyData} {x3 : Option Fl.Arg} (hk : 0 ≤ k) (hk2 : k < 2 ^ 58) (hv : 0 ≤ v) : ∃ w k' v', w ∈ wordL ∧ k ≤ k' ∧ k' ≤ k + 1 ∧ 0 ≤ v' ∧
    llD (ll c k v [a1, a2, b1, b2, c1, c2] x3 none none none none none) = .nx (lf c k' v' [a1, a2, b1, b2, c1, c2] x3 (sd (tabD w a1 a2 b1 b2 c1 c2)) none none none none) := by
  obtain ⟨z, k1, v1, z0, z1, l1, l2, w1, e1⟩ := draw_ok c k v 5 hk (by omega) hv (by decide) (by decide)
  obtain ⟨y, hy, ey⟩ := get_at (xs := [.str "", .str "", .str "", .str "yes", .str "no"]) z0 (by simpa using z1)
  have hw : y ∈ wordL := by
    simp only [List.mem_cons, List.not_mem_nil, or_false] at hy
    rcases hy with rfl | rfl | rfl | rfl | rfl <;> simp [wordL]
  refine ⟨y, k1, v1, hw, l1, l2, w1, ?_⟩
  have h0 : llD0 (ll c k1 v1 [a1, a2, b1, b2, c1, c2] x3 none none none none none) = .ok [.tuple [a1, a2], .tuple [b1, b2], .tuple [c1, c2]] (lf c k1 v1 [a1, a2, b1, b2, c1, c2] x3 none none none none none) := by kernel_rfl
  unfold llD
  rw [x_sSet, y_eTup, x_aCons, drawE (by kernel_rfl) e1 ey, goA_ok, x_consK, h0, put_ok, goL_ok]
  kernel_rfl
theorem llE1_ok (hk : 0 ≤ k) (hk2 : k < 2 ^ 58) (hv : 0 ≤ v) : ∃ y k' v', y ∈ leadW ∧ k ≤ k' ∧ k' ≤ k + 1 ∧ 0 ≤ v' ∧ ∀ r : Rho, llE1 (po c k v :: r) = .ok y (po c k' v' :: r) := by
  obtain ⟨z, k1, v1, z0, z1, l1, l2, w1, e1⟩ := draw_ok c k v 4 hk (by omega) hv (by decide) (by decide)
  obtain ⟨y, hy, ey⟩ := get_at (xs := [.str "free", .str "next", .str "stay", .str "next"]) z0 (by simpa using z1)
  have hw : y ∈ leadW := by
    simp only [List.mem_cons, List.not_mem_nil, or_false] at hy
    rcases hy with rfl | rfl | rfl | rfl <;> simp [leadW]
  refine ⟨y, k1, v1, hw, l1, l2, w1, fun r => ?_⟩
  unfold llE1
  exact drawE (by kernel_rfl) e1 ey
theorem llE_ok {xs : List PyData} {t : PyData} {x3 : Option PyData} (hk : 0 ≤ k) (hk2 : k < 2 ^ 57) (hv : 0 ≤ v) : ∃ l k' v', l ∈ pairsL ∧ k ≤ k' ∧ k' ≤ k + 2 ∧ 0 ≤ v' ∧
    llE (lf c k v xs (adp x3) (sd t) none none none none) = .nx (lf c k' v' xs (adp x3) (sd t) (sd l) none none none) := by
  obtain ⟨y, k1, v1, hy, l1, l2, w1, e1⟩ := llE1_ok (c := c) hk (by omega) hv
  obtain ⟨z, k2, v2, hz, l3, l4, w2, e2⟩ := llE1_ok (c := c) (k := k1) (v := v1) (by omega) (by omega) w1
  refine ⟨.tuple [y, z], k2, v2, List.mem_flatMap.mpr ⟨y, hy, List.mem_map.mpr ⟨z, hz, rfl⟩⟩, by omega, by omega, w2, ?_⟩
  have r1 : (iRng (aCons (eC (.int 2)) aNil)) (lf c k v xs (adp x3) (sd t) none none none none) = .ok [.int 0, .int 1] (lf c k v xs (adp x3) (sd t) none none none none) := by kernel_rfl
  have no : noOwn (lf c k v xs (adp x3) (sd t) none none none none) [3] = true := by cases x3 <;> rfl
  unfold llE
  rw [x_sSet, x_eFun, x_aCons, y_eLc, r1, igoL_ok, y_lcK no]
  show (((((lcLoop (.nm 3) eYes llE1 [3] 0 [.int 0, .int 1] (po c k v :: _)).fin _ [3]).goA _).go _).goS _) = _
  rw [y_lcN]
  show ((((((llE1 (po c k v :: _)).lc 0 _).fin _ [3]).goA _).go _).goS _) = _
  rw [e1, lc_ok (by decide), y_lcN]
  show (((((((llE1 (po c k1 v1 :: _)).lc 1 _).cons y).fin _ [3]).goA _).go _).goS _) = _
  rw [e2, lc_ok (by decide), y_lcNil]
  rfl
theorem llF_ok {xs : List PyData} {x3 x4 x5 : Option Fl.Arg} : llF (lf c k v xs x3 x4 x5 none none none) = .nx (lf c k v xs x3 x4 x5 (sd (.list poolL)) none none) := by kernel_rfl
end
end Lw
set_option Elab.async false
set_option autoImplicit false
set_option linter.all false
set_option maxRecDepth 100000
set_option maxHeartbeats 4000000
namespace Lw
open PySem PySem.Spec PyProof.Rows L2 Fl
section
variable {c : List Int} {k v : Int}
theorem callP_at {n : Nat} {fp : List PyData → List PyData → POut} {t : Rho → AOut} {args : List PyData} {d : PyData} {k1 v1 : Int} {r : Rho} (h : t (po c k v :: r) = .ok args (po c k v :: r)) (hn : args.length + 1 = n) (e : fp (penD c k v) args = .ok d (penD c k1 v1)) :
    eCallP n 0 fp t (po c k v :: r) = .ok d (po c k1 v1 :: r) := by
  rw [y_eCallPa]
  show (t (po c k v :: r)).go _ = _
  rw [h, goL_ok, y_callPKa, if_pos hn]
  show (fp (penD c k v) args).put 0 _ = _
  rw [e]
  rfl
/-- numbers below N, none twice -/
structure Few (ys : List Nat) (N : Nat) : Prop where
  nd : ys.Nodup
  lt : ∀ i ∈ ys, i < N
  len : ys.length ≤ N
theorem few_of {ys rs : List Nat} {N : Nat} (p : (ys ++ rs).Perm (List.range N)) : Few ys N := by
  have nd := (List.Perm.nodup_iff p).mpr List.nodup_range
  have hl := p.length_eq
  rw [List.length_append, List.length_range] at hl
  exact ⟨(List.nodup_append.mp nd).1, fun i hi => List.mem_range.mp (p.mem_iff.mp (List.mem_append_left _ hi)), by omega⟩
theorem llG_ok {xs : List PyData} {x3 x4 x5 : Option Fl.Arg} (hk : 0 ≤ k) (hk2 : k < 2 ^ 56) (hv : 0 ≤ v) : ∃ ys k' v', Few ys 6 ∧ k ≤ k' ∧ k' ≤ k + 60 ∧ 0 ≤ v' ∧ llG (lf c k v xs x3 x4 x5 (sd (.list poolL)) none none) = .nx (lf c k' v' xs x3 x4 x5 (sd (.list poolL)) (sd (.list (ys.map fE))) none) := by
  obtain ⟨ys, rs', k1, v1, e, p, l1, l2, w1⟩ := some_ok (c := c) (k := k) (v := v) fE (List.range 6) 6 (by decide) (by decide) (by decide) hk hk2 hv
  rw [← pool_map] at e
  refine ⟨ys, k1, v1, few_of p, l1, l2, w1, ?_⟩
  unfold llG
  rw [x_sSet, callP_at (n := 3) (args := [.list poolL, .int 6]) (by kernel_rfl) rfl e]
  rfl
theorem cut5 {xs : List PyData} : Fl.cutD xs none (some 5) = xs.take 5 := by
  have e : HT.sIx xs.length xs.length (some 5) = min 5 xs.length := rfl
  show (xs.drop (HT.sIx xs.length 0 none)).take (HT.sIx xs.length xs.length (some 5) - HT.sIx xs.length 0 none) = _
  rw [e]
  show (xs.drop 0).take (min 5 xs.length - 0) = _
  rw [List.drop_zero, Nat.sub_zero, List.take_eq_take_iff]
  omega
theorem plain_map {f : Nat → PyData} {N : Nat} (O : Ord f N) : ∀ ys : List Nat, (∀ i ∈ ys, i < N) → PyData.plainAll (ys.map f) = true
  | [], _ => by simp [PyData.plainAll]
  | y :: ys, h => by simp [PyData.plainAll, O.pl y (h y (by simp)), plain_map O ys fun i hi => h i (List.mem_cons_of_mem _ hi)]
theorem any_one {f : Nat → PyData} {N j : Nat} (O : Ord f N) (hj : j < N) : ∀ ys : List Nat, (∀ i ∈ ys, i < N) → ((ys.map f).any fun z => PyData.eqv z (f j)) = decide (j ∈ ys)
  | [], _ => by simp
  | y :: ys, h => by
    rw [List.map_cons, List.any_cons, O.eq y j (h y (by simp)) hj, any_one O hj ys fun i hi => h i (List.mem_cons_of_mem _ hi)]
    by_cases e : y = j
    · subst e; simp
    · have e' : ¬ j = y := fun z => e z.symm
      simp [e, e']
theorem notIn_one {ys : List Nat} (F : Few ys 6) : qNotInX (.tuple [.str "all", .str "good"]) (.list (ys.map fE)) = some (!decide (1 ∈ ys)) := by
  have e1 : (.tuple [.str "all", .str "good"] : PyData) = fE 1 := by rfl
  have ok : ok50 (.tuple [.str "all", .str "good"]) = true := by kernel_rfl
  unfold qNotInX
  have h : qInX (.tuple [.str "all", .str "good"]) (.list (ys.map fE)) = some (decide (1 ∈ ys)) := by
    unfold qInX
    dsimp only
    rw [if_pos ok]
    show (if ok50 (.tuple [.str "all", .str "good"]) = true ∧ PyData.plainAll (ys.map fE) = true then some ((ys.map fE).any fun z => PyData.eqv z (.tuple [.str "all", .str "good"])) else none) = _
    rw [if_pos ⟨ok, plain_map ordE ys F.lt⟩, e1, any_one ordE (by decide) ys F.lt]
  rw [h]
  rfl
theorem llH_ok {xs ps : List PyData} {x3 x4 x5 : Option Fl.Arg} {ys : List Nat} (F : Few ys 6) (hk : 0 ≤ k) (hk2 : k < 2 ^ 56) (hv : 0 ≤ v) : ∃ zs k' v', Few zs 6 ∧ k ≤ k' ∧ k' ≤ k + 1 ∧ 0 ≤ v' ∧
    llH (lf c k v xs x3 x4 x5 (sd (.list ps)) (sd (.list (ys.map fE))) none) = .nx (lf c k' v' xs x3 x4 x5 (sd (.list ps)) (sd (.list (zs.map fE))) none) := by
  obtain ⟨z, k1, v1, z0, z1, l1, l2, w1, e1⟩ := draw_ok c k v 2 hk (by omega) hv (by decide) (by decide)
  have hc : (eCmp qEq (eCallP 2 0 d__law_draw (aCons (eC (.int 2)) aNil)) (eC (.int 0))) (lf c k v xs x3 x4 x5 (sd (.list ps)) (sd (.list (ys.map fE))) none) = .ok (.bool (decide (z = 0))) (lf c k1 v1 xs x3 x4 x5 (sd (.list ps)) (sd (.list (ys.map fE))) none) := by
    rw [x_eCmp, draw_lit e1]
    simp [qEqI]
  have hd : (eCmp qNotInX (eTup (aCons (eC (.str "all")) (aCons (eC (.str "good")) aNil))) (eV 7)) (lf c k1 v1 xs x3 x4 x5 (sd (.list ps)) (sd (.list (ys.map fE))) none) = .ok (.bool (!decide (1 ∈ ys))) (lf c k1 v1 xs x3 x4 x5 (sd (.list ps)) (sd (.list (ys.map fE))) none) := by
    rw [x_eCmp, y_eTup]
    show (Out.ok (.tuple [.str "all", .str "good"]) _).go _ = _
    rw [go_ok, x_cmK]
    show (Out.ok (.list (ys.map fE)) _).go _ = _
    rw [go_ok, x_cmK2, notIn_one F]
    rfl
  unfold llH
  by_cases hz : z = 0
  · by_cases h1 : 1 ∈ ys
    · refine ⟨ys, k1, v1, F, l1, l2, w1, ?_⟩
      rw [x_sIf, x_eAnd, hc, go_ok, x_andK, tr_bool, if_pos (by simpa using hz), hd, goS_ok, x_ifS, tr_bool, if_neg (by simpa using h1), x_sNil]
    · refine ⟨ys.take 5 ++ [1], k1, v1, ⟨?_, fun i hi => ?_, ?_⟩, l1, l2, w1, ?_⟩
      · refine List.nodup_append.mpr ⟨F.nd.sublist (List.take_sublist _ _), by simp, fun a ha b hb => ?_⟩
        have hb' : b = 1 := by simpa using hb
        subst hb'
        exact fun e => h1 (by rw [← e]; exact List.mem_of_mem_take ha)
      · rcases List.mem_append.mp hi with hi | hi
        · exact F.lt i (List.mem_of_mem_take hi)
        · have : i = 1 := by simpa using hi
          omega
      · rw [List.length_append, List.length_take]
        simp only [List.length_cons, List.length_nil]
        omega
      · rw [x_sIf, x_eAnd, hc, go_ok, x_andK, tr_bool, if_pos (by simpa using hz), hd, goS_ok, x_ifS, tr_bool, if_pos (by simpa using h1), x_sSet, x_eOp, y_eSl_H]
        show (((Out.ok (.list (ys.map fE)) _).go _).go _).goS _ = _
        rw [go_ok, y_slH]
        show (((Out.ok (.int 5) _).go _).go _).goS _ = _
        rw [go_ok]
        dsimp only
        rw [y_slK]
        show ((lift (some (.list (Fl.cutD (ys.map fE) none (some 5)))) _).go _).goS _ = _
        rw [x_lift_some, go_ok, x_opK]
        show ((Out.ok (.list [.tuple [.str "all", .str "good"]]) _).go _).goS _ = _
        rw [go_ok, x_opK2, cut5]
        have hs : ((ys.map fE).take 5).length + 1 ≤ sizeLine := by
          rw [List.length_take, sizeLine_eq]
          omega
        show (lift (if ((ys.map fE).take 5).length + 1 ≤ sizeLine then some (.list ((ys.map fE).take 5 ++ [.tuple [.str "all", .str "good"]])) else none) _).goS _ = _
        rw [if_pos hs, List.map_append, List.map_take]
        rfl
  · refine ⟨ys, k1, v1, F, l1, l2, w1, ?_⟩
    rw [x_sIf, x_eAnd, hc, go_ok, x_andK, tr_bool, if_neg (by simpa using hz), goS_ok, x_ifS, tr_bool, if_neg (by simpa using hz), x_sNil]
theorem llI_ok {xs ps : List PyData} {x3 x4 x5 x7 : Option Fl.Arg} (hk : 0 ≤ k) (hk2 : k < 2 ^ 56) (hv : 0 ≤ v) : ∃ ns k' v', .tuple ns ∈ seenL ∧ k ≤ k' ∧ k' ≤ k + 60 ∧ 0 ≤ v' ∧ llI (lf c k v xs x3 x4 x5 (sd (.list ps)) x7 none) = .nx (lf c k' v' xs x3 x4 x5 (sd (.list ps)) x7 (sd (.list ns))) := by
  obtain ⟨ys, rs', k1, v1, e, p, l1, l2, w1⟩ := some_ok (c := c) (k := k) (v := v) fS (List.range 4) 4 (by decide) (by decide) (by decide) hk hk2 hv
  rw [← seen_map] at e
  have F := few_of p
  obtain ⟨ns, hs, hm⟩ := seen_sorted F.nd F.lt (by have := F.len; omega)
  refine ⟨ns, k1, v1, hm, l1, l2, w1, ?_⟩
  unfold llI
  rw [x_sSet, x_eFun, x_aCons, callP_at (n := 3) (args := [.list seenW, .int 4]) (by kernel_rfl) rfl e, goA_ok, x_consK, x_aNil, put_ok, goL_ok, x_fnK, hs]
  rfl
theorem llJ_ok {xs ps ns : List PyData} {x3 : Option Fl.Arg} {t l : PyData} {ys : List Nat} (F : Few ys 6) (hk : 0 ≤ k) (hk2 : k < 2 ^ 56) (hv : 0 ≤ v) : ∃ es s k' v' ρ', .tuple es ∈ endsL ∧ k ≤ k' ∧ k' ≤ k + 1 ∧ 0 ≤ v' ∧
    llJ (lf c k v xs x3 (sd t) (sd l) (sd (.list ps)) (sd (.list (ys.map fE))) (sd (.list ns))) = .rt (.tuple [t, l, .tuple es, .bool s, .tuple ns]) (po c k' v' :: ρ') := by
  obtain ⟨z, k1, v1, z0, z1, l1, l2, w1, e1⟩ := draw_ok c k v 3 hk (by omega) hv (by decide) (by decide)
  obtain ⟨es, hs, hm⟩ := ends_sorted F.nd F.lt (by have := F.len; omega)
  refine ⟨es, decide (0 < z), k1, v1, [sd (.int 6), sd (.list xs), x3, sd t, sd l, sd (.list ps), sd (.list (ys.map fE)), sd (.list ns)], hm, l1, l2, w1, ?_⟩
  have a1 : (eFun pTuple (aCons (eFun pSorted (aCons (eV 7) aNil)) aNil)) (lf c k v xs x3 (sd t) (sd l) (sd (.list ps)) (sd (.list (ys.map fE))) (sd (.list ns))) = .ok (.tuple es) (lf c k v xs x3 (sd t) (sd l) (sd (.list ps)) (sd (.list (ys.map fE))) (sd (.list ns))) := by
    rw [x_eFun, x_aCons, x_eFun]
    show ((((AOut.ok [.list (ys.map fE)] _).go _).goA _).go _) = _
    rw [goL_ok, x_fnK, hs]
    rfl
  have a2 : (eCmp pGt (eCallP 2 0 d__law_draw (aCons (eC (.int 3)) aNil)) (eC (.int 0))) (lf c k v xs x3 (sd t) (sd l) (sd (.list ps)) (sd (.list (ys.map fE))) (sd (.list ns))) = .ok (.bool (decide (0 < z))) (lf c k1 v1 xs x3 (sd t) (sd l) (sd (.list ps)) (sd (.list (ys.map fE))) (sd (.list ns))) := by
    rw [x_eCmp, draw_lit e1]
    rfl
  unfold llJ
  rw [x_sRet, y_eTup, x_aCons]
  show (((Out.ok t _).goA _).go _).goS _ = _
  rw [goA_ok, x_consK, x_aCons]
  show ((((Out.ok l _).goA _).put t).go _).goS _ = _
  rw [goA_ok, x_consK, x_aCons, a1, goA_ok, x_consK, x_aCons, a2, goA_ok, x_consK, x_aCons]
  kernel_rfl
/-- a log is drawn -/
theorem law_log_ok (hk : 0 ≤ k) (hk2 : k < 2 ^ 55) (hv : 0 ≤ v) : ∃ w a1 a2 b1 b2 c1 c2 l es s n k' v', GoodLog w a1 a2 b1 b2 c1 c2 l es n ∧ k ≤ k' ∧ k' ≤ k + 200 ∧ 0 ≤ v' ∧ d__law_log (penD c k v) [.int 6] = .ok (logD w a1 a2 b1 b2 c1 c2 l es s n) (penD c k' v') := by
  obtain ⟨p1, k1, v1, S1, l1, m1, w1, e1⟩ := llB_ok (c := c) six0 hk (by omega) hv
  obtain ⟨p2, k2, v2, x3d, S2, l2, m2, w2, e2⟩ := llC_ok (c := c) S1 (show 0 ≤ k1 by omega) (by omega) w1
  obtain ⟨a1, a2, b1, b2, c1, c2, rfl⟩ := six_form S2
  obtain ⟨w, k3, v3, hw, l3, m3, w3, e3⟩ := llD_ok (c := c) (a1 := a1) (a2 := a2) (b1 := b1) (b2 := b2) (c1 := c1) (c2 := c2) (x3 := adp x3d) (show 0 ≤ k2 by omega) (by omega) w2
  obtain ⟨l, k4, v4, hl, l4, m4, w4, e4⟩ := llE_ok (c := c) (xs := [a1, a2, b1, b2, c1, c2]) (t := tabD w a1 a2 b1 b2 c1 c2) (x3 := x3d) (show 0 ≤ k3 by omega) (by omega) w3
  obtain ⟨ys, k5, v5, F, l5, m5, w5, e5⟩ := llG_ok (c := c) (xs := [a1, a2, b1, b2, c1, c2]) (x3 := adp x3d) (x4 := sd (tabD w a1 a2 b1 b2 c1 c2)) (x5 := sd l) (show 0 ≤ k4 by omega) (by omega) w4
  obtain ⟨zs, k6, v6, F6, l6, m6, w6, e6⟩ := llH_ok (c := c) (xs := [a1, a2, b1, b2, c1, c2]) (ps := poolL) (x3 := adp x3d) (x4 := sd (tabD w a1 a2 b1 b2 c1 c2)) (x5 := sd l) F (show 0 ≤ k5 by omega) (by omega) w5
  obtain ⟨ns, k7, v7, hn, l7, m7, w7, e7⟩ := llI_ok (c := c) (xs := [a1, a2, b1, b2, c1, c2]) (ps := poolL) (x3 := adp x3d) (x4 := sd (tabD w a1 a2 b1 b2 c1 c2)) (x5 := sd l) (x7 := sd (.list (zs.map fE))) (show 0 ≤ k6 by omega) (by omega) w6
  obtain ⟨es, s, k8, v8, ρ', he, l8, m8, w8, e8⟩ := llJ_ok (c := c) (xs := [a1, a2, b1, b2, c1, c2]) (ps := poolL) (ns := ns) (x3 := adp x3d) (t := tabD w a1 a2 b1 b2 c1 c2) (l := l) F6 (show 0 ≤ k7 by omega) (by omega) w7
  refine ⟨w, a1, a2, b1, b2, c1, c2, l, es, s, .tuple ns, k8, v8, ⟨hw, S2.mem _ (by simp), S2.mem _ (by simp), S2.mem _ (by simp), S2.mem _ (by simp), S2.mem _ (by simp), S2.mem _ (by simp), hl, he, hn⟩, by omega, by omega, w8, ?_⟩
  unfold d__law_log
  rw [y_fnP, law_log_gen_eq]
  show (sSeq llA _ [po c k v, sd (.int 6), none, none, none, none, none, none, none]).fnP = _
  rw [x_sSeq, llA_ok, on_nx, x_sSeq, e1, on_nx, x_sSeq, e2, on_nx, x_sSeq, e3, on_nx, x_sSeq, e4, on_nx, x_sSeq, llF_ok, on_nx, x_sSeq, e5, on_nx, x_sSeq, e6, on_nx, x_sSeq, e7, on_nx, e8]
  rfl
end
end Lw
set_option Elab.async false
set_option autoImplicit false
set_option linter.all false
set_option maxRecDepth 100000
set_option maxHeartbeats 4000000
namespace Lw
open PySem PySem.Spec PyProof.Rows L2 Fl
/-! the errors, in their order -/
theorem y_sExpr_er {f : Rho → Out} {ρ r : Rho} {x : ExcD} (h : f ρ = .er x r) : sExpr f ρ = .er x r := by rw [x_sExpr, h, goS_er]
theorem chk_ok {t e p : PyData} (h : d_is_table [t] = .ok (.bool true)) (he : qNotInX e k_EVENTS = some false) (hp : qNotInX p k_MOVING = some false) : d_check_cell_place [t, e, p] = .ok .none := by
  unfold d_check_cell_place m_check_cell_place
  simp [y_fnD, y_fnP, st0, stP, y_eVa, y_lcK, noOwn, wipeR, unw, pAll, pAny, bools, pSl, Fl.cutD, sIxN, sIxS, tset, tsets, y_asgK, at_0, at_1, at_2, at_3, at_4, at_5, ownAt, y_eCallPa, y_callPKa, List.replicate, h, he, hp]
theorem chk_t {t e p : PyData} (h : d_is_table [t] = .ok (.bool false)) : d_check_cell_place [t, e, p] = .er ⟨"InvalidTable", none⟩ := by
  unfold d_check_cell_place m_check_cell_place
  simp [y_fnD, y_fnP, st0, stP, y_eVa, y_lcK, noOwn, wipeR, unw, pAll, pAny, bools, pSl, Fl.cutD, sIxN, sIxS, tset, tsets, y_asgK, at_0, at_1, at_2, at_3, at_4, at_5, ownAt, y_eCallPa, y_callPKa, List.replicate, h, sRaise]
theorem chk_e {t e p : PyData} (h : d_is_table [t] = .ok (.bool true)) (he : qNotInX e k_EVENTS = some true) : d_check_cell_place [t, e, p] = .er ⟨"InvalidEvent", none⟩ := by
  unfold d_check_cell_place m_check_cell_place
  simp [y_fnD, y_fnP, st0, stP, y_eVa, y_lcK, noOwn, wipeR, unw, pAll, pAny, bools, pSl, Fl.cutD, sIxN, sIxS, tset, tsets, y_asgK, at_0, at_1, at_2, at_3, at_4, at_5, ownAt, y_eCallPa, y_callPKa, List.replicate, h, he, sRaise]
theorem chk_p {t e p : PyData} (h : d_is_table [t] = .ok (.bool true)) (he : qNotInX e k_EVENTS = some false) (hp : qNotInX p k_MOVING = some true) : d_check_cell_place [t, e, p] = .er ⟨"InvalidPlace", none⟩ := by
  unfold d_check_cell_place m_check_cell_place
  simp [y_fnD, y_fnP, st0, stP, y_eVa, y_lcK, noOwn, wipeR, unw, pAll, pAny, bools, pSl, Fl.cutD, sIxN, sIxS, tset, tsets, y_asgK, at_0, at_1, at_2, at_3, at_4, at_5, ownAt, y_eCallPa, y_callPKa, List.replicate, h, he, hp, sRaise]
theorem of_er {t e p : PyData} {x : ExcD} (h : d_check_cell_place [t, e, p] = .er x) : d_cell_of [t, e, p] = .er x := by
  unfold d_cell_of m_cell_of
  simp [y_fnD, y_fnP, st0, stP, y_eVa, y_lcK, noOwn, wipeR, unw, pAll, pAny, bools, pSl, Fl.cutD, sIxN, sIxS, tset, tsets, y_asgK, at_0, at_1, at_2, at_3, at_4, at_5, ownAt, y_eCallPa, y_callPKa, List.replicate, h]
theorem of_ok {t e p y : PyData} (h : d_check_cell_place [t, e, p] = .ok .none) (h2 : d_cell_at [t, e, p] = .ok y) : d_cell_of [t, e, p] = .ok y := by
  unfold d_cell_of m_cell_of
  simp [y_fnD, y_fnP, st0, stP, y_eVa, y_lcK, noOwn, wipeR, unw, pAll, pAny, bools, pSl, Fl.cutD, sIxN, sIxS, tset, tsets, y_asgK, at_0, at_1, at_2, at_3, at_4, at_5, ownAt, y_eCallPa, y_callPKa, List.replicate, h, h2]
def wcA : Rho → SOut := (sExpr (eCall 3 d_check_cell_place (aCons (eV 0) (aCons (eV 1) (aCons (eV 2) aNil)))))
def wcB : Rho → SOut := (sIf (eNot (eTru (eCall 1 d_is_cell (aCons (eV 3) aNil)))) (sRaise "InvalidCell") sNil)
def wcC : Rho → SOut := (sSeq (sNest 4 5 (iTpl (eSl (eV 0) (some (eC (.int 1))) none)) (eV 3) (eIdxG l_EVENTS (aCons (eV 1) aNil)) (eIdxG l_MOVING (aCons (eV 2) aNil))) (sRet (eTup (aCons (eOp pIx (eV 0) (eC (.int 0))) (aStar (eLc (.nm 5) (iLst (eV 4)) eYes (eFun pTuple (aCons (eV 5) aNil)) [5]) aNil)))))
theorem with_eq : m_with_cell = sSeq wcA (sSeq wcB wcC) := rfl
theorem wcA_er {t e p x : PyData} {y : ExcD} (h : d_check_cell_place [t, e, p] = .er y) : wcA [sd t, sd e, sd p, sd x, none, none] = .er y [sd t, sd e, sd p, sd x, none, none] := by
  unfold wcA
  simp [y_fnD, y_fnP, st0, stP, y_eVa, y_lcK, noOwn, wipeR, unw, pAll, pAny, bools, pSl, Fl.cutD, sIxN, sIxS, tset, tsets, y_asgK, at_0, at_1, at_2, at_3, at_4, at_5, ownAt, y_eCallPa, y_callPKa, List.replicate, h]
theorem wcA_ok {t e p x : PyData} (h : d_check_cell_place [t, e, p] = .ok .none) : wcA [sd t, sd e, sd p, sd x, none, none] = .nx [sd t, sd e, sd p, sd x, none, none] := by
  unfold wcA
  simp [y_fnD, y_fnP, st0, stP, y_eVa, y_lcK, noOwn, wipeR, unw, pAll, pAny, bools, pSl, Fl.cutD, sIxN, sIxS, tset, tsets, y_asgK, at_0, at_1, at_2, at_3, at_4, at_5, ownAt, y_eCallPa, y_callPKa, List.replicate, h]
theorem with_er {t e p x : PyData} {y : ExcD} (h : d_check_cell_place [t, e, p] = .er y) : d_with_cell [t, e, p, x] = .er y := by
  unfold d_with_cell
  rw [y_fnD, with_eq]
  show (sSeq wcA _ [sd t, sd e, sd p, sd x, none, none]).fn = _
  rw [x_sSeq, wcA_er h]
  rfl
theorem with_c {t e p x : PyData} (h : d_check_cell_place [t, e, p] = .ok .none) (hx : d_is_cell [x] = .ok (.bool false)) : d_with_cell [t, e, p, x] = .er ⟨"InvalidCell", none⟩ := by
  unfold d_with_cell
  rw [y_fnD, with_eq]
  show (sSeq wcA _ [sd t, sd e, sd p, sd x, none, none]).fn = _
  rw [x_sSeq, wcA_ok h, on_nx, x_sSeq]
  unfold wcB
  simp [y_fnD, y_fnP, st0, stP, y_eVa, y_lcK, noOwn, wipeR, unw, pAll, pAny, bools, pSl, Fl.cutD, sIxN, sIxS, tset, tsets, y_asgK, at_0, at_1, at_2, at_3, at_4, at_5, ownAt, y_eCallPa, y_callPKa, List.replicate, hx, sRaise]
theorem with_ok {t e p x y : PyData} {ρ : Rho} (h : d_check_cell_place [t, e, p] = .ok .none) (hx : d_is_cell [x] = .ok (.bool true)) (h2 : wcC [sd t, sd e, sd p, sd x, none, none] = .rt y ρ) : d_with_cell [t, e, p, x] = .ok y := by
  have hB : wcB [sd t, sd e, sd p, sd x, none, none] = .nx [sd t, sd e, sd p, sd x, none, none] := by
    unfold wcB
    simp [y_fnD, y_fnP, st0, stP, y_eVa, y_lcK, noOwn, wipeR, unw, pAll, pAny, bools, pSl, Fl.cutD, sIxN, sIxS, tset, tsets, y_asgK, at_0, at_1, at_2, at_3, at_4, at_5, ownAt, y_eCallPa, y_callPKa, List.replicate, hx]
  unfold d_with_cell
  rw [y_fnD, with_eq]
  show (sSeq wcA _ [sd t, sd e, sd p, sd x, none, none]).fn = _
  rw [x_sSeq, wcA_ok h, on_nx, x_sSeq, hB, on_nx, h2]
  rfl
/-- the four errors, and the words that the law has for them -/
inductive Nm : Str → Str → Prop
  | t : Nm "InvalidTable" "table"
  | e : Nm "InvalidEvent" "event"
  | p : Nm "InvalidPlace" "place"
  | c : Nm "InvalidCell" "cell"
theorem nm_word {n w : Str} (h : Nm n w) : nsX.contains n = true ∧ r__law_word (excD n .none) = some (.str w) := by
  cases h
  · exact ⟨by kernel_rfl, by kernel_rfl⟩
  · exact ⟨by kernel_rfl, by kernel_rfl⟩
  · exact ⟨by kernel_rfl, by kernel_rfl⟩
  · exact ⟨by kernel_rfl, by kernel_rfl⟩
theorem word_at {n w : Str} {fb : Rho → Out} {ρ ρ1 : Rho} (N : Nm n w) (h : fb ρ = .er ⟨n, none⟩ ρ1) : eWord nsX r__law_word fb ρ = .ok (.str w) ρ1 := by
  obtain ⟨h1, h2⟩ := nm_word N
  have h2' : r__law_word (excD n (fldD none)) = some (.str w) := h2
  unfold eWord
  rw [h]
  dsimp only
  rw [if_pos h1, h2']
def wordBody (fb1 fb2 : Rho → Out) (w : Str) : Rho → SOut := sSeq (sSetO 7 (eLst (aCons (eWord nsX r__law_word fb1) (aCons (eC (.str "")) aNil)))) (sSeq (sSetIx 7 (eC (.int 1)) (eWord nsX r__law_word fb2)) (sIf (eCmp qNe (eV 7) (eOp pMul (eLst (aCons (eC (.str w)) aNil)) (eC (.int 2)))) (sRet (eC (.bool false))) sNil))
theorem same2 {n w : Str} (N : Nm n w) : qNe (.list [.str w, .str w]) (.list [.str w, .str w]) = some false := by
  cases N <;> kernel_rfl
theorem word_body {n w : Str} {fb1 fb2 : Rho → Out} {p0 p1 p2 p3 p4 p5 p6 x7 p8 p9 p10 p11 : Option Fl.Arg} (N : Nm n w) (h1 : fb1 [p0, p1, p2, p3, p4, p5, p6, x7, p8, p9, p10, p11] = .er ⟨n, none⟩ [p0, p1, p2, p3, p4, p5, p6, x7, p8, p9, p10, p11])
    (h2 : fb2 [p0, p1, p2, p3, p4, p5, p6, some (.o [.str w, .str ""]), p8, p9, p10, p11] = .er ⟨n, none⟩ [p0, p1, p2, p3, p4, p5, p6, some (.o [.str w, .str ""]), p8, p9, p10, p11]) :
    wordBody fb1 fb2 w [p0, p1, p2, p3, p4, p5, p6, x7, p8, p9, p10, p11] = .nx [p0, p1, p2, p3, p4, p5, p6, sd (.list [.str w, .str w]), p8, p9, p10, p11] := by
  have s1 : sSetO 7 (eLst (aCons (eWord nsX r__law_word fb1) (aCons (eC (.str "")) aNil))) [p0, p1, p2, p3, p4, p5, p6, x7, p8, p9, p10, p11] = .nx [p0, p1, p2, p3, p4, p5, p6, some (.o [.str w, .str ""]), p8, p9, p10, p11] := by
    unfold sSetO
    rw [x_bndS, y_eLst, x_aCons, word_at N h1, goA_ok, x_consK]
    rfl
  have s2 : sSetIx 7 (eC (.int 1)) (eWord nsX r__law_word fb2) [p0, p1, p2, p3, p4, p5, p6, some (.o [.str w, .str ""]), p8, p9, p10, p11] = .nx [p0, p1, p2, p3, p4, p5, p6, some (.o [.str w, .str w]), p8, p9, p10, p11] := by
    rw [set_at (i := 7) (xs0 := [.str w, .str ""]) (xs := [.str w, .str ""]) (word_at N h2) rfl (x_eC (d := .int 1)) rfl (by decide) (by simp)]
    rfl
  have s3 : (eCmp qNe (eV 7) (eOp pMul (eLst (aCons (eC (.str w)) aNil)) (eC (.int 2)))) [p0, p1, p2, p3, p4, p5, p6, some (.o [.str w, .str w]), p8, p9, p10, p11] = .ok (.bool false) [p0, p1, p2, p3, p4, p5, p6, sd (.list [.str w, .str w]), p8, p9, p10, p11] := by
    rw [x_eCmp]
    show (Out.ok (.list [.str w, .str w]) _).go _ = _
    rw [go_ok, x_cmK]
    show (Out.ok (.list [.str w, .str w]) _).go _ = _
    rw [go_ok, x_cmK2, same2 N]
    rfl
  unfold wordBody
  rw [x_sSeq, s1, on_nx, x_sSeq, s2, on_nx, x_sIf, s3]
  rfl
end Lw
set_option Elab.async false
set_option autoImplicit false
set_option linter.all false
set_option maxRecDepth 100000
set_option maxHeartbeats 4000000
namespace Lw
open PySem PySem.Spec PyProof.Rows L2 Fl
def crB1 : Rho → SOut := (sPar3 false false false 9 10 11 (eOp pIx (eLst (aCons (eC (.str "begin")) (aCons (eC (.str "good")) (aCons (eC (.str "bad")) aNil)))) (eV 2)) (eOp pIx (eLst (aCons (eC (.str "new")) (aCons (eC (.str "going")) aNil))) (eV 6)) (eCallP 1 0 d__law_cell aNil))
def crB2 : Rho → SOut := (sIf (eCmp qNe (eCall 3 d_cell_of (aCons (eV 1) (aCons (eV 9) (aCons (eV 10) aNil)))) (eOp pIx (eOp pIx (eV 1) (eOp pAdd (eC (.int 1)) (eV 2))) (eV 6))) (sRet (eC (.bool false))) sNil)
def crB3 : Rho → SOut := (sSet 8 (eIf (eCmp qEq (eV 6) (eC (.int 0))) (eTup (aCons (eV 11) (aCons (eOp pIx (eOp pIx (eV 1) (eOp pAdd (eC (.int 1)) (eV 2))) (eC (.int 1))) aNil))) (eTup (aCons (eOp pIx (eOp pIx (eV 1) (eOp pAdd (eC (.int 1)) (eV 2))) (eC (.int 0))) (aCons (eV 11) aNil)))))
def crB40 : Rho → Out := (eOp pAdd (eOp pAdd (eSl (eV 1) none (some (eOp pAdd (eC (.int 1)) (eV 2)))) (eTup (aCons (eV 8) aNil))) (eSl (eV 1) (some (eOp pAdd (eC (.int 2)) (eV 2))) none))
def crB4 : Rho → SOut := (sIf (eCmp qNe (eFun pRepr (aCons (eCall 4 d_with_cell (aCons (eV 1) (aCons (eV 9) (aCons (eV 10) (aCons (eV 11) aNil))))) aNil)) (eFun pRepr (aCons crB40 aNil))) (sRet (eC (.bool false))) sNil)
def crBody : Rho → SOut := sSeq crB1 (sSeq crB2 (sSeq crB3 crB4))
theorem qNe_str {s : Str} : qNe (.str s) (.str s) = some false := by simp [qNe, ok50, PyData.plain, PyData.depth, PyData.eqv]
theorem cell_self_all : (cellL.all fun x => match qNe x x with | some b => !b | none => false) = true := by kernel_rfl
theorem cell_self {x : PyData} (h : x ∈ cellL) : qNe x x = some false := by
  have g := all_of cell_self_all h
  cases e : qNe x x with
  | none => rw [e] at g; cases g
  | some b => rw [e] at g; cases b <;> simp at g ⊢
theorem y_sPar3 {m1 m2 m3 : Bool} {i j l : Nat} {fa fb fc : Rho → Out} {ρ : Rho} : sPar3 m1 m2 m3 i j l fa fb fc ρ = (fa ρ).goS fun d1 r1 => (fb r1).goS fun d2 r2 => (fc r2).goS fun d3 r3 => (match putM m1 i d1 r3 with
  | none => .no
  | some ρ1 => match putM m2 j d2 ρ1 with
    | none => .no
    | some ρ2 => match putM m3 l d3 ρ2 with
      | none => .no
      | some ρ3 => .nx ρ3) := rfl
section
variable {c : List Int} {k v : Int} {w a1 a2 b1 b2 c1 c2 : PyData}
/-- a table that is drawn -/
structure GoodTab (w a1 a2 b1 b2 c1 c2 : PyData) : Prop where
  hw : w ∈ wordL
  h1 : a1 ∈ cellL
  h2 : a2 ∈ cellL
  h3 : b1 ∈ cellL
  h4 : b2 ∈ cellL
  h5 : c1 ∈ cellL
  h6 : c2 ∈ cellL
theorem GoodTab.row {x y : PyData} (hx : x ∈ cellL) (hy : y ∈ cellL) (d : Bool) : RowC (.tuple [x, y]) d := rowC2 (celC_of hx d) (celC_of hy d)
theorem GoodTab.repr (G : GoodTab w a1 a2 b1 b2 c1 c2) : pRepr [tabD w a1 a2 b1 b2 c1 c2] = some (.str (tabD w a1 a2 b1 b2 c1 c2).shown) := by
  obtain ⟨W, sw, dw, lw, _, _⟩ := word_of G.hw
  exact repr_tup (c := true) (mem4 (cm_d sw dw) (rowCm (GoodTab.row G.h1 G.h2 true)) (rowCm (GoodTab.row G.h3 G.h4 true)) (rowCm (GoodTab.row G.h5 G.h6 true))) (by simp)
theorem GoodTab.tab (G : GoodTab w a1 a2 b1 b2 c1 c2) : TabF' (tabD w a1 a2 b1 b2 c1 c2) true := table4 (word_of G.hw).1 (row2 (cel_of G.h1).1 (cel_of G.h2).1) (row2 (cel_of G.h3).1 (cel_of G.h4).1) (row2 (cel_of G.h5).1 (cel_of G.h6).1)
abbrev cr (c : List Int) (k v : Int) (t : PyData) (x2 x3 x4 x5 x6 x7 x8 x9 x10 x11 : Option Fl.Arg) : Rho := [po c k v, sd t, x2, x3, x4, x5, x6, x7, x8, x9, x10, x11]
theorem crBody_00 (G : GoodTab w a1 a2 b1 b2 c1 c2) (x8 x9 x10 x11 : Option Fl.Arg) (hk : 0 ≤ k) (hk2 : k < 2 ^ 57) (hv : 0 ≤ v) : ∃ k' v' y8 y9 y10 y11, k ≤ k' ∧ k' ≤ k + 2 ∧ 0 ≤ v' ∧ crBody (cr c k v (tabD w a1 a2 b1 b2 c1 c2) (sd (.int 0)) none none none (sd (.int 0)) none x8 x9 x10 x11) = .nx (cr c k' v' (tabD w a1 a2 b1 b2 c1 c2) (sd (.int 0)) none none none (sd (.int 0)) none y8 y9 y10 y11) := by
  obtain ⟨x, k1, v1, hx, l1, l2, w1, e1⟩ := cell_at0 (c := c) (r := []) hk (by omega) hv
  refine ⟨k1, v1, sd (.tuple [x, a2]), (sd (.str "begin")), (sd (.str "new")), sd x, l1, l2, w1, ?_⟩
  have s1 : crB1 (cr c k v (tabD w a1 a2 b1 b2 c1 c2) (sd (.int 0)) none none none (sd (.int 0)) none x8 x9 x10 x11) = .nx (cr c k1 v1 (tabD w a1 a2 b1 b2 c1 c2) (sd (.int 0)) none none none (sd (.int 0)) none x8 (sd (.str "begin")) (sd (.str "new")) (sd x)) := by
    unfold crB1
    rw [y_sPar3]
    show (Out.ok (.str "begin") _).goS _ = _
    rw [goS_ok]
    show (Out.ok (.str "new") _).goS _ = _
    rw [goS_ok, e1, goS_ok]
    rfl
  have ck : d_check_cell_place [(tabD w a1 a2 b1 b2 c1 c2), .str "begin", .str "new"] = .ok .none := chk_ok G.tab.p (by kernel_rfl) (by kernel_rfl)
  have c1_ : d_cell_of [(tabD w a1 a2 b1 b2 c1 c2), .str "begin", .str "new"] = .ok a1 := of_ok ck (by kernel_rfl)
  have s2 : crB2 (cr c k1 v1 (tabD w a1 a2 b1 b2 c1 c2) (sd (.int 0)) none none none (sd (.int 0)) none x8 (sd (.str "begin")) (sd (.str "new")) (sd x)) = .nx (cr c k1 v1 (tabD w a1 a2 b1 b2 c1 c2) (sd (.int 0)) none none none (sd (.int 0)) none x8 (sd (.str "begin")) (sd (.str "new")) (sd x)) := by
    have z1 : (eCall 3 d_cell_of (aCons (eV 1) (aCons (eV 9) (aCons (eV 10) aNil)))) (cr c k1 v1 (tabD w a1 a2 b1 b2 c1 c2) (sd (.int 0)) none none none (sd (.int 0)) none x8 (sd (.str "begin")) (sd (.str "new")) (sd x)) = .ok a1 (cr c k1 v1 (tabD w a1 a2 b1 b2 c1 c2) (sd (.int 0)) none none none (sd (.int 0)) none x8 (sd (.str "begin")) (sd (.str "new")) (sd x)) := by
      rw [y_eCall]
      show (AOut.ok [(tabD w a1 a2 b1 b2 c1 c2), .str "begin", .str "new"] _).go _ = _
      rw [goL_ok, y_callK (n := 3) rfl, c1_]
      rfl
    unfold crB2
    rw [x_sIf, x_eCmp, z1, go_ok, x_cmK]
    show ((Out.ok a1 _).go _).goS _ = _
    rw [go_ok, x_cmK2, cell_self G.h1]
    rfl
  have s3 : crB3 (cr c k1 v1 (tabD w a1 a2 b1 b2 c1 c2) (sd (.int 0)) none none none (sd (.int 0)) none x8 (sd (.str "begin")) (sd (.str "new")) (sd x)) = .nx (cr c k1 v1 (tabD w a1 a2 b1 b2 c1 c2) (sd (.int 0)) none none none (sd (.int 0)) none (sd (.tuple [x, a2])) (sd (.str "begin")) (sd (.str "new")) (sd x)) := by kernel_rfl
  have c2_ : d_with_cell [(tabD w a1 a2 b1 b2 c1 c2), .str "begin", .str "new", x] = .ok (tabD w x a2 b1 b2 c1 c2) := with_ok (ρ := [sd (tabD w a1 a2 b1 b2 c1 c2), sd (.str "begin"), sd (.str "new"), sd x, sd (.list [.list [x, a2], .list [b1, b2], .list [c1, c2]]), none]) ck (cel_of hx).1.p (by kernel_rfl)
  have s4 : crB4 (cr c k1 v1 (tabD w a1 a2 b1 b2 c1 c2) (sd (.int 0)) none none none (sd (.int 0)) none (sd (.tuple [x, a2])) (sd (.str "begin")) (sd (.str "new")) (sd x)) = .nx (cr c k1 v1 (tabD w a1 a2 b1 b2 c1 c2) (sd (.int 0)) none none none (sd (.int 0)) none (sd (.tuple [x, a2])) (sd (.str "begin")) (sd (.str "new")) (sd x)) := by
    have z1 : (eCall 4 d_with_cell (aCons (eV 1) (aCons (eV 9) (aCons (eV 10) (aCons (eV 11) aNil))))) (cr c k1 v1 (tabD w a1 a2 b1 b2 c1 c2) (sd (.int 0)) none none none (sd (.int 0)) none (sd (.tuple [x, a2])) (sd (.str "begin")) (sd (.str "new")) (sd x)) = .ok (tabD w x a2 b1 b2 c1 c2) (cr c k1 v1 (tabD w a1 a2 b1 b2 c1 c2) (sd (.int 0)) none none none (sd (.int 0)) none (sd (.tuple [x, a2])) (sd (.str "begin")) (sd (.str "new")) (sd x)) := by
      rw [y_eCall]
      show (AOut.ok [(tabD w a1 a2 b1 b2 c1 c2), .str "begin", .str "new", x] _).go _ = _
      rw [goL_ok, y_callK (n := 4) rfl, c2_]
      rfl
    have z2 : crB40 (cr c k1 v1 (tabD w a1 a2 b1 b2 c1 c2) (sd (.int 0)) none none none (sd (.int 0)) none (sd (.tuple [x, a2])) (sd (.str "begin")) (sd (.str "new")) (sd x)) = .ok (tabD w x a2 b1 b2 c1 c2) (cr c k1 v1 (tabD w a1 a2 b1 b2 c1 c2) (sd (.int 0)) none none none (sd (.int 0)) none (sd (.tuple [x, a2])) (sd (.str "begin")) (sd (.str "new")) (sd x)) := by kernel_rfl
    have rp := GoodTab.repr (w := w) (⟨G.hw, hx, G.h2, G.h3, G.h4, G.h5, G.h6⟩ : GoodTab w x a2 b1 b2 c1 c2)
    unfold crB4
    rw [x_sIf, x_eCmp, x_eFun, x_aCons, z1, goA_ok, x_consK, x_aNil, put_ok, goL_ok, x_fnK, rp, x_lift_some, go_ok, x_cmK, x_eFun, x_aCons, z2, goA_ok, x_consK, x_aNil, put_ok, goL_ok, x_fnK, rp, x_lift_some, go_ok, x_cmK2, qNe_str]
    rfl
  unfold crBody
  rw [x_sSeq, s1, on_nx, x_sSeq, s2, on_nx, x_sSeq, s3, on_nx, s4]
theorem crBody_01 (G : GoodTab w a1 a2 b1 b2 c1 c2) (x8 x9 x10 x11 : Option Fl.Arg) (hk : 0 ≤ k) (hk2 : k < 2 ^ 57) (hv : 0 ≤ v) : ∃ k' v' y8 y9 y10 y11, k ≤ k' ∧ k' ≤ k + 2 ∧ 0 ≤ v' ∧ crBody (cr c k v (tabD w a1 a2 b1 b2 c1 c2) (sd (.int 0)) none none none (sd (.int 1)) none x8 x9 x10 x11) = .nx (cr c k' v' (tabD w a1 a2 b1 b2 c1 c2) (sd (.int 0)) none none none (sd (.int 1)) none y8 y9 y10 y11) := by
  obtain ⟨x, k1, v1, hx, l1, l2, w1, e1⟩ := cell_at0 (c := c) (r := []) hk (by omega) hv
  refine ⟨k1, v1, sd (.tuple [a1, x]), (sd (.str "begin")), (sd (.str "going")), sd x, l1, l2, w1, ?_⟩
  have s1 : crB1 (cr c k v (tabD w a1 a2 b1 b2 c1 c2) (sd (.int 0)) none none none (sd (.int 1)) none x8 x9 x10 x11) = .nx (cr c k1 v1 (tabD w a1 a2 b1 b2 c1 c2) (sd (.int 0)) none none none (sd (.int 1)) none x8 (sd (.str "begin")) (sd (.str "going")) (sd x)) := by
    unfold crB1
    rw [y_sPar3]
    show (Out.ok (.str "begin") _).goS _ = _
    rw [goS_ok]
    show (Out.ok (.str "going") _).goS _ = _
    rw [goS_ok, e1, goS_ok]
    rfl
  have ck : d_check_cell_place [(tabD w a1 a2 b1 b2 c1 c2), .str "begin", .str "going"] = .ok .none := chk_ok G.tab.p (by kernel_rfl) (by kernel_rfl)
  have c1_ : d_cell_of [(tabD w a1 a2 b1 b2 c1 c2), .str "begin", .str "going"] = .ok a2 := of_ok ck (by kernel_rfl)
  have s2 : crB2 (cr c k1 v1 (tabD w a1 a2 b1 b2 c1 c2) (sd (.int 0)) none none none (sd (.int 1)) none x8 (sd (.str "begin")) (sd (.str "going")) (sd x)) = .nx (cr c k1 v1 (tabD w a1 a2 b1 b2 c1 c2) (sd (.int 0)) none none none (sd (.int 1)) none x8 (sd (.str "begin")) (sd (.str "going")) (sd x)) := by
    have z1 : (eCall 3 d_cell_of (aCons (eV 1) (aCons (eV 9) (aCons (eV 10) aNil)))) (cr c k1 v1 (tabD w a1 a2 b1 b2 c1 c2) (sd (.int 0)) none none none (sd (.int 1)) none x8 (sd (.str "begin")) (sd (.str "going")) (sd x)) = .ok a2 (cr c k1 v1 (tabD w a1 a2 b1 b2 c1 c2) (sd (.int 0)) none none none (sd (.int 1)) none x8 (sd (.str "begin")) (sd (.str "going")) (sd x)) := by
      rw [y_eCall]
      show (AOut.ok [(tabD w a1 a2 b1 b2 c1 c2), .str "begin", .str "going"] _).go _ = _
      rw [goL_ok, y_callK (n := 3) rfl, c1_]
      rfl
    unfold crB2
    rw [x_sIf, x_eCmp, z1, go_ok, x_cmK]
    show ((Out.ok a2 _).go _).goS _ = _
    rw [go_ok, x_cmK2, cell_self G.h2]
    rfl
  have s3 : crB3 (cr c k1 v1 (tabD w a1 a2 b1 b2 c1 c2) (sd (.int 0)) none none none (sd (.int 1)) none x8 (sd (.str "begin")) (sd (.str "going")) (sd x)) = .nx (cr c k1 v1 (tabD w a1 a2 b1 b2 c1 c2) (sd (.int 0)) none none none (sd (.int 1)) none (sd (.tuple [a1, x])) (sd (.str "begin")) (sd (.str "going")) (sd x)) := by kernel_rfl
  have c2_ : d_with_cell [(tabD w a1 a2 b1 b2 c1 c2), .str "begin", .str "going", x] = .ok (tabD w a1 x b1 b2 c1 c2) := with_ok (ρ := [sd (tabD w a1 a2 b1 b2 c1 c2), sd (.str "begin"), sd (.str "going"), sd x, sd (.list [.list [a1, x], .list [b1, b2], .list [c1, c2]]), none]) ck (cel_of hx).1.p (by kernel_rfl)
  have s4 : crB4 (cr c k1 v1 (tabD w a1 a2 b1 b2 c1 c2) (sd (.int 0)) none none none (sd (.int 1)) none (sd (.tuple [a1, x])) (sd (.str "begin")) (sd (.str "going")) (sd x)) = .nx (cr c k1 v1 (tabD w a1 a2 b1 b2 c1 c2) (sd (.int 0)) none none none (sd (.int 1)) none (sd (.tuple [a1, x])) (sd (.str "begin")) (sd (.str "going")) (sd x)) := by
    have z1 : (eCall 4 d_with_cell (aCons (eV 1) (aCons (eV 9) (aCons (eV 10) (aCons (eV 11) aNil))))) (cr c k1 v1 (tabD w a1 a2 b1 b2 c1 c2) (sd (.int 0)) none none none (sd (.int 1)) none (sd (.tuple [a1, x])) (sd (.str "begin")) (sd (.str "going")) (sd x)) = .ok (tabD w a1 x b1 b2 c1 c2) (cr c k1 v1 (tabD w a1 a2 b1 b2 c1 c2) (sd (.int 0)) none none none (sd (.int 1)) none (sd (.tuple [a1, x])) (sd (.str "begin")) (sd (.str "going")) (sd x)) := by
      rw [y_eCall]
      show (AOut.ok [(tabD w a1 a2 b1 b2 c1 c2), .str "begin", .str "going", x] _).go _ = _
      rw [goL_ok, y_callK (n := 4) rfl, c2_]
      rfl
    have z2 : crB40 (cr c k1 v1 (tabD w a1 a2 b1 b2 c1 c2) (sd (.int 0)) none none none (sd (.int 1)) none (sd (.tuple [a1, x])) (sd (.str "begin")) (sd (.str "going")) (sd x)) = .ok (tabD w a1 x b1 b2 c1 c2) (cr c k1 v1 (tabD w a1 a2 b1 b2 c1 c2) (sd (.int 0)) none none none (sd (.int 1)) none (sd (.tuple [a1, x])) (sd (.str "begin")) (sd (.str "going")) (sd x)) := by kernel_rfl
    have rp := GoodTab.repr (w := w) (⟨G.hw, G.h1, hx, G.h3, G.h4, G.h5, G.h6⟩ : GoodTab w a1 x b1 b2 c1 c2)
    unfold crB4
    rw [x_sIf, x_eCmp, x_eFun, x_aCons, z1, goA_ok, x_consK, x_aNil, put_ok, goL_ok, x_fnK, rp, x_lift_some, go_ok, x_cmK, x_eFun, x_aCons, z2, goA_ok, x_consK, x_aNil, put_ok, goL_ok, x_fnK, rp, x_lift_some, go_ok, x_cmK2, qNe_str]
    rfl
  unfold crBody
  rw [x_sSeq, s1, on_nx, x_sSeq, s2, on_nx, x_sSeq, s3, on_nx, s4]
theorem crBody_10 (G : GoodTab w a1 a2 b1 b2 c1 c2) (x8 x9 x10 x11 : Option Fl.Arg) (hk : 0 ≤ k) (hk2 : k < 2 ^ 57) (hv : 0 ≤ v) : ∃ k' v' y8 y9 y10 y11, k ≤ k' ∧ k' ≤ k + 2 ∧ 0 ≤ v' ∧ crBody (cr c k v (tabD w a1 a2 b1 b2 c1 c2) (sd (.int 1)) none none none (sd (.int 0)) none x8 x9 x10 x11) = .nx (cr c k' v' (tabD w a1 a2 b1 b2 c1 c2) (sd (.int 1)) none none none (sd (.int 0)) none y8 y9 y10 y11) := by
  obtain ⟨x, k1, v1, hx, l1, l2, w1, e1⟩ := cell_at0 (c := c) (r := []) hk (by omega) hv
  refine ⟨k1, v1, sd (.tuple [x, b2]), (sd (.str "good")), (sd (.str "new")), sd x, l1, l2, w1, ?_⟩
  have s1 : crB1 (cr c k v (tabD w a1 a2 b1 b2 c1 c2) (sd (.int 1)) none none none (sd (.int 0)) none x8 x9 x10 x11) = .nx (cr c k1 v1 (tabD w a1 a2 b1 b2 c1 c2) (sd (.int 1)) none none none (sd (.int 0)) none x8 (sd (.str "good")) (sd (.str "new")) (sd x)) := by
    unfold crB1
    rw [y_sPar3]
    show (Out.ok (.str "good") _).goS _ = _
    rw [goS_ok]
    show (Out.ok (.str "new") _).goS _ = _
    rw [goS_ok, e1, goS_ok]
    rfl
  have ck : d_check_cell_place [(tabD w a1 a2 b1 b2 c1 c2), .str "good", .str "new"] = .ok .none := chk_ok G.tab.p (by kernel_rfl) (by kernel_rfl)
  have c1_ : d_cell_of [(tabD w a1 a2 b1 b2 c1 c2), .str "good", .str "new"] = .ok b1 := of_ok ck (by kernel_rfl)
  have s2 : crB2 (cr c k1 v1 (tabD w a1 a2 b1 b2 c1 c2) (sd (.int 1)) none none none (sd (.int 0)) none x8 (sd (.str "good")) (sd (.str "new")) (sd x)) = .nx (cr c k1 v1 (tabD w a1 a2 b1 b2 c1 c2) (sd (.int 1)) none none none (sd (.int 0)) none x8 (sd (.str "good")) (sd (.str "new")) (sd x)) := by
    have z1 : (eCall 3 d_cell_of (aCons (eV 1) (aCons (eV 9) (aCons (eV 10) aNil)))) (cr c k1 v1 (tabD w a1 a2 b1 b2 c1 c2) (sd (.int 1)) none none none (sd (.int 0)) none x8 (sd (.str "good")) (sd (.str "new")) (sd x)) = .ok b1 (cr c k1 v1 (tabD w a1 a2 b1 b2 c1 c2) (sd (.int 1)) none none none (sd (.int 0)) none x8 (sd (.str "good")) (sd (.str "new")) (sd x)) := by
      rw [y_eCall]
      show (AOut.ok [(tabD w a1 a2 b1 b2 c1 c2), .str "good", .str "new"] _).go _ = _
      rw [goL_ok, y_callK (n := 3) rfl, c1_]
      rfl
    unfold crB2
    rw [x_sIf, x_eCmp, z1, go_ok, x_cmK]
    show ((Out.ok b1 _).go _).goS _ = _
    rw [go_ok, x_cmK2, cell_self G.h3]
    rfl
  have s3 : crB3 (cr c k1 v1 (tabD w a1 a2 b1 b2 c1 c2) (sd (.int 1)) none none none (sd (.int 0)) none x8 (sd (.str "good")) (sd (.str "new")) (sd x)) = .nx (cr c k1 v1 (tabD w a1 a2 b1 b2 c1 c2) (sd (.int 1)) none none none (sd (.int 0)) none (sd (.tuple [x, b2])) (sd (.str "good")) (sd (.str "new")) (sd x)) := by kernel_rfl
  have c2_ : d_with_cell [(tabD w a1 a2 b1 b2 c1 c2), .str "good", .str "new", x] = .ok (tabD w a1 a2 x b2 c1 c2) := with_ok (ρ := [sd (tabD w a1 a2 b1 b2 c1 c2), sd (.str "good"), sd (.str "new"), sd x, sd (.list [.list [a1, a2], .list [x, b2], .list [c1, c2]]), none]) ck (cel_of hx).1.p (by kernel_rfl)
  have s4 : crB4 (cr c k1 v1 (tabD w a1 a2 b1 b2 c1 c2) (sd (.int 1)) none none none (sd (.int 0)) none (sd (.tuple [x, b2])) (sd (.str "good")) (sd (.str "new")) (sd x)) = .nx (cr c k1 v1 (tabD w a1 a2 b1 b2 c1 c2) (sd (.int 1)) none none none (sd (.int 0)) none (sd (.tuple [x, b2])) (sd (.str "good")) (sd (.str "new")) (sd x)) := by
    have z1 : (eCall 4 d_with_cell (aCons (eV 1) (aCons (eV 9) (aCons (eV 10) (aCons (eV 11) aNil))))) (cr c k1 v1 (tabD w a1 a2 b1 b2 c1 c2) (sd (.int 1)) none none none (sd (.int 0)) none (sd (.tuple [x, b2])) (sd (.str "good")) (sd (.str "new")) (sd x)) = .ok (tabD w a1 a2 x b2 c1 c2) (cr c k1 v1 (tabD w a1 a2 b1 b2 c1 c2) (sd (.int 1)) none none none (sd (.int 0)) none (sd (.tuple [x, b2])) (sd (.str "good")) (sd (.str "new")) (sd x)) := by
      rw [y_eCall]
      show (AOut.ok [(tabD w a1 a2 b1 b2 c1 c2), .str "good", .str "new", x] _).go _ = _
      rw [goL_ok, y_callK (n := 4) rfl, c2_]
      rfl
    have z2 : crB40 (cr c k1 v1 (tabD w a1 a2 b1 b2 c1 c2) (sd (.int 1)) none none none (sd (.int 0)) none (sd (.tuple [x, b2])) (sd (.str "good")) (sd (.str "new")) (sd x)) = .ok (tabD w a1 a2 x b2 c1 c2) (cr c k1 v1 (tabD w a1 a2 b1 b2 c1 c2) (sd (.int 1)) none none none (sd (.int 0)) none (sd (.tuple [x, b2])) (sd (.str "good")) (sd (.str "new")) (sd x)) := by kernel_rfl
    have rp := GoodTab.repr (w := w) (⟨G.hw, G.h1, G.h2, hx, G.h4, G.h5, G.h6⟩ : GoodTab w a1 a2 x b2 c1 c2)
    unfold crB4
    rw [x_sIf, x_eCmp, x_eFun, x_aCons, z1, goA_ok, x_consK, x_aNil, put_ok, goL_ok, x_fnK, rp, x_lift_some, go_ok, x_cmK, x_eFun, x_aCons, z2, goA_ok, x_consK, x_aNil, put_ok, goL_ok, x_fnK, rp, x_lift_some, go_ok, x_cmK2, qNe_str]
    rfl
  unfold crBody
  rw [x_sSeq, s1, on_nx, x_sSeq, s2, on_nx, x_sSeq, s3, on_nx, s4]
theorem crBody_11 (G : GoodTab w a1 a2 b1 b2 c1 c2) (x8 x9 x10 x11 : Option Fl.Arg) (hk : 0 ≤ k) (hk2 : k < 2 ^ 57) (hv : 0 ≤ v) : ∃ k' v' y8 y9 y10 y11, k ≤ k' ∧ k' ≤ k + 2 ∧ 0 ≤ v' ∧ crBody (cr c k v (tabD w a1 a2 b1 b2 c1 c2) (sd (.int 1)) none none none (sd (.int 1)) none x8 x9 x10 x11) = .nx (cr c k' v' (tabD w a1 a2 b1 b2 c1 c2) (sd (.int 1)) none none none (sd (.int 1)) none y8 y9 y10 y11) := by
  obtain ⟨x, k1, v1, hx, l1, l2, w1, e1⟩ := cell_at0 (c := c) (r := []) hk (by omega) hv
  refine ⟨k1, v1, sd (.tuple [b1, x]), (sd (.str "good")), (sd (.str "going")), sd x, l1, l2, w1, ?_⟩
  have s1 : crB1 (cr c k v (tabD w a1 a2 b1 b2 c1 c2) (sd (.int 1)) none none none (sd (.int 1)) none x8 x9 x10 x11) = .nx (cr c k1 v1 (tabD w a1 a2 b1 b2 c1 c2) (sd (.int 1)) none none none (sd (.int 1)) none x8 (sd (.str "good")) (sd (.str "going")) (sd x)) := by
    unfold crB1
    rw [y_sPar3]
    show (Out.ok (.str "good") _).goS _ = _
    rw [goS_ok]
    show (Out.ok (.str "going") _).goS _ = _
    rw [goS_ok, e1, goS_ok]
    rfl
  have ck : d_check_cell_place [(tabD w a1 a2 b1 b2 c1 c2), .str "good", .str "going"] = .ok .none := chk_ok G.tab.p (by kernel_rfl) (by kernel_rfl)
  have c1_ : d_cell_of [(tabD w a1 a2 b1 b2 c1 c2), .str "good", .str "going"] = .ok b2 := of_ok ck (by kernel_rfl)
  have s2 : crB2 (cr c k1 v1 (tabD w a1 a2 b1 b2 c1 c2) (sd (.int 1)) none none none (sd (.int 1)) none x8 (sd (.str "good")) (sd (.str "going")) (sd x)) = .nx (cr c k1 v1 (tabD w a1 a2 b1 b2 c1 c2) (sd (.int 1)) none none none (sd (.int 1)) none x8 (sd (.str "good")) (sd (.str "going")) (sd x)) := by
    have z1 : (eCall 3 d_cell_of (aCons (eV 1) (aCons (eV 9) (aCons (eV 10) aNil)))) (cr c k1 v1 (tabD w a1 a2 b1 b2 c1 c2) (sd (.int 1)) none none none (sd (.int 1)) none x8 (sd (.str "good")) (sd (.str "going")) (sd x)) = .ok b2 (cr c k1 v1 (tabD w a1 a2 b1 b2 c1 c2) (sd (.int 1)) none none none (sd (.int 1)) none x8 (sd (.str "good")) (sd (.str "going")) (sd x)) := by
      rw [y_eCall]
      show (AOut.ok [(tabD w a1 a2 b1 b2 c1 c2), .str "good", .str "going"] _).go _ = _
      rw [goL_ok, y_callK (n := 3) rfl, c1_]
      rfl
    unfold crB2
    rw [x_sIf, x_eCmp, z1, go_ok, x_cmK]
    show ((Out.ok b2 _).go _).goS _ = _
    rw [go_ok, x_cmK2, cell_self G.h4]
    rfl
  have s3 : crB3 (cr c k1 v1 (tabD w a1 a2 b1 b2 c1 c2) (sd (.int 1)) none none none (sd (.int 1)) none x8 (sd (.str "good")) (sd (.str "going")) (sd x)) = .nx (cr c k1 v1 (tabD w a1 a2 b1 b2 c1 c2) (sd (.int 1)) none none none (sd (.int 1)) none (sd (.tuple [b1, x])) (sd (.str "good")) (sd (.str "going")) (sd x)) := by kernel_rfl
  have c2_ : d_with_cell [(tabD w a1 a2 b1 b2 c1 c2), .str "good", .str "going", x] = .ok (tabD w a1 a2 b1 x c1 c2) := with_ok (ρ := [sd (tabD w a1 a2 b1 b2 c1 c2), sd (.str "good"), sd (.str "going"), sd x, sd (.list [.list [a1, a2], .list [b1, x], .list [c1, c2]]), none]) ck (cel_of hx).1.p (by kernel_rfl)
  have s4 : crB4 (cr c k1 v1 (tabD w a1 a2 b1 b2 c1 c2) (sd (.int 1)) none none none (sd (.int 1)) none (sd (.tuple [b1, x])) (sd (.str "good")) (sd (.str "going")) (sd x)) = .nx (cr c k1 v1 (tabD w a1 a2 b1 b2 c1 c2) (sd (.int 1)) none none none (sd (.int 1)) none (sd (.tuple [b1, x])) (sd (.str "good")) (sd (.str "going")) (sd x)) := by
    have z1 : (eCall 4 d_with_cell (aCons (eV 1) (aCons (eV 9) (aCons (eV 10) (aCons (eV 11) aNil))))) (cr c k1 v1 (tabD w a1 a2 b1 b2 c1 c2) (sd (.int 1)) none none none (sd (.int 1)) none (sd (.tuple [b1, x])) (sd (.str "good")) (sd (.str "going")) (sd x)) = .ok (tabD w a1 a2 b1 x c1 c2) (cr c k1 v1 (tabD w a1 a2 b1 b2 c1 c2) (sd (.int 1)) none none none (sd (.int 1)) none (sd (.tuple [b1, x])) (sd (.str "good")) (sd (.str "going")) (sd x)) := by
      rw [y_eCall]
      show (AOut.ok [(tabD w a1 a2 b1 b2 c1 c2), .str "good", .str "going", x] _).go _ = _
      rw [goL_ok, y_callK (n := 4) rfl, c2_]
      rfl
    have z2 : crB40 (cr c k1 v1 (tabD w a1 a2 b1 b2 c1 c2) (sd (.int 1)) none none none (sd (.int 1)) none (sd (.tuple [b1, x])) (sd (.str "good")) (sd (.str "going")) (sd x)) = .ok (tabD w a1 a2 b1 x c1 c2) (cr c k1 v1 (tabD w a1 a2 b1 b2 c1 c2) (sd (.int 1)) none none none (sd (.int 1)) none (sd (.tuple [b1, x])) (sd (.str "good")) (sd (.str "going")) (sd x)) := by kernel_rfl
    have rp := GoodTab.repr (w := w) (⟨G.hw, G.h1, G.h2, G.h3, hx, G.h5, G.h6⟩ : GoodTab w a1 a2 b1 x c1 c2)
    unfold crB4
    rw [x_sIf, x_eCmp, x_eFun, x_aCons, z1, goA_ok, x_consK, x_aNil, put_ok, goL_ok, x_fnK, rp, x_lift_some, go_ok, x_cmK, x_eFun, x_aCons, z2, goA_ok, x_consK, x_aNil, put_ok, goL_ok, x_fnK, rp, x_lift_some, go_ok, x_cmK2, qNe_str]
    rfl
  unfold crBody
  rw [x_sSeq, s1, on_nx, x_sSeq, s2, on_nx, x_sSeq, s3, on_nx, s4]
theorem crBody_20 (G : GoodTab w a1 a2 b1 b2 c1 c2) (x8 x9 x10 x11 : Option Fl.Arg) (hk : 0 ≤ k) (hk2 : k < 2 ^ 57) (hv : 0 ≤ v) : ∃ k' v' y8 y9 y10 y11, k ≤ k' ∧ k' ≤ k + 2 ∧ 0 ≤ v' ∧ crBody (cr c k v (tabD w a1 a2 b1 b2 c1 c2) (sd (.int 2)) none none none (sd (.int 0)) none x8 x9 x10 x11) = .nx (cr c k' v' (tabD w a1 a2 b1 b2 c1 c2) (sd (.int 2)) none none none (sd (.int 0)) none y8 y9 y10 y11) := by
  obtain ⟨x, k1, v1, hx, l1, l2, w1, e1⟩ := cell_at0 (c := c) (r := []) hk (by omega) hv
  refine ⟨k1, v1, sd (.tuple [x, c2]), (sd (.str "bad")), (sd (.str "new")), sd x, l1, l2, w1, ?_⟩
  have s1 : crB1 (cr c k v (tabD w a1 a2 b1 b2 c1 c2) (sd (.int 2)) none none none (sd (.int 0)) none x8 x9 x10 x11) = .nx (cr c k1 v1 (tabD w a1 a2 b1 b2 c1 c2) (sd (.int 2)) none none none (sd (.int 0)) none x8 (sd (.str "bad")) (sd (.str "new")) (sd x)) := by
    unfold crB1
    rw [y_sPar3]
    show (Out.ok (.str "bad") _).goS _ = _
    rw [goS_ok]
    show (Out.ok (.str "new") _).goS _ = _
    rw [goS_ok, e1, goS_ok]
    rfl
  have ck : d_check_cell_place [(tabD w a1 a2 b1 b2 c1 c2), .str "bad", .str "new"] = .ok .none := chk_ok G.tab.p (by kernel_rfl) (by kernel_rfl)
  have c1_ : d_cell_of [(tabD w a1 a2 b1 b2 c1 c2), .str "bad", .str "new"] = .ok c1 := of_ok ck (by kernel_rfl)
  have s2 : crB2 (cr c k1 v1 (tabD w a1 a2 b1 b2 c1 c2) (sd (.int 2)) none none none (sd (.int 0)) none x8 (sd (.str "bad")) (sd (.str "new")) (sd x)) = .nx (cr c k1 v1 (tabD w a1 a2 b1 b2 c1 c2) (sd (.int 2)) none none none (sd (.int 0)) none x8 (sd (.str "bad")) (sd (.str "new")) (sd x)) := by
    have z1 : (eCall 3 d_cell_of (aCons (eV 1) (aCons (eV 9) (aCons (eV 10) aNil)))) (cr c k1 v1 (tabD w a1 a2 b1 b2 c1 c2) (sd (.int 2)) none none none (sd (.int 0)) none x8 (sd (.str "bad")) (sd (.str "new")) (sd x)) = .ok c1 (cr c k1 v1 (tabD w a1 a2 b1 b2 c1 c2) (sd (.int 2)) none none none (sd (.int 0)) none x8 (sd (.str "bad")) (sd (.str "new")) (sd x)) := by
      rw [y_eCall]
      show (AOut.ok [(tabD w a1 a2 b1 b2 c1 c2), .str "bad", .str "new"] _).go _ = _
      rw [goL_ok, y_callK (n := 3) rfl, c1_]
      rfl
    unfold crB2
    rw [x_sIf, x_eCmp, z1, go_ok, x_cmK]
    show ((Out.ok c1 _).go _).goS _ = _
    rw [go_ok, x_cmK2, cell_self G.h5]
    rfl
  have s3 : crB3 (cr c k1 v1 (tabD w a1 a2 b1 b2 c1 c2) (sd (.int 2)) none none none (sd (.int 0)) none x8 (sd (.str "bad")) (sd (.str "new")) (sd x)) = .nx (cr c k1 v1 (tabD w a1 a2 b1 b2 c1 c2) (sd (.int 2)) none none none (sd (.int 0)) none (sd (.tuple [x, c2])) (sd (.str "bad")) (sd (.str "new")) (sd x)) := by kernel_rfl
  have c2_ : d_with_cell [(tabD w a1 a2 b1 b2 c1 c2), .str "bad", .str "new", x] = .ok (tabD w a1 a2 b1 b2 x c2) := with_ok (ρ := [sd (tabD w a1 a2 b1 b2 c1 c2), sd (.str "bad"), sd (.str "new"), sd x, sd (.list [.list [a1, a2], .list [b1, b2], .list [x, c2]]), none]) ck (cel_of hx).1.p (by kernel_rfl)
  have s4 : crB4 (cr c k1 v1 (tabD w a1 a2 b1 b2 c1 c2) (sd (.int 2)) none none none (sd (.int 0)) none (sd (.tuple [x, c2])) (sd (.str "bad")) (sd (.str "new")) (sd x)) = .nx (cr c k1 v1 (tabD w a1 a2 b1 b2 c1 c2) (sd (.int 2)) none none none (sd (.int 0)) none (sd (.tuple [x, c2])) (sd (.str "bad")) (sd (.str "new")) (sd x)) := by
    have z1 : (eCall 4 d_with_cell (aCons (eV 1) (aCons (eV 9) (aCons (eV 10) (aCons (eV 11) aNil))))) (cr c k1 v1 (tabD w a1 a2 b1 b2 c1 c2) (sd (.int 2)) none none none (sd (.int 0)) none (sd (.tuple [x, c2])) (sd (.str "bad")) (sd (.str "new")) (sd x)) = .ok (tabD w a1 a2 b1 b2 x c2) (cr c k1 v1 (tabD w a1 a2 b1 b2 c1 c2) (sd (.int 2)) none none none (sd (.int 0)) none (sd (.tuple [x, c2])) (sd (.str "bad")) (sd (.str "new")) (sd x)) := by
      rw [y_eCall]
      show (AOut.ok [(tabD w a1 a2 b1 b2 c1 c2), .str "bad", .str "new", x] _).go _ = _
      rw [goL_ok, y_callK (n := 4) rfl, c2_]
      rfl
    have z2 : crB40 (cr c k1 v1 (tabD w a1 a2 b1 b2 c1 c2) (sd (.int 2)) none none none (sd (.int 0)) none (sd (.tuple [x, c2])) (sd (.str "bad")) (sd (.str "new")) (sd x)) = .ok (tabD w a1 a2 b1 b2 x c2) (cr c k1 v1 (tabD w a1 a2 b1 b2 c1 c2) (sd (.int 2)) none none none (sd (.int 0)) none (sd (.tuple [x, c2])) (sd (.str "bad")) (sd (.str "new")) (sd x)) := by kernel_rfl
    have rp := GoodTab.repr (w := w) (⟨G.hw, G.h1, G.h2, G.h3, G.h4, hx, G.h6⟩ : GoodTab w a1 a2 b1 b2 x c2)
    unfold crB4
    rw [x_sIf, x_eCmp, x_eFun, x_aCons, z1, goA_ok, x_consK, x_aNil, put_ok, goL_ok, x_fnK, rp, x_lift_some, go_ok, x_cmK, x_eFun, x_aCons, z2, goA_ok, x_consK, x_aNil, put_ok, goL_ok, x_fnK, rp, x_lift_some, go_ok, x_cmK2, qNe_str]
    rfl
  unfold crBody
  rw [x_sSeq, s1, on_nx, x_sSeq, s2, on_nx, x_sSeq, s3, on_nx, s4]
theorem crBody_21 (G : GoodTab w a1 a2 b1 b2 c1 c2) (x8 x9 x10 x11 : Option Fl.Arg) (hk : 0 ≤ k) (hk2 : k < 2 ^ 57) (hv : 0 ≤ v) : ∃ k' v' y8 y9 y10 y11, k ≤ k' ∧ k' ≤ k + 2 ∧ 0 ≤ v' ∧ crBody (cr c k v (tabD w a1 a2 b1 b2 c1 c2) (sd (.int 2)) none none none (sd (.int 1)) none x8 x9 x10 x11) = .nx (cr c k' v' (tabD w a1 a2 b1 b2 c1 c2) (sd (.int 2)) none none none (sd (.int 1)) none y8 y9 y10 y11) := by
  obtain ⟨x, k1, v1, hx, l1, l2, w1, e1⟩ := cell_at0 (c := c) (r := []) hk (by omega) hv
  refine ⟨k1, v1, sd (.tuple [c1, x]), (sd (.str "bad")), (sd (.str "going")), sd x, l1, l2, w1, ?_⟩
  have s1 : crB1 (cr c k v (tabD w a1 a2 b1 b2 c1 c2) (sd (.int 2)) none none none (sd (.int 1)) none x8 x9 x10 x11) = .nx (cr c k1 v1 (tabD w a1 a2 b1 b2 c1 c2) (sd (.int 2)) none none none (sd (.int 1)) none x8 (sd (.str "bad")) (sd (.str "going")) (sd x)) := by
    unfold crB1
    rw [y_sPar3]
    show (Out.ok (.str "bad") _).goS _ = _
    rw [goS_ok]
    show (Out.ok (.str "going") _).goS _ = _
    rw [goS_ok, e1, goS_ok]
    rfl
  have ck : d_check_cell_place [(tabD w a1 a2 b1 b2 c1 c2), .str "bad", .str "going"] = .ok .none := chk_ok G.tab.p (by kernel_rfl) (by kernel_rfl)
  have c1_ : d_cell_of [(tabD w a1 a2 b1 b2 c1 c2), .str "bad", .str "going"] = .ok c2 := of_ok ck (by kernel_rfl)
  have s2 : crB2 (cr c k1 v1 (tabD w a1 a2 b1 b2 c1 c2) (sd (.int 2)) none none none (sd (.int 1)) none x8 (sd (.str "bad")) (sd (.str "going")) (sd x)) = .nx (cr c k1 v1 (tabD w a1 a2 b1 b2 c1 c2) (sd (.int 2)) none none none (sd (.int 1)) none x8 (sd (.str "bad")) (sd (.str "going")) (sd x)) := by
    have z1 : (eCall 3 d_cell_of (aCons (eV 1) (aCons (eV 9) (aCons (eV 10) aNil)))) (cr c k1 v1 (tabD w a1 a2 b1 b2 c1 c2) (sd (.int 2)) none none none (sd (.int 1)) none x8 (sd (.str "bad")) (sd (.str "going")) (sd x)) = .ok c2 (cr c k1 v1 (tabD w a1 a2 b1 b2 c1 c2) (sd (.int 2)) none none none (sd (.int 1)) none x8 (sd (.str "bad")) (sd (.str "going")) (sd x)) := by
      rw [y_eCall]
      show (AOut.ok [(tabD w a1 a2 b1 b2 c1 c2), .str "bad", .str "going"] _).go _ = _
      rw [goL_ok, y_callK (n := 3) rfl, c1_]
      rfl
    unfold crB2
    rw [x_sIf, x_eCmp, z1, go_ok, x_cmK]
    show ((Out.ok c2 _).go _).goS _ = _
    rw [go_ok, x_cmK2, cell_self G.h6]
    rfl
  have s3 : crB3 (cr c k1 v1 (tabD w a1 a2 b1 b2 c1 c2) (sd (.int 2)) none none none (sd (.int 1)) none x8 (sd (.str "bad")) (sd (.str "going")) (sd x)) = .nx (cr c k1 v1 (tabD w a1 a2 b1 b2 c1 c2) (sd (.int 2)) none none none (sd (.int 1)) none (sd (.tuple [c1, x])) (sd (.str "bad")) (sd (.str "going")) (sd x)) := by kernel_rfl
  have c2_ : d_with_cell [(tabD w a1 a2 b1 b2 c1 c2), .str "bad", .str "going", x] = .ok (tabD w a1 a2 b1 b2 c1 x) := with_ok (ρ := [sd (tabD w a1 a2 b1 b2 c1 c2), sd (.str "bad"), sd (.str "going"), sd x, sd (.list [.list [a1, a2], .list [b1, b2], .list [c1, x]]), none]) ck (cel_of hx).1.p (by kernel_rfl)
  have s4 : crB4 (cr c k1 v1 (tabD w a1 a2 b1 b2 c1 c2) (sd (.int 2)) none none none (sd (.int 1)) none (sd (.tuple [c1, x])) (sd (.str "bad")) (sd (.str "going")) (sd x)) = .nx (cr c k1 v1 (tabD w a1 a2 b1 b2 c1 c2) (sd (.int 2)) none none none (sd (.int 1)) none (sd (.tuple [c1, x])) (sd (.str "bad")) (sd (.str "going")) (sd x)) := by
    have z1 : (eCall 4 d_with_cell (aCons (eV 1) (aCons (eV 9) (aCons (eV 10) (aCons (eV 11) aNil))))) (cr c k1 v1 (tabD w a1 a2 b1 b2 c1 c2) (sd (.int 2)) none none none (sd (.int 1)) none (sd (.tuple [c1, x])) (sd (.str "bad")) (sd (.str "going")) (sd x)) = .ok (tabD w a1 a2 b1 b2 c1 x) (cr c k1 v1 (tabD w a1 a2 b1 b2 c1 c2) (sd (.int 2)) none none none (sd (.int 1)) none (sd (.tuple [c1, x])) (sd (.str "bad")) (sd (.str "going")) (sd x)) := by
      rw [y_eCall]
      show (AOut.ok [(tabD w a1 a2 b1 b2 c1 c2), .str "bad", .str "going", x] _).go _ = _
      rw [goL_ok, y_callK (n := 4) rfl, c2_]
      rfl
    have z2 : crB40 (cr c k1 v1 (tabD w a1 a2 b1 b2 c1 c2) (sd (.int 2)) none none none (sd (.int 1)) none (sd (.tuple [c1, x])) (sd (.str "bad")) (sd (.str "going")) (sd x)) = .ok (tabD w a1 a2 b1 b2 c1 x) (cr c k1 v1 (tabD w a1 a2 b1 b2 c1 c2) (sd (.int 2)) none none none (sd (.int 1)) none (sd (.tuple [c1, x])) (sd (.str "bad")) (sd (.str "going")) (sd x)) := by kernel_rfl
    have rp := GoodTab.repr (w := w) (⟨G.hw, G.h1, G.h2, G.h3, G.h4, G.h5, hx⟩ : GoodTab w a1 a2 b1 b2 c1 x)
    unfold crB4
    rw [x_sIf, x_eCmp, x_eFun, x_aCons, z1, goA_ok, x_consK, x_aNil, put_ok, goL_ok, x_fnK, rp, x_lift_some, go_ok, x_cmK, x_eFun, x_aCons, z2, goA_ok, x_consK, x_aNil, put_ok, goL_ok, x_fnK, rp, x_lift_some, go_ok, x_cmK2, qNe_str]
    rfl
  unfold crBody
  rw [x_sSeq, s1, on_nx, x_sSeq, s2, on_nx, x_sSeq, s3, on_nx, s4]
end
end Lw
set_option Elab.async false
set_option autoImplicit false
set_option linter.all false
set_option maxRecDepth 100000
set_option maxHeartbeats 4000000
namespace Lw
open PySem PySem.Spec PyProof.Rows L2 Fl
def crA : Rho → SOut := (sFor (.nm 2) (iRng (aCons (eC (.int 3)) aNil)) (sFor (.nm 6) (iRng (aCons (eC (.int 2)) aNil)) crBody))
def crB : Rho → SOut := (sSet 3 (eOp pAdd (eSl (eV 1) none (some (eC (.int 3)))) (eTup (aCons (eTup (aCons (eTup (aCons (eC (.str "lost")) (aCons (eC (.str "")) aNil))) (aCons (eTup (aCons (eC (.str "new")) (aCons (eC (.str "")) aNil))) aNil))) aNil))))
def crC : Rho → SOut := (sSet 4 (eLst (aCons (eC .none) (aCons (eTup aNil) (aCons (eLst aNil) (aCons (eC (.dict [])) (aCons (eSl (eV 1) none (some (eC (.int 3)))) (aCons (eListOf (aCons (eV 1) aNil)) (aCons (eOp pMul (eTup (aCons (eC (.str "")) aNil)) (eC (.int 4))) (aCons (eOp pAdd (eV 1) (eSl (eV 1) (some (eC (.int 1))) (some (eC (.int 2))))) (aCons (eOp pAdd (eTup (aCons (eC .none) aNil)) (eSl (eV 1) (some (eC (.int 1))) none)) (aCons (eV 3) aNil))))))))))))
def fT1 : Rho → Out := (eCall 3 d_cell_of (aCons (eV 5) (aCons (eC .none) (aCons (eC .none) aNil))))
def fT2 : Rho → Out := (eCall 4 d_with_cell (aCons (eV 5) (aCons (eC .none) (aCons (eC .none) (aCons (eC .none) aNil)))))
def crD : Rho → SOut := (sFor (.nm 5) (iLst (eV 4)) (wordBody fT1 fT2 "table"))
def evE : Rho → Out := (eTup (aCons (eC .none) (aCons (eC (.str "end")) (aCons (eC (.str "write")) (aCons (eC (.str "stop")) (aCons (eC (.str "")) (aCons (eC (.int 0)) (aCons (eLst aNil) (aCons (eTup (aCons (eC (.str "begin")) aNil)) (aCons (eC (.str "Begin")) (aCons (eC (.str "bad ")) aNil)))))))))))
def fE1 : Rho → Out := (eCall 3 d_cell_of (aCons (eV 1) (aCons (eV 5) (aCons (eC .none) aNil))))
def fE2 : Rho → Out := (eCall 4 d_with_cell (aCons (eV 1) (aCons (eV 5) (aCons (eC .none) (aCons (eC .none) aNil)))))
def crE : Rho → SOut := (sFor (.nm 5) (iTpl evE) (wordBody fE1 fE2 "event"))
def plE : Rho → Out := (eTup (aCons (eC .none) (aCons (eC (.str "kept")) (aCons (eC (.str "gone")) (aCons (eC (.str "lost")) (aCons (eC (.str "")) (aCons (eC (.int 0)) (aCons (eLst aNil) (aCons (eTup (aCons (eC (.str "new")) aNil)) (aCons (eC (.str "New")) (aCons (eC (.dict [])) aNil)))))))))))
def fP1 : Rho → Out := (eCall 3 d_cell_of (aCons (eV 1) (aCons (eC (.str "good")) (aCons (eV 5) aNil))))
def fP2 : Rho → Out := (eCall 4 d_with_cell (aCons (eV 1) (aCons (eC (.str "good")) (aCons (eV 5) (aCons (eC .none) aNil)))))
def crF : Rho → SOut := (sFor (.nm 5) (iTpl plE) (wordBody fP1 fP2 "place"))
def clE : Rho → Out := (eLst (aCons (eC .none) (aCons (eTup aNil) (aCons (eC (.str "new")) (aCons (eTup (aCons (eC (.str "new")) aNil)) (aCons (eLst (aCons (eC (.str "new")) (aCons (eC (.str "")) aNil))) (aCons (eTup (aCons (eC (.str "lost")) (aCons (eC (.str "")) aNil))) (aCons (eTup (aCons (eC (.str "new")) (aCons (eC (.str "maybe")) aNil))) (aCons (eTup (aCons (eC (.str "new")) (aCons (eC .none) aNil))) (aCons (eTup (aCons (eC (.str "new")) (aCons (eC (.str "")) (aCons (eC (.str "")) aNil)))) aNil))))))))))
def crG : Rho → SOut := (sSet 4 clE)
def fC : Rho → Out := (eCmp qEq (eWord nsX r__law_word (eCall 4 d_with_cell (aCons (eV 1) (aCons (eC (.str "bad")) (aCons (eC (.str "new")) (aCons (eV 5) aNil)))))) (eC (.str "cell")))
def crH : Rho → SOut := (sRet (eFun pAll (aCons (eLc (.nm 5) (iLst (eV 4)) eYes fC [5]) aNil)))
theorem cells_right_eq : m__law_cells_right = sSeq crA (sSeq crB (sSeq crC (sSeq crD (sSeq crE (sSeq crF (sSeq crG crH)))))) := rfl
section
variable {c : List Int} {k v : Int} {w a1 a2 b1 b2 c1 c2 : PyData}
theorem word_loop {p0 p1 p2 p3 p4 p6 p8 p9 p10 p11 : Option Fl.Arg} {body : Rho → SOut} {y : PyData} : ∀ (ds : List PyData), (∀ d ∈ ds, ∀ x7, body [p0, p1, p2, p3, p4, sd d, p6, x7, p8, p9, p10, p11] = .nx [p0, p1, p2, p3, p4, sd d, p6, sd y, p8, p9, p10, p11]) →
    ∀ z x7, ∃ z' x7', loop (.nm 5) body ds [p0, p1, p2, p3, p4, adp z, p6, x7, p8, p9, p10, p11] = .nx [p0, p1, p2, p3, p4, adp z', p6, x7', p8, p9, p10, p11]
  | [], _, z, x7 => ⟨z, x7, rfl⟩
  | d :: ds, h, z, x7 => by
    obtain ⟨z', x7', e⟩ := word_loop ds (fun d' hd' => h d' (List.mem_cons_of_mem _ hd')) (some d) (sd y)
    refine ⟨z', x7', ?_⟩
    rw [y_loopN]
    show (body [p0, p1, p2, p3, p4, sd d, p6, x7, p8, p9, p10, p11]).lap _ = _
    rw [h d (by simp), lap_nx]
    exact e
theorem call_er {n : Nat} {f : List PyData → FOut} {t : Rho → AOut} {ds : List PyData} {ρ ρ1 : Rho} {x : ExcD} (h : t ρ = .ok ds ρ1) (hn : ds.length = n) (e : f ds = .er x) : eCall n f t ρ = .er x ρ1 := by
  rw [y_eCall, h, goL_ok, y_callK hn, e]
  rfl
theorem crA_ok (G : GoodTab w a1 a2 b1 b2 c1 c2) (hk : 0 ≤ k) (hk2 : k < 2 ^ 56) (hv : 0 ≤ v) : ∃ k' v' y8 y9 y10 y11, k ≤ k' ∧ k' ≤ k + 12 ∧ 0 ≤ v' ∧
    crA (cr c k v (tabD w a1 a2 b1 b2 c1 c2) none none none none none none none none none none) = .nx (cr c k' v' (tabD w a1 a2 b1 b2 c1 c2) (sd (.int 2)) none none none (sd (.int 1)) none y8 y9 y10 y11) := by
  obtain ⟨k1, v1, p8, p9, p10, p11, l1, m1, w1, e1⟩ := crBody_00 (c := c) G none none none none hk (by omega) hv
  obtain ⟨k2, v2, q8, q9, q10, q11, l2, m2, w2, e2⟩ := crBody_01 (c := c) G p8 p9 p10 p11 (show 0 ≤ k1 by omega) (by omega) w1
  obtain ⟨k3, v3, r8, r9, r10, r11, l3, m3, w3, e3⟩ := crBody_10 (c := c) G q8 q9 q10 q11 (show 0 ≤ k2 by omega) (by omega) w2
  obtain ⟨k4, v4, s8, s9, s10, s11, l4, m4, w4, e4⟩ := crBody_11 (c := c) G r8 r9 r10 r11 (show 0 ≤ k3 by omega) (by omega) w3
  obtain ⟨k5, v5, t8, t9, t10, t11, l5, m5, w5, e5⟩ := crBody_20 (c := c) G s8 s9 s10 s11 (show 0 ≤ k4 by omega) (by omega) w4
  obtain ⟨k6, v6, u8, u9, u10, u11, l6, m6, w6, e6⟩ := crBody_21 (c := c) G t8 t9 t10 t11 (show 0 ≤ k5 by omega) (by omega) w5
  refine ⟨k6, v6, u8, u9, u10, u11, by omega, by omega, w6, ?_⟩
  have inner : ∀ {ρ ρ1 ρ2 : Rho} (i : Nat), crBody (ρ.set 6 (sd (.int 0))) = .nx ρ1 → crBody (ρ1.set 6 (sd (.int 1))) = .nx ρ2 → (sFor (.nm 6) (iRng (aCons (eC (.int 2)) aNil)) crBody) ρ = .nx ρ2 := fun {ρ ρ1 ρ2} i h1 h2 => by
    have r1 : (iRng (aCons (eC (.int 2)) aNil)) ρ = .ok [.int 0, .int 1] ρ := rfl
    rw [y_sFor, r1, igoS_ok, y_forK, y_loopN, h1, lap_nx, y_loopN, h2, lap_nx, y_loop0]
  have r0 : (iRng (aCons (eC (.int 3)) aNil)) (cr c k v (tabD w a1 a2 b1 b2 c1 c2) none none none none none none none none none none) = .ok [.int 0, .int 1, .int 2] (cr c k v (tabD w a1 a2 b1 b2 c1 c2) none none none none none none none none none none) := rfl
  unfold crA
  rw [y_sFor, r0, igoS_ok, y_forK, y_loopN]
  rw [inner 0 (ρ := (cr c k v (tabD w a1 a2 b1 b2 c1 c2) none none none none none none none none none none).set 2 (sd (.int 0))) e1 e2, lap_nx, y_loopN]
  rw [inner 1 (ρ := (cr c k2 v2 (tabD w a1 a2 b1 b2 c1 c2) (sd (.int 0)) none none none (sd (.int 1)) none q8 q9 q10 q11).set 2 (sd (.int 1))) e3 e4, lap_nx, y_loopN]
  rw [inner 2 (ρ := (cr c k4 v4 (tabD w a1 a2 b1 b2 c1 c2) (sd (.int 1)) none none none (sd (.int 1)) none s8 s9 s10 s11).set 2 (sd (.int 2))) e5 e6, lap_nx, y_loop0]
abbrev bentT (w a1 a2 b1 b2 : PyData) : PyData := .tuple [w, .tuple [a1, a2], .tuple [b1, b2], .tuple [.tuple [.str "lost", .str ""], .tuple [.str "new", .str ""]]]
abbrev oddsT (w a1 a2 b1 b2 c1 c2 : PyData) : List PyData := [.none, .tuple [], .list [], .dict [], .tuple [w, .tuple [a1, a2], .tuple [b1, b2]], .list [w, .tuple [a1, a2], .tuple [b1, b2], .tuple [c1, c2]], .tuple [.str "", .str "", .str "", .str ""], .tuple [w, .tuple [a1, a2], .tuple [b1, b2], .tuple [c1, c2], .tuple [a1, a2]], .tuple [.none, .tuple [a1, a2], .tuple [b1, b2], .tuple [c1, c2]], bentT w a1 a2 b1 b2]
theorem crB_ok {x2 x6 x8 x9 x10 x11 : Option Fl.Arg} : crB (cr c k v (tabD w a1 a2 b1 b2 c1 c2) x2 none none none x6 none x8 x9 x10 x11) = .nx (cr c k v (tabD w a1 a2 b1 b2 c1 c2) x2 (sd (bentT w a1 a2 b1 b2)) none none x6 none x8 x9 x10 x11) := by kernel_rfl
theorem crC_ok {x2 x6 x8 x9 x10 x11 : Option Fl.Arg} : crC (cr c k v (tabD w a1 a2 b1 b2 c1 c2) x2 (sd (bentT w a1 a2 b1 b2)) none none x6 none x8 x9 x10 x11) = .nx (cr c k v (tabD w a1 a2 b1 b2 c1 c2) x2 (sd (bentT w a1 a2 b1 b2)) (sd (.list (oddsT w a1 a2 b1 b2 c1 c2))) none x6 none x8 x9 x10 x11) := by kernel_rfl
theorem lost_cell : CelF (.tuple [.str "lost", .str ""]) false ∧ CelF (.tuple [.str "new", .str ""]) true := ⟨⟨by kernel_rfl, by kernel_rfl, by kernel_rfl⟩, ⟨by kernel_rfl, by kernel_rfl, by kernel_rfl⟩⟩
theorem odds_ok (G : GoodTab w a1 a2 b1 b2 c1 c2) : ∀ d ∈ oddsT w a1 a2 b1 b2 c1 c2, d_is_table [d] = .ok (.bool false) := by
  have R1 := row2 (cel_of G.h1).1 (cel_of G.h2).1
  have R2 := row2 (cel_of G.h3).1 (cel_of G.h4).1
  have R3 := row2 (cel_of G.h5).1 (cel_of G.h6).1
  have W := (word_of G.hw).1
  intro d hd
  simp only [oddsT, List.mem_cons, List.not_mem_nil, or_false] at hd
  rcases hd with rfl | rfl | rfl | rfl | rfl | rfl | rfl | rfl | rfl | rfl
  · kernel_rfl
  · kernel_rfl
  · kernel_rfl
  · kernel_rfl
  · exact (tableN (by simp [noExcs, W.n, R1.n, R2.n]) (by simp)).p
  · exact (tableL (by simp [noExcs, W.n, R1.n, R2.n, R3.n])).p
  · kernel_rfl
  · exact (tableN (by simp [noExcs, W.n, R1.n, R2.n, R3.n]) (by simp)).p
  · exact (table4 (odd_word (w := .none) (by simp [oddWords])).1 R1 R2 R3).p
  · exact (table4 W R1 R2 (row2 lost_cell.1 lost_cell.2)).p
theorem crD_ok (G : GoodTab w a1 a2 b1 b2 c1 c2) {x2 x3 x6 x8 x9 x10 x11 : Option Fl.Arg} : ∃ z x7, crD (cr c k v (tabD w a1 a2 b1 b2 c1 c2) x2 x3 (sd (.list (oddsT w a1 a2 b1 b2 c1 c2))) none x6 none x8 x9 x10 x11) = .nx (cr c k v (tabD w a1 a2 b1 b2 c1 c2) x2 x3 (sd (.list (oddsT w a1 a2 b1 b2 c1 c2))) (adp z) x6 x7 x8 x9 x10 x11) := by
  obtain ⟨z, x7, e⟩ := word_loop (p0 := po c k v) (p1 := sd (tabD w a1 a2 b1 b2 c1 c2)) (p2 := x2) (p3 := x3) (p4 := sd (.list (oddsT w a1 a2 b1 b2 c1 c2))) (p6 := x6) (p8 := x8) (p9 := x9) (p10 := x10) (p11 := x11) (body := wordBody fT1 fT2 "table") (oddsT w a1 a2 b1 b2 c1 c2) (fun d hd x7 => word_body .t
    (call_er (ds := [d, .none, .none]) rfl rfl (of_er (chk_t (odds_ok G d hd)))) (call_er (ds := [d, .none, .none, .none]) rfl rfl (with_er (chk_t (odds_ok G d hd))))) none none
  exact ⟨z, x7, e⟩
def evL : List PyData := [.none, .str "end", .str "write", .str "stop", .str "", .int 0, .list [], .tuple [.str "begin"], .str "Begin", .str "bad "]
def plL : List PyData := [.none, .str "kept", .str "gone", .str "lost", .str "", .int 0, .list [], .tuple [.str "new"], .str "New", .dict []]
def clL : List PyData := [.none, .tuple [], .str "new", .tuple [.str "new"], .list [.str "new", .str ""], .tuple [.str "lost", .str ""], .tuple [.str "new", .str "maybe"], .tuple [.str "new", .none], .tuple [.str "new", .str "", .str ""]]
theorem evE_ok (ρ : Rho) : evE ρ = .ok (.tuple evL) ρ := by kernel_rfl
theorem plE_ok (ρ : Rho) : plE ρ = .ok (.tuple plL) ρ := by kernel_rfl
theorem clE_ok (ρ : Rho) : clE ρ = .ok (.list clL) ρ := by kernel_rfl
theorem someB {o : Option Bool} (h : (match o with | some b => b | none => false) = true) : o = some true := by
  cases o with
  | none => cases h
  | some b => cases b <;> simp at h ⊢
theorem ev_all : (evL.all fun d => match qNotInX d k_EVENTS with | some b => b | none => false) = true := by kernel_rfl
theorem pl_all : (plL.all fun d => match qNotInX d k_MOVING with | some b => b | none => false) = true := by kernel_rfl
theorem cl_all : (clL.all fun d => okB (d_is_cell [d]) false) = true := by kernel_rfl
theorem crE_ok (G : GoodTab w a1 a2 b1 b2 c1 c2) {x2 x3 x4 x6 x7 x8 x9 x10 x11 : Option Fl.Arg} (z : Option PyData) : ∃ z' x7', crE (cr c k v (tabD w a1 a2 b1 b2 c1 c2) x2 x3 x4 (adp z) x6 x7 x8 x9 x10 x11) = .nx (cr c k v (tabD w a1 a2 b1 b2 c1 c2) x2 x3 x4 (adp z') x6 x7' x8 x9 x10 x11) := by
  obtain ⟨z', x7', e⟩ := word_loop (p0 := po c k v) (p1 := sd (tabD w a1 a2 b1 b2 c1 c2)) (p2 := x2) (p3 := x3) (p4 := x4) (p6 := x6) (p8 := x8) (p9 := x9) (p10 := x10) (p11 := x11) (body := wordBody fE1 fE2 "event") evL (fun d hd x7 => by
    have h := chk_e (t := tabD w a1 a2 b1 b2 c1 c2) (p := .none) G.tab.p (someB (all_of ev_all hd))
    exact word_body .e (call_er (ds := [tabD w a1 a2 b1 b2 c1 c2, d, .none]) rfl rfl (of_er h)) (call_er (ds := [tabD w a1 a2 b1 b2 c1 c2, d, .none, .none]) rfl rfl (with_er h))) z x7
  refine ⟨z', x7', ?_⟩
  unfold crE
  rw [y_sFor, y_iTpl, evE_ok, ogoI_ok, y_tplK, igoS_ok, y_forK]
  exact e
theorem crF_ok (G : GoodTab w a1 a2 b1 b2 c1 c2) {x2 x3 x4 x6 x7 x8 x9 x10 x11 : Option Fl.Arg} (z : Option PyData) : ∃ z' x7', crF (cr c k v (tabD w a1 a2 b1 b2 c1 c2) x2 x3 x4 (adp z) x6 x7 x8 x9 x10 x11) = .nx (cr c k v (tabD w a1 a2 b1 b2 c1 c2) x2 x3 x4 (adp z') x6 x7' x8 x9 x10 x11) := by
  obtain ⟨z', x7', e⟩ := word_loop (p0 := po c k v) (p1 := sd (tabD w a1 a2 b1 b2 c1 c2)) (p2 := x2) (p3 := x3) (p4 := x4) (p6 := x6) (p8 := x8) (p9 := x9) (p10 := x10) (p11 := x11) (body := wordBody fP1 fP2 "place") plL (fun d hd x7 => by
    have h := chk_p (t := tabD w a1 a2 b1 b2 c1 c2) (e := .str "good") G.tab.p (by kernel_rfl) (someB (all_of pl_all hd))
    exact word_body .p (call_er (ds := [tabD w a1 a2 b1 b2 c1 c2, .str "good", d]) rfl rfl (of_er h)) (call_er (ds := [tabD w a1 a2 b1 b2 c1 c2, .str "good", d, .none]) rfl rfl (with_er h))) z x7
  refine ⟨z', x7', ?_⟩
  unfold crF
  rw [y_sFor, y_iTpl, plE_ok, ogoI_ok, y_tplK, igoS_ok, y_forK]
  exact e
theorem lc_same {p0 p1 p2 p3 p4 p6 p7 p8 p9 p10 p11 : Option Fl.Arg} {fe : Rho → Out} : ∀ (ds : List PyData) (n : Nat), n + ds.length ≤ 100 → (∀ d ∈ ds, fe [p0, p1, p2, p3, p4, sd d, p6, p7, p8, p9, p10, p11] = .ok (.bool true) [p0, p1, p2, p3, p4, sd d, p6, p7, p8, p9, p10, p11]) →
    lcLoop (.nm 5) eYes fe [5] n ds [p0, p1, p2, p3, p4, none, p6, p7, p8, p9, p10, p11] = .ok (List.replicate ds.length (.bool true)) [p0, p1, p2, p3, p4, none, p6, p7, p8, p9, p10, p11]
  | [], n, _, _ => rfl
  | d :: ds, n, hn, h => by
    simp only [List.length_cons] at hn
    have ih := lc_same ds (n + 1) (by omega) fun d' hd' => h d' (List.mem_cons_of_mem _ hd')
    rw [y_lcN]
    show (fe [p0, p1, p2, p3, p4, sd d, p6, p7, p8, p9, p10, p11]).lc n _ = _
    rw [h d (by simp), lc_ok (by omega)]
    show (lcLoop (.nm 5) eYes fe [5] (n + 1) ds [p0, p1, p2, p3, p4, none, p6, p7, p8, p9, p10, p11]).cons _ = _
    rw [ih]
    rfl
theorem crH_ok (G : GoodTab w a1 a2 b1 b2 c1 c2) {x2 x3 x6 x7 x8 x9 x10 x11 : Option Fl.Arg} (z : Option PyData) : crH (cr c k v (tabD w a1 a2 b1 b2 c1 c2) x2 x3 (sd (.list clL)) (adp z) x6 x7 x8 x9 x10 x11) = .rt (.bool true) (cr c k v (tabD w a1 a2 b1 b2 c1 c2) x2 x3 (sd (.list clL)) (adp z) x6 x7 x8 x9 x10 x11) := by
  have ck : d_check_cell_place [tabD w a1 a2 b1 b2 c1 c2, .str "bad", .str "new"] = .ok .none := chk_ok G.tab.p (by kernel_rfl) (by kernel_rfl)
  have one : ∀ d ∈ clL, fC (cr c k v (tabD w a1 a2 b1 b2 c1 c2) x2 x3 (sd (.list clL)) (sd d) x6 x7 x8 x9 x10 x11) = .ok (.bool true) (cr c k v (tabD w a1 a2 b1 b2 c1 c2) x2 x3 (sd (.list clL)) (sd d) x6 x7 x8 x9 x10 x11) := fun d hd => by
    have hw := word_at .c (call_er (n := 4) (f := d_with_cell) (t := (aCons (eV 1) (aCons (eC (.str "bad")) (aCons (eC (.str "new")) (aCons (eV 5) aNil))))) (ds := [tabD w a1 a2 b1 b2 c1 c2, .str "bad", .str "new", d]) (ρ := cr c k v (tabD w a1 a2 b1 b2 c1 c2) x2 x3 (sd (.list clL)) (sd d) x6 x7 x8 x9 x10 x11) (ρ1 := cr c k v (tabD w a1 a2 b1 b2 c1 c2) x2 x3 (sd (.list clL)) (sd d) x6 x7 x8 x9 x10 x11) rfl rfl (with_c ck (okB_eq (all_of cl_all hd))))
    unfold fC
    rw [x_eCmp, hw]
    kernel_rfl
  have no : noOwn (cr c k v (tabD w a1 a2 b1 b2 c1 c2) x2 x3 (sd (.list clL)) (adp z) x6 x7 x8 x9 x10 x11) [5] = true := by cases z <;> rfl
  have lc := lc_same (p0 := po c k v) (p1 := sd (tabD w a1 a2 b1 b2 c1 c2)) (p2 := x2) (p3 := x3) (p4 := sd (.list clL)) (p6 := x6) (p7 := x7) (p8 := x8) (p9 := x9) (p10 := x10) (p11 := x11) (fe := fC) clL 0 (by decide) one
  unfold crH
  rw [x_sRet, x_eFun, x_aCons, y_eLc, y_iLst]
  show (((((Out.ok (.list clL) _).goI llK).goL _).goA _).go _).goS _ = _
  rw [ogoI_ok, y_llK, igoL_ok, y_lcK no]
  show ((((lcLoop (.nm 5) eYes fC [5] 0 clL [po c k v, sd (tabD w a1 a2 b1 b2 c1 c2), x2, x3, sd (.list clL), none, x6, x7, x8, x9, x10, x11]).fin _ [5]).goA _).go _).goS _ = _
  rw [lc]
  cases z <;> kernel_rfl
/-- the cells, and the errors in their order -/
theorem cells_right_ok (G : GoodTab w a1 a2 b1 b2 c1 c2) (hk : 0 ≤ k) (hk2 : k < 2 ^ 56) (hv : 0 ≤ v) : ∃ k' v', k ≤ k' ∧ k' ≤ k + 12 ∧ 0 ≤ v' ∧ d__law_cells_right (penD c k v) [tabD w a1 a2 b1 b2 c1 c2] = .ok (.bool true) (penD c k' v') := by
  obtain ⟨k1, v1, y8, y9, y10, y11, l1, m1, w1, e1⟩ := crA_ok (c := c) G hk hk2 hv
  obtain ⟨z2, x7, e2⟩ := crD_ok (c := c) (k := k1) (v := v1) G (x2 := sd (.int 2)) (x3 := sd (bentT w a1 a2 b1 b2)) (x6 := sd (.int 1)) (x8 := y8) (x9 := y9) (x10 := y10) (x11 := y11)
  obtain ⟨z3, x7b, e3⟩ := crE_ok (c := c) (k := k1) (v := v1) G (x2 := sd (.int 2)) (x3 := sd (bentT w a1 a2 b1 b2)) (x4 := sd (.list (oddsT w a1 a2 b1 b2 c1 c2))) (x6 := sd (.int 1)) (x7 := x7) (x8 := y8) (x9 := y9) (x10 := y10) (x11 := y11) z2
  obtain ⟨z4, x7c, e4⟩ := crF_ok (c := c) (k := k1) (v := v1) G (x2 := sd (.int 2)) (x3 := sd (bentT w a1 a2 b1 b2)) (x4 := sd (.list (oddsT w a1 a2 b1 b2 c1 c2))) (x6 := sd (.int 1)) (x7 := x7b) (x8 := y8) (x9 := y9) (x10 := y10) (x11 := y11) z3
  refine ⟨k1, v1, l1, m1, w1, ?_⟩
  have hG : crG (cr c k1 v1 (tabD w a1 a2 b1 b2 c1 c2) (sd (.int 2)) (sd (bentT w a1 a2 b1 b2)) (sd (.list (oddsT w a1 a2 b1 b2 c1 c2))) (adp z4) (sd (.int 1)) x7c y8 y9 y10 y11) = .nx (cr c k1 v1 (tabD w a1 a2 b1 b2 c1 c2) (sd (.int 2)) (sd (bentT w a1 a2 b1 b2)) (sd (.list clL)) (adp z4) (sd (.int 1)) x7c y8 y9 y10 y11) := by
    unfold crG
    rw [x_sSet, clE_ok]
    rfl
  unfold d__law_cells_right
  rw [y_fnP, cells_right_eq]
  show (sSeq crA _ (cr c k v (tabD w a1 a2 b1 b2 c1 c2) none none none none none none none none none none)).fnP = _
  rw [x_sSeq, e1, on_nx, x_sSeq, crB_ok, on_nx, x_sSeq, crC_ok, on_nx, x_sSeq, e2, on_nx, x_sSeq, e3, on_nx, x_sSeq, e4, on_nx, x_sSeq, hG, on_nx, crH_ok G]
  rfl
end
end Lw
set_option Elab.async false
set_option autoImplicit false
set_option linter.all false
set_option maxRecDepth 100000
set_option maxHeartbeats 4000000
namespace Lw
open PySem PySem.Spec PyProof.Rows L2 Fl
def loA : Rho → SOut := (sSet 4 (eCallP 2 1 d__law_log (aCons (eC (.int 6)) aNil)))
def loB : Rho → SOut := (sSet 5 (eFun pRepr (aCons (eV 4) aNil)))
def loC : Rho → SOut := (sIf (eOr (eCmp qIsNotB (eCall 1 d_is_log (aCons (eV 4) aNil)) (eC (.bool true))) (eOr (eCmp qIsNotB (eCall 1 d_is_table (aCons (eOp pIx (eV 4) (eC (.int 0))) aNil)) (eC (.bool true))) (eNot (eTru (eCallP 2 1 d__law_cells_right (aCons (eOp pIx (eV 4) (eC (.int 0))) aNil)))))) (sRet (eC (.bool false))) sNil)
def liA : Rho → SOut := (sSet 7 (eCallP 2 1 d__law_bent_log (aCons (eV 4) aNil)))
def liB : Rho → SOut := (sSet 8 (eFun pRepr (aCons (eV 7) aNil)))
def liC : Rho → SOut := (sIf (eOr (eCmp qNe (eFun pRepr (aCons (eCall 1 d_is_log (aCons (eV 7) aNil)) aNil)) (eFun pRepr (aCons (eCall 1 d__law_is_log (aCons (eV 7) aNil)) aNil))) (eCmp qNe (eFun pRepr (aCons (eV 7) aNil)) (eV 8))) (sRet (eC (.bool false))) sNil)
def liD : Rho → SOut := (sSet 9 (eCallP 2 1 d__law_bent_cell (aCons (eCallP 1 1 d__law_cell aNil) aNil)))
def liE : Rho → SOut := (sIf (eCmp qNe (eFun pRepr (aCons (eLst (aCons (eCall 1 d_is_cell (aCons (eV 9) aNil)) (aCons (eCall 1 d_is_cell (aCons (eCallP 1 1 d__law_cell aNil) aNil)) aNil))) aNil)) (eFun pRepr (aCons (eLst (aCons (eCall 1 d__law_is_cell (aCons (eV 9) aNil)) (aCons (eC (.bool true)) aNil))) aNil))) (sRet (eC (.bool false))) sNil)
def liF : Rho → SOut := (sIf (eAnd (eTru (eIsa "tuple" (eV 7))) (eAnd (eCmp qNeT (eV 7) (eTup aNil)) (eCmp qNe (eFun pRepr (aCons (eCall 1 d_is_table (aCons (eOp pIx (eV 7) (eC (.int 0))) aNil)) aNil)) (eFun pRepr (aCons (eCall 1 d__law_is_table (aCons (eOp pIx (eV 7) (eC (.int 0))) aNil)) aNil))))) (sRet (eC (.bool false))) sNil)
def li : Rho → SOut := sSeq liA (sSeq liB (sSeq liC (sSeq liD (sSeq liE liF))))
def loD : Rho → SOut := (sFor (.nm 6) (iRng (aCons (eC (.int 10)) aNil)) li)
def loE : Rho → SOut := (sIf (eCmp qNe (eFun pRepr (aCons (eV 4) aNil)) (eV 5)) (sRet (eC (.bool false))) sNil)
def lo : Rho → SOut := sSeq loA (sSeq loB (sSeq loC (sSeq loD loE)))
def leA : Rho → SOut := (sSet 3 (eLst (aCons (eC .none) (aCons (eTup aNil) (aCons (eLst aNil) (aCons (eC (.dict [])) (aCons (eC (.int 0)) (aCons (eC (.str "table")) (aCons (eC (.bool true)) aNil)))))))))
def leB : Rho → SOut := (sRet (eNot (eOk (eFun pAny (aCons (eLc (.nm 10) (iLst (eV 3)) eYes (eOr (eOk (eCall 1 d_is_cell (aCons (eV 10) aNil))) (eOr (eOk (eCall 1 d_is_table (aCons (eV 10) aNil))) (eCall 1 d_is_log (aCons (eV 10) aNil)))) [10]) aNil)))))
theorem m_law_eq : m_law = sSeq (sFor (.nm 2) (iRng (aCons (eC (.int 5)) aNil)) lo) (sSeq leA leB) := rfl
section
variable {c : List Int} {k v : Int} {w a1 a2 b1 b2 c1 c2 l n : PyData} {es : List PyData} {s : Bool}
abbrev lw (c : List Int) (k v : Int) (x2 x3 x4 x5 x6 x7 x8 x9 x10 : Option Fl.Arg) : Rho := [none, po c k v, x2, x3, x4, x5, x6, x7, x8, x9, x10]
theorem callP1_at {n : Nat} {fp : List PyData → List PyData → POut} {t : Rho → AOut} {args : List PyData} {d : PyData} {k1 v1 : Int} {x0 : Option Fl.Arg} {ρ r : Rho} (e : fp (penD c k v) args = .ok d (penD c k1 v1)) (h : t ρ = .ok args (x0 :: po c k v :: r)) (h0 : ∃ ys, ownAt ρ 1 = some ys) (hn : args.length + 1 = n) :
    eCallP n 1 fp t ρ = .ok d (x0 :: po c k1 v1 :: r) := by
  obtain ⟨ys, h0⟩ := h0
  rw [y_eCallPa, h0]
  show (t ρ).go _ = _
  rw [h, goL_ok, y_callPKa, if_pos hn]
  show (fp (penD c k v) args).put 1 _ = _
  rw [e]
  rfl
theorem cell_at1 (hk : 0 ≤ k) (hk2 : k < 2 ^ 59) (hv : 0 ≤ v) : ∃ x k' v', x ∈ cellL ∧ k ≤ k' ∧ k' ≤ k + 2 ∧ 0 ≤ v' ∧ ∀ (x0 : Option Fl.Arg) (r : Rho), eCallP 1 1 d__law_cell aNil (x0 :: po c k v :: r) = .ok x (x0 :: po c k' v' :: r) := by
  obtain ⟨p, w, k1, v1, hp, hw, l1, l2, w1, e⟩ := cell_ok c k v hk hk2 hv
  exact ⟨_, k1, v1, mem_cell hp hw, l1, l2, w1, fun x0 r => callP1_at (args := []) e rfl ⟨_, rfl⟩ rfl⟩
theorem repr_b (b : Bool) : ∃ z, pRepr [.bool b] = some (.str z) := by
  cases b
  · exact ⟨"False", by kernel_rfl⟩
  · exact ⟨"True", by kernel_rfl⟩
theorem repr_bt (b : Bool) : ∃ z, pRepr [.list [.bool b, .bool true]] = some (.str z) := by
  cases b
  · exact ⟨"[False, True]", by kernel_rfl⟩
  · exact ⟨"[True, True]", by kernel_rfl⟩
theorem call1_at {f : List PyData → FOut} {t : Rho → AOut} {x d : PyData} {ρ ρ1 : Rho} (h : t ρ = .ok [x] ρ1) (e : f [x] = .ok d) : eCall 1 f t ρ = .ok d ρ1 := by
  rw [y_eCall, h, goL_ok, y_callK (n := 1) rfl, e]
  rfl
theorem set_of {i : Nat} {f : Rho → Out} {d : PyData} {ρ ρ1 ρ2 : Rho} (h : f ρ = .ok d ρ1) (e : ρ1.set i (some (.d d)) = ρ2) : sSet i f ρ = .nx ρ2 := by
  rw [x_sSet, h, ← e]
  rfl
theorem or_f {f g : Rho → Out} {d : PyData} {ρ ρ1 ρ2 : Rho} (h : f ρ = .ok (.bool false) ρ1) (h2 : g ρ1 = .ok d ρ2) : eOr f g ρ = .ok d ρ2 := by
  rw [x_eOr, h, go_ok, x_orK, tr_bool, if_neg (by simp), h2]
theorem and_t {f g : Rho → Out} {d : PyData} {ρ ρ1 ρ2 : Rho} (h : f ρ = .ok (.bool true) ρ1) (h2 : g ρ1 = .ok d ρ2) : eAnd f g ρ = .ok d ρ2 := by
  rw [x_eAnd, h, go_ok, x_andK, tr_bool, if_pos rfl, h2]
theorem not_t {f : Rho → Out} {ρ ρ1 : Rho} (h : f ρ = .ok (.bool true) ρ1) : eNot (eTru f) ρ = .ok (.bool false) ρ1 := by
  rw [y_eNot, y_eTru, h]
  rfl
theorem isNot_t {f : Rho → Out} {ρ ρ1 : Rho} (h : f ρ = .ok (.bool true) ρ1) : (eCmp qIsNotB f (eC (.bool true))) ρ = .ok (.bool false) ρ1 := by
  rw [x_eCmp, h]
  rfl
theorem repr_at {f : Rho → Out} {d : PyData} {z : Str} {ρ ρ1 : Rho} (h : f ρ = .ok d ρ1) (e : pRepr [d] = some (.str z)) : (eFun pRepr (aCons f aNil)) ρ = .ok (.str z) ρ1 := by
  rw [x_eFun, x_aCons, h, goA_ok, x_consK, x_aNil, put_ok, goL_ok, x_fnK, e, x_lift_some]
theorem ne_at {f g : Rho → Out} {z : Str} {ρ ρ1 ρ2 : Rho} (h : f ρ = .ok (.str z) ρ1) (h2 : g ρ1 = .ok (.str z) ρ2) : (eCmp qNe f g) ρ = .ok (.bool false) ρ2 := by
  rw [x_eCmp, h, go_ok, x_cmK, h2, go_ok, x_cmK2, qNe_str]
  rfl
theorem no_if {f : Rho → Out} {ρ ρ1 : Rho} (h : f ρ = .ok (.bool false) ρ1) : (sIf f (sRet (eC (.bool false))) sNil) ρ = .nx ρ1 := by
  rw [x_sIf, h]
  rfl
theorem li_ok (G : GoodLog w a1 a2 b1 b2 c1 c2 l es n) (s : Bool) (hk : 0 ≤ k) (hk2 : k < 2 ^ 55) (hv : 0 ≤ v) (x2 x5 x6 x7 x8 x9 : Option Fl.Arg) : ∃ k' v' y7 y8 y9, k ≤ k' ∧ k' ≤ k + 20 ∧ 0 ≤ v' ∧
    li (lw c k v x2 none (sd (logD w a1 a2 b1 b2 c1 c2 l es s n)) x5 x6 x7 x8 x9 none) = .nx (lw c k' v' x2 none (sd (logD w a1 a2 b1 b2 c1 c2 l es s n)) x5 x6 y7 y8 y9 none) := by
  obtain ⟨x, k1, v1, X, l1, m1, w1, e1⟩ := bent_log_ok (c := c) G s hk (by omega) hv
  obtain ⟨q, k2, v2, hq, l2, m2, w2, e2⟩ := cell_at1 (c := c) (k := k1) (v := v1) (by omega) (by omega) w1
  obtain ⟨p, u, rfl⟩ := cell_form hq
  obtain ⟨y, k3, v3, hy, l3, m3, w3, e3⟩ := bent_cell_ok c k2 v2 p u (by omega) (by omega) w2
  obtain ⟨q2, k4, v4, hq2, l4, m4, w4, e4⟩ := cell_at1 (c := c) (k := k3) (v := v3) (by omega) (by omega) w3
  refine ⟨k4, v4, sd x, sd (.str x.shown), sd y, by omega, by omega, w4, ?_⟩
  have s1 : liA (lw c k v x2 none (sd (logD w a1 a2 b1 b2 c1 c2 l es s n)) x5 x6 x7 x8 x9 none) = .nx (lw c k1 v1 x2 none (sd (logD w a1 a2 b1 b2 c1 c2 l es s n)) x5 x6 (sd x) x8 x9 none) := by
    unfold liA
    exact set_of (callP1_at e1 rfl ⟨_, rfl⟩ rfl) rfl
  have s2 : liB (lw c k1 v1 x2 none (sd (logD w a1 a2 b1 b2 c1 c2 l es s n)) x5 x6 (sd x) x8 x9 none) = .nx (lw c k1 v1 x2 none (sd (logD w a1 a2 b1 b2 c1 c2 l es s n)) x5 x6 (sd x) (sd (.str x.shown)) x9 none) := by
    unfold liB
    exact set_of (repr_at (d := x) rfl X.rp) rfl
  have s3 : liC (lw c k1 v1 x2 none (sd (logD w a1 a2 b1 b2 c1 c2 l es s n)) x5 x6 (sd x) (sd (.str x.shown)) x9 none) = .nx (lw c k1 v1 x2 none (sd (logD w a1 a2 b1 b2 c1 c2 l es s n)) x5 x6 (sd x) (sd (.str x.shown)) x9 none) := by
    obtain ⟨b, g1, g2⟩ := X.lg
    obtain ⟨z, hz⟩ := repr_b b
    unfold liC
    refine no_if ?_
    exact or_f (ne_at (repr_at (call1_at (x := x) rfl g1) hz) (repr_at (call1_at (x := x) rfl g2) hz)) (ne_at (repr_at (d := x) rfl X.rp) rfl)
  have s4 : liD (lw c k1 v1 x2 none (sd (logD w a1 a2 b1 b2 c1 c2 l es s n)) x5 x6 (sd x) (sd (.str x.shown)) x9 none) = .nx (lw c k3 v3 x2 none (sd (logD w a1 a2 b1 b2 c1 c2 l es s n)) x5 x6 (sd x) (sd (.str x.shown)) (sd y) none) := by
    have a1_ : (aCons (eCallP 1 1 d__law_cell aNil) aNil) (lw c k1 v1 x2 none (sd (logD w a1 a2 b1 b2 c1 c2 l es s n)) x5 x6 (sd x) (sd (.str x.shown)) x9 none) = .ok [.tuple [p, u]] (lw c k2 v2 x2 none (sd (logD w a1 a2 b1 b2 c1 c2 l es s n)) x5 x6 (sd x) (sd (.str x.shown)) x9 none) := by
      rw [x_aCons, e2, goA_ok, x_consK, x_aNil, put_ok]
    unfold liD
    exact set_of (callP1_at e3 a1_ ⟨_, rfl⟩ rfl) rfl
  have s5 : liE (lw c k3 v3 x2 none (sd (logD w a1 a2 b1 b2 c1 c2 l es s n)) x5 x6 (sd x) (sd (.str x.shown)) (sd y) none) = .nx (lw c k4 v4 x2 none (sd (logD w a1 a2 b1 b2 c1 c2 l es s n)) x5 x6 (sd x) (sd (.str x.shown)) (sd y) none) := by
    obtain ⟨⟨b, F⟩, _, _⟩ := bent_of (bent_mem hq hy)
    obtain ⟨z, hz⟩ := repr_bt b
    have F2 := (cel_of hq2).1
    have i1 : (eLst (aCons (eCall 1 d_is_cell (aCons (eV 9) aNil)) (aCons (eCall 1 d_is_cell (aCons (eCallP 1 1 d__law_cell aNil) aNil)) aNil))) (lw c k3 v3 x2 none (sd (logD w a1 a2 b1 b2 c1 c2 l es s n)) x5 x6 (sd x) (sd (.str x.shown)) (sd y) none) = .ok (.list [.bool b, .bool true]) (lw c k4 v4 x2 none (sd (logD w a1 a2 b1 b2 c1 c2 l es s n)) x5 x6 (sd x) (sd (.str x.shown)) (sd y) none) := by
      have j1 : (aCons (eCallP 1 1 d__law_cell aNil) aNil) (lw c k3 v3 x2 none (sd (logD w a1 a2 b1 b2 c1 c2 l es s n)) x5 x6 (sd x) (sd (.str x.shown)) (sd y) none) = .ok [q2] (lw c k4 v4 x2 none (sd (logD w a1 a2 b1 b2 c1 c2 l es s n)) x5 x6 (sd x) (sd (.str x.shown)) (sd y) none) := by
        rw [x_aCons, e4, goA_ok, x_consK, x_aNil, put_ok]
      have j0 : (eCall 1 d_is_cell (aCons (eV 9) aNil)) (lw c k3 v3 x2 none (sd (logD w a1 a2 b1 b2 c1 c2 l es s n)) x5 x6 (sd x) (sd (.str x.shown)) (sd y) none) = .ok (.bool b) (lw c k3 v3 x2 none (sd (logD w a1 a2 b1 b2 c1 c2 l es s n)) x5 x6 (sd x) (sd (.str x.shown)) (sd y) none) := call1_at (x := y) rfl F.p
      rw [y_eLst, x_aCons, j0, goA_ok, x_consK, x_aCons, call1_at j1 F2.p, goA_ok, x_consK, x_aNil, put_ok, put_ok, goL_ok, y_lstK (by simp)]
    have i2 : (eLst (aCons (eCall 1 d__law_is_cell (aCons (eV 9) aNil)) (aCons (eC (.bool true)) aNil))) (lw c k4 v4 x2 none (sd (logD w a1 a2 b1 b2 c1 c2 l es s n)) x5 x6 (sd x) (sd (.str x.shown)) (sd y) none) = .ok (.list [.bool b, .bool true]) (lw c k4 v4 x2 none (sd (logD w a1 a2 b1 b2 c1 c2 l es s n)) x5 x6 (sd x) (sd (.str x.shown)) (sd y) none) := by
      have j0 : (eCall 1 d__law_is_cell (aCons (eV 9) aNil)) (lw c k4 v4 x2 none (sd (logD w a1 a2 b1 b2 c1 c2 l es s n)) x5 x6 (sd x) (sd (.str x.shown)) (sd y) none) = .ok (.bool b) (lw c k4 v4 x2 none (sd (logD w a1 a2 b1 b2 c1 c2 l es s n)) x5 x6 (sd x) (sd (.str x.shown)) (sd y) none) := call1_at (x := y) rfl F.l
      rw [y_eLst, x_aCons, j0, goA_ok, x_consK, x_aCons, x_eC, goA_ok, x_consK, x_aNil, put_ok, put_ok, goL_ok, y_lstK (by simp)]
    unfold liE
    exact no_if (ne_at (repr_at i1 hz) (repr_at i2 hz))
  have s6 : liF (lw c k4 v4 x2 none (sd (logD w a1 a2 b1 b2 c1 c2 l es s n)) x5 x6 (sd x) (sd (.str x.shown)) (sd y) none) = .nx (lw c k4 v4 x2 none (sd (logD w a1 a2 b1 b2 c1 c2 l es s n)) x5 x6 (sd x) (sd (.str x.shown)) (sd y) none) := by
    unfold liF
    refine no_if ?_
    have v7 : ∀ t, eV 7 (lw c k4 v4 x2 none (sd (logD w a1 a2 b1 b2 c1 c2 l es s n)) x5 x6 (sd t) (sd (.str x.shown)) (sd y) none) = .ok t (lw c k4 v4 x2 none (sd (logD w a1 a2 b1 b2 c1 c2 l es s n)) x5 x6 (sd t) (sd (.str x.shown)) (sd y) none) := fun t => rfl
    rcases X.hd with h | rfl | ⟨h, r, rfl, hn, b, g1, g2⟩
    · rw [x_eAnd, y_eTru, y_eIsa, v7, go_ok, y_isaK, h]
      rfl
    · rw [x_eAnd, y_eTru, y_eIsa, v7, go_ok, y_isaK]
      rfl
    · obtain ⟨z, hz⟩ := repr_b b
      have i1 : (eTru (eIsa "tuple" (eV 7))) (lw c k4 v4 x2 none (sd (logD w a1 a2 b1 b2 c1 c2 l es s n)) x5 x6 (sd (.tuple (h :: r))) (sd (.str (PyData.tuple (h :: r)).shown)) (sd y) none) = .ok (.bool true) (lw c k4 v4 x2 none (sd (logD w a1 a2 b1 b2 c1 c2 l es s n)) x5 x6 (sd (.tuple (h :: r))) (sd (.str (PyData.tuple (h :: r)).shown)) (sd y) none) := by
        rw [y_eTru, y_eIsa, v7, go_ok, y_isaK, isaT hn]
        rfl
      have i2 : (eCmp qNeT (eV 7) (eTup aNil)) (lw c k4 v4 x2 none (sd (logD w a1 a2 b1 b2 c1 c2 l es s n)) x5 x6 (sd (.tuple (h :: r))) (sd (.str (PyData.tuple (h :: r)).shown)) (sd y) none) = .ok (.bool true) (lw c k4 v4 x2 none (sd (logD w a1 a2 b1 b2 c1 c2 l es s n)) x5 x6 (sd (.tuple (h :: r))) (sd (.str (PyData.tuple (h :: r)).shown)) (sd y) none) := by
        have q : qNeT (.tuple (h :: r)) (.tuple []) = some true := by simp [qNeT, hn]
        rw [x_eCmp, v7, go_ok, x_cmK]
        show (Out.ok (.tuple []) _).go _ = _
        rw [go_ok, x_cmK2, q]
        rfl
      have i3 : (aCons (eOp pIx (eV 7) (eC (.int 0))) aNil) (lw c k4 v4 x2 none (sd (logD w a1 a2 b1 b2 c1 c2 l es s n)) x5 x6 (sd (.tuple (h :: r))) (sd (.str (PyData.tuple (h :: r)).shown)) (sd y) none) = .ok [h] (lw c k4 v4 x2 none (sd (logD w a1 a2 b1 b2 c1 c2 l es s n)) x5 x6 (sd (.tuple (h :: r))) (sd (.str (PyData.tuple (h :: r)).shown)) (sd y) none) := by
        rw [x_aCons, x_eOp, v7, go_ok, x_opK, x_eC, go_ok, x_opK2, p_ixT, at_0]
        rfl
      refine and_t i1 (and_t i2 ?_)
      exact ne_at (repr_at (call1_at i3 g1) hz) (repr_at (call1_at i3 g2) hz)
  unfold li
  rw [x_sSeq, s1, on_nx, x_sSeq, s2, on_nx, x_sSeq, s3, on_nx, x_sSeq, s4, on_nx, x_sSeq, s5, on_nx, s6]
theorem li_loop (G : GoodLog w a1 a2 b1 b2 c1 c2 l es n) (s : Bool) (x2 x5 : Option Fl.Arg) : ∀ (ds : List PyData) (k v : Int) (x6 x7 x8 x9 : Option Fl.Arg), ds.length ≤ 100 → 0 ≤ k → k + 20 * ds.length < 2 ^ 54 → 0 ≤ v → ∃ k' v' y6 y7 y8 y9, k ≤ k' ∧ k' ≤ k + 20 * ds.length ∧ 0 ≤ v' ∧
    loop (.nm 6) li ds (lw c k v x2 none (sd (logD w a1 a2 b1 b2 c1 c2 l es s n)) x5 x6 x7 x8 x9 none) = .nx (lw c k' v' x2 none (sd (logD w a1 a2 b1 b2 c1 c2 l es s n)) x5 y6 y7 y8 y9 none)
  | [], k, v, x6, x7, x8, x9, _, hk, _, hv => ⟨k, v, x6, x7, x8, x9, by omega, by simp, hv, rfl⟩
  | d :: ds, k, v, x6, x7, x8, x9, hl, hk, hk2, hv => by
    simp only [List.length_cons] at hl hk2
    obtain ⟨k1, v1, y7, y8, y9, l1, m1, w1, e1⟩ := li_ok (c := c) G s hk (by omega) hv x2 x5 (sd d) x7 x8 x9
    obtain ⟨k2, v2, z6, z7, z8, z9, l2, m2, w2, e2⟩ := li_loop G s x2 x5 ds k1 v1 (sd d) y7 y8 y9 (by omega) (by omega) (by omega) w1
    refine ⟨k2, v2, z6, z7, z8, z9, by omega, by simp only [List.length_cons]; omega, w2, ?_⟩
    rw [y_loopN]
    show (li (lw c k v x2 none (sd (logD w a1 a2 b1 b2 c1 c2 l es s n)) x5 (sd d) x7 x8 x9 none)).lap _ = _
    rw [e1, lap_nx]
    exact e2
theorem lo_ok (hk : 0 ≤ k) (hk2 : k < 2 ^ 53) (hv : 0 ≤ v) (x2 x4 x5 x6 x7 x8 x9 : Option Fl.Arg) : ∃ k' v' y4 y5 y6 y7 y8 y9, k ≤ k' ∧ k' ≤ k + 500 ∧ 0 ≤ v' ∧
    lo (lw c k v x2 none x4 x5 x6 x7 x8 x9 none) = .nx (lw c k' v' x2 none y4 y5 y6 y7 y8 y9 none) := by
  obtain ⟨w, a1, a2, b1, b2, c1, c2, l, es, s, n, k1, v1, G, l1, m1, w1, e1⟩ := law_log_ok (c := c) hk (by omega) hv
  have Q := G.parts s
  have D := log5 Q.T Q.L Q.E isaB (Q.S true).sm.ne Q.N
  have R := (thing5 (c := true) Q.T Q.L Q.E isaB Q.N (mem5 (Q.mt true) (Q.ml true) (Q.me true) (Q.S true) (Q.mn true))).rp
  obtain ⟨k2, v2, l2, m2, w2, e2⟩ := cells_right_ok (c := c) (k := k1) (v := v1) (⟨G.hw, G.h1, G.h2, G.h3, G.h4, G.h5, G.h6⟩ : GoodTab w a1 a2 b1 b2 c1 c2) (by omega) (by omega) w1
  obtain ⟨k3, v3, y6, y7, y8, y9, l3, m3, w3, e3⟩ := li_loop (c := c) G s x2 (sd (.str (logD w a1 a2 b1 b2 c1 c2 l es s n).shown)) (nums 0 10) k2 v2 x6 x7 x8 x9 (by decide) (by omega) (by simp only [nums_len]; omega) w2
  simp only [nums_len] at m3
  refine ⟨k3, v3, sd (logD w a1 a2 b1 b2 c1 c2 l es s n), sd (.str (logD w a1 a2 b1 b2 c1 c2 l es s n).shown), y6, y7, y8, y9, by omega, by omega, w3, ?_⟩
  have s1 : loA (lw c k v x2 none x4 x5 x6 x7 x8 x9 none) = .nx (lw c k1 v1 x2 none (sd (logD w a1 a2 b1 b2 c1 c2 l es s n)) x5 x6 x7 x8 x9 none) := by
    unfold loA
    exact set_of (callP1_at e1 rfl ⟨_, rfl⟩ rfl) rfl
  have s2 : loB (lw c k1 v1 x2 none (sd (logD w a1 a2 b1 b2 c1 c2 l es s n)) x5 x6 x7 x8 x9 none) = .nx (lw c k1 v1 x2 none (sd (logD w a1 a2 b1 b2 c1 c2 l es s n)) (sd (.str (logD w a1 a2 b1 b2 c1 c2 l es s n).shown)) x6 x7 x8 x9 none) := by
    unfold loB
    exact set_of (repr_at (d := logD w a1 a2 b1 b2 c1 c2 l es s n) rfl R) rfl
  have s3 : loC (lw c k1 v1 x2 none (sd (logD w a1 a2 b1 b2 c1 c2 l es s n)) (sd (.str (logD w a1 a2 b1 b2 c1 c2 l es s n).shown)) x6 x7 x8 x9 none) = .nx (lw c k2 v2 x2 none (sd (logD w a1 a2 b1 b2 c1 c2 l es s n)) (sd (.str (logD w a1 a2 b1 b2 c1 c2 l es s n).shown)) x6 x7 x8 x9 none) := by
    have i2 : (aCons (eOp pIx (eV 4) (eC (.int 0))) aNil) (lw c k1 v1 x2 none (sd (logD w a1 a2 b1 b2 c1 c2 l es s n)) (sd (.str (logD w a1 a2 b1 b2 c1 c2 l es s n).shown)) x6 x7 x8 x9 none) = .ok [tabD w a1 a2 b1 b2 c1 c2] (lw c k1 v1 x2 none (sd (logD w a1 a2 b1 b2 c1 c2 l es s n)) (sd (.str (logD w a1 a2 b1 b2 c1 c2 l es s n).shown)) x6 x7 x8 x9 none) := by kernel_rfl
    unfold loC
    refine no_if ?_
    exact or_f (isNot_t (call1_at (x := logD w a1 a2 b1 b2 c1 c2 l es s n) rfl D.1)) (or_f (isNot_t (call1_at i2 Q.T.p)) (not_t (callP1_at e2 i2 ⟨_, rfl⟩ rfl)))
  have s4 : loD (lw c k2 v2 x2 none (sd (logD w a1 a2 b1 b2 c1 c2 l es s n)) (sd (.str (logD w a1 a2 b1 b2 c1 c2 l es s n).shown)) x6 x7 x8 x9 none) = .nx (lw c k3 v3 x2 none (sd (logD w a1 a2 b1 b2 c1 c2 l es s n)) (sd (.str (logD w a1 a2 b1 b2 c1 c2 l es s n).shown)) y6 y7 y8 y9 none) := by
    have r1 : (iRng (aCons (eC (.int 10)) aNil)) (lw c k2 v2 x2 none (sd (logD w a1 a2 b1 b2 c1 c2 l es s n)) (sd (.str (logD w a1 a2 b1 b2 c1 c2 l es s n).shown)) x6 x7 x8 x9 none) = .ok (nums 0 10) (lw c k2 v2 x2 none (sd (logD w a1 a2 b1 b2 c1 c2 l es s n)) (sd (.str (logD w a1 a2 b1 b2 c1 c2 l es s n).shown)) x6 x7 x8 x9 none) := rfl
    unfold loD
    rw [y_sFor, r1, igoS_ok, y_forK]
    exact e3
  have s5 : loE (lw c k3 v3 x2 none (sd (logD w a1 a2 b1 b2 c1 c2 l es s n)) (sd (.str (logD w a1 a2 b1 b2 c1 c2 l es s n).shown)) y6 y7 y8 y9 none) = .nx (lw c k3 v3 x2 none (sd (logD w a1 a2 b1 b2 c1 c2 l es s n)) (sd (.str (logD w a1 a2 b1 b2 c1 c2 l es s n).shown)) y6 y7 y8 y9 none) := by
    unfold loE
    exact no_if (ne_at (repr_at (d := logD w a1 a2 b1 b2 c1 c2 l es s n) rfl R) rfl)
  unfold lo
  rw [x_sSeq, s1, on_nx, x_sSeq, s2, on_nx, x_sSeq, s3, on_nx, x_sSeq, s4, on_nx, s5]
theorem lo_loop : ∀ (ds : List PyData) (k v : Int) (x2 x4 x5 x6 x7 x8 x9 : Option Fl.Arg), ds.length ≤ 100 → 0 ≤ k → k + 500 * ds.length < 2 ^ 52 → 0 ≤ v → ∃ k' v' y2 y4 y5 y6 y7 y8 y9,
    loop (.nm 2) lo ds (lw c k v x2 none x4 x5 x6 x7 x8 x9 none) = .nx (lw c k' v' y2 none y4 y5 y6 y7 y8 y9 none)
  | [], k, v, x2, x4, x5, x6, x7, x8, x9, _, _, _, _ => ⟨k, v, x2, x4, x5, x6, x7, x8, x9, rfl⟩
  | d :: ds, k, v, x2, x4, x5, x6, x7, x8, x9, hl, hk, hk2, hv => by
    simp only [List.length_cons] at hl hk2
    obtain ⟨k1, v1, y4, y5, y6, y7, y8, y9, l1, m1, w1, e1⟩ := lo_ok (c := c) hk (by omega) hv (sd d) x4 x5 x6 x7 x8 x9
    obtain ⟨k2, v2, z2, z4, z5, z6, z7, z8, z9, e2⟩ := lo_loop ds k1 v1 (sd d) y4 y5 y6 y7 y8 y9 (by omega) (by omega) (by omega) w1
    refine ⟨k2, v2, z2, z4, z5, z6, z7, z8, z9, ?_⟩
    rw [y_loopN]
    show (lo (lw c k v (sd d) none x4 x5 x6 x7 x8 x9 none)).lap _ = _
    rw [e1, lap_nx]
    exact e2
theorem end_ok (x2 x4 x5 x6 x7 x8 x9 : Option Fl.Arg) : ∃ ρ, (sSeq leA leB) (lw c k v x2 none x4 x5 x6 x7 x8 x9 none) = .rt (.bool true) ρ :=
  ⟨lw c k v x2 (sd (.list [.none, .tuple [], .list [], .dict [], .int 0, .str "table", .bool true])) x4 x5 x6 x7 x8 x9 none, by kernel_rfl⟩
end
theorem okLaw_all (ns : List Int) : okLaw ns := by
  obtain ⟨k, v, y2, y4, y5, y6, y7, y8, y9, e⟩ := lo_loop (c := ns.take 60) (nums 0 5) 0 0 none none none none none none none (by decide) (by decide) (by simp only [nums_len]; omega) (by decide)
  obtain ⟨ρ, e2⟩ := end_ok (c := ns.take 60) (k := k) (v := v) y2 y4 y5 y6 y7 y8 y9
  refine ⟨ρ, ?_⟩
  have st : lawStart 11 1 60 ns = lw (ns.take 60) 0 0 none none none none none none none none none := rfl
  have r1 : (iRng (aCons (eC (.int 5)) aNil)) (lw (ns.take 60) 0 0 none none none none none none none none none) = .ok (nums 0 5) (lw (ns.take 60) 0 0 none none none none none none none none none) := rfl
  rw [m_law_eq, st, x_sSeq, y_sFor, r1, igoS_ok, y_forK, e, on_nx, e2]
end Lw
set_option Elab.async false
set_option linter.all false
set_option autoImplicit false
set_option maxRecDepth 100000
set_option maxHeartbeats 4000000
namespace Lw
open PySem PySem.Spec PyProof.Rows L2 Fl
section
variable {P : Program} {w : World} {K : PySem.W.Frag} {mg : Str → Option Value} {base : Heap}
theorem law_all (D_is_tuple : DefF K mg "is_tuple" s_is_tuple) (D_is_rising : DefF K mg "is_rising" s_is_rising) (D_cell_at : DefF K mg "cell_at" s_cell_at) (D__law_pen : DefF K mg "_law_pen" s__law_pen) (D__law_next : DefF K mg "_law_next" s__law_next) (D__law_word : DefF K mg "_law_word" s__law_word) (D__law_is_cell : DefF K mg "_law_is_cell" s__law_is_cell) (D_is_cell : DefF K mg "is_cell" s_is_cell) (D_is_lead : DefF K mg "is_lead" s_is_lead) (D_is_end : DefF K mg "is_end" s_is_end) (D_are_seen : DefF K mg "are_seen" s_are_seen) (D__law_draw : DefF K mg "_law_draw" s__law_draw) (D__law_is_table : DefF K mg "_law_is_table" s__law_is_table) (D_is_row : DefF K mg "is_row" s_is_row) (D_are_ends : DefF K mg "are_ends" s_are_ends) (D__law_some : DefF K mg "_law_some" s__law_some) (D__law_cell : DefF K mg "_law_cell" s__law_cell) (D__law_is_log : DefF K mg "_law_is_log" s__law_is_log) (D__law_bent_cell : DefF K mg "_law_bent_cell" s__law_bent_cell) (D_is_table : DefF K mg "is_table" s_is_table) (D__law_log : DefF K mg "_law_log" s__law_log) (D__law_bent_log : DefF K mg "_law_bent_log" s__law_bent_log) (D_is_log : DefF K mg "is_log" s_is_log) (D_check_cell_place : DefF K mg "check_cell_place" s_check_cell_place) (D_cell_of : DefF K mg "cell_of" s_cell_of) (D_with_cell : DefF K mg "with_cell" s_with_cell) (D__law_cells_right : DefF K mg "_law_cells_right" s__law_cells_right) (D_law : DefF K mg "law" s_law) (T : Fx P K mg) (G__law_cells_right : LamFor K mg base "_law_cells_right") : ∃ f fd, mg "law" = some (.ref f) ∧ FnG P w K mg base (L2.CX P w) 10 f fd ["script"] (spLaw K okLaw) ∧ Binds K fd ["script"] [] := by
  have c_is_tuple := cal_is_tuple (P := P) (w := w) (base := base) D_is_tuple T 
  have c_is_rising := cal_is_rising (P := P) (w := w) (base := base) D_is_rising T 
  have c_cell_at := cal_cell_at (P := P) (w := w) (base := base) D_cell_at T 
  have c__law_pen := cal__law_pen (P := P) (w := w) (base := base) D__law_pen T 
  have c__law_next := cal__law_next (P := P) (w := w) (base := base) D__law_next T 
  have c__law_word := cal__law_word (P := P) (w := w) (base := base) D__law_word T 
  have c__law_is_cell := cal__law_is_cell (P := P) (w := w) (base := base) D__law_is_cell T 
  have c_is_cell := cal_is_cell (P := P) (w := w) (base := base) D_is_cell T c_is_tuple
  have c_is_lead := cal_is_lead (P := P) (w := w) (base := base) D_is_lead T c_is_tuple
  have c_is_end := cal_is_end (P := P) (w := w) (base := base) D_is_end T c_is_tuple
  have c_are_seen := cal_are_seen (P := P) (w := w) (base := base) D_are_seen T c_is_rising
  have c__law_draw := cal__law_draw (P := P) (w := w) (base := base) D__law_draw T c__law_next
  have c__law_is_table := cal__law_is_table (P := P) (w := w) (base := base) D__law_is_table T c__law_is_cell
  have c_is_row := cal_is_row (P := P) (w := w) (base := base) D_is_row T c_is_cell c_is_tuple
  have c_are_ends := cal_are_ends (P := P) (w := w) (base := base) D_are_ends T c_is_rising c_is_end
  have c__law_some := cal__law_some (P := P) (w := w) (base := base) D__law_some T c__law_draw
  have c__law_cell := cal__law_cell (P := P) (w := w) (base := base) D__law_cell T c__law_draw
  have c__law_is_log := cal__law_is_log (P := P) (w := w) (base := base) D__law_is_log T c__law_is_table
  have c__law_bent_cell := cal__law_bent_cell (P := P) (w := w) (base := base) D__law_bent_cell T c__law_draw
  have c_is_table := cal_is_table (P := P) (w := w) (base := base) D_is_table T c_is_row c_is_tuple
  have c__law_log := cal__law_log (P := P) (w := w) (base := base) D__law_log T c__law_draw c__law_cell c__law_some
  have c__law_bent_log := cal__law_bent_log (P := P) (w := w) (base := base) D__law_bent_log T c__law_draw c__law_bent_cell
  have c_is_log := cal_is_log (P := P) (w := w) (base := base) D_is_log T c_is_tuple c_are_seen c_are_ends c_is_lead c_is_table
  have c_check_cell_place := cal_check_cell_place (P := P) (w := w) (base := base) D_check_cell_place T c_is_table
  have c_cell_of := cal_cell_of (P := P) (w := w) (base := base) D_cell_of T c_check_cell_place c_cell_at
  have c_with_cell := cal_with_cell (P := P) (w := w) (base := base) D_with_cell T c_check_cell_place c_is_cell
  have c__law_cells_right := cal__law_cells_right (P := P) (w := w) (base := base) D__law_cells_right T c__law_cell c_cell_of c_with_cell c__law_word G__law_cells_right
  exact cal_law D_law T c__law_log c__law_cells_right c_is_table c_is_log c__law_bent_log c__law_is_log c__law_bent_cell c__law_cell c_is_cell c__law_is_cell c__law_is_table c__law_pen
end
section
variable {P : Program} {w : World} {K : PySem.W.Frag} {mg : Str → Option Value} {h : Heap} {fa : Addr}
structure Ds (K : PySem.W.Frag) (mg : Str → Option Value) : Prop where
  d_is_tuple : DefF K mg "is_tuple" s_is_tuple
  d_is_rising : DefF K mg "is_rising" s_is_rising
  d_cell_at : DefF K mg "cell_at" s_cell_at
  d__law_pen : DefF K mg "_law_pen" s__law_pen
  d__law_next : DefF K mg "_law_next" s__law_next
  d__law_word : DefF K mg "_law_word" s__law_word
  d__law_is_cell : DefF K mg "_law_is_cell" s__law_is_cell
  d_is_cell : DefF K mg "is_cell" s_is_cell
  d_is_lead : DefF K mg "is_lead" s_is_lead
  d_is_end : DefF K mg "is_end" s_is_end
  d_are_seen : DefF K mg "are_seen" s_are_seen
  d__law_draw : DefF K mg "_law_draw" s__law_draw
  d__law_is_table : DefF K mg "_law_is_table" s__law_is_table
  d_is_row : DefF K mg "is_row" s_is_row
  d_are_ends : DefF K mg "are_ends" s_are_ends
  d__law_some : DefF K mg "_law_some" s__law_some
  d__law_cell : DefF K mg "_law_cell" s__law_cell
  d__law_is_log : DefF K mg "_law_is_log" s__law_is_log
  d__law_bent_cell : DefF K mg "_law_bent_cell" s__law_bent_cell
  d_is_table : DefF K mg "is_table" s_is_table
  d__law_log : DefF K mg "_law_log" s__law_log
  d__law_bent_log : DefF K mg "_law_bent_log" s__law_bent_log
  d_is_log : DefF K mg "is_log" s_is_log
  d_check_cell_place : DefF K mg "check_cell_place" s_check_cell_place
  d_cell_of : DefF K mg "cell_of" s_cell_of
  d_with_cell : DefF K mg "with_cell" s_with_cell
  d__law_cells_right : DefF K mg "_law_cells_right" s__law_cells_right
  d_law : DefF K mg "law" s_law
structure Ls (K : PySem.W.Frag) : Prop where
  l__law_cells_right : Fl.lamB K "_law_cells_right" = true
theorem law_end (X : K.In h) (G : h.Ns mainGlobals mg) (hfa : mg "law" = some (.ref fa)) (D : Ds K mg) (T : Fx P K mg) (L : Ls K) :
    ∀ base : Heap, K.In base → base.Ns mainGlobals mg → (∀ t ∈ tabRec K, LamX.TabB base mg t.2.1 t.2.2.2) → ∃ fd, FnG P w K mg base (L2.CX P w) 10 fa fd ["script"] (spLaw K okLaw) ∧ Binds K fd ["script"] [] := by
  intro base _ _ TB
  obtain ⟨f, fd, hm, hF, hB⟩ := law_all (P := P) (w := w) (base := base) D.d_is_tuple D.d_is_rising D.d_cell_at D.d__law_pen D.d__law_next D.d__law_word D.d__law_is_cell D.d_is_cell D.d_is_lead D.d_is_end D.d_are_seen D.d__law_draw D.d__law_is_table D.d_is_row D.d_are_ends D.d__law_some D.d__law_cell D.d__law_is_log D.d__law_bent_cell D.d_is_table D.d__law_log D.d__law_bent_log D.d_is_log D.d_check_cell_place D.d_cell_of D.d_with_cell D.d__law_cells_right D.d_law T (Fl.lamFor_ok TB L.l__law_cells_right)
  have e := hfa.symm.trans hm
  cases e
  exact ⟨fd, hF, hB⟩
end
end Lw
open PySem PySem.W PyProof.Rows
set_option maxRecDepth 100000 in
set_option maxHeartbeats 8000000 in
theorem PySem.Challenge.cw_flushtold_k01_logs_holds : PySem.Challenge.rw_flushtold_k01_logs.Holds := by
  w_on; o_law; k_head; (case hw => w_witness2)
  k_fill
  refine Fl.walk_g (l := PySem.Challenge.rw_flushtold_k01_logs) (x := "script") (k := 10) (ok := Lw.okLaw) rfl (by decide) rfl ⟨rfl, by decide, by decide⟩ (fun w h Y => by first | exact kIn_of Y | exact km_in_of Y) ?flTab ?flF (fun ns h1 h2 => Lw.okLaw_all ns)
  case flTab => intro w; kernel_rfl
  case flF =>
    intro w mg fa h X G hmg
    refine Lw.law_end X G hmg ?flD ?flX ?flL
    case flD =>
      refine ⟨?flD_is_tuple, ?flD_is_rising, ?flD_cell_at, ?flD__law_pen, ?flD__law_next, ?flD__law_word, ?flD__law_is_cell, ?flD_is_cell, ?flD_is_lead, ?flD_is_end, ?flD_are_seen, ?flD__law_draw, ?flD__law_is_table, ?flD_is_row, ?flD_are_ends, ?flD__law_some, ?flD__law_cell, ?flD__law_is_log, ?flD__law_bent_cell, ?flD_is_table, ?flD__law_log, ?flD__law_bent_log, ?flD_is_log, ?flD_check_cell_place, ?flD_cell_of, ?flD_with_cell, ?flD__law_cells_right, ?flD_law⟩
      · refine' Fl.def_mk X G ?a_is_tuple ?l_is_tuple ?c_is_tuple ?k_is_tuple
        (case a_is_tuple => k_is); (case l_is_tuple => k_is); (case c_is_tuple => k_is); (case k_is_tuple => k_is)
      · refine' Fl.def_mk X G ?a_is_rising ?l_is_rising ?c_is_rising ?k_is_rising
        (case a_is_rising => k_is); (case l_is_rising => k_is); (case c_is_rising => k_is); (case k_is_rising => k_is)
      · refine' Fl.def_mk X G ?a_cell_at ?l_cell_at ?c_cell_at ?k_cell_at
        (case a_cell_at => k_is); (case l_cell_at => k_is); (case c_cell_at => k_is); (case k_cell_at => k_is)
      · refine' Fl.def_mk X G ?a__law_pen ?l__law_pen ?c__law_pen ?k__law_pen
        (case a__law_pen => k_is); (case l__law_pen => k_is); (case c__law_pen => k_is); (case k__law_pen => k_is)
      · refine' Fl.def_mk X G ?a__law_next ?l__law_next ?c__law_next ?k__law_next
        (case a__law_next => k_is); (case l__law_next => k_is); (case c__law_next => k_is); (case k__law_next => k_is)
      · refine' Fl.def_mk X G ?a__law_word ?l__law_word ?c__law_word ?k__law_word
        (case a__law_word => k_is); (case l__law_word => k_is); (case c__law_word => k_is); (case k__law_word => k_is)
      · refine' Fl.def_mk X G ?a__law_is_cell ?l__law_is_cell ?c__law_is_cell ?k__law_is_cell
        (case a__law_is_cell => k_is); (case l__law_is_cell => k_is); (case c__law_is_cell => k_is); (case k__law_is_cell => k_is)
      · refine' Fl.def_mk X G ?a_is_cell ?l_is_cell ?c_is_cell ?k_is_cell
        (case a_is_cell => k_is); (case l_is_cell => k_is); (case c_is_cell => k_is); (case k_is_cell => k_is)
      · refine' Fl.def_mk X G ?a_is_lead ?l_is_lead ?c_is_lead ?k_is_lead
        (case a_is_lead => k_is); (case l_is_lead => k_is); (case c_is_lead => k_is); (case k_is_lead => k_is)
      · refine' Fl.def_mk X G ?a_is_end ?l_is_end ?c_is_end ?k_is_end
        (case a_is_end => k_is); (case l_is_end => k_is); (case c_is_end => k_is); (case k_is_end => k_is)
      · refine' Fl.def_mk X G ?a_are_seen ?l_are_seen ?c_are_seen ?k_are_seen
        (case a_are_seen => k_is); (case l_are_seen => k_is); (case c_are_seen => k_is); (case k_are_seen => k_is)
      · refine' Fl.def_mk X G ?a__law_draw ?l__law_draw ?c__law_draw ?k__law_draw
        (case a__law_draw => k_is); (case l__law_draw => k_is); (case c__law_draw => k_is); (case k__law_draw => k_is)
      · refine' Fl.def_mk X G ?a__law_is_table ?l__law_is_table ?c__law_is_table ?k__law_is_table
        (case a__law_is_table => k_is); (case l__law_is_table => k_is); (case c__law_is_table => k_is); (case k__law_is_table => k_is)
      · refine' Fl.def_mk X G ?a_is_row ?l_is_row ?c_is_row ?k_is_row
        (case a_is_row => k_is); (case l_is_row => k_is); (case c_is_row => k_is); (case k_is_row => k_is)
      · refine' Fl.def_mk X G ?a_are_ends ?l_are_ends ?c_are_ends ?k_are_ends
        (case a_are_ends => k_is); (case l_are_ends => k_is); (case c_are_ends => k_is); (case k_are_ends => k_is)
      · refine' Fl.def_mk X G ?a__law_some ?l__law_some ?c__law_some ?k__law_some
        (case a__law_some => k_is); (case l__law_some => k_is); (case c__law_some => k_is); (case k__law_some => k_is)
      · refine' Fl.def_mk X G ?a__law_cell ?l__law_cell ?c__law_cell ?k__law_cell
        (case a__law_cell => k_is); (case l__law_cell => k_is); (case c__law_cell => k_is); (case k__law_cell => k_is)
      · refine' Fl.def_mk X G ?a__law_is_log ?l__law_is_log ?c__law_is_log ?k__law_is_log
        (case a__law_is_log => k_is); (case l__law_is_log => k_is); (case c__law_is_log => k_is); (case k__law_is_log => k_is)
      · refine' Fl.def_mk X G ?a__law_bent_cell ?l__law_bent_cell ?c__law_bent_cell ?k__law_bent_cell
        (case a__law_bent_cell => k_is); (case l__law_bent_cell => k_is); (case c__law_bent_cell => k_is); (case k__law_bent_cell => k_is)
      · refine' Fl.def_mk X G ?a_is_table ?l_is_table ?c_is_table ?k_is_table
        (case a_is_table => k_is); (case l_is_table => k_is); (case c_is_table => k_is); (case k_is_table => k_is)
      · refine' Fl.def_mk X G ?a__law_log ?l__law_log ?c__law_log ?k__law_log
        (case a__law_log => k_is); (case l__law_log => k_is); (case c__law_log => k_is); (case k__law_log => k_is)
      · refine' Fl.def_mk X G ?a__law_bent_log ?l__law_bent_log ?c__law_bent_log ?k__law_bent_log
        (case a__law_bent_log => k_is); (case l__law_bent_log => k_is); (case c__law_bent_log => k_is); (case k__law_bent_log => k_is)
      · refine' Fl.def_mk X G ?a_is_log ?l_is_log ?c_is_log ?k_is_log
        (case a_is_log => k_is); (case l_is_log => k_is); (case c_is_log => k_is); (case k_is_log => k_is)
      · refine' Fl.def_mk X G ?a_check_cell_place ?l_check_cell_place ?c_check_cell_place ?k_check_cell_place
        (case a_check_cell_place => k_is); (case l_check_cell_place => k_is); (case c_check_cell_place => k_is); (case k_check_cell_place => k_is)
      · refine' Fl.def_mk X G ?a_cell_of ?l_cell_of ?c_cell_of ?k_cell_of
        (case a_cell_of => k_is); (case l_cell_of => k_is); (case c_cell_of => k_is); (case k_cell_of => k_is)
      · refine' Fl.def_mk X G ?a_with_cell ?l_with_cell ?c_with_cell ?k_with_cell
        (case a_with_cell => k_is); (case l_with_cell => k_is); (case c_with_cell => k_is); (case k_with_cell => k_is)
      · refine' Fl.def_mk X G ?a__law_cells_right ?l__law_cells_right ?c__law_cells_right ?k__law_cells_right
        (case a__law_cells_right => k_is); (case l__law_cells_right => k_is); (case c__law_cells_right => k_is); (case k__law_cells_right => k_is)
      · refine' Fl.def_mk X G ?a_law ?l_law ?c_law ?k_law
        (case a_law => k_is); (case l_law => k_is); (case c_law => k_is); (case k_law => k_is)
    case flX =>
      refine ⟨?flX_b_all, ?flX_b_any, ?flX_b_bool, ?flX_b_int, ?flX_b_isinstance, ?flX_b_len, ?flX_b_list, ?flX_b_min, ?flX_b_range, ?flX_b_repr, ?flX_b_sorted, ?flX_b_tuple, ?flX_b_zip, ?flX_c_EVENTS, ?flX_c_LEADS, ?flX_c_MOVING, ?flX_c_PLACES, ?flX_c_REPORTS, ?flX_c_RESULTS, ?flX_c_WORDS, ?flX_e_InvalidCell, ?flX_e_InvalidEvent, ?flX_e_InvalidPlace, ?flX_e_InvalidTable, ?flX_i_InvalidCell, ?flX_i_InvalidEvent, ?flX_i_InvalidPlace, ?flX_i_InvalidTable, ?flX_g_FlushError⟩
      · exact Fl.noB_ok X G (by kernel_rfl)
      · exact Fl.noB_ok X G (by kernel_rfl)
      · exact Fl.noB_ok X G (by kernel_rfl)
      · exact Fl.noB_ok X G (by kernel_rfl)
      · exact Fl.noB_ok X G (by kernel_rfl)
      · exact Fl.noB_ok X G (by kernel_rfl)
      · exact Fl.noB_ok X G (by kernel_rfl)
      · exact Fl.noB_ok X G (by kernel_rfl)
      · exact Fl.noB_ok X G (by kernel_rfl)
      · exact Fl.noB_ok X G (by kernel_rfl)
      · exact Fl.noB_ok X G (by kernel_rfl)
      · exact Fl.noB_ok X G (by kernel_rfl)
      · exact Fl.noB_ok X G (by kernel_rfl)
      · exact Fl.globTB_ok X G (by kernel_rfl)
      · exact Fl.globTB_ok X G (by kernel_rfl)
      · exact Fl.globTB_ok X G (by kernel_rfl)
      · exact Fl.globTB_ok X G (by kernel_rfl)
      · exact Fl.globTB_ok X G (by kernel_rfl)
      · exact Fl.globTB_ok X G (by kernel_rfl)
      · exact Fl.globTB_ok X G (by kernel_rfl)
      · exact Fl.raiB_ok X G (by kernel_rfl)
      · exact Fl.raiB_ok X G (by kernel_rfl)
      · exact Fl.raiB_ok X G (by kernel_rfl)
      · exact Fl.raiB_ok X G (by kernel_rfl)
      · exact Fl.ownB_ok X G (by kernel_rfl)
      · exact Fl.ownB_ok X G (by kernel_rfl)
      · exact Fl.ownB_ok X G (by kernel_rfl)
      · exact Fl.ownB_ok X G (by kernel_rfl)
      · exact Fl.catB_ok X G (by kernel_rfl)
    case flL =>
      refine ⟨?flL__law_cells_right⟩
      · kernel_rfl
