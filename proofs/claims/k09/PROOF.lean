import PyProof.Rows.All
import Wide.All
import OpenK.AllK
import Wide.FinOn
import HandS.ForMost
import HandS.Wide
import HandS.Style
import HandS.Conv
import HandS.Gcd
import KE.KMathG
import KE.KMathGC
import HandS.Nested
import HandS.Deep
import PyProof.Rows.InDataRows
import HandS.IsInst
import HandS.Iter
import KE.GoesMore
import HandS.Zip
import HandS.TupAny
import KE.KDictWalk
import HandS.TupLe
import PySem.Challenge.RW_unendtold_k09_acceptors
set_option Elab.async false
set_option linter.all false
set_option maxRecDepth 100000
/-! A logic of data over the hand layer: expressions and statements speak of trees of data, the heap stays behind. -/
namespace DL
open PySem PySem.Spec PyProof.Rows L2
open NdefX (NTab TabN TabsN)

/-! ### readings as such -/
section
variable {X : Cx}
def cE (X : Cx) (e : Expr) : TE := fun σ H Q => ∀ (pins : List (Addr × Obj)) (s : Shared), Inv X pins σ H s → wpAny (model X.prog X.w) X.A (eval e X.env) (EP X pins σ Q) X.xe s
def cT (X : Cx) (e : Expr) : TT := fun σ H Q => ∀ (pins : List (Addr × Obj)) (s : Shared), Inv X pins σ H s → wpAny (model X.prog X.w) X.A (isTrue e X.env (eval e X.env)) (TP X pins σ Q) X.xe s
def cA (X : Cx) (es : List Expr) : TA := fun σ H Q => ∀ (pos : Pos) (pins : List (Addr × Obj)) (s : Shared), Inv X pins σ H s → wpAny (model X.prog X.w) X.A (spliced (backTo pos (starEach es X.env))) (AP X pins σ Q) X.xe s
def cS (X : Cx) (st : Stmt) : TS := fun D σ H => ∀ (pins : List (Addr × Obj)) (s : Shared), Inv X pins σ H s → wpAny (model X.prog X.w) X.A (exec st X.env) (SP X pins D) X.xe s
def cSs (X : Cx) (st : List Stmt) : TS := fun D σ H => ∀ (pins : List (Addr × Obj)) (s : Shared), Inv X pins σ H s → wpAny (model X.prog X.w) X.A (execs st X.env) (SP X pins D) X.xe s
def cG (X : Cx) (tg : Expr) : TG := fun v σ H Q => ∀ (pins : List (Addr × Obj)) (s : Shared) (u : Value), Inv X pins σ H s → RelV v u →
  wpAny (model X.prog X.w) X.A (assign tg X.env u) (fun _ s' => ∃ σ' H', Inv X pins σ' H' s' ∧ Q σ' H') X.xe s
def cI (X : Cx) (tg iter : Expr) : TI := fun σ H R => ∀ (pins : List (Addr × Obj)) (s : Shared), Inv X pins σ H s →
  wpAny (model X.prog X.w) X.A (eval iter X.env) (fun v s1 => wpAny (model X.prog X.w) X.A (pyIter v) (PIE X pins σ tg R) X.xe s1) X.xe s
theorem pe_c (e : Expr) : PE X e (cE X e) := ⟨fun pins s _ _ _ I h => h pins s I⟩
theorem pt_c (e : Expr) : PT X e (cT X e) := ⟨fun pins s _ _ _ I h => h pins s I⟩
theorem pa_c (es : List Expr) : PA X es (cA X es) := ⟨fun pos pins s _ _ _ I h => h pos pins s I⟩
theorem ps_c (st : Stmt) : PS X st (cS X st) := ⟨fun pins s _ _ _ I h => h pins s I⟩
theorem pss_c (st : List Stmt) : PSs X st (cSs X st) := ⟨fun pins s _ _ _ I h => h pins s I⟩
theorem pg_c (tg : Expr) : PG X tg (cG X tg) := ⟨fun pins s _ _ _ u _ I r h => h pins s u I r⟩
theorem pi_c (tg iter : Expr) : PI X tg iter (cI X tg iter) := ⟨fun pins s _ _ _ I h => h pins s I⟩
theorem ofE {e : Expr} {t : TE} {σ : L2.St} {H : Hp} {Q : VK} (p : PE X e t) (h : t σ H Q) : cE X e σ H Q := fun pins s I => p.run pins s σ H Q I h
theorem ofT {e : Expr} {t : TT} {σ : L2.St} {H : Hp} {Q : Bool → Hp → Prop} (p : PT X e t) (h : t σ H Q) : cT X e σ H Q := fun pins s I => p.run pins s σ H Q I h
theorem ofA {es : List Expr} {t : TA} {σ : L2.St} {H : Hp} {Q : List V → Hp → Prop} (p : PA X es t) (h : t σ H Q) : cA X es σ H Q := fun pos pins s I => p.run pos pins s σ H Q I h
theorem ofS {st : Stmt} {t : TS} {σ : L2.St} {H : Hp} {D : Ends} (p : PS X st t) (h : t D σ H) : cS X st D σ H := fun pins s I => p.run pins s σ H D I h
theorem ofSs {st : List Stmt} {t : TS} {σ : L2.St} {H : Hp} {D : Ends} (p : PSs X st t) (h : t D σ H) : cSs X st D σ H := fun pins s I => p.run pins s σ H D I h
theorem ofG {tg : Expr} {t : TG} {v : V} {σ : L2.St} {H : Hp} {Q : L2.St → Hp → Prop} (p : PG X tg t) (h : t v σ H Q) : cG X tg v σ H Q := fun pins s u I r => p.run pins s σ H v u Q I r h
theorem ofI {tg iter : Expr} {t : TI} {σ : L2.St} {H : Hp} {R : It → Hp → Prop} (p : PI X tg iter t) (h : t σ H R) : cI X tg iter σ H R := fun pins s I => p.run pins s σ H R I h
end

/-! ### data and what stands for it -/
def keyD : Key → PyData
  | .inl i => .int i
  | .inr x => .str x
/-- dicts: a first pair tells the kind of their keys -/
def dTD (kvs : List (List Key × PyData)) : PyData := .dict ((.none, .none) :: kvs.map fun p => (.tuple (p.1.map keyD), p.2))
def dKD (kvs : List (Key × PyData)) : PyData := .dict ((.none, .bool true) :: kvs.map fun p => (keyD p.1, p.2))
theorem keyD_inj : ∀ {a b : Key}, keyD a = keyD b → a = b
  | .inl _, .inl _, h => by injection h with h; rw [h]
  | .inr _, .inr _, h => by injection h with h; rw [h]
  | .inl _, .inr _, h => by cases h
  | .inr _, .inl _, h => by cases h
theorem keys_inj : ∀ {a b : List Key}, a.map keyD = b.map keyD → a = b
  | [], [], _ => rfl
  | [], _ :: _, h => by cases h
  | _ :: _, [], h => by cases h
  | x :: a, y :: b, h => by
    injection h with h1 h2
    rw [keyD_inj h1, keys_inj h2]
theorem dTD_inj {a b : List (List Key × PyData)} (h : dTD a = dTD b) : a = b := by
  injection h with h
  injection h with _ h
  induction a generalizing b with
  | nil => cases b with
    | nil => rfl
    | cons _ _ => cases h
  | cons x a ih => cases b with
    | nil => cases h
    | cons y b =>
      injection h with h1 h2
      injection h1 with h3 h4
      injection h3 with h3
      rw [ih h2, show x = y from Prod.ext (keys_inj h3) h4]
theorem dKD_inj {a b : List (Key × PyData)} (h : dKD a = dKD b) : a = b := by
  injection h with h
  injection h with _ h
  induction a generalizing b with
  | nil => cases b with
    | nil => rfl
    | cons _ _ => cases h
  | cons x a ih => cases b with
    | nil => cases h
    | cons y b =>
      injection h with h1 h2
      injection h1 with h3 h4
      rw [ih h2, show x = y from Prod.ext (keyD_inj h3) h4]
mutual
inductive Rep (K : PySem.W.Frag) (B : Hp) : V → PyData → Prop
  | non : Rep K B .non .none
  | bl (b : Bool) : Rep K B (.bl b) (.bool b)
  | int (i : Int) : Rep K B (.int i) (.int i)
  | str (x : Str) : Rep K B (.str x) (.str x)
  | obj {a : Addr} {o : HO} {d : PyData} : B a = some o → ObjR K B o d → Rep K B (.ref a) d
inductive ObjR (K : PySem.W.Frag) (B : Hp) : HO → PyData → Prop
  | lst {vs : List V} {ds : List PyData} : Reps K B vs ds → ObjR K B (.lst vs) (.list ds)
  | tup {vs : List V} {ds : List PyData} : Reps K B vs ds → ObjR K B (.tup vs) (.tuple ds)
  | dT {kvs : List (List Key × V)} {ps : List (List Key × PyData)} : RepT K B kvs ps → ObjR K B (.dT kvs) (dTD ps)
  | dK {kvs : List (Key × V)} {ps : List (Key × PyData)} : RepK K B kvs ps → ObjR K B (.dK kvs) (dKD ps)
inductive Reps (K : PySem.W.Frag) (B : Hp) : List V → List PyData → Prop
  | nil : Reps K B [] []
  | cons {v : V} {vs : List V} {d : PyData} {ds : List PyData} : Rep K B v d → Reps K B vs ds → Reps K B (v :: vs) (d :: ds)
inductive RepT (K : PySem.W.Frag) (B : Hp) : List (List Key × V) → List (List Key × PyData) → Prop
  | nil : RepT K B [] []
  | cons {k : List Key} {v : V} {kvs : List (List Key × V)} {d : PyData} {ps : List (List Key × PyData)} : Rep K B v d → RepT K B kvs ps → RepT K B ((k, v) :: kvs) ((k, d) :: ps)
inductive RepK (K : PySem.W.Frag) (B : Hp) : List (Key × V) → List (Key × PyData) → Prop
  | nil : RepK K B [] []
  | cons {k : Key} {v : V} {kvs : List (Key × V)} {d : PyData} {ps : List (Key × PyData)} : Rep K B v d → RepK K B kvs ps → RepK K B ((k, v) :: kvs) ((k, d) :: ps)
end
theorem sqT_mono {K : PySem.W.Frag} {B B' : Hp} (e : Same B B') {a : Addr} {xs : List V} (h : SqT K B a xs) : SqT K B' a xs := by
  rcases h with (h | ⟨o, h⟩) | h
  · exact .inl (.inl (e _ _ h))
  · exact .inl (.inr ⟨o, e _ _ h⟩)
  · exact .inr h
section
variable {K : PySem.W.Frag} {B B' : Hp}
mutual
theorem Rep.mono (e : Same B B') : ∀ {v : V} {d : PyData}, Rep K B v d → Rep K B' v d
  | _, _, .non => .non
  | _, _, .bl b => .bl b
  | _, _, .int i => .int i
  | _, _, .str x => .str x
  | _, _, .obj h r => .obj (e _ _ h) (ObjR.mono e r)
theorem ObjR.mono (e : Same B B') : ∀ {o : HO} {d : PyData}, ObjR K B o d → ObjR K B' o d
  | _, _, .lst r => .lst (Reps.mono e r)
  | _, _, .tup r => .tup (Reps.mono e r)
  | _, _, .dT r => .dT (RepT.mono e r)
  | _, _, .dK r => .dK (RepK.mono e r)
theorem Reps.mono (e : Same B B') : ∀ {vs : List V} {ds : List PyData}, Reps K B vs ds → Reps K B' vs ds
  | _, _, .nil => .nil
  | _, _, .cons h r => .cons (Rep.mono e h) (Reps.mono e r)
theorem RepT.mono (e : Same B B') : ∀ {kvs : List (List Key × V)} {ps : List (List Key × PyData)}, RepT K B kvs ps → RepT K B' kvs ps
  | _, _, .nil => .nil
  | _, _, .cons h r => .cons (Rep.mono e h) (RepT.mono e r)
theorem RepK.mono (e : Same B B') : ∀ {kvs : List (Key × V)} {ps : List (Key × PyData)}, RepK K B kvs ps → RepK K B' kvs ps
  | _, _, .nil => .nil
  | _, _, .cons h r => .cons (Rep.mono e h) (RepK.mono e r)
end
theorem Reps.length : ∀ {vs : List V} {ds : List PyData}, Reps K B vs ds → vs.length = ds.length
  | _, _, .nil => rfl
  | _, _, .cons _ r => by rw [List.length_cons, List.length_cons, Reps.length r]
theorem Reps.get : ∀ {vs : List V} {ds : List PyData} {i : Nat} {d : PyData}, Reps K B vs ds → ds[i]? = some d → ∃ v, vs[i]? = some v ∧ Rep K B v d
  | _, _, _, _, .nil, h => by simp at h
  | _, _, 0, _, .cons r _, h => by simp at h; subst h; exact ⟨_, rfl, r⟩
  | _, _, i + 1, _, .cons _ t, h => by
    obtain ⟨v, a, b⟩ := Reps.get (i := i) t (by simpa using h)
    exact ⟨v, by simpa using a, b⟩
theorem Reps.getV : ∀ {vs : List V} {ds : List PyData} {i : Nat} {v : V}, Reps K B vs ds → vs[i]? = some v → ∃ d, ds[i]? = some d ∧ Rep K B v d
  | _, _, _, _, .nil, h => by simp at h
  | _, _, 0, _, .cons r _, h => by simp at h; subst h; exact ⟨_, rfl, r⟩
  | _, _, i + 1, _, .cons _ t, h => by
    obtain ⟨v, a, b⟩ := Reps.getV (i := i) t (by simpa using h)
    exact ⟨v, by simpa using a, b⟩
theorem Reps.append : ∀ {vs ws : List V} {ds es : List PyData}, Reps K B vs ds → Reps K B ws es → Reps K B (vs ++ ws) (ds ++ es)
  | _, _, _, _, .nil, s => s
  | _, _, _, _, .cons r t, s => .cons r (Reps.append t s)
theorem Reps.take : ∀ {vs : List V} {ds : List PyData} (n : Nat), Reps K B vs ds → Reps K B (vs.take n) (ds.take n)
  | _, _, 0, _ => .nil
  | _, _, _ + 1, .nil => .nil
  | _, _, n + 1, .cons r t => .cons r (Reps.take n t)
theorem Reps.drop : ∀ {vs : List V} {ds : List PyData} (n : Nat), Reps K B vs ds → Reps K B (vs.drop n) (ds.drop n)
  | _, _, 0, r => r
  | _, _, _ + 1, .nil => .nil
  | _, _, n + 1, .cons r t => Reps.drop n t
theorem Reps.set : ∀ {vs : List V} {ds : List PyData} {v : V} {d : PyData} (i : Nat), Reps K B vs ds → Rep K B v d → Reps K B (vs.set i v) (ds.set i d)
  | _, _, _, _, _, .nil, _ => .nil
  | _, _, _, _, 0, .cons _ t, q => .cons q t
  | _, _, _, _, i + 1, .cons r t, q => .cons r (Reps.set i t q)
theorem Reps.ints : ∀ {vs : List V} {ns : List Int}, Reps K B vs (ns.map PyData.int) → vs = ns.map V.int
  | _, [], h => by cases h; rfl
  | _, n :: ns, h => by
    cases h with
    | cons r t =>
      rw [Reps.ints t]
      cases r with
      | int i => rfl
      | obj _ q => cases q
theorem Reps.ofInts : ∀ ns : List Int, Reps K B (ns.map V.int) (ns.map PyData.int)
  | [] => .nil
  | n :: ns => .cons (.int n) (Reps.ofInts ns)
theorem Reps.bls : ∀ {vs : List V} {bs : List Bool}, Reps K B vs (bs.map PyData.bool) → vs = bs.map V.bl
  | _, [], h => by cases h; rfl
  | _, n :: ns, h => by
    cases h with
    | cons r t =>
      rw [Reps.bls t]
      cases r with
      | bl i => rfl
      | obj _ q => cases q
theorem Rep.int_inv {v : V} {i : Int} (h : Rep K B v (.int i)) : v = .int i := by
  cases h with
  | int i => rfl
  | obj _ q => cases q
theorem Rep.bl_inv {v : V} {i : Bool} (h : Rep K B v (.bool i)) : v = .bl i := by
  cases h with
  | bl i => rfl
  | obj _ q => cases q
theorem Rep.non_inv {v : V} (h : Rep K B v .none) : v = .non := by
  cases h with
  | non => rfl
  | obj _ q => cases q
theorem Rep.str_inv {v : V} {i : Str} (h : Rep K B v (.str i)) : v = .str i := by
  cases h with
  | str i => rfl
  | obj _ q => cases q
theorem Rep.lst_inv {v : V} {ds : List PyData} (h : Rep K B v (.list ds)) : ∃ a vs, v = .ref a ∧ B a = some (.lst vs) ∧ Reps K B vs ds := by
  cases h with
  | obj e q =>
    cases q with
    | lst r => exact ⟨_, _, rfl, e, r⟩
theorem Rep.tup_inv {v : V} {ds : List PyData} (h : Rep K B v (.tuple ds)) : ∃ a vs, v = .ref a ∧ B a = some (.tup vs) ∧ Reps K B vs ds := by
  cases h with
  | obj e q =>
    cases q with
    | tup r => exact ⟨_, _, rfl, e, r⟩
theorem ObjR.dT_inv {o : HO} {kvs : List (List Key × PyData)} (h : ObjR K B o (dTD kvs)) : ∃ kv, o = .dT kv ∧ RepT K B kv kvs := by
  generalize e : dTD kvs = d at h
  cases h with
  | dT r => exact ⟨_, rfl, by rw [dTD_inj e]; exact r⟩
  | dK r => cases e
  | lst r => cases e
  | tup r => cases e
theorem ObjR.dK_inv {o : HO} {kvs : List (Key × PyData)} (h : ObjR K B o (dKD kvs)) : ∃ kv, o = .dK kv ∧ RepK K B kv kvs := by
  generalize e : dKD kvs = d at h
  cases h with
  | dK r => exact ⟨_, rfl, by rw [dKD_inj e]; exact r⟩
  | dT r => cases e
  | lst r => cases e
  | tup r => cases e
theorem Rep.dT_inv {v : V} {kvs : List (List Key × PyData)} (h : Rep K B v (dTD kvs)) : ∃ a kv, v = .ref a ∧ B a = some (.dT kv) ∧ RepT K B kv kvs := by
  generalize e : dTD kvs = d at h
  cases h with
  | obj e2 q =>
    subst e
    obtain ⟨kv, rfl, r⟩ := q.dT_inv
    exact ⟨_, _, rfl, e2, r⟩
  | _ => cases e
theorem Rep.dK_inv {v : V} {kvs : List (Key × PyData)} (h : Rep K B v (dKD kvs)) : ∃ a kv, v = .ref a ∧ B a = some (.dK kv) ∧ RepK K B kv kvs := by
  generalize e : dKD kvs = d at h
  cases h with
  | obj e2 q =>
    subst e
    obtain ⟨kv, rfl, r⟩ := q.dK_inv
    exact ⟨_, _, rfl, e2, r⟩
  | _ => cases e
mutual
theorem Rep.dp : ∀ (d : PyData) (v : V), Rep K B v d → d.canLay0 = true → Dp K B v d
  | .none, _, h, _ => by rw [h.non_inv]; exact .non
  | .bool b, _, h, _ => by rw [h.bl_inv]; exact .bl b
  | .int b, _, h, _ => by rw [h.int_inv]; exact .int b
  | .str b, _, h, _ => by rw [h.str_inv]; exact .str b
  | .list ds, _, h, c => by
    obtain ⟨a, vs, rfl, e, r⟩ := h.lst_inv
    exact .lst (SqL.of e) (Reps.dp ds vs r (by simpa [PyData.canLay0] using c))
  | .tuple ds, _, h, c => by
    obtain ⟨a, vs, rfl, e, r⟩ := h.tup_inv
    exact .tup (SqT.of e) (Reps.dp ds vs r (by simpa [PyData.canLay0] using c))
  | .dict _, _, _, c => by simp [PyData.canLay0] at c
theorem Reps.dp : ∀ (ds : List PyData) (vs : List V), Reps K B vs ds → PyData.canLayAll0 ds = true → DpAll K B vs ds
  | [], _, h, _ => by cases h; exact .nil
  | d :: ds, _, h, c => by
    cases h with
    | cons r t =>
      have c2 : d.canLay0 = true ∧ PyData.canLayAll0 ds = true := by simpa [PyData.canLayAll0] using c
      exact .cons (Rep.dp d _ r c2.1) (Reps.dp ds _ t c2.2)
end
end

/-! ### the heap without some objects -/
def cut (M : List Addr) (H : Hp) : Hp := fun a => if a ∈ M then none else H a
theorem cut_in {M : List Addr} {H : Hp} {a : Addr} (h : a ∈ M) : cut M H a = none := if_pos h
theorem cut_out {M : List Addr} {H : Hp} {a : Addr} (h : a ∉ M) : cut M H a = H a := if_neg h
theorem cut_some {M : List Addr} {H : Hp} {a : Addr} {o : HO} (h : cut M H a = some o) : a ∉ M ∧ H a = some o := by
  unfold cut at h
  by_cases q : a ∈ M
  · rw [if_pos q] at h; cases h
  · rw [if_neg q] at h; exact ⟨q, h⟩
theorem cut_same {M M' : List Addr} {H H' : Hp} (h : ∀ a o, a ∉ M → H a = some o → a ∉ M' ∧ H' a = some o) : Same (cut M H) (cut M' H') := fun a o e => by
  obtain ⟨p, q⟩ := cut_some e
  obtain ⟨p', q'⟩ := h a o p q
  rw [cut_out p', q']
theorem cut_le (M : List Addr) (H : Hp) : Same (cut M H) H := fun a o e => (cut_some e).2
theorem cut_upd {M : List Addr} {H : Hp} {a : Addr} {o : HO} (h : a ∈ M) : cut M (upd H a o) = cut M H := by
  funext b
  by_cases q : b ∈ M
  · rw [cut_in q, cut_in q]
  · rw [cut_out q, cut_out q, upd_ne (fun e => q (by rw [e]; exact h))]
theorem cut_nil {H : Hp} : cut [] H = H := by
  funext b
  exact cut_out (by simp)

/-! ### the state that is drawn from -/
def StOK (H : Hp) (a : Addr) : Prop := ∃ (x p : Int) (L : Addr) (z : Int) (ns : List Int),
  H a = some (.lst [.int x, .int p, .ref L, .int z]) ∧ H L = some (.lst (ns.map V.int)) ∧ 0 ≤ x ∧ 0 ≤ p ∧ 0 ≤ z ∧ z < 2147483647 ∧ ns.length ≤ 1000
theorem StOK.mono {H H' : Hp} {a : Addr} (e : Same H H') (h : StOK H a) : StOK H' a := by
  obtain ⟨x, p, L, z, ns, h1, h2, r⟩ := h
  exact ⟨x, p, L, z, ns, e _ _ h1, e _ _ h2, r⟩

theorem StOK.lst {H : Hp} {a : Addr} (h : StOK H a) : ∃ xs, H a = some (.lst xs) := by
  obtain ⟨x, p, L, z, ns, h1, _⟩ := h
  exact ⟨_, h1⟩
/-- st: the state that is drawn from, where there is one; tb: the code objects' tables; pn: objects that are known and stay; gh: data that no name holds; M: what may be changed by others -/
structure Cfg where
  st : Option Addr
  tb : List NTab
  pn : List (Addr × HO)
  gh : List (V × PyData)
  M : List Addr
  hst : ∀ a, (st = some a ∨ ∃ p ∈ tb, p.1 = a) → a ∈ M
  hpn : ∀ p ∈ pn, p.1 ∈ M ∧ ¬ (st = some p.1 ∨ ∃ q ∈ tb, q.1 = p.1)
/-- what may change while an expression is read -/
abbrev Cfg.vol (C : Cfg) (a : Addr) : Prop := C.st = some a ∨ ∃ p ∈ C.tb, p.1 = a
/-- the plain one -/
def Cfg.pl (st : Option Addr) (M : List Addr) (h : ∀ a, st = some a → a ∈ M) : Cfg := ⟨st, [], [], [], M, fun a q => q.elim (h a) fun ⟨_, z, _⟩ => absurd z (by simp), fun p h => absurd h (by simp)⟩

/-- an expression's step: nothing that was tracked changes but the state and the tables -/
structure Tr (C : Cfg) (H H' : Hp) : Prop where
  keep : ∀ a o, ¬ C.vol a → H a = some o → H' a = some o
  ok : ∀ a, C.st = some a → ∀ O, StOK (cut O H) a → StOK (cut O H') a
  tab : TabsN C.tb H → TabsN C.tb H'
theorem Tr.refl {C : Cfg} (H : Hp) : Tr C H H := ⟨fun _ _ _ h => h, fun _ _ _ h => h, fun h => h⟩
theorem Tr.trans {C : Cfg} {H H1 H2 : Hp} (a : Tr C H H1) (b : Tr C H1 H2) : Tr C H H2 := ⟨fun x o n h => b.keep x o n (a.keep x o n h), fun x n O h => b.ok x n O (a.ok x n O h), fun h => b.tab (a.tab h)⟩
theorem Tr.of {C : Cfg} {H H1 : Hp} (a : Same H H1) : Tr C H H1 := ⟨fun x o _ h => a x o h, fun x _ O h => h.mono (cut_same fun b o n q => ⟨n, a b o q⟩), fun h => h.ext a⟩
theorem same_new {H : Hp} {p : Addr} {o : HO} (h : H p = none) : Same H (upd H p o) := fun b x e => by
  rw [upd_ne (ne_of_none e h)]
  exact e
theorem Tr.new {C : Cfg} {H : Hp} {p : Addr} {o : HO} (h : H p = none) : Tr C H (upd H p o) := .of (same_new h)
theorem Tr.cutS {C : Cfg} {H H1 : Hp} (t : Tr C H H1) (O : List Addr) : Same (cut (O ++ C.M) H) (cut (O ++ C.M) H1) :=
  cut_same fun a o n h => ⟨n, t.keep a o (fun e => n (List.mem_append_right _ (C.hst a e))) h⟩
theorem Tr.cutM {C : Cfg} {H H1 : Hp} (t : Tr C H H1) : Same (cut C.M H) (cut C.M H1) :=
  cut_same fun a o n h => ⟨n, t.keep a o (fun e => n (C.hst a e)) h⟩
theorem Tr.none {C : Cfg} {H H1 : Hp} (t : Tr C H H1) {p : Addr} (hp : H1 p = none) (hn : ¬ C.vol p) : H p = none := by
  cases q : H p with
  | none => rfl
  | some o => rw [t.keep p o hn q] at hp; cases hp
/-- no code object, no table -/
def plainO : HO → Bool
  | .ext _ => false
  | .tbl _ => false
  | _ => true
/-- tables, where only plain objects have changed -/
theorem tabs_ch {T : List NTab} {H H' : Hp} {F : List Addr} (hF : ∀ a ∈ F, ∃ o, H a = some o ∧ plainO o = true) (k : ∀ b o, b ∉ F → H b = some o → H' b = some o) (t : TabsN T H) : TabsN T H' := fun p hp => by
  obtain ⟨ps, h1, h2, h3⟩ := t p hp
  have nl : ∀ {b : Addr} {o : HO}, H b = some o → plainO o = false → b ∉ F := fun e n z => by
    obtain ⟨o', e', n'⟩ := hF _ z
    rw [e] at e'
    cases e'
    rw [n] at n'
    cases n'
  refine ⟨ps, k _ _ (nl h1 rfl) h1, h2, fun pos cv hc => ?_⟩
  obtain ⟨c, e1, e2⟩ := h3 pos cv hc
  exact ⟨c, e1, k _ _ (nl e2 rfl) e2⟩
theorem tabs_but {T : List NTab} {H H' : Hp} {a : Addr} {xs : List V} (ha : H a = some (.lst xs)) (k : ∀ b o, b ≠ a → H b = some o → H' b = some o) (t : TabsN T H) : TabsN T H' :=
  tabs_ch (F := [a]) (fun b hb => by rw [List.mem_singleton.mp hb]; exact ⟨_, ha, rfl⟩) (fun b o hb => k b o fun z => hb (by rw [z]; exact List.mem_singleton_self _)) t
theorem ObjR.plain {K : PySem.W.Frag} {B : Hp} {o : HO} {x : PyData} (r : ObjR K B o x) : plainO o = true := by cases r <;> rfl
/-! ### slots -/
/-- a thing of the def's own, told by what is true of it: R (what is known) (the heap) (its value) (its objects) -/
structure SemR where
  R : Hp → Hp → V → List Addr → Prop
  stab : ∀ {B B' H H' : Hp} {v : V} {F : List Addr}, R B H v F → Same B B' → (∀ a ∈ F, ∀ x, H a = some x → H' a = some x) → R B' H' v F
inductive Sl where
  | u | d (x : PyData) | own (x : PyData) | r (v : V) | sem (S : SemR)
inductive Slot (K : PySem.W.Frag) (B H : Hp) : Option V → Sl → List Addr → Prop
  | u {o : Option V} : Slot K B H o .u []
  | d {v : V} {x : PyData} : Rep K B v x → Slot K B H (some v) (.d x) []
  | r {v : V} : Slot K B H (some v) (.r v) []
  | own {p : Addr} {o : HO} {x : PyData} : H p = some o → ObjR K B o x → Slot K B H (some (.ref p)) (.own x) [p]
  | sem {v : V} {S : SemR} {F : List Addr} : S.R B H v F → F.Nodup → Slot K B H (some v) (.sem S) F
inductive Slots (K : PySem.W.Frag) (B H : Hp) : L2.St → List Sl → List Addr → Prop
  | nil : Slots K B H [] [] []
  | cons {o : Option V} {s : Sl} {F O : List Addr} {σ : L2.St} {sl : List Sl} : Slot K B H o s F → Slots K B H σ sl O → Slots K B H (o :: σ) (s :: sl) (F ++ O)
section
variable {K : PySem.W.Frag} {B B' H H' : Hp}
theorem Slot.mono {o : Option V} {s : Sl} {F : List Addr} (e : Same B B') (h : ∀ a ∈ F, ∀ x, H a = some x → H' a = some x) (q : Slot K B H o s F) : Slot K B' H' o s F := by
  cases q with
  | u => exact .u
  | d r => exact .d (r.mono e)
  | r => exact .r
  | own a b => exact .own (h _ (by simp) _ a) (b.mono e)
  | @sem _ S _ a n => exact .sem (S.stab a e h) n
theorem Slots.mono (e : Same B B') : ∀ {σ : L2.St} {sl : List Sl} {O : List Addr}, (∀ a ∈ O, ∀ x, H a = some x → H' a = some x) → Slots K B H σ sl O → Slots K B' H' σ sl O
  | _, _, _, _, .nil => .nil
  | _, _, _, h, .cons a b => .cons (a.mono e fun x m => h x (List.mem_append_left _ m)) (Slots.mono e (fun x m => h x (List.mem_append_right _ m)) b)
theorem Slots.set {o : Option V} {s : Sl} {F : List Addr} (q : Slot K B H o s F) (hF : F.Nodup) {σ : L2.St} {sl : List Sl} {O : List Addr} (h : Slots K B H σ sl O) : ∀ (i : Nat), (∀ a ∈ F, a ∉ O) → O.Nodup →
    ∃ O', Slots K B H (σ.set i o) (sl.set i s) O' ∧ O'.Nodup ∧ ∀ a ∈ O', a ∈ O ∨ a ∈ F := by
  induction h with
  | nil => exact fun i _ n => ⟨[], .nil, n, fun a h => absurd h (by simp)⟩
  | @cons o₀ s₀ F₀ O₀ σ sl a b ih =>
    intro i d n
    rw [List.nodup_append] at n
    cases i with
    | zero =>
      refine ⟨F ++ O₀, .cons q b, ?_, fun x h => ?_⟩
      · rw [List.nodup_append]
        exact ⟨hF, n.2.1, fun x h y h' e => d x h (List.mem_append_right _ (e ▸ h'))⟩
      · rcases List.mem_append.mp h with h | h
        · exact .inr h
        · exact .inl (List.mem_append_right _ h)
    | succ i =>
      obtain ⟨O', s', n', m'⟩ := ih i (fun x h h' => d x h (List.mem_append_right _ h')) n.2.1
      refine ⟨F₀ ++ O', .cons a s', ?_, fun x h => ?_⟩
      · rw [List.nodup_append]
        refine ⟨n.1, n', fun x h y h' e => ?_⟩
        rcases m' y h' with z | z
        · exact n.2.2 x h y z e
        · exact d y z (List.mem_append_left _ (e ▸ h))
      · rcases List.mem_append.mp h with h | h
        · exact .inl (List.mem_append_left _ h)
        · rcases m' x h with z | z
          · exact .inl (List.mem_append_right _ z)
          · exact .inr z
theorem Slots.len : ∀ {σ : L2.St} {sl : List Sl} {O : List Addr}, Slots K B H σ sl O → σ.length = sl.length
  | _, _, _, .nil => rfl
  | _, _, _, .cons _ b => by rw [List.length_cons, List.length_cons, Slots.len b]
theorem Slots.getD : ∀ {σ : L2.St} {sl : List Sl} {O : List Addr} {i : Nat} {x : PyData}, Slots K B H σ sl O → sl[i]? = some (.d x) → ∃ v, σ[i]? = some (some v) ∧ Rep K B v x
  | _, _, _, _, _, .nil, h => by simp at h
  | _, _, _, 0, _, .cons a _, h => by
    simp at h
    subst h
    cases a with
    | d r => exact ⟨_, rfl, r⟩
  | _, _, _, i + 1, _, .cons _ b, h => by
    obtain ⟨v, p, q⟩ := Slots.getD (i := i) b (by simpa using h)
    exact ⟨v, by simpa using p, q⟩
theorem Slots.getR : ∀ {σ : L2.St} {sl : List Sl} {O : List Addr} {i : Nat} {x : V}, Slots K B H σ sl O → sl[i]? = some (.r x) → σ[i]? = some (some x)
  | _, _, _, _, _, .nil, h => by simp at h
  | _, _, _, 0, _, .cons a _, h => by
    simp at h
    subst h
    cases a with
    | r => rfl
  | _, _, _, i + 1, _, .cons _ b, h => by
    have p := Slots.getR (i := i) b (by simpa using h)
    simpa using p
theorem Slots.getO : ∀ {σ : L2.St} {sl : List Sl} {O : List Addr} {i : Nat} {x : PyData}, Slots K B H σ sl O → sl[i]? = some (.own x) → ∃ p o, σ[i]? = some (some (.ref p)) ∧ H p = some o ∧ ObjR K B o x ∧ p ∈ O
  | _, _, _, _, _, .nil, h => by simp at h
  | _, _, _, 0, _, .cons a _, h => by
    simp at h
    subst h
    cases a with
    | own e r => exact ⟨_, _, rfl, e, r, by simp⟩
  | _, _, _, i + 1, _, .cons _ b, h => by
    obtain ⟨p, o, h1, h2, h3, h4⟩ := Slots.getO (i := i) b (by simpa using h)
    exact ⟨p, o, by simpa using h1, h2, h3, List.mem_append_right _ h4⟩
/-- an own object changes -/
theorem Slots.mut {o' : HO} {y : PyData} (q : ObjR K B o' y) {p : Addr} {σ : L2.St} {sl : List Sl} {O : List Addr} (h : Slots K B H σ sl O) : ∀ {i : Nat} {x : PyData}, O.Nodup → sl[i]? = some (.own x) → σ[i]? = some (some (.ref p)) →
    Slots K B (upd H p o') σ (sl.set i (.own y)) O ∧ p ∈ O := by
  induction h with
  | nil => intro i x n h; simp at h
  | @cons o₀ s₀ F₀ O₀ σ sl a b ih =>
    intro i x n h e
    cases i with
    | zero =>
      simp at h e
      subst h e
      cases a with
      | own a1 a2 =>
        refine ⟨.cons (.own upd_same q) (b.mono (Same.refl B) fun z hz u hu => ?_), by simp⟩
        rw [upd_ne]
        · exact hu
        · intro e
          subst e
          exact (List.nodup_append.mp n).2.2 z (by simp) z hz rfl
    | succ i =>
      obtain ⟨s', m⟩ := ih (i := i) (List.nodup_append.mp n).2.1 (by simpa using h) (by simpa using e)
      refine ⟨.cons (a.mono (Same.refl B) fun z hz u hu => ?_) s', List.mem_append_right _ m⟩
      rw [upd_ne]
      · exact hu
      · intro e
        subst e
        exact (List.nodup_append.mp n).2.2 z hz z m rfl
end

/-- the background -/
structure Bg (K : PySem.W.Frag) (C : Cfg) (H : Hp) (O : List Addr) : Prop where
  tab : TabsN C.tb H
  pn : ∀ p ∈ C.pn, H p.1 = some p.2
  gh : ∀ g ∈ C.gh, Rep K (cut (O ++ C.M) H) g.1 g.2
theorem Bg.go {K : PySem.W.Frag} {C : Cfg} {H H' : Hp} {O O' : List Addr} (b : Bg K C H O) (t : TabsN C.tb H → TabsN C.tb H') (k : ∀ a o, a ∈ C.M → ¬ C.vol a → H a = some o → H' a = some o) (e : Same (cut (O ++ C.M) H) (cut (O' ++ C.M) H')) : Bg K C H' O' :=
  ⟨t b.tab, fun p hp => k _ _ (C.hpn p hp).1 (C.hpn p hp).2 (b.pn p hp), fun g hg => (b.gh g hg).mono e⟩
structure EnvOk (K : PySem.W.Frag) (C : Cfg) (H : Hp) (σ : L2.St) (sl : List Sl) (O : List Addr) : Prop where
  slots : ∃ O1, Slots K (cut (O ++ C.M) H) H σ sl O1 ∧ O1.Nodup ∧ ∀ a ∈ O1, a ∈ O
  dj : ∀ a ∈ O, a ∉ C.M
  to : ∀ a ∈ O, H a ≠ none
  tm : ∀ a ∈ C.M, H a ≠ none
  ok : ∀ a, C.st = some a → StOK (cut O H) a
  bg : Bg K C H O
/-- a statement's step -/
structure Step (C : Cfg) (O : List Addr) (H : Hp) (O' : List Addr) (H' : Hp) : Prop where
  keep : ∀ a o, ¬ C.vol a → a ∉ O → H a = some o → H' a = some o
  old : ∀ a ∈ O', a ∈ O ∨ H a = none
  ok : ∀ a, C.st = some a → ∀ Ox, StOK (cut Ox H) a → StOK (cut Ox H') a
  ns : ∀ a ∈ O', ¬ C.vol a
  tab : TabsN C.tb H → TabsN C.tb H'
section
variable {K : PySem.W.Frag} {C : Cfg} {H H' H1 H2 : Hp} {σ : L2.St} {sl : List Sl} {O O1 O2 : List Addr}
theorem EnvOk.fresh (E : EnvOk K C H σ sl O) {p : Addr} (h : H p = none) : p ∉ O ∧ p ∉ C.M := ⟨fun z => E.to p z h, fun z => E.tm p z h⟩
theorem EnvOk.notSt (E : EnvOk K C H σ sl O) {p : Addr} (h : p ∈ O) : ¬ C.vol p := fun e => E.dj p h (C.hst p e)
theorem EnvOk.tr (E : EnvOk K C H σ sl O) (t : Tr C H H') : EnvOk K C H' σ sl O := by
  obtain ⟨O1, s, n, m⟩ := E.slots
  refine ⟨⟨O1, s.mono (t.cutS O) (fun a h x e => t.keep a x (E.notSt (m a h)) e), n, m⟩, E.dj, fun a h => ?_, fun a h => ?_, fun a e => t.ok a e O (E.ok a e), E.bg.go t.tab (fun a o _ n h => t.keep a o n h) (t.cutS O)⟩
  · cases q : H a with
    | none => exact absurd q (E.to a h)
    | some o => rw [t.keep a o (E.notSt h) q]; simp
  · by_cases e : C.vol a
    · rcases e with e | ⟨p, hp, e⟩
      · have z := t.ok a e O (E.ok a e)
        obtain ⟨x, p, L, z, ns, h1, _⟩ := z
        rw [cut_le _ _ _ _ h1]
        simp
      · obtain ⟨ps, h1, _⟩ := t.tab E.bg.tab p hp
        rw [← e, h1]
        simp
    · cases q : H a with
      | none => exact absurd q (E.tm a h)
      | some o => rw [t.keep a o e q]; simp
/-- one more object that is kept out -/
theorem EnvOk.add (E : EnvOk K C H σ sl O) {p : Addr} {o : HO} (h : H p = none) : EnvOk K C (upd H p o) σ sl (p :: O) := by
  have E1 := E.tr (Tr.new (o := o) h)
  obtain ⟨n1, n2⟩ := E.fresh h
  obtain ⟨O1, s, n, m⟩ := E.slots
  refine ⟨⟨O1, s.mono (cut_same fun a u na e => ⟨?_, ?_⟩) (fun a ha x e => ?_), n, fun a h => List.mem_cons_of_mem _ (m a h)⟩, fun a ha => ?_, fun a ha => ?_, E1.tm, fun a e => ?_, ?_⟩
  · intro z
    rcases List.mem_append.mp z with z | z
    · rcases List.mem_cons.mp z with rfl | z
      · rw [h] at e; cases e
      · exact na (List.mem_append_left _ z)
    · exact na (List.mem_append_right _ z)
  · rw [upd_ne (ne_of_none e h)]; exact e
  · rw [upd_ne (ne_of_none e h)]; exact e
  · rcases List.mem_cons.mp ha with rfl | z
    · exact n2
    · exact E.dj a z
  · rcases List.mem_cons.mp ha with rfl | z
    · rw [upd_same]; simp
    · exact E1.to a z
  rotate_left 1
  · exact E.bg.go (fun t => t.ext (same_new h)) (fun a u _ _ e => by rw [upd_ne (ne_of_none e h)]; exact e) (cut_same fun a u na e => ⟨fun z => by
      rcases List.mem_append.mp z with z | z
      · rcases List.mem_cons.mp z with rfl | z
        · rw [h] at e; cases e
        · exact na (List.mem_append_left _ z)
      · exact na (List.mem_append_right _ z), by rw [upd_ne (ne_of_none e h)]; exact e⟩)
  · refine (E.ok a e).mono (cut_same fun b u nb q => ⟨?_, ?_⟩)
    · intro z
      rcases List.mem_cons.mp z with rfl | z
      · rw [h] at q; cases q
      · exact nb z
    · rw [upd_ne (ne_of_none q h)]; exact q
theorem Step.refl (E : EnvOk K C H σ sl O) : Step C O H O H := ⟨fun _ _ _ _ h => h, fun _ h => .inl h, fun _ _ _ h => h, fun _ h => E.notSt h, fun h => h⟩
theorem Step.tr (E : EnvOk K C H σ sl O) (t : Tr C H H') : Step C O H O H' := ⟨fun a o n _ h => t.keep a o n h, fun _ h => .inl h, fun a e Ox h => t.ok a e Ox h, fun _ h => E.notSt h, t.tab⟩
theorem Step.trans (a : Step C O H O1 H1) (b : Step C O1 H1 O2 H2) : Step C O H O2 H2 := by
  refine ⟨fun x o n m h => b.keep x o n (fun z => ?_) (a.keep x o n m h), fun x h => ?_, fun x e Ox h => b.ok x e Ox (a.ok x e Ox h), b.ns, fun h => b.tab (a.tab h)⟩
  · rcases a.old x z with z | z
    · exact m z
    · rw [h] at z; cases z
  · rcases b.old x h with z | z
    · exact a.old x z
    · cases q : H x with
      | none => exact .inr rfl
      | some o =>
        by_cases hx : x ∈ O
        · exact .inl hx
        · rw [a.keep x o (b.ns x h) hx q] at z; cases z
/-- what was known and not the def's own stays -/
theorem Step.cutS (a : Step C O H O1 H1) : Same (cut (O ++ C.M) H) (cut (O1 ++ C.M) H1) := cut_same fun x o n h => by
  rw [List.mem_append] at n
  refine ⟨fun z => ?_, a.keep x o (fun e => n (.inr (C.hst x e))) (fun z => n (.inl z)) h⟩
  rcases List.mem_append.mp z with z | z
  · rcases a.old x z with y | y
    · exact n (.inl y)
    · rw [h] at y; cases y
  · exact n (.inr z)
/-- a slot is set to data -/
theorem EnvOk.setD (E : EnvOk K C H σ sl O) {v : V} {d : PyData} (r : Rep K (cut (O ++ C.M) H) v d) (i : Nat) : EnvOk K C H (σ.set i (some v)) (sl.set i (.d d)) O := by
  obtain ⟨O1, s, n, m⟩ := E.slots
  obtain ⟨O2, s2, n2, m2⟩ := Slots.set (F := []) (.d r) List.nodup_nil s i (fun a h => absurd h (by simp)) n
  exact ⟨⟨O2, s2, n2, fun a h => (m2 a h).elim (m a) fun z => absurd z (by simp)⟩, E.dj, E.to, E.tm, E.ok, E.bg⟩
theorem EnvOk.setU (E : EnvOk K C H σ sl O) (o : Option V) (i : Nat) : EnvOk K C H (σ.set i o) (sl.set i .u) O := by
  obtain ⟨O1, s, n, m⟩ := E.slots
  obtain ⟨O2, s2, n2, m2⟩ := Slots.set (F := []) .u List.nodup_nil s i (fun a h => absurd h (by simp)) n
  exact ⟨⟨O2, s2, n2, fun a h => (m2 a h).elim (m a) fun z => absurd z (by simp)⟩, E.dj, E.to, E.tm, E.ok, E.bg⟩
theorem EnvOk.setR (E : EnvOk K C H σ sl O) (v : V) (i : Nat) : EnvOk K C H (σ.set i (some v)) (sl.set i (.r v)) O := by
  obtain ⟨O1, s, n, m⟩ := E.slots
  obtain ⟨O2, s2, n2, m2⟩ := Slots.set (F := []) .r List.nodup_nil s i (fun a h => absurd h (by simp)) n
  exact ⟨⟨O2, s2, n2, fun a h => (m2 a h).elim (m a) fun z => absurd z (by simp)⟩, E.dj, E.to, E.tm, E.ok, E.bg⟩
/-- a slot is set to a new object of the def's own: p was not tracked ahead of this step -/
theorem EnvOk.setO (E : EnvOk K C H σ sl O) (t : Tr C H H1) {p : Addr} {o : HO} {d : PyData} (hp : H p = none) (ho : H1 p = some o) (r : ObjR K (cut (p :: (O ++ C.M)) H1) o d) (i : Nat) :
    EnvOk K C H1 (σ.set i (some (.ref p))) (sl.set i (.own d)) (p :: O) ∧ Step C O H (p :: O) H1 := by
  obtain ⟨n1, n2⟩ := E.fresh hp
  have ns : ¬ C.vol p := fun e => n2 (C.hst p e)
  have E1 := E.tr t
  obtain ⟨O1, s, n, m⟩ := E.slots
  have sm : Same (cut (O ++ C.M) H) (cut (p :: (O ++ C.M)) H1) := cut_same fun a u na e => by
    refine ⟨fun z => ?_, t.keep a u (fun e => na (List.mem_append_right _ (C.hst a e))) e⟩
    rcases List.mem_cons.mp z with rfl | z
    · rw [hp] at e; cases e
    · exact na z
  have s1 : Slots K (cut (p :: (O ++ C.M)) H1) H1 σ sl O1 := s.mono sm (fun a h x e => t.keep a x (E.notSt (m a h)) e)
  obtain ⟨O2, s2, nd2, m2⟩ := Slots.set (F := [p]) (.own ho r) (by simp) s1 i (fun a h => by
    rw [List.mem_singleton] at h
    subst h
    exact fun z => n1 (m _ z)) n
  refine ⟨⟨⟨O2, s2, nd2, fun a h => ?_⟩, fun a h => ?_, fun a h => ?_, E1.tm, fun a e => ?_, E.bg.go t.tab (fun a o _ n h => t.keep a o n h) sm⟩, ⟨fun a u n _ h => t.keep a u n h, fun a h => ?_, fun a e Ox h => t.ok a e Ox h, fun a h => ?_, t.tab⟩⟩
  · rcases m2 a h with z | z
    · exact List.mem_cons_of_mem _ (m a z)
    · rw [List.mem_singleton] at z; rw [z]; exact List.mem_cons_self
  · rcases List.mem_cons.mp h with rfl | z
    · exact n2
    · exact E.dj a z
  · rcases List.mem_cons.mp h with rfl | z
    · rw [ho]; simp
    · exact E1.to a z
  · refine t.ok a e (p :: O) ((E.ok a e).mono (cut_same fun b u nb q => ⟨fun z => ?_, q⟩))
    rcases List.mem_cons.mp z with rfl | z
    · rw [hp] at q; cases q
    · exact nb z
  · rcases List.mem_cons.mp h with rfl | z
    · exact .inr hp
    · exact .inl z
  · rcases List.mem_cons.mp h with rfl | z
    · exact ns
    · exact E.notSt z
/-- an own object is changed -/
theorem EnvOk.mut (E : EnvOk K C H σ sl O) {i : Nat} {x y : PyData} {p : Addr} {o : HO} (h1 : sl[i]? = some (.own x)) (h2 : σ[i]? = some (some (.ref p))) (r : ObjR K (cut (O ++ C.M) H) o y) :
    EnvOk K C (upd H p o) σ (sl.set i (.own y)) O ∧ Step C O H O (upd H p o) := by
  obtain ⟨O1, s, n, m⟩ := E.slots
  obtain ⟨s2, mp⟩ := Slots.mut r s n h1 h2
  have hp := m p mp
  obtain ⟨p0, o0, w1, w2, w3, _⟩ := s.getO h1
  obtain rfl : p0 = p := by rw [w1] at h2; simpa using h2
  have tb : TabsN C.tb H → TabsN C.tb (upd H p0 o) := tabs_ch (F := [p0]) (fun b hb => by rw [List.mem_singleton.mp hb]; exact ⟨_, w2, w3.plain⟩) (fun b u hb e => by rw [upd_ne (fun z => hb (by rw [z]; exact List.mem_singleton_self _))]; exact e)
  have ec : cut (O ++ C.M) (upd H p0 o) = cut (O ++ C.M) H := cut_upd (List.mem_append_left _ hp)
  have nst := E.notSt hp
  have tr : ∀ a, H a ≠ none → upd H p0 o a ≠ none := fun a h => by
    by_cases e : a = p0
    · subst e; rw [upd_same]; simp
    · rw [upd_ne e]; exact h
  refine ⟨⟨⟨O1, by rw [ec]; exact s2, n, m⟩, E.dj, fun a h => tr a (E.to a h), fun a h => tr a (E.tm a h), fun a e => ?_, E.bg.go tb (fun a u hm _ e => by rw [upd_ne (fun z => E.dj _ hp (by rw [← z]; exact hm))]; exact e) (by rw [ec]; exact fun _ _ h => h)⟩, ⟨fun a u _ na h => ?_, fun a h => .inl h, fun a e Ox h => ?_, fun a h => E.notSt h, tb⟩⟩
  · rw [cut_upd hp]; exact E.ok a e
  · rw [upd_ne (fun z => na (by rw [z]; exact hp))]; exact h
  · obtain ⟨x1, p1, L1, z1, ns1, g1, g2, g3⟩ := E.ok a e
    obtain ⟨x2, p2, L2', z2, ns2, k1, k2, k3⟩ := h
    have eL : L1 = L2' := by
      have a1 := (cut_some g1).2
      have a2 := (cut_some k1).2
      rw [a1] at a2
      injection a2 with a2
      injection a2 with a2
      injection a2 with _ a2
      injection a2 with _ a2
      injection a2 with a2 _
      injection a2
    have nL : L2' ≠ p0 := fun z => (cut_some g2).1 (by rw [eL, z]; exact hp)
    have na : a ≠ p0 := fun z => nst (.inl (by rw [← z]; exact e))
    refine ⟨x2, p2, L2', z2, ns2, ?_, ?_, k3⟩
    · rw [cut_out (cut_some k1).1, upd_ne na]; exact (cut_some k1).2
    · rw [cut_out (cut_some k2).1, upd_ne nL]; exact (cut_some k2).2
/-- an own object becomes plain data, never to be changed again -/
theorem EnvOk.freeze (E : EnvOk K C H σ sl O) {i : Nat} {x : PyData} (h1 : sl[i]? = some (.own x)) : ∃ O', EnvOk K C H σ (sl.set i (.d x)) O' ∧ Step C O H O' H := by
  obtain ⟨O1, s, n, m⟩ := E.slots
  obtain ⟨p, o, g1, g2, g3, g4⟩ := s.getO h1
  have hp := m p g4
  let O' := O.filter fun a => decide (a ≠ p)
  have sub : ∀ a ∈ O', a ∈ O := fun a h => (List.mem_filter.mp h).1
  have np : p ∉ O' := fun h => by have z := (List.mem_filter.mp h).2; simp at z
  have e1 : Same (cut (O ++ C.M) H) (cut (O' ++ C.M) H) := cut_same fun a u na e => ⟨fun z => na (by
    rcases List.mem_append.mp z with z | z
    · exact List.mem_append_left _ (sub a z)
    · exact List.mem_append_right _ z), e⟩
  have s1 : Slots K (cut (O' ++ C.M) H) H σ sl O1 := s.mono e1 fun _ _ _ h => h
  have rp : Rep K (cut (O' ++ C.M) H) (.ref p) x := .obj (by
    rw [cut_out]
    · exact g2
    · intro z
      rcases List.mem_append.mp z with z | z
      · exact np z
      · exact E.dj p hp z) (g3.mono e1)
  have key : ∀ {σ : L2.St} {sl : List Sl} {O1 : List Addr}, Slots K (cut (O' ++ C.M) H) H σ sl O1 → O1.Nodup → ∀ {i : Nat}, sl[i]? = some (.own x) → σ[i]? = some (some (.ref p)) → ∃ O2, Slots K (cut (O' ++ C.M) H) H σ (sl.set i (.d x)) O2 ∧ O2.Nodup ∧ ∀ a ∈ O2, a ∈ O1 ∧ a ≠ p := by
    intro σ sl O1 s
    induction s with
    | nil => intro _ i h; simp at h
    | @cons o₀ s₀ F₀ O₀ σ sl a b ih =>
      intro n i h e
      rw [List.nodup_append] at n
      cases i with
      | zero =>
        simp at h e
        subst h e
        cases a with
        | own a1 a2 =>
          refine ⟨[] ++ O₀, .cons (.d rp) b, by simpa using n.2.1, fun a h => ⟨List.mem_append_right _ (by simpa using h), fun z => ?_⟩⟩
          exact n.2.2 p (by simp) a (by simpa using h) z.symm
      | succ i =>
        have h' : sl[i]? = some (.own x) := by simpa using h
        have e' : σ[i]? = some (some (.ref p)) := by simpa using e
        obtain ⟨O2, s2, n2, m2⟩ := ih n.2.1 h' e'
        obtain ⟨p', _, q1, _, _, q4⟩ := b.getO h'
        have ep : p' = p := by rw [q1] at e'; simpa using e'
        subst ep
        refine ⟨F₀ ++ O2, .cons a s2, ?_, fun z hz => ?_⟩
        · rw [List.nodup_append]
          exact ⟨n.1, n2, fun x hx y hy e => n.2.2 x hx y (m2 y hy).1 e⟩
        · rcases List.mem_append.mp hz with hz | hz
          · exact ⟨List.mem_append_left _ hz, fun e => n.2.2 z hz p' q4 e⟩
          · exact ⟨List.mem_append_right _ (m2 z hz).1, (m2 z hz).2⟩
  obtain ⟨O2, s2, n2, m2⟩ := key s1 n h1 g1
  refine ⟨O', ⟨⟨O2, s2, n2, fun a h => List.mem_filter.mpr ⟨m a (m2 a h).1, decide_eq_true (m2 a h).2⟩⟩, fun a h => E.dj a (sub a h), fun a h => E.to a (sub a h), E.tm, fun a e => (E.ok a e).mono (cut_same fun b u nb q => ⟨fun z => nb (sub b z), q⟩), E.bg.go (fun h => h) (fun _ _ _ _ h => h) e1⟩,
    ⟨fun _ _ _ _ h => h, fun a h => .inl (sub a h), fun _ _ _ h => h, fun a h => E.notSt (sub a h), fun h => h⟩⟩
end
end DL
/-! A thing of the def's own, told by what is true of it. -/
namespace DL
open PySem PySem.Spec PyProof.Rows L2
open NdefX (NTab TabN TabsN)
section
variable {K : PySem.W.Frag} {B H : Hp}
theorem Slots.re {S : SemR} {σ : L2.St} {sl : List Sl} {O : List Addr} (h : Slots K B H σ sl O) : ∀ (i : Nat), sl[i]? = some (.sem S) → O.Nodup →
    ∃ v F, σ[i]? = some (some v) ∧ S.R B H v F ∧ F.Nodup ∧ (∀ a ∈ F, a ∈ O) ∧ ∀ (B' H' : Hp) (s' : Sl) (F' : List Addr), Same B B' → (∀ a ∈ O, a ∉ F → ∀ x, H a = some x → H' a = some x) → Slot K B' H' (some v) s' F' → F'.Nodup → (∀ a ∈ F', a ∈ F ∨ a ∉ O) →
      ∃ O', Slots K B' H' σ (sl.set i s') O' ∧ O'.Nodup ∧ ∀ a ∈ O', (a ∈ O ∧ a ∉ F) ∨ a ∈ F' := by
  induction h with
  | nil => intro i h; simp at h
  | @cons o₀ s₀ F₀ O₀ σ sl a b ih =>
    intro i h n
    rw [List.nodup_append] at n
    cases i with
    | zero =>
      simp at h
      subst h
      cases a with
      | @sem v _ _ r nf =>
        refine ⟨v, F₀, rfl, r, nf, fun a h => List.mem_append_left _ h, fun B' H' s' F' e k q nf' d => ⟨F' ++ O₀, .cons q (b.mono e fun a ha x hx => k a (List.mem_append_right _ ha) (fun z => n.2.2 a z a ha rfl) x hx), ?_, fun a ha => ?_⟩⟩
        · rw [List.nodup_append]
          refine ⟨nf', n.2.1, fun x hx y hy e => ?_⟩
          subst e
          rcases d x hx with z | z
          · exact n.2.2 x z x hy rfl
          · exact z (List.mem_append_right _ hy)
        · rcases List.mem_append.mp ha with ha | ha
          · exact .inr ha
          · exact .inl ⟨List.mem_append_right _ ha, fun z => n.2.2 a z a ha rfl⟩
    | succ i =>
      obtain ⟨v, F, h1, h2, h3, h4, h5⟩ := ih i (by simpa using h) n.2.1
      refine ⟨v, F, by simpa using h1, h2, h3, fun a ha => List.mem_append_right _ (h4 a ha), fun B' H' s' F' e k q nf' d => ?_⟩
      obtain ⟨O', g1, g2, g3⟩ := h5 B' H' s' F' e (fun a ha => k a (List.mem_append_right _ ha)) q nf' fun a ha => (d a ha).imp id fun z y => z (List.mem_append_right _ y)
      have nF : ∀ z ∈ F₀, z ∉ F := fun z hz hf => n.2.2 z hz z (h4 z hf) rfl
      refine ⟨F₀ ++ O', .cons (a.mono e fun z hz x hx => k z (List.mem_append_left _ hz) (nF z hz) x hx) g1, ?_, fun z hz => ?_⟩
      · rw [List.nodup_append]
        refine ⟨n.1, g2, fun x hx y hy e => ?_⟩
        subst e
        rcases g3 x hy with ⟨z, _⟩ | z
        · exact n.2.2 x hx x z rfl
        · rcases d x z with z | z
          · exact nF x hx z
          · exact z (List.mem_append_left _ hx)
      · rcases List.mem_append.mp hz with hz | hz
        · exact .inl ⟨List.mem_append_left _ hz, nF z hz⟩
        · rcases g3 z hz with ⟨y, y2⟩ | y
          · exact .inl ⟨List.mem_append_right _ y, y2⟩
          · exact .inr y
end
section
variable {K : PySem.W.Frag} {C : Cfg} {H H' H1 H2 : Hp} {σ : L2.St} {sl : List Sl} {O O1 O2 : List Addr}
/-- what is not the def's own stays, however F and the new objects are -/
theorem cut_re {F F' : List Addr} {H' : Hp} (M : List Addr) (sub : ∀ a ∈ F, a ∈ O) (k : ∀ a o, a ∉ F → H a = some o → H' a = some o) (fr : ∀ a ∈ F', a ∈ F ∨ H a = none) : Same (cut (O ++ M) H) (cut (((O.filter fun a => decide (a ∉ F)) ++ F') ++ M) H') := cut_same fun a o n h => by
  rw [List.mem_append] at n
  refine ⟨fun z => ?_, k a o (fun z => n (.inl (sub a z))) h⟩
  rcases List.mem_append.mp z with z | z
  · rcases List.mem_append.mp z with z | z
    · exact n (.inl (List.mem_filter.mp z).1)
    · rcases fr a z with y | y
      · exact n (.inl (sub a y))
      · rw [h] at y; cases y
  · exact n (.inr z)
/-- the thing at slot i, and what may be made of it -/
theorem EnvOk.re (E : EnvOk K C H σ sl O) {i : Nat} {S : SemR} (hi : sl[i]? = some (.sem S)) : ∃ v F, σ[i]? = some (some v) ∧ S.R (cut (O ++ C.M) H) H v F ∧ F.Nodup ∧ (∀ a ∈ F, a ∈ O) ∧
    ∀ (H' : Hp) (s' : Sl) (F' : List Addr), (∀ a ∈ F, ∃ o, H a = some o ∧ plainO o = true) → (∀ a o, a ∉ F → H a = some o → H' a = some o) → (∀ a ∈ F', a ∈ F ∨ H a = none) → (∀ a ∈ F', H' a ≠ none) → F'.Nodup →
      Slot K (cut (((O.filter fun a => decide (a ∉ F)) ++ F') ++ C.M) H') H' (some v) s' F' → EnvOk K C H' σ (sl.set i s') ((O.filter fun a => decide (a ∉ F)) ++ F') ∧ Step C O H ((O.filter fun a => decide (a ∉ F)) ++ F') H' := by
  obtain ⟨O1, s, n, m⟩ := E.slots
  obtain ⟨v, F, h1, h2, h3, h4, h5⟩ := s.re i hi n
  have hFO : ∀ a ∈ F, a ∈ O := fun a h => m a (h4 a h)
  refine ⟨v, F, h1, h2, h3, hFO, fun H' s' F' pl k fr to nf q => ?_⟩
  have sm := cut_re (O := O) (F' := F') C.M hFO k fr
  obtain ⟨O2, g1, g2, g3⟩ := h5 _ H' s' F' sm (fun a _ nF x hx => k a x nF hx) q nf fun a ha => (fr a ha).imp id fun z y => E.to a (m a y) z
  have nM : ∀ a ∈ F, a ∉ C.M := fun a h => E.dj a (hFO a h)
  have tb : TabsN C.tb H → TabsN C.tb H' := tabs_ch pl k
  have inO : ∀ {a : Addr}, a ∈ (O.filter fun a => decide (a ∉ F)) ++ F' → (a ∈ O ∧ a ∉ F) ∨ a ∈ F' := fun h => (List.mem_append.mp h).imp (fun z => ⟨(List.mem_filter.mp z).1, of_decide_eq_true (List.mem_filter.mp z).2⟩) id
  have kn : ∀ a, a ∉ F → H a ≠ none → H' a ≠ none := fun a nF z => by
    cases q : H a with
    | none => exact absurd q z
    | some o => rw [k a o nF q]; simp
  have dj : ∀ a ∈ (O.filter fun a => decide (a ∉ F)) ++ F', a ∉ C.M := fun a h => by
    rcases inO h with ⟨z, _⟩ | z
    · exact E.dj a z
    · rcases fr a z with y | y
      · exact nM a y
      · exact fun w => E.tm a w y
  have okk : ∀ a, C.st = some a → ∀ Ox, StOK (cut Ox H) a → StOK (cut Ox H') a := fun a e Ox h => by
    obtain ⟨x1, p1, L1, z1, ns1, g1, g2, g3⟩ := E.ok a e
    obtain ⟨x2, p2, L2', z2, ns2, k1, k2, k3⟩ := h
    have eL : L1 = L2' := by
      have a1 := (cut_some g1).2
      have a2 := (cut_some k1).2
      rw [a1] at a2
      injection a2 with a2
      injection a2 with a2
      injection a2 with _ a2
      injection a2 with _ a2
      injection a2 with a2 _
      injection a2
    have nL : L2' ∉ F := fun z => (cut_some g2).1 (by rw [eL]; exact hFO _ z)
    have na : a ∉ F := fun z => nM a z (C.hst a (.inl e))
    refine ⟨x2, p2, L2', z2, ns2, ?_, ?_, k3⟩
    · rw [cut_out (cut_some k1).1]; exact k _ _ na (cut_some k1).2
    · rw [cut_out (cut_some k2).1]; exact k _ _ nL (cut_some k2).2
  refine ⟨⟨⟨O2, g1, g2, fun a h => ?_⟩, dj, fun a h => ?_, fun a h => kn a (fun z => nM a z h) (E.tm a h), fun a e => ?_, E.bg.go tb (fun a o hm _ h => k a o (fun z => nM a z hm) h) sm⟩, ⟨fun a o _ nO h => k a o (fun z => nO (hFO a z)) h, fun a h => ?_, okk, fun a h z => dj a h (C.hst a z), tb⟩⟩
  · rcases g3 a h with ⟨z, z2⟩ | z
    · exact List.mem_append_left _ (List.mem_filter.mpr ⟨m a z, decide_eq_true z2⟩)
    · exact List.mem_append_right _ z
  · rcases inO h with ⟨z, z2⟩ | z
    · exact kn a z2 (E.to a z)
    · exact to a z
  · refine okk a e _ ((E.ok a e).mono ?_)
    refine cut_same fun b u nb q => ⟨fun z => ?_, q⟩
    rcases inO z with ⟨z, _⟩ | z
    · exact nb z
    · rcases fr b z with y | y
      · exact nb (hFO b y)
      · rw [q] at y; cases y
  · rcases inO h with ⟨z, _⟩ | z
    · exact .inl z
    · rcases fr a z with y | y
      · exact .inl (hFO a y)
      · exact .inr y
/-- the heap, once more, while a comprehension's new list at D grows -/
theorem EnvOk.within (E1 : EnvOk K C H σ sl O) {D : Addr} {acc : List V} (hD : H D = none) (h1 : H' D = some (.lst acc)) (h5 : Same (cut (O ++ C.M) H) (cut (D :: (O ++ C.M)) H')) (h6 : Tr C H H') : EnvOk K C H' σ sl (D :: O) := by
  have Ea := E1.add (o := .lst []) hD
  obtain ⟨O1, s, nd, m⟩ := E1.slots
  have Eh := E1.tr h6
  refine ⟨⟨O1, s.mono h5 (fun a h x e => h6.keep a x (E1.notSt (m a h)) e), nd, fun a h => List.mem_cons_of_mem _ (m a h)⟩, Ea.dj, fun a h => ?_, Eh.tm, fun a e => ?_, E1.bg.go h6.tab (fun a o _ n h => h6.keep a o n h) h5⟩
  · rcases List.mem_cons.mp h with rfl | z
    · rw [h1]; simp
    · exact Eh.to a z
  · refine h6.ok a e (D :: O) ((E1.ok a e).mono (cut_same fun b u nb q => ⟨fun z => ?_, q⟩))
    rcases List.mem_cons.mp z with rfl | z
    · rw [hD] at q; cases q
    · exact nb z
theorem Tr.within {D : Addr} {xs : List V} {o : HO} {H1 H4 : Hp} (hD : H1 D = Option.none) (hl : H4 D = some (.lst xs)) (t24 : Tr C H1 H4) : Tr C H1 (upd H4 D o) := by
  refine ⟨fun a o' ns h => ?_, fun a e Ox h => ?_, fun t => tabs_but hl (fun b u hb q => by rw [upd_ne hb]; exact q) (t24.tab t)⟩
  · rw [upd_ne (ne_of_none h hD)]; exact t24.keep a o' ns h
  · have z := t24.ok a e (D :: Ox) (h.mono (cut_same fun b u nb q => ⟨fun z => by
      rcases List.mem_cons.mp z with rfl | z
      · rw [hD] at q; cases q
      · exact nb z, q⟩))
    refine z.mono (cut_same fun b u nb q => ⟨fun z => nb (List.mem_cons_of_mem _ z), ?_⟩)
    rw [upd_ne (fun e => nb (by rw [e]; exact List.mem_cons_self))]; exact q
theorem Bg.pl {st : Option Addr} {M : List Addr} {h : ∀ a, st = some a → a ∈ M} : Bg K (Cfg.pl st M h) H O := ⟨fun p h => absurd h (by simp [Cfg.pl]), fun p h => absurd h (by simp [Cfg.pl]), fun p h => absurd h (by simp [Cfg.pl])⟩
theorem Cfg.pl_vol {st : Option Addr} {M : List Addr} {h : ∀ a, st = some a → a ∈ M} {a : Addr} (q : (Cfg.pl st M h).vol a) : st = some a := q.elim id fun ⟨_, z, _⟩ => absurd z (by simp [Cfg.pl])
end
end DL
/-! The logic's judgements, and its rules for expressions. -/
namespace DL
open PySem PySem.Spec PyProof.Rows L2

abbrev is (d : PyData) : PyData → Prop := fun x => x = d
abbrev isL (ds : List PyData) : List PyData → Prop := fun x => x = ds
abbrev isB (b : Bool) : Bool → Prop := fun x => x = b

/-- e gives some data of which P holds -/
def EV (C : Cfg) (X : Cx) (e : Expr) (sl : List Sl) (P : PyData → Prop) : Prop :=
  ∀ (σ : L2.St) (H : Hp) (O : List Addr), EnvOk X.K C H σ sl O → ∀ Q : VK, (∀ v H' d, P d → Tr C H H' → Rep X.K (cut (O ++ C.M) H') v d → Q v H') → cE X e σ H Q
/-- the same, but it may lean on what the def will change: to be asked at once -/
def EVB (C : Cfg) (X : Cx) (e : Expr) (sl : List Sl) (P : PyData → Prop) : Prop :=
  ∀ (σ : L2.St) (H : Hp) (O : List Addr), EnvOk X.K C H σ sl O → ∀ Q : VK, (∀ v H' d, P d → Tr C H H' → Rep X.K H' v d → Q v H') → cE X e σ H Q
/-- e gives a new list or dict, no one else's -/
def EVN (C : Cfg) (X : Cx) (e : Expr) (sl : List Sl) (P : PyData → Prop) : Prop :=
  ∀ (σ : L2.St) (H : Hp) (O : List Addr), EnvOk X.K C H σ sl O → ∀ Q : VK, (∀ p o H' d, P d → Tr C H H' → H p = none → H' p = some o → ObjR X.K (cut (p :: (O ++ C.M)) H') o d → Q (.ref p) H') → cE X e σ H Q
def EVT (C : Cfg) (X : Cx) (e : Expr) (sl : List Sl) (P : Bool → Prop) : Prop :=
  ∀ (σ : L2.St) (H : Hp) (O : List Addr), EnvOk X.K C H σ sl O → ∀ Q : Bool → Hp → Prop, (∀ b H', P b → Tr C H H' → Q b H') → cT X e σ H Q
def EVA (C : Cfg) (X : Cx) (es : List Expr) (sl : List Sl) (P : List PyData → Prop) : Prop :=
  ∀ (σ : L2.St) (H : Hp) (O : List Addr), EnvOk X.K C H σ sl O → ∀ Q : List V → Hp → Prop, (∀ vs H' ds, P ds → Tr C H H' → Reps X.K (cut (O ++ C.M) H') vs ds → Q vs H') → cA X es σ H Q

section
variable {C : Cfg} {X : Cx} {e a b c : Expr} {es : List Expr} {sl : List Sl} {P P' Pa Pb Pc : PyData → Prop} {pos : Pos} {K : PySem.W.Frag} {H H' : Hp} {σ : L2.St} {O : List Addr}
theorem EnvOk.var (E : EnvOk K C H σ sl O) {i : Nat} {d : PyData} (h : sl[i]? = some (.d d)) : ∃ v, σ[i]? = some (some v) ∧ Rep K (cut (O ++ C.M) H) v d := by
  obtain ⟨O1, s, _, _⟩ := E.slots
  exact s.getD h
theorem EnvOk.raw (E : EnvOk K C H σ sl O) {i : Nat} {v : V} (h : sl[i]? = some (.r v)) : σ[i]? = some (some v) := by
  obtain ⟨O1, s, _, _⟩ := E.slots
  exact s.getR h
theorem EnvOk.own (E : EnvOk K C H σ sl O) {i : Nat} {d : PyData} (h : sl[i]? = some (.own d)) : ∃ p o, σ[i]? = some (some (.ref p)) ∧ H p = some o ∧ ObjR K (cut (O ++ C.M) H) o d ∧ p ∈ O := by
  obtain ⟨O1, s, n, m⟩ := E.slots
  obtain ⟨p, o, h1, h2, h3, h4⟩ := s.getO h
  exact ⟨p, o, h1, h2, h3, m p h4⟩
theorem EV.imp (h : EV C X e sl P) (k : ∀ d, P d → P' d) : EV C X e sl P' := fun σ H O E Q q => h σ H O E Q fun v H' d p t r => q v H' d (k d p) t r
theorem EVN.imp (h : EVN C X e sl P) (k : ∀ d, P d → P' d) : EVN C X e sl P' := fun σ H O E Q q => h σ H O E Q fun p o H' d pd t n ho r => q p o H' d (k d pd) t n ho r
theorem EV.bo (h : EV C X e sl P) : EVB C X e sl P := fun σ H O E Q q => h σ H O E Q fun v H' d p t r => q v H' d p t (r.mono (cut_le _ _))
theorem EVN.ev (h : EVN C X e sl P) : EV C X e sl P := fun σ H O E Q q => h σ H O E Q fun p o H' d pd t n ho r => by
  obtain ⟨n1, n2⟩ := E.fresh n
  refine q _ _ d pd t (.obj ?_ (r.mono (cut_same fun a u na x => ⟨fun z => na (List.mem_cons_of_mem _ z), x⟩)))
  rw [cut_out (by intro z; exact (List.mem_append.mp z).elim n1 n2)]
  exact ho
theorem EV.eq {d d' : PyData} (h : EV C X e sl (is d)) (k : d = d') : EV C X e sl (is d') := h.imp fun x p => p.trans k
theorem EVT.imp {P P' : Bool → Prop} (h : EVT C X e sl P) (k : ∀ d, P d → P' d) : EVT C X e sl P' := fun σ H O E Q q => h σ H O E Q fun b H' p t => q b H' (k b p) t
theorem EVT.eq {b b' : Bool} (h : EVT C X e sl (isB b)) (k : b = b') : EVT C X e sl (isB b') := h.imp fun x p => p.trans k

/-! names and constants -/
theorem ev_var (i : Nat) {x : Str} {d : PyData} (hs : sl[i]? = some (.d d) := by rfl) (hN : X.N[i]? = some x := by rfl) (hv : Vis X.env.scope x := by first | exact Or.inl rfl | exact Or.inr (Or.inl rfl) | exact Or.inr (Or.inr rfl))
    (hd : (x == ("__debug__" : Str)) = false := by decide) (hcd : (x == ("__classdict__" : Str)) = false := by decide) : EV C X (.Name x pos) sl (is d) := fun σ H O E Q k => by
  obtain ⟨v, h1, h2⟩ := E.var hs
  exact ofE (pe_var hN hv hd hcd) ⟨v, h1, k v H d rfl (Tr.refl H) h2⟩
/-- a list or dict of the def's own, asked at once -/
theorem eb_own (i : Nat) {x : Str} {d : PyData} (hs : sl[i]? = some (.own d) := by rfl) (hN : X.N[i]? = some x := by rfl) (hv : Vis X.env.scope x := by first | exact Or.inl rfl | exact Or.inr (Or.inl rfl) | exact Or.inr (Or.inr rfl))
    (hd : (x == ("__debug__" : Str)) = false := by decide) (hcd : (x == ("__classdict__" : Str)) = false := by decide) : EVB C X (.Name x pos) sl (is d) := fun σ H O E Q k => by
  obtain ⟨p, o, h1, h2, h3, h4⟩ := E.own hs
  exact ofE (pe_var hN hv hd hcd) ⟨.ref p, h1, k _ H d rfl (Tr.refl H) (.obj h2 (h3.mono (cut_le _ _)))⟩
theorem ev_int {i : Int} {j : Nat} : EV C X (.Constant (.int i) j pos) sl (is (.int i)) := fun σ H O E Q k => ofE pe_int (k _ H _ rfl (Tr.refl H) (.int i))
theorem ev_bl {i : Bool} {j : Nat} : EV C X (.Constant (.bool i) j pos) sl (is (.bool i)) := fun σ H O E Q k => ofE pe_bl (k _ H _ rfl (Tr.refl H) (.bl i))
theorem ev_non {j : Nat} : EV C X (.Constant .none j pos) sl (is .none) := fun σ H O E Q k => ofE pe_non (k _ H _ rfl (Tr.refl H) .non)
theorem ev_str {x : Str} {j : Nat} : EV C X (.Constant (.str x) j pos) sl (is (.str x)) := fun σ H O E Q k => ofE pe_str (k _ H _ rfl (Tr.refl H) (.str x))

/-! operators -/
theorem ev_op {op : Operator} {r : R2} (ho : OpR X (binaryOp op) r) (ha : EV C X a sl Pa) (hb : EV C X b sl Pb)
    (hr : ∀ σ H O x y dx dy, EnvOk X.K C H σ sl O → Pa dx → Pb dy → Rep X.K (cut (O ++ C.M) H) x dx → Rep X.K (cut (O ++ C.M) H) y dy → ∀ Q : VK, (∀ v H' d, P d → Tr C H H' → Rep X.K (cut (O ++ C.M) H') v d → Q v H') → r x y H Q) :
    EV C X (.BinOp a op b pos) sl P := fun σ H O E Q k => ofE (pe_op ho (pe_c a) (pe_c b)) (ha σ H O E _ fun x H1 dx px t1 r1 => hb σ H1 O (E.tr t1) _ fun y H2 dy py t2 r2 =>
  hr σ H2 O x y dx dy ((E.tr t1).tr t2) px py (r1.mono (t2.cutS O)) r2 Q fun v H3 d p t3 r3 => k v H3 d p ((t1.trans t2).trans t3) r3)
theorem ev_i2 {op : Operator} {g : Int → Int → Int} (ho : OpR X (binaryOp op) (rI0 fun i j => .int (g i j))) (ha : EV C X a sl Pa) (hb : EV C X b sl Pb) (h : ∀ dx dy, Pa dx → Pb dy → ∃ i j, dx = .int i ∧ dy = .int j ∧ P (.int (g i j))) :
    EV C X (.BinOp a op b pos) sl P := ev_op ho ha hb fun σ H O x y dx dy E px py rx ry Q k => by
  obtain ⟨i, j, rfl, rfl, p⟩ := h dx dy px py
  exact ⟨i, j, rx.int_inv, ry.int_inv, k _ H _ p (Tr.refl H) (.int _)⟩
theorem ev_i2c {op : Operator} {Cn : Int → Int → Prop} {g : Int → Int → Int} (ho : OpR X (binaryOp op) (rI Cn fun i j => .int (g i j))) (ha : EV C X a sl Pa) (hb : EV C X b sl Pb) (h : ∀ dx dy, Pa dx → Pb dy → ∃ i j, dx = .int i ∧ dy = .int j ∧ Cn i j ∧ P (.int (g i j))) :
    EV C X (.BinOp a op b pos) sl P := ev_op ho ha hb fun σ H O x y dx dy E px py rx ry Q k => by
  obtain ⟨i, j, rfl, rfl, c, p⟩ := h dx dy px py
  exact ⟨i, j, rx.int_inv, ry.int_inv, c, k _ H _ p (Tr.refl H) (.int _)⟩
variable {i j : Int}
theorem ev_add (ha : EV C X a sl (is (.int i))) (hb : EV C X b sl (is (.int j))) : EV C X (.BinOp a .Add b pos) sl (is (.int (i + j))) := ev_i2 op_add ha hb fun _ _ p q => ⟨i, j, p, q, rfl⟩
theorem ev_sub (ha : EV C X a sl (is (.int i))) (hb : EV C X b sl (is (.int j))) : EV C X (.BinOp a .Sub b pos) sl (is (.int (i - j))) := ev_i2 op_sub ha hb fun _ _ p q => ⟨i, j, p, q, rfl⟩
theorem ev_mul (ha : EV C X a sl (is (.int i))) (hb : EV C X b sl (is (.int j))) (h : CMul i j) : EV C X (.BinOp a .Mult b pos) sl (is (.int (i * j))) := ev_i2c op_mul ha hb fun _ _ p q => ⟨i, j, p, q, h, rfl⟩
theorem ev_mulW (ha : EV C X a sl (is (.int i))) (hb : EV C X b sl (is (.int j))) (h : CMulW i j) : EV C X (.BinOp a .Mult b pos) sl (is (.int (i * j))) := ev_i2c op_mulW ha hb fun _ _ p q => ⟨i, j, p, q, h, rfl⟩
theorem ev_mod (ha : EV C X a sl (is (.int i))) (hb : EV C X b sl (is (.int j))) (h : 0 < j) : EV C X (.BinOp a .Mod b pos) sl (is (.int (i % j))) := ev_i2c op_mod ha hb fun _ _ p q => ⟨i, j, p, q, h, rfl⟩
theorem ev_fdiv (ha : EV C X a sl (is (.int i))) (hb : EV C X b sl (is (.int j))) (h : CDiv i j) : EV C X (.BinOp a .FloorDiv b pos) sl (is (.int (i / j))) := ev_i2c op_fdiv ha hb fun _ _ p q => ⟨i, j, p, q, h, rfl⟩
theorem ev_pow (ha : EV C X a sl (is (.int i))) (hb : EV C X b sl (is (.int j))) (h : CPow i j) : EV C X (.BinOp a .Pow b pos) sl (is (.int (i ^ j.toNat))) := ev_i2c op_pow ha hb fun _ _ p q => ⟨i, j, p, q, h, rfl⟩
theorem ev_neg (ha : EV C X a sl (is (.int i))) : EV C X (.UnaryOp .USub a pos) sl (is (.int (-i))) := fun σ H O E Q k => ofE (pe_un un_neg (pe_c a)) (ha σ H O E _ fun x H1 dx px t1 r1 => by
  have px : dx = .int i := px
  subst px
  exact ⟨i, r1.int_inv, k _ H1 _ rfl t1 (.int _)⟩)
/-- a new object from two -/
theorem obj_new (E : EnvOk X.K C H σ sl O) {o : HO} {d : PyData} {p : Addr} (hp : H p = none) (r : ObjR X.K (cut (O ++ C.M) H) o d) : ObjR X.K (cut (p :: (O ++ C.M)) (upd H p o)) o d := r.mono (cut_same fun a u na x => by
  refine ⟨fun z => ?_, ?_⟩
  · rcases List.mem_cons.mp z with rfl | z
    · rw [hp] at x; cases x
    · exact na z
  · rw [upd_ne (ne_of_none x hp)]; exact x)
theorem en_cat {xs ys : List PyData} (ha : EV C X a sl (is (.list xs))) (hb : EV C X b sl (is (.list ys))) (hz : xs.length + ys.length ≤ 1000000) : EVN C X (.BinOp a .Add b pos) sl (is (.list (xs ++ ys))) := fun σ H O E Q k =>
  ofE (pe_op op_cat (pe_c a) (pe_c b)) (ha σ H O E _ fun x H1 dx px t1 r1 => hb σ H1 O (E.tr t1) _ fun y H2 dy py t2 r2 => by
    have px : dx = .list xs := px
    have py : dy = .list ys := py
    subst px py
    obtain ⟨p1, vs, rfl, h1, s1⟩ := (r1.mono (t2.cutS O)).lst_inv
    obtain ⟨p2, ws, rfl, h2, s2⟩ := r2.lst_inv
    refine ⟨p1, p2, vs, ws, rfl, rfl, (cut_some h1).2, (cut_some h2).2, ?_, fun p hp => ?_⟩
    · rw [s1.length, s2.length]; exact Nat.le_trans hz (by decide)
    · have E2 := (E.tr t1).tr t2
      exact k p _ _ _ rfl ((t1.trans t2).trans (Tr.new hp)) ((t1.trans t2).none hp fun e => (E2.fresh hp).2 (C.hst p e)) upd_same (obj_new E2 hp (.lst (s1.append s2))))
theorem ev_catT {xs ys : List PyData} (ha : EV C X a sl (is (.tuple xs))) (hb : EV C X b sl (is (.tuple ys))) (h0 : xs ≠ []) (hz : xs.length + ys.length ≤ 1000000) : EV C X (.BinOp a .Add b pos) sl (is (.tuple (xs ++ ys))) :=
  ev_op op_catT ha hb fun σ H O x y dx dy E px py rx ry Q k => by
    have px : dx = .tuple xs := px
    have py : dy = .tuple ys := py
    subst px py
    obtain ⟨p1, vs, rfl, h1, s1⟩ := rx.tup_inv
    obtain ⟨p2, ws, rfl, h2, s2⟩ := ry.tup_inv
    refine ⟨p1, p2, vs, ws, rfl, rfl, SqT.of (cut_some h1).2, SqT.of (cut_some h2).2, fun e => ?_, ?_, fun e => ?_, fun _ p hp => ?_⟩
    · subst e; cases s1; exact h0 rfl
    · rw [s1.length, s2.length]; exact Nat.le_trans hz (by decide)
    · subst e
      cases s2
      rw [List.append_nil] at k
      exact k _ H _ rfl (Tr.refl H) rx
    · have n := E.fresh hp
      have e1 : Same (cut (O ++ C.M) H) (cut (O ++ C.M) (upd H p (.tup (vs ++ ws)))) := (Tr.new (C := C) hp).cutS O
      refine k _ _ _ rfl (Tr.new hp) (.obj ?_ (.tup ((s1.append s2).mono e1)))
      rw [cut_out (by intro z; exact (List.mem_append.mp z).elim n.1 n.2), upd_same]
end
end DL
/-! Comparisons, tests, subscripts, slices, built-ins. -/
namespace DL
open PySem PySem.Spec PyProof.Rows L2
def cW (X : Cx) (e : Expr) : TT := fun σ H Q => ∀ (whole : Sem Value) (pins : List (Addr × Obj)) (s : Shared), Inv X pins σ H s → wpAny (model X.prog X.w) X.A (isTrue e X.env whole) (TP X pins σ Q) X.xe s
theorem pw_c {X : Cx} (e : Expr) : PW X e (cW X e) := ⟨fun whole pins s _ _ _ I h => h whole pins s I⟩
theorem ofW {X : Cx} {e : Expr} {t : TT} {σ : L2.St} {H : Hp} {Q : Bool → Hp → Prop} (p : PW X e t) (h : t σ H Q) : cW X e σ H Q := fun whole pins s I => p.run whole pins s σ H Q I h
def EVW (C : Cfg) (X : Cx) (e : Expr) (sl : List Sl) (P : Bool → Prop) : Prop :=
  ∀ (σ : L2.St) (H : Hp) (O : List Addr), EnvOk X.K C H σ sl O → ∀ Q : Bool → Hp → Prop, (∀ b H', P b → Tr C H H' → Q b H') → cW X e σ H Q
def cO (X : Cx) (e : Option Expr) : TO := fun σ H Q => ∀ (pins : List (Addr × Obj)) (s : Shared), Inv X pins σ H s → wpAny (model X.prog X.w) X.A (evalPart e X.env) (fun u s' => ∃ o H', Inv X pins σ H' s' ∧ IsPart u o ∧ Q o H') X.xe s
theorem po_c {X : Cx} (e : Option Expr) : PO X e (cO X e) := ⟨fun pins s _ _ _ I h => h pins s I⟩
theorem ofO {X : Cx} {e : Option Expr} {t : TO} {σ : L2.St} {H : Hp} {Q : Option Int → Hp → Prop} (p : PO X e t) (h : t σ H Q) : cO X e σ H Q := fun pins s I => p.run pins s σ H Q I h
def EVO (C : Cfg) (X : Cx) (e : Option Expr) (sl : List Sl) (o : Option Int) : Prop :=
  ∀ (σ : L2.St) (H : Hp) (O : List Addr), EnvOk X.K C H σ sl O → ∀ Q : Option Int → Hp → Prop, (∀ H', Tr C H H' → Q o H') → cO X e σ H Q

section
variable {C : Cfg} {X : Cx} {e a b c : Expr} {es : List Expr} {sl : List Sl} {P P' Pa Pb Pc : PyData → Prop} {pos : Pos} {K : PySem.W.Frag} {H H' : Hp} {σ : L2.St} {O : List Addr} {i j : Int}
/-! ### comparisons -/
/-- a comparison whose answer is a bool that hangs on the data alone -/
theorem et_cmp {op : CmpOp} {r : R2} {T : Bool → Prop} (ho : OpR X (compareOp op) r) (ha : EV C X a sl Pa) (hb : EVB C X b sl Pb) (hm : behindInMarks op b = false)
    (hr : ∀ H x y dx dy, Pa dx → Pb dy → Rep X.K H x dx → Rep X.K H y dy → ∃ t, T t ∧ ∀ Q : VK, Q (.bl t) H → r x y H Q) : EVT C X (.Compare a [op] [b] pos) sl T := fun σ H O E Q k =>
  ofT (pt_cmpR ho (pe_c a) (pe_c b) hm) (ha σ H O E _ fun x H1 dx px t1 r1 => hb σ H1 O (E.tr t1) _ fun y H2 dy py t2 r2 => by
    obtain ⟨t, pt, q⟩ := hr H2 x y dx dy px py ((r1.mono (t2.cutS O)).mono (cut_le _ _)) r2
    exact q _ ⟨t, rfl, k t H2 pt (t1.trans t2)⟩)
theorem ev_cmp {op : CmpOp} {r : R2} {T : Bool → Prop} (ho : OpR X (compareOp op) r) (ha : EV C X a sl Pa) (hb : EVB C X b sl Pb) (hm : behindInMarks op b = false)
    (hr : ∀ H x y dx dy, Pa dx → Pb dy → Rep X.K H x dx → Rep X.K H y dy → ∃ t, T t ∧ ∀ Q : VK, Q (.bl t) H → r x y H Q) : EV C X (.Compare a [op] [b] pos) sl (fun d => ∃ t, T t ∧ d = .bool t) := fun σ H O E Q k =>
  ofE (pe_cmpR ho (pe_c a) (pe_c b) hm) (ha σ H O E _ fun x H1 dx px t1 r1 => hb σ H1 O (E.tr t1) _ fun y H2 dy py t2 r2 => by
    obtain ⟨t, pt, q⟩ := hr H2 x y dx dy px py ((r1.mono (t2.cutS O)).mono (cut_le _ _)) r2
    exact q _ (k _ H2 _ ⟨t, pt, rfl⟩ (t1.trans t2) (.bl t)))
/-- the same where the left side, too, may be the def's own -/
theorem et_cmpB {op : CmpOp} {r : R2} {T : Bool → Prop} (ho : OpR X (compareOp op) r) (i : Nat) {x : Str} {d : PyData} {px : Pos} (hs : sl[i]? = some (.own d)) (hN : X.N[i]? = some x) (hv : Vis X.env.scope x) (hb : EVB C X b sl Pb) (hm : behindInMarks op b = false)
    (hr : ∀ H x y dy, Pb dy → Rep X.K H x d → Rep X.K H y dy → ∃ t, T t ∧ ∀ Q : VK, Q (.bl t) H → r x y H Q)
    (hd : (x == ("__debug__" : Str)) = false := by decide) (hcd : (x == ("__classdict__" : Str)) = false := by decide) : EVT C X (.Compare (.Name x px) [op] [b] pos) sl T := fun σ H O E Q k => by
  obtain ⟨p, o, h1, h2, h3, h4⟩ := E.own hs
  refine ofT (pt_cmpR ho (pe_var hN hv hd hcd) (pe_c b) hm) ⟨.ref p, h1, hb σ H O E _ fun y H2 dy py t2 r2 => ?_⟩
  have h2' : H2 p = some o := t2.keep _ _ (E.notSt h4) h2
  obtain ⟨t, pt, q⟩ := hr H2 (.ref p) y dy py (.obj h2' ((h3.mono (t2.cutS O)).mono (cut_le _ _))) r2
  exact q _ ⟨t, rfl, k t H2 pt t2⟩
theorem i2b {g : Int → Int → Bool} : ∀ (H : Hp) (x y : V) (dx dy : PyData), is (.int i) dx → is (.int j) dy → Rep X.K H x dx → Rep X.K H y dy → ∃ t, isB (g i j) t ∧ ∀ Q : VK, Q (.bl t) H → rI0 (fun i j => .bl (g i j)) x y H Q := fun H x y dx dy px py rx ry => by
  have px : dx = .int i := px
  have py : dy = .int j := py
  subst px py
  exact ⟨g i j, rfl, fun Q q => ⟨i, j, rx.int_inv, ry.int_inv, q⟩⟩
theorem et_lt (ha : EV C X a sl (is (.int i))) (hb : EV C X b sl (is (.int j))) : EVT C X (.Compare a [.Lt] [b] pos) sl (isB (decide (i < j))) := et_cmp op_lt ha hb.bo (nomark _) (i2b (g := fun i j => decide (i < j)))
theorem et_le (ha : EV C X a sl (is (.int i))) (hb : EV C X b sl (is (.int j))) : EVT C X (.Compare a [.LtE] [b] pos) sl (isB (decide (i ≤ j))) := et_cmp op_le ha hb.bo (nomark _) (i2b (g := fun i j => decide (i ≤ j)))
theorem et_gt (ha : EV C X a sl (is (.int i))) (hb : EV C X b sl (is (.int j))) : EVT C X (.Compare a [.Gt] [b] pos) sl (isB (decide (j < i))) := et_cmp op_gt ha hb.bo (nomark _) (i2b (g := fun i j => decide (j < i)))
theorem et_ge (ha : EV C X a sl (is (.int i))) (hb : EV C X b sl (is (.int j))) : EVT C X (.Compare a [.GtE] [b] pos) sl (isB (decide (j ≤ i))) := et_cmp op_ge ha hb.bo (nomark _) (i2b (g := fun i j => decide (j ≤ i)))
theorem rel_eqD {d1 d2 : PyData} (s1 : SeqAt.shaped d1 = true) (s2 : SeqAt.shaped d2 = true) : ∀ (H : Hp) (x y : V) (dx dy : PyData), is d1 dx → is d2 dy → Rep X.K H x dx → Rep X.K H y dy → ∃ t, isB (PyData.eqv d1 d2) t ∧ ∀ Q : VK, Q (.bl t) H → rEqD X.K x y H Q := fun H x y dx dy px py rx ry => by
  have px : dx = d1 := px
  have py : dy = d2 := py
  subst px py
  refine ⟨_, rfl, fun Q q => ⟨dx, dy, Rep.dp _ _ rx ?_, Rep.dp _ _ ry ?_, s1, s2, q⟩⟩
  · unfold SeqAt.shaped at s1; exact (Bool.and_eq_true _ _ ▸ s1).1
  · unfold SeqAt.shaped at s2; exact (Bool.and_eq_true _ _ ▸ s2).1
theorem rel_neD {d1 d2 : PyData} (s1 : SeqAt.shaped d1 = true) (s2 : SeqAt.shaped d2 = true) : ∀ (H : Hp) (x y : V) (dx dy : PyData), is d1 dx → is d2 dy → Rep X.K H x dx → Rep X.K H y dy → ∃ t, isB (!PyData.eqv d1 d2) t ∧ ∀ Q : VK, Q (.bl t) H → rNeD X.K x y H Q := fun H x y dx dy px py rx ry => by
  have px : dx = d1 := px
  have py : dy = d2 := py
  subst px py
  refine ⟨_, rfl, fun Q q => ⟨dx, dy, Rep.dp _ _ rx ?_, Rep.dp _ _ ry ?_, s1, s2, q⟩⟩
  · unfold SeqAt.shaped at s1; exact (Bool.and_eq_true _ _ ▸ s1).1
  · unfold SeqAt.shaped at s2; exact (Bool.and_eq_true _ _ ▸ s2).1
/-- == and != of data -/
theorem et_eq (hu : X.A.units + 64 < cLine) {d1 d2 : PyData} (ha : EV C X a sl (is d1)) (hb : EVB C X b sl (is d2)) (s1 : SeqAt.shaped d1 = true) (s2 : SeqAt.shaped d2 = true) : EVT C X (.Compare a [.Eq] [b] pos) sl (isB (PyData.eqv d1 d2)) :=
  et_cmp (op_eqD hu) ha hb (nomark _) (rel_eqD s1 s2)
theorem et_ne (hu : X.A.units + 64 < cLine) {d1 d2 : PyData} (ha : EV C X a sl (is d1)) (hb : EVB C X b sl (is d2)) (s1 : SeqAt.shaped d1 = true) (s2 : SeqAt.shaped d2 = true) : EVT C X (.Compare a [.NotEq] [b] pos) sl (isB (!PyData.eqv d1 d2)) :=
  et_cmp (op_neD hu) ha hb (nomark _) (rel_neD s1 s2)
/-- of two ints -/
theorem i2eq : ∀ (H : Hp) (x y : V) (dx dy : PyData), is (.int i) dx → is (.int j) dy → Rep X.K H x dx → Rep X.K H y dy → ∃ t, isB (decide (i = j)) t ∧ ∀ Q : VK, Q (.bl t) H → rEq x y H Q := fun H x y dx dy px py rx ry => by
  have px : dx = .int i := px
  have py : dy = .int j := py
  subst px py
  rw [rx.int_inv, ry.int_inv]
  refine ⟨decide (i = j), rfl, fun Q q => ⟨rfl, ?_⟩⟩
  have e : decide (V.int i = V.int j) = decide (i = j) := by simp
  rw [e]; exact q
theorem i2ne : ∀ (H : Hp) (x y : V) (dx dy : PyData), is (.int i) dx → is (.int j) dy → Rep X.K H x dx → Rep X.K H y dy → ∃ t, isB (decide (i ≠ j)) t ∧ ∀ Q : VK, Q (.bl t) H → rNe x y H Q := fun H x y dx dy px py rx ry => by
  have px : dx = .int i := px
  have py : dy = .int j := py
  subst px py
  rw [rx.int_inv, ry.int_inv]
  refine ⟨decide (i ≠ j), rfl, fun Q q => ⟨rfl, ?_⟩⟩
  have e : (!decide (V.int i = V.int j)) = decide (i ≠ j) := by simp
  rw [e]; exact q
theorem et_eqI (ha : EV C X a sl (is (.int i))) (hb : EV C X b sl (is (.int j))) : EVT C X (.Compare a [.Eq] [b] pos) sl (isB (decide (i = j))) := et_cmp op_eq ha hb.bo (nomark _) i2eq
theorem et_neI (ha : EV C X a sl (is (.int i))) (hb : EV C X b sl (is (.int j))) : EVT C X (.Compare a [.NotEq] [b] pos) sl (isB (decide (i ≠ j))) := et_cmp op_ne ha hb.bo (nomark _) i2ne
theorem EV.bool {T : Bool → Prop} {t : Bool} (h : EV C X e sl (fun d => ∃ t, T t ∧ d = .bool t)) (k : ∀ u, T u → u = t) : EV C X e sl (is (.bool t)) := h.imp fun d p => by
  obtain ⟨u, p1, rfl⟩ := p
  rw [k u p1]
theorem ev_eqI (ha : EV C X a sl (is (.int i))) (hb : EV C X b sl (is (.int j))) : EV C X (.Compare a [.Eq] [b] pos) sl (is (.bool (decide (i = j)))) := (ev_cmp op_eq ha hb.bo (nomark _) i2eq).bool fun _ p => p
theorem ev_neI (ha : EV C X a sl (is (.int i))) (hb : EV C X b sl (is (.int j))) : EV C X (.Compare a [.NotEq] [b] pos) sl (is (.bool (decide (i ≠ j)))) := (ev_cmp op_ne ha hb.bo (nomark _) i2ne).bool fun _ p => p
theorem ev_lt (ha : EV C X a sl (is (.int i))) (hb : EV C X b sl (is (.int j))) : EV C X (.Compare a [.Lt] [b] pos) sl (is (.bool (decide (i < j)))) := (ev_cmp op_lt ha hb.bo (nomark _) (i2b (g := fun i j => decide (i < j)))).bool fun _ p => p
theorem ev_le (ha : EV C X a sl (is (.int i))) (hb : EV C X b sl (is (.int j))) : EV C X (.Compare a [.LtE] [b] pos) sl (is (.bool (decide (i ≤ j)))) := (ev_cmp op_le ha hb.bo (nomark _) (i2b (g := fun i j => decide (i ≤ j)))).bool fun _ p => p
theorem ev_eq (hu : X.A.units + 64 < cLine) {d1 d2 : PyData} (ha : EV C X a sl (is d1)) (hb : EVB C X b sl (is d2)) (s1 : SeqAt.shaped d1 = true) (s2 : SeqAt.shaped d2 = true) : EV C X (.Compare a [.Eq] [b] pos) sl (is (.bool (PyData.eqv d1 d2))) :=
  (ev_cmp (op_eqD hu) ha hb (nomark _) (rel_eqD s1 s2)).bool fun _ p => p
theorem ev_ne (hu : X.A.units + 64 < cLine) {d1 d2 : PyData} (ha : EV C X a sl (is d1)) (hb : EVB C X b sl (is d2)) (s1 : SeqAt.shaped d1 = true) (s2 : SeqAt.shaped d2 = true) : EV C X (.Compare a [.NotEq] [b] pos) sl (is (.bool (!PyData.eqv d1 d2))) :=
  (ev_cmp (op_neD hu) ha hb (nomark _) (rel_neD s1 s2)).bool fun _ p => p
/-- x is True, x is False of a bool -/
theorem ev_isB {t u : Bool} (ha : EV C X a sl (is (.bool t))) (hb : EV C X b sl (is (.bool u))) : EV C X (.Compare a [.Is] [b] pos) sl (is (.bool (decide (t = u)))) := (ev_cmp (T := isB (decide (t = u))) op_isBl ha hb.bo (nomark _) (fun H x y dx dy px py rx ry => by
  have px : dx = .bool t := px
  have py : dy = .bool u := py
  subst px py
  exact ⟨_, rfl, fun Q q => ⟨t, u, rx.bl_inv, ry.bl_inv, q⟩⟩)).bool fun _ p => p
theorem et_isB {t u : Bool} (ha : EV C X a sl (is (.bool t))) (hb : EV C X b sl (is (.bool u))) : EVT C X (.Compare a [.Is] [b] pos) sl (isB (decide (t = u))) := et_cmp (T := isB (decide (t = u))) op_isBl ha hb.bo (nomark _) (fun H x y dx dy px py rx ry => by
  have px : dx = .bool t := px
  have py : dy = .bool u := py
  subst px py
  exact ⟨_, rfl, fun Q q => ⟨t, u, rx.bl_inv, ry.bl_inv, q⟩⟩)

/-! ### tests -/
theorem et_val {t : Bool} (h : EV C X e sl (is (.bool t))) (he : ∀ whole, isTrue e X.env whole = (do let v ← whole; standAt e.pos; holding [v] (truthy v)) := by intro _; rfl) : EVT C X e sl (isB t) := fun σ H O E Q k =>
  ofT (pt_val (pe_c e) he) (h σ H O E _ fun v H1 d p t1 r1 => by
    have p : d = .bool t := p
    subst p
    exact ⟨t, r1.bl_inv, k t H1 rfl t1⟩)
theorem et_valP {T : Bool → Prop} (h : EV C X e sl (fun d => ∃ t, T t ∧ d = .bool t)) (he : ∀ whole, isTrue e X.env whole = (do let v ← whole; standAt e.pos; holding [v] (truthy v)) := by intro _; rfl) : EVT C X e sl T := fun σ H O E Q k =>
  ofT (pt_val (pe_c e) he) (h σ H O E _ fun v H1 d p t1 r1 => by
    obtain ⟨t, pt, rfl⟩ := p
    exact ⟨t, r1.bl_inv, k t H1 pt t1⟩)
theorem et_not {t : Bool} (h : EVT C X a sl (isB t)) : EVT C X (.UnaryOp .Not a pos) sl (isB (!t)) := fun σ H O E Q k => ofT (pt_not (pt_c a)) (h σ H O E _ fun b H1 p t1 => by
  have p : b = t := p
  subst p
  exact k _ H1 rfl t1)
theorem ev_not {t : Bool} (h : EV C X a sl (is (.bool t))) : EV C X (.UnaryOp .Not a pos) sl (is (.bool (!t))) := fun σ H O E Q k => ofE (pe_not (pe_c a)) (h σ H O E _ fun v H1 d p t1 r1 => by
  have p : d = .bool t := p
  subst p
  exact ⟨t, r1.bl_inv, k _ H1 _ rfl t1 (.bl _)⟩)
theorem ew_and1 {t : Bool} (h : EVT C X a sl (isB t)) : EVW C X (.BoolOp .And [a] pos) sl (isB t) := fun σ H O E Q k => ofW (pw_and1 (pt_c a)) (h σ H O E Q k)
theorem ew_or1 {t : Bool} (h : EVT C X a sl (isB t)) : EVW C X (.BoolOp .Or [a] pos) sl (isB t) := fun σ H O E Q k => ofW (pw_or1 (pt_c a)) (h σ H O E Q k)
theorem ew_and {t u : Bool} (h : EVT C X a sl (isB t)) (h2 : t = true → EVW C X (.BoolOp .And (b :: es) pos) sl (isB u)) : EVW C X (.BoolOp .And (a :: b :: es) pos) sl (isB (t && u)) := fun σ H O E Q k =>
  ofW (pw_and (pt_c a) (pw_c _)) (h σ H O E _ fun c H1 p t1 => by
    have p : c = t := p
    subst p
    cases c with
    | true =>
      show cW X (.BoolOp .And (b :: es) pos) σ H1 Q
      exact h2 rfl σ H1 O (E.tr t1) Q fun d H2 p2 t2 => by
        have p2 : d = u := p2
        subst p2
        exact k _ H2 (by simp) (t1.trans t2)
    | false =>
      show Q false H1
      exact k _ H1 (by simp) t1)
theorem ew_or {t u : Bool} (h : EVT C X a sl (isB t)) (h2 : t = false → EVW C X (.BoolOp .Or (b :: es) pos) sl (isB u)) : EVW C X (.BoolOp .Or (a :: b :: es) pos) sl (isB (t || u)) := fun σ H O E Q k =>
  ofW (pw_or (pt_c a) (pw_c _)) (h σ H O E _ fun c H1 p t1 => by
    have p : c = t := p
    subst p
    cases c with
    | false => 
      show cW X (.BoolOp .Or (b :: es) pos) σ H1 Q
      exact h2 rfl σ H1 O (E.tr t1) Q fun d H2 p2 t2 => by
        have p2 : d = u := p2
        subst p2
        exact k _ H2 (by simp) (t1.trans t2)
    | true =>
      show Q true H1
      exact k _ H1 (by simp) t1)
theorem EVW.t {T : Bool → Prop} (h : EVW C X e sl T) : EVT C X e sl T := fun σ H O E Q k => ofT (pw_c e).pt (h σ H O E Q k)
theorem ev_one {op : BoolOp} (h : EV C X a sl P) : EV C X (.BoolOp op [a] pos) sl P := fun σ H O E Q k => ofE (pe_one (pe_c a)) (h σ H O E Q k)
theorem ev_and {t u : Bool} (h : EV C X a sl (is (.bool t))) (h2 : t = true → EV C X (.BoolOp .And (b :: es) pos) sl (is (.bool u))) : EV C X (.BoolOp .And (a :: b :: es) pos) sl (is (.bool (t && u))) := fun σ H O E Q k =>
  ofE (pe_and (pe_c a) (pe_c _)) (h σ H O E _ fun v H1 d p t1 r1 => by
    have p : d = .bool t := p
    subst p
    refine ⟨t, r1.bl_inv, ?_⟩
    cases t with
    | true =>
      show cE X (.BoolOp .And (b :: es) pos) σ H1 Q
      exact h2 rfl σ H1 O (E.tr t1) Q fun v2 H2 d2 p2 t2 r2 => by
        have p2 : d2 = .bool u := p2
        subst p2
        exact k _ H2 _ (by simp) (t1.trans t2) r2
    | false =>
      show Q (.bl false) H1
      exact k _ H1 _ (by simp) t1 (.bl false))
theorem ev_or {t u : Bool} (h : EV C X a sl (is (.bool t))) (h2 : t = false → EV C X (.BoolOp .Or (b :: es) pos) sl (is (.bool u))) : EV C X (.BoolOp .Or (a :: b :: es) pos) sl (is (.bool (t || u))) := fun σ H O E Q k =>
  ofE (pe_or (pe_c a) (pe_c _)) (h σ H O E _ fun v H1 d p t1 r1 => by
    have p : d = .bool t := p
    subst p
    refine ⟨t, r1.bl_inv, ?_⟩
    cases t with
    | false =>
      show cE X (.BoolOp .Or (b :: es) pos) σ H1 Q
      exact h2 rfl σ H1 O (E.tr t1) Q fun v2 H2 d2 p2 t2 r2 => by
        have p2 : d2 = .bool u := p2
        subst p2
        exact k _ H2 _ (by simp) (t1.trans t2) r2
    | true =>
      show Q (.bl true) H1
      exact k _ H1 _ (by simp) t1 (.bl true))
theorem ev_ifE {t : Bool} (hc : EVT C X c sl (isB t)) (ha : t = true → EV C X a sl P) (hb : t = false → EV C X b sl P) : EV C X (.IfExp c a b pos) sl P := fun σ H O E Q k => ofE (pe_ifExp (pt_c c) (pe_c a) (pe_c b)) (hc σ H O E _ fun u H1 p t1 => by
  have p : u = t := p
  subst p
  cases u with
  | true =>
    show cE X a σ H1 Q
    exact ha rfl σ H1 O (E.tr t1) Q fun v H2 d p2 t2 r2 => k v H2 d p2 (t1.trans t2) r2
  | false =>
    show cE X b σ H1 Q
    exact hb rfl σ H1 O (E.tr t1) Q fun v H2 d p2 t2 r2 => k v H2 d p2 (t1.trans t2) r2)

/-! ### items, slices -/
theorem atI_rep {B : Hp} {vs : List V} {ds : List PyData} {d : PyData} (r : Reps K B vs ds) (h : atI ds i = some d) : ∃ v, atI vs i = some v ∧ Rep K B v d := by
  unfold atI at h ⊢
  rw [r.length]
  cases q : ixN ds.length i with
  | none => rw [q] at h; cases h
  | some j =>
    rw [q] at h
    exact r.get h
theorem ev_ixL {ds : List PyData} {d : PyData} (ha : EV C X a sl (is (.list ds))) (hb : EV C X b sl (is (.int i))) (h : atI ds i = some d) (hp : PlainIx b := by exact fun _ _ => rfl) : EV C X (.Subscript a b pos) sl (is d) := fun σ H O E Q k =>
  ofE (pe_ix ix_list (pe_c a) (pe_c b) hp) (ha σ H O E _ fun x H1 dx px t1 r1 => hb σ H1 O (E.tr t1) _ fun y H2 dy py t2 r2 => by
    have px : dx = .list ds := px
    have py : dy = .int i := py
    subst px py
    obtain ⟨p1, vs, rfl, h1, s1⟩ := (r1.mono (t2.cutS O)).lst_inv
    obtain ⟨v, h2, r3⟩ := atI_rep s1 h
    exact ⟨p1, vs, i, v, rfl, r2.int_inv, SqL.of (cut_some h1).2, h2, k v H2 d rfl (t1.trans t2) r3⟩)
theorem ev_ixT {ds : List PyData} {d : PyData} (ha : EV C X a sl (is (.tuple ds))) (hb : EV C X b sl (is (.int i))) (h : atI ds i = some d) (hp : PlainIx b := by exact fun _ _ => rfl) : EV C X (.Subscript a b pos) sl (is d) := fun σ H O E Q k =>
  ofE (pe_ix ix_tup (pe_c a) (pe_c b) hp) (ha σ H O E _ fun x H1 dx px t1 r1 => hb σ H1 O (E.tr t1) _ fun y H2 dy py t2 r2 => by
    have px : dx = .tuple ds := px
    have py : dy = .int i := py
    subst px py
    obtain ⟨p1, vs, rfl, h1, s1⟩ := (r1.mono (t2.cutS O)).tup_inv
    obtain ⟨v, h2, r3⟩ := atI_rep s1 h
    exact ⟨p1, vs, i, v, rfl, r2.int_inv, SqT.of (cut_some h1).2, h2, k v H2 d rfl (t1.trans t2) r3⟩)
/-- an item of the def's own list -/
theorem ev_ixO (n : Nat) {x : Str} {px : Pos} {ds : List PyData} {d : PyData} (hb : EV C X b sl (is (.int i))) (h : atI ds i = some d) (hs : sl[n]? = some (.own (.list ds)) := by rfl) (hN : X.N[n]? = some x := by rfl)
    (hv : Vis X.env.scope x := by first | exact Or.inl rfl | exact Or.inr (Or.inl rfl) | exact Or.inr (Or.inr rfl)) (hp : PlainIx b := by exact fun _ _ => rfl)
    (hd : (x == ("__debug__" : Str)) = false := by decide) (hcd : (x == ("__classdict__" : Str)) = false := by decide) : EV C X (.Subscript (.Name x px) b pos) sl (is d) := fun σ H O E Q k => by
  obtain ⟨p, o, h1, h2, h3, h4⟩ := E.own hs
  refine ofE (pe_ix ix_list (pe_var hN hv hd hcd) (pe_c b) hp) ⟨.ref p, h1, hb σ H O E _ fun y H2 dy py t2 r2 => ?_⟩
  have py : dy = .int i := py
  subst py
  cases h3 with
  | lst s1 =>
    obtain ⟨v, h5, r3⟩ := atI_rep (s1.mono (t2.cutS O)) h
    exact ⟨p, _, i, v, rfl, r2.int_inv, SqL.of (t2.keep _ _ (E.notSt h4) h2), h5, k v H2 d rfl t2 r3⟩
/-- the items of xs[lo:hi] -/
def cutL {α : Type} (xs : List α) (lo hi : Option Int) : List α := (xs.drop (HT.sIx xs.length 0 lo)).take (HT.sIx xs.length xs.length hi - HT.sIx xs.length 0 lo)
theorem cut_rep {B : Hp} {vs : List V} {ds : List PyData} (r : Reps K B vs ds) (lo hi : Option Int) : Reps K B (cutV vs lo hi) (cutL ds lo hi) := by
  unfold cutV cutL
  rw [r.length]
  exact (r.drop _).take _
theorem eo_none : EVO C X none sl none := fun σ H O E Q k => ofO po_none (k H (Tr.refl H))
theorem eo_some (h : EV C X e sl (is (.int i))) : EVO C X (some e) sl (some i) := fun σ H O E Q k => ofO (po_some (pe_c e)) (h σ H O E _ fun v H1 d p t1 r1 => by
  have p : d = .int i := p
  subst p
  exact ⟨i, r1.int_inv, k H1 t1⟩)
theorem en_slice {lo hi : Option Expr} {l u : Option Int} {p2 : Pos} {ds : List PyData} (ha : EV C X a sl (is (.list ds))) (hl : EVO C X lo sl l) (hh : EVO C X hi sl u) : EVN C X (.Subscript a (.Slice lo hi none p2) pos) sl (is (.list (cutL ds l u))) := fun σ H O E Q k =>
  ofE (pe_slice sl_list (pe_c a) (po_c lo) (po_c hi)) (ha σ H O E _ fun x H1 dx px t1 r1 => hl σ H1 O (E.tr t1) _ fun H2 t2 => hh σ H2 O ((E.tr t1).tr t2) _ fun H3 t3 => by
    have px : dx = .list ds := px
    subst px
    obtain ⟨p1, vs, rfl, h1, s1⟩ := ((r1.mono (t2.cutS O)).mono (t3.cutS O)).lst_inv
    have tt := (t1.trans t2).trans t3
    have E3 := E.tr tt
    exact ⟨p1, vs, rfl, SqL.of (cut_some h1).2, fun p hp => k p _ _ _ rfl (tt.trans (Tr.new hp)) (tt.none hp fun e => (E3.fresh hp).2 (C.hst p e)) upd_same (obj_new E3 hp (.lst (cut_rep s1 _ _)))⟩)
/-! ### displays, arguments -/
theorem ea_nil : EVA C X [] sl (isL []) := fun σ H O E Q k => ofA pa_nil (k [] H [] rfl (Tr.refl H) .nil)
theorem ea_consP {T : List PyData → Prop} (h : EV C X e sl P) (ht : EVA C X es sl T) (hs : starEach (e :: es) X.env = (false, eval e X.env) :: starEach es X.env := by rfl) : EVA C X (e :: es) sl (fun l => ∃ d ds, l = d :: ds ∧ P d ∧ T ds) := fun σ H O E Q k =>
  ofA (pa_cons (pe_c e) (pa_c es) hs) (h σ H O E _ fun v H1 d p t1 r1 => ht σ H1 O (E.tr t1) _ fun vs H2 ds pt t2 r2 => k _ H2 _ ⟨d, ds, rfl, p, pt⟩ (t1.trans t2) (.cons (r1.mono (t2.cutS O)) r2))
theorem EVA.imp {T T' : List PyData → Prop} (h : EVA C X es sl T) (k : ∀ d, T d → T' d) : EVA C X es sl T' := fun σ H O E Q q => h σ H O E Q fun v H' d p t r => q v H' d (k d p) t r
theorem ea_cons {d : PyData} {ds : List PyData} (h : EV C X e sl (is d)) (ht : EVA C X es sl (isL ds)) (hs : starEach (e :: es) X.env = (false, eval e X.env) :: starEach es X.env := by rfl) : EVA C X (e :: es) sl (isL (d :: ds)) :=
  (ea_consP h ht hs).imp fun l ⟨d', ds', e1, p, q⟩ => by
    have p : d' = d := p
    have q : ds' = ds := q
    rw [e1, p, q]
theorem ev_tupP {T : List PyData → Prop} {x1 : Nat} (h : EVA C X es sl T) (hz : ∀ ds, T ds → ds.length ≤ 100000) : EV C X (.Tuple es x1 pos) sl (fun d => ∃ ds, d = .tuple ds ∧ T ds) := fun σ H O E Q k =>
  ofE (pe_tup (pa_c es)) (h σ H O E _ fun vs H1 ds p t1 r1 => by
    have E1 := E.tr t1
    refine ⟨by rw [r1.length]; exact Nat.le_trans (hz ds p) (by decide), fun q hq => k _ _ _ ⟨ds, rfl, p⟩ (t1.trans (Tr.new hq)) (.obj ?_ (.tup (r1.mono ((Tr.new (C := C) hq).cutS O))))⟩
    rw [cut_out (by intro z; exact (List.mem_append.mp z).elim (E1.fresh hq).1 (E1.fresh hq).2), upd_same])
theorem ev_tup {ds : List PyData} {x1 : Nat} (h : EVA C X es sl (isL ds)) (hz : ds.length ≤ 100000 := by first | decide | (simp only [List.length_cons, List.length_nil]; decide)) : EV C X (.Tuple es x1 pos) sl (is (.tuple ds)) := (ev_tupP h (fun d p => by have p : d = ds := p; rw [p]; exact hz)).imp fun d ⟨ds', e1, p⟩ => by
  have p : ds' = ds := p
  rw [e1, p]
theorem en_lst {ds : List PyData} (h : EVA C X es sl (isL ds)) (hz : ds.length ≤ 100000 := by first | decide | (simp only [List.length_cons, List.length_nil]; decide)) : EVN C X (.List es pos) sl (is (.list ds)) := fun σ H O E Q k =>
  ofE (pe_lst (pa_c es)) (h σ H O E _ fun vs H1 ds' p t1 r1 => by
    have p : ds' = ds := p
    subst p
    have E1 := E.tr t1
    exact ⟨by rw [r1.length]; exact Nat.le_trans hz (by decide), fun q hq => k q _ _ _ rfl (t1.trans (Tr.new hq)) (t1.none hq fun e => (E1.fresh hq).2 (C.hst q e)) upd_same (obj_new E1 hq (.lst r1))⟩)
end
end DL
/-! Calls, comprehensions. -/
namespace DL
open PySem PySem.Spec PyProof.Rows L2
section
variable {C : Cfg} {X : Cx} {e a b c : Expr} {es : List Expr} {sl : List Sl} {P P' Pa Pb Pc : PyData → Prop} {pos p : Pos} {K : PySem.W.Frag} {H H' : Hp} {σ : L2.St} {O : List Addr} {i j : Int} {x : Str}
/-! ### built-ins by name -/
theorem ev_cb1 {id : String} {r : List V → Hp → VK → Prop} (hc : CallR X (.builtin id) r) (hg : Gl X x) (hm : X.mg x = none) (hv : bootBuiltins x = some (.builtin id)) (h : EVB C X e sl P)
    (hr : ∀ σ H O y dy, EnvOk X.K C H σ sl O → P dy → Rep X.K H y dy → ∀ Q : VK, (∀ v H' d, P' d → Tr C H H' → Rep X.K (cut (O ++ C.M) H') v d → Q v H') → r [y] H Q)
    (hn : x ≠ "__name__" := by decide) (hdb : (x == ("__debug__" : Str)) = false := by decide)
    (he : starEach [e] X.env = (false, eval e X.env) :: starEach [] X.env := by rfl) : EV C X (.Call (.Name x p) [e] [] pos) sl P' := fun σ H O E Q k =>
  ofE (pe_callB hc hg hm hv (pa_cons (pe_c e) pa_nil he) hn hdb he (by rfl)) (h σ H O E _ fun y H1 dy py t1 r1 => hr σ H1 O y dy (E.tr t1) py r1 Q fun v H2 d pd t2 r2 => k v H2 d pd (t1.trans t2) r2)
theorem ev_ct1 {T : String} {r : List V → Hp → VK → Prop} (hc : CallR X (.type T) r) (hg : Gl X x) (hm : X.mg x = none) (hv : bootBuiltins x = some (.type T)) (h : EVB C X e sl P)
    (hr : ∀ σ H O y dy, EnvOk X.K C H σ sl O → P dy → Rep X.K H y dy → ∀ Q : VK, (∀ v H' d, P' d → Tr C H H' → Rep X.K (cut (O ++ C.M) H') v d → Q v H') → r [y] H Q)
    (hn : x ≠ "__name__" := by decide) (hdb : (x == ("__debug__" : Str)) = false := by decide)
    (he : starEach [e] X.env = (false, eval e X.env) :: starEach [] X.env := by rfl) : EV C X (.Call (.Name x p) [e] [] pos) sl P' := fun σ H O E Q k =>
  ofE (pe_callTy hc hg hm hv (pa_cons (pe_c e) pa_nil he) hn hdb he (by rfl)) (h σ H O E _ fun y H1 dy py t1 r1 => hr σ H1 O y dy (E.tr t1) py r1 Q fun v H2 d pd t2 r2 => k v H2 d pd (t1.trans t2) r2)
theorem ev_lenL {ds : List PyData} (hm : X.mg "len" = none) (h : EVB C X e sl (is (.list ds))) (hg : Gl X "len" := by rfl) (he : starEach [e] X.env = (false, eval e X.env) :: starEach [] X.env := by rfl) :
    EV C X (.Call (.Name "len" p) [e] [] pos) sl (is (.int ds.length)) := ev_cb1 call_len_seq hg hm PySem.boot_len h (fun σ H O y dy E py ry Q k => by
  have py : dy = .list ds := py
  subst py
  obtain ⟨q, vs, rfl, h1, s1⟩ := ry.lst_inv
  exact ⟨q, vs, rfl, .inl (SqL.of h1), by rw [s1.length]; exact k _ H _ rfl (Tr.refl H) (.int _)⟩) (by decide) (by decide) he
theorem ev_lenT {ds : List PyData} (hm : X.mg "len" = none) (h : EVB C X e sl (is (.tuple ds))) (hg : Gl X "len" := by rfl) (he : starEach [e] X.env = (false, eval e X.env) :: starEach [] X.env := by rfl) :
    EV C X (.Call (.Name "len" p) [e] [] pos) sl (is (.int ds.length)) := ev_cb1 call_len_seq hg hm PySem.boot_len h (fun σ H O y dy E py ry Q k => by
  have py : dy = .tuple ds := py
  subst py
  obtain ⟨q, vs, rfl, h1, s1⟩ := ry.tup_inv
  exact ⟨q, vs, rfl, .inr (SqT.of h1), by rw [s1.length]; exact k _ H _ rfl (Tr.refl H) (.int _)⟩) (by decide) (by decide) he
/-- int(x) of an int -/
theorem ev_toInt (hm : X.mg "int" = none) (h : EV C X e sl (is (.int i))) (hg : Gl X "int" := by rfl) (he : starEach [e] X.env = (false, eval e X.env) :: starEach [] X.env := by rfl) :
    EV C X (.Call (.Name "int" p) [e] [] pos) sl (is (.int i)) := ev_ct1 call_int1 hg hm boot_int h.bo (fun σ H O y dy E py ry Q k => by
  have py : dy = .int i := py
  subst py
  exact .inl ⟨i, by rw [ry.int_inv], k _ H _ rfl (Tr.refl H) (.int _)⟩) (by decide) (by decide) he
theorem ev_all {bs : List Bool} (hc : X.calm = true) (hm : X.mg "all" = none) (h : EVB C X e sl (is (.list (bs.map PyData.bool)))) (hg : Gl X "all" := by rfl) (he : starEach [e] X.env = (false, eval e X.env) :: starEach [] X.env := by rfl) :
    EV C X (.Call (.Name "all" p) [e] [] pos) sl (is (.bool (bs.all id))) := ev_cb1 (cr_all hc) hg hm (by decide +kernel) h (fun σ H O y dy E py ry Q k => by
  have py : dy = .list (bs.map PyData.bool) := py
  subst py
  obtain ⟨q, vs, rfl, h1, s1⟩ := ry.lst_inv
  rw [s1.bls] at h1
  exact ⟨q, bs, rfl, SqL.of h1, k _ H _ rfl (Tr.refl H) (.bl _)⟩) (by decide) (by decide) he
theorem ev_any {bs : List Bool} (hc : X.calm = true) (hm : X.mg "any" = none) (h : EVB C X e sl (is (.list (bs.map PyData.bool)))) (hg : Gl X "any" := by rfl) (he : starEach [e] X.env = (false, eval e X.env) :: starEach [] X.env := by rfl) :
    EV C X (.Call (.Name "any" p) [e] [] pos) sl (is (.bool (bs.any id))) := ev_cb1 (cr_any hc) hg hm (by decide +kernel) h (fun σ H O y dy E py ry Q k => by
  have py : dy = .list (bs.map PyData.bool) := py
  subst py
  obtain ⟨q, vs, rfl, h1, s1⟩ := ry.lst_inv
  rw [s1.bls] at h1
  exact ⟨q, bs, rfl, SqL.of h1, k _ H _ rfl (Tr.refl H) (.bl _)⟩) (by decide) (by decide) he
/-- max of a list of ints -/
theorem ev_maxL {ns : List Int} {m : Int} (hc : X.calm = true) (hm : X.mg "max" = none) (h : EVB C X e sl (is (.list (ns.map PyData.int)))) (hne : 0 < ns.length) (hmx : ∀ k, k ∈ ns → (∀ y, y ∈ ns → y ≤ k) → k = m)
    (hg : Gl X "max" := by rfl) (he : starEach [e] X.env = (false, eval e X.env) :: starEach [] X.env := by rfl) :
    EV C X (.Call (.Name "max" p) [e] [] pos) sl (is (.int m)) := ev_cb1 (cr_max hc) hg hm (by decide +kernel) h (fun σ H O y dy E py ry Q k => by
  have py : dy = .list (ns.map PyData.int) := py
  subst py
  obtain ⟨q, vs, rfl, h1, s1⟩ := ry.lst_inv
  rw [s1.ints] at h1
  exact ⟨q, ns, rfl, SqL.of h1, hne, fun m' h1 h2 => by rw [hmx m' h1 h2]; exact k _ H _ rfl (Tr.refl H) (.int _)⟩) (by decide) (by decide) he
theorem ev_max2 (hc : X.calm = true) (hm : X.mg "max" = none) (ha : EV C X a sl (is (.int i))) (hb : EV C X b sl (is (.int j))) (hg : Gl X "max" := by rfl)
    (he : starEach [a, b] X.env = (false, eval a X.env) :: starEach [b] X.env := by rfl) (he2 : starEach [b] X.env = (false, eval b X.env) :: starEach [] X.env := by rfl) (hpl : (backTo pos (starEach [b] X.env)).any (·.1) = false := by rfl) :
    EV C X (.Call (.Name "max" p) [a, b] [] pos) sl (is (.int (if j > i then j else i))) := fun σ H O E Q k =>
  ofE (pe_callB (call_max2 hc) hg hm (by decide +kernel) (pa_cons (pe_c a) (pa_cons (pe_c b) pa_nil he2) he) (by decide) (by decide) he hpl) (ha σ H O E _ fun y H1 dy py t1 r1 => hb σ H1 O (E.tr t1) _ fun z H2 dz pz t2 r2 => by
    have py : dy = .int i := py
    have pz : dz = .int j := pz
    subst py pz
    exact ⟨i, j, by rw [r1.int_inv, r2.int_inv], k _ H2 _ rfl (t1.trans t2) (.int _)⟩)
theorem ev_min2 (hc : X.calm = true) (hm : X.mg "min" = none) (ha : EV C X a sl (is (.int i))) (hb : EV C X b sl (is (.int j))) (hg : Gl X "min" := by rfl)
    (he : starEach [a, b] X.env = (false, eval a X.env) :: starEach [b] X.env := by rfl) (he2 : starEach [b] X.env = (false, eval b X.env) :: starEach [] X.env := by rfl) (hpl : (backTo pos (starEach [b] X.env)).any (·.1) = false := by rfl) :
    EV C X (.Call (.Name "min" p) [a, b] [] pos) sl (is (.int (if j < i then j else i))) := fun σ H O E Q k =>
  ofE (pe_callB (call_min2 hc) hg hm (by decide +kernel) (pa_cons (pe_c a) (pa_cons (pe_c b) pa_nil he2) he) (by decide) (by decide) he hpl) (ha σ H O E _ fun y H1 dy py t1 r1 => hb σ H1 O (E.tr t1) _ fun z H2 dz pz t2 r2 => by
    have py : dy = .int i := py
    have pz : dz = .int j := pz
    subst py pz
    exact ⟨i, j, by rw [r1.int_inv, r2.int_inv], k _ H2 _ rfl (t1.trans t2) (.int _)⟩)
/-- math.lcm of two ints -/
def rLcm : List V → Hp → VK → Prop := fun vs H Q => ∃ a b : Int, vs = [.int a, .int b] ∧ a.natAbs < 2 ^ 64 ∧ b.natAbs < 2 ^ 64 ∧ Q (.int ((Nat.lcm a.natAbs b.natAbs : Nat) : Int)) H
theorem cr_lcm : CallR X (.builtin "math.lcm") rLcm := by
  intro pins s σ H vs us Q I r h
  obtain ⟨a, b, rfl, ha, hb, q⟩ := h
  obtain ⟨t, u, rfl⟩ := Vals.int2 r
  exact PySem.W.mc_lcm ha hb fun _ => ⟨.int _, H, I.tok _, ⟨_, rfl⟩, q⟩
theorem ev_lcm (hm : X.mg x = some (.builtin "math.lcm")) (ha : EV C X a sl (is (.int i))) (hb : EV C X b sl (is (.int j))) (h1 : i.natAbs < 2 ^ 64) (h2 : j.natAbs < 2 ^ 64) (hg : Gl X x := by rfl) (hdb : (x == ("__debug__" : Str)) = false := by decide)
    (he : starEach [a, b] X.env = (false, eval a X.env) :: starEach [b] X.env := by rfl) (he2 : starEach [b] X.env = (false, eval b X.env) :: starEach [] X.env := by rfl) (hpl : (backTo pos (starEach [b] X.env)).any (·.1) = false := by rfl) :
    EV C X (.Call (.Name x p) [a, b] [] pos) sl (is (.int ((Nat.lcm i.natAbs j.natAbs : Nat) : Int))) := fun σ H O E Q k =>
  ofE (pe_callBfun cr_lcm hg hm (pa_cons (pe_c a) (pa_cons (pe_c b) pa_nil he2) he) hdb he hpl) (ha σ H O E _ fun y H1 dy py t1 r1 => hb σ H1 O (E.tr t1) _ fun z H2 dz pz t2 r2 => by
    have py : dy = .int i := py
    have pz : dz = .int j := pz
    subst py pz
    exact ⟨i, j, by rw [r1.int_inv, r2.int_inv], h1, h2, k _ H2 _ rfl (t1.trans t2) (.int _)⟩)
/-- list(xs) -/
theorem en_listOf {ds : List PyData} (hm : X.mg "list" = none) (h : EV C X e sl (fun d => d = .list ds ∨ d = .tuple ds)) (hg : Gl X "list" := by rfl) (he : starEach [e] X.env = (false, eval e X.env) :: starEach [] X.env := by rfl) :
    EVN C X (.Call (.Name "list" p) [e] [] pos) sl (is (.list ds)) := fun σ H O E Q k =>
  ofE (pe_callTy call_list_of hg hm boot_list (pa_cons (pe_c e) pa_nil he) (by decide) (by decide) he (by rfl)) (h σ H O E _ fun y H1 dy py t1 r1 => by
    have E1 := E.tr t1
    rcases py with rfl | rfl
    · obtain ⟨q, vs, rfl, h1, s1⟩ := r1.lst_inv
      exact ⟨q, vs, rfl, .inl (SqL.of (cut_some h1).2), fun l hl => k l _ _ _ rfl (t1.trans (Tr.new hl)) (t1.none hl fun e => (E1.fresh hl).2 (C.hst l e)) upd_same (obj_new E1 hl (.lst s1))⟩
    · obtain ⟨q, vs, rfl, h1, s1⟩ := r1.tup_inv
      exact ⟨q, vs, rfl, .inr (SqT.of (cut_some h1).2), fun l hl => k l _ _ _ rfl (t1.trans (Tr.new hl)) (t1.none hl fun e => (E1.fresh hl).2 (C.hst l e)) upd_same (obj_new E1 hl (.lst s1))⟩)
theorem en_listL {ds : List PyData} (hm : X.mg "list" = none) (h : EV C X e sl (is (.list ds))) (hg : Gl X "list" := by rfl) (he : starEach [e] X.env = (false, eval e X.env) :: starEach [] X.env := by rfl) :
    EVN C X (.Call (.Name "list" p) [e] [] pos) sl (is (.list ds)) := en_listOf hm (h.imp fun _ p => .inl p) hg he
theorem en_listT {ds : List PyData} (hm : X.mg "list" = none) (h : EV C X e sl (is (.tuple ds))) (hg : Gl X "list" := by rfl) (he : starEach [e] X.env = (false, eval e X.env) :: starEach [] X.env := by rfl) :
    EVN C X (.Call (.Name "list" p) [e] [] pos) sl (is (.list ds)) := en_listOf hm (h.imp fun _ p => .inr p) hg he
/-- list(own list) -/
theorem en_listO (n : Nat) {px : Pos} {ds : List PyData} (hm : X.mg "list" = none) (hs : sl[n]? = some (.own (.list ds)) := by rfl) (hN : X.N[n]? = some x := by rfl)
    (hv : Vis X.env.scope x := by first | exact Or.inl rfl | exact Or.inr (Or.inl rfl) | exact Or.inr (Or.inr rfl)) (hg : Gl X "list" := by rfl) (hd : (x == ("__debug__" : Str)) = false := by decide) (hcd : (x == ("__classdict__" : Str)) = false := by decide)
    (he : starEach [Expr.Name x px] X.env = (false, eval (Expr.Name x px) X.env) :: starEach [] X.env := by rfl) :
    EVN C X (.Call (.Name "list" p) [.Name x px] [] pos) sl (is (.list ds)) := fun σ H O E Q k => by
  obtain ⟨q, o, h1, h2, h3, h4⟩ := E.own hs
  cases h3 with
  | lst s1 =>
    exact ofE (pe_callTy call_list_of hg hm boot_list (pa_cons (pe_var hN hv hd hcd) pa_nil he) (by decide) (by decide) he (by rfl)) ⟨.ref q, h1, q, _, rfl, .inl (SqL.of h2), fun l hl =>
      k l _ _ _ rfl (Tr.new hl) hl upd_same (obj_new E hl (.lst s1))⟩
/-- tuple(xs) -/
theorem ev_tupleL {ds : List PyData} (hm : X.mg "tuple" = none) (h : EV C X e sl (is (.list ds))) (hg : Gl X "tuple" := by rfl) (he : starEach [e] X.env = (false, eval e X.env) :: starEach [] X.env := by rfl) :
    EV C X (.Call (.Name "tuple" p) [e] [] pos) sl (is (.tuple ds)) := fun σ H O E Q k =>
  ofE (pe_callTy call_tuple_of hg hm boot_tuple (pa_cons (pe_c e) pa_nil he) (by decide) (by decide) he (by rfl)) (h σ H O E _ fun y H1 dy py t1 r1 => by
    have py : dy = .list ds := py
    subst py
    have E1 := E.tr t1
    obtain ⟨q, vs, rfl, h1, s1⟩ := r1.lst_inv
    refine ⟨q, vs, rfl, .inl ⟨SqL.of (cut_some h1).2, fun l hl => k _ _ _ rfl (t1.trans (Tr.new hl)) (.obj ?_ (.tup (s1.mono ((Tr.new (C := C) hl).cutS O))))⟩⟩
    rw [cut_out (by intro z; exact (List.mem_append.mp z).elim (E1.fresh hl).1 (E1.fresh hl).2), upd_same])
/-- list(range(n)) -/
def rgD (lo hi : Int) : List PyData := (List.range (hi - lo).toNat).map fun k => PyData.int (lo + (k : Nat))
theorem rg_reps {B : Hp} (lo hi : Int) : Reps K B (rgV lo hi) (rgD lo hi) := by
  unfold rgV rgD
  generalize (List.range (hi - lo).toNat) = l
  induction l with
  | nil => exact .nil
  | cons k l ih => exact .cons (.int _) ih
theorem en_listR {p2 pos2 : Pos} (hc : X.calm = true) (hm : X.mg "list" = none) (hm2 : X.mg "range" = none) (h : EV C X e sl (is (.int i))) (hz : RgOk 0 i) (hg : Gl X "list" := by rfl) (hg2 : Gl X "range" := by rfl)
    (he : starEach [e] X.env = (false, eval e X.env) :: starEach [] X.env := by rfl)
    (na : starEach [Expr.Call (.Name "range" p2) [e] [] pos2] X.env = (false, eval (Expr.Call (.Name "range" p2) [e] [] pos2) X.env) :: starEach [] X.env := by rfl) :
    EVN C X (.Call (.Name "list" p) [.Call (.Name "range" p2) [e] [] pos2] [] pos) sl (is (.list (rgD 0 i))) := fun σ H O E Q k =>
  ofE (pe_listRg hc hg hm (prg_1 hg2 hm2 (pe_c e) he) na) (h σ H O E _ fun y H1 dy py t1 r1 => by
    have py : dy = .int i := py
    subst py
    have E1 := E.tr t1
    exact ⟨i, r1.int_inv, hz, fun q hq => k q _ _ _ rfl (t1.trans (Tr.new hq)) (t1.none hq fun e => (E1.fresh hq).2 (C.hst q e)) upd_same (obj_new E1 hq (.lst (rg_reps 0 i)))⟩)

/-! ### the program's own defs -/
/-- from data that pre allows, data of which post holds; nothing that stood is changed -/
def SpD (K : PySem.W.Frag) {α : Type} (args : α → List PyData) (pre : α → Prop) (post : α → PyData → Prop) : Sp := fun vs H Q _ =>
  ∃ (M : List Addr) (x : α), (∀ a ∈ M, H a ≠ none) ∧ Reps K (cut M H) vs (args x) ∧ pre x ∧ ∀ v H' d, post x d → Same H H' → Rep K (cut M H') v d → Q v H'
/-- the same with the state ahead of the arguments; only the state changes -/
def SpS (K : PySem.W.Frag) {α : Type} (args : α → List PyData) (pre : α → Prop) (post : α → PyData → Prop) : Sp := fun vs H Q _ =>
  ∃ (M : List Addr) (a : Addr) (vs' : List V) (x : α), a ∈ M ∧ (∀ b ∈ M, H b ≠ none) ∧ StOK H a ∧ vs = .ref a :: vs' ∧ Reps K (cut M H) vs' (args x) ∧ pre x ∧
    ∀ v H' d, post x d → (∀ C : Cfg, C.st = some a → Tr C H H') → Rep K (cut M H') v d → Q v H'
theorem ev_call {α : Type} {args : α → List PyData} {pre : α → Prop} {post : α → PyData → Prop} {f : Addr} {fd : FuncData} {k : Nat} {ps : List Str} {T : List PyData → Prop}
    (F : FnOk X.prog X.w X.K X.mg X.base CX0 k f fd ps (SpD X.K args pre post)) (hr : Room k X.A) (hm : X.mg x = some (.ref f)) (hk : PySem.W.keepIn X.K (.ref f) = true) (hb : Binds X.K fd ps [])
    (ha : EVA C X (e :: es) sl T) (hp : ∀ ds, T ds → ∃ y, ds = args y ∧ pre y ∧ ∀ d, post y d → P d) (hg : Gl X x := by rfl) (hdb : (x == ("__debug__" : Str)) = false := by decide)
    (he : starEach (e :: es) X.env = (false, eval e X.env) :: starEach es X.env := by rfl) (hpl : (backTo pos (starEach es X.env)).any (·.1) = false := by rfl) : EV C X (.Call (.Name x p) (e :: es) [] pos) sl P := fun σ H O E Q q =>
  ofE (pe_call F hr hg hm hk hb .nil pass0 (pa_c _) hdb he hpl) (ha σ H O E _ fun vs H1 ds pd t1 r1 => by
    obtain ⟨y, rfl, hy, hpost⟩ := hp ds pd
    have E1 := E.tr t1
    show SpD X.K args pre post (vs ++ []) H1 Q E0
    rw [List.append_nil]
    exact ⟨O ++ C.M, y, fun a ha => (List.mem_append.mp ha).elim (E1.to a) (E1.tm a), r1, hy, fun v H2 d po sm rp => q v H2 d (hpost d po) (t1.trans (.of sm)) rp⟩)
/-- a call that draws: the state's name ahead -/
theorem ev_callS {α : Type} {args : α → List PyData} {pre : α → Prop} {post : α → PyData → Prop} {f : Addr} {fd : FuncData} {k : Nat} {ps : List Str} {T : List PyData → Prop} {st : Addr} {sx : Str} {sp : Pos} (n : Nat)
    (F : FnOk X.prog X.w X.K X.mg X.base CX0 k f fd ps (SpS X.K args pre post)) (hr : Room k X.A) (hm : X.mg x = some (.ref f)) (hk : PySem.W.keepIn X.K (.ref f) = true) (hb : Binds X.K fd ps []) (hst : C.st = some st)
    (ha : EVA C X es sl T) (hp : ∀ ds, T ds → ∃ y, ds = args y ∧ pre y ∧ ∀ d, post y d → P d) (hs : sl[n]? = some (.r (.ref st)) := by rfl) (hN : X.N[n]? = some sx := by rfl)
    (hv : Vis X.env.scope sx := by first | exact Or.inl rfl | exact Or.inr (Or.inl rfl) | exact Or.inr (Or.inr rfl)) (hg : Gl X x := by rfl) (hdb : (x == ("__debug__" : Str)) = false := by decide)
    (hd2 : (sx == ("__debug__" : Str)) = false := by decide) (hcd : (sx == ("__classdict__" : Str)) = false := by decide)
    (he : starEach (Expr.Name sx sp :: es) X.env = (false, eval (Expr.Name sx sp) X.env) :: starEach es X.env := by rfl) (hpl : (backTo pos (starEach es X.env)).any (·.1) = false := by rfl) :
    EV C X (.Call (.Name x p) (.Name sx sp :: es) [] pos) sl P := fun σ H O E Q q =>
  ofE (pe_call F hr hg hm hk hb .nil pass0 (pa_cons (pe_var hN hv hd2 hcd) (pa_c es) he) hdb he hpl) ⟨.ref st, E.raw hs, ha σ H O E _ fun vs H1 ds pd t1 r1 => by
    obtain ⟨y, rfl, hy, hpost⟩ := hp ds pd
    have E1 := E.tr t1
    show SpS X.K args pre post ((.ref st :: vs) ++ []) H1 Q E0
    rw [List.append_nil]
    exact ⟨O ++ C.M, st, vs, y, List.mem_append_right _ (C.hst st (.inl hst)), fun a ha => (List.mem_append.mp ha).elim (E1.to a) (E1.tm a), (E1.ok st hst).mono (cut_le _ _), rfl, r1, hy, fun v H2 d po tr rp => q v H2 d (hpost d po) (t1.trans (tr C hst)) rp⟩⟩
end
end DL
/-! What is walked, comprehensions, targets. -/
namespace DL
open PySem PySem.Spec PyProof.Rows L2

/-- J gives the items ds while what was known behind the making stays known -/
structure WalkD (K : PySem.W.Frag) (C : Cfg) (O : List Addr) (H0 : Hp) (J : It) (ds : List PyData) : Prop where
  goes : ∀ i H2, Same (cut (O ++ C.M) H0) H2 → i < ds.length → J.go i H2
  stops : ∀ H2, Same (cut (O ++ C.M) H0) H2 → J.stop ds.length H2
  yields : ∀ i H2 x H3, Same (cut (O ++ C.M) H0) H2 → i < ds.length → J.yld i H2 x H3 →
    ∃ d, ds[i]? = some d ∧ Same H2 H3 ∧ ∀ M', (∀ a ∈ M', H2 a ≠ none) → Same (cut (O ++ C.M) H0) (cut M' H2) → Rep K (cut M' H3) x d
def IT (C : Cfg) (X : Cx) (tg iter : Expr) (sl : List Sl) (P : List PyData → Prop) : Prop :=
  ∀ (σ : L2.St) (H : Hp) (O : List Addr), EnvOk X.K C H σ sl O → ∀ R : It → Hp → Prop, (∀ J H' ds, P ds → Tr C H H' → WalkD X.K C O H' J ds → R J H') → cI X tg iter σ H R
section
variable {C : Cfg} {X : Cx} {e a b c tg : Expr} {es : List Expr} {sl : List Sl} {P P' Pa Pb Pc : PyData → Prop} {pos p : Pos} {K : PySem.W.Frag} {H H' : Hp} {σ : L2.St} {O : List Addr} {i j : Int} {x : Str}
theorem walkD_list {q : Addr} {vs : List V} {ds : List PyData} (h : cut (O ++ C.M) H q = some (.lst vs)) (r : Reps K (cut (O ++ C.M) H) vs ds) : WalkD K C O H (Itl K q) ds := by
  have l := r.length
  refine ⟨fun i H2 s hi => ⟨vs, vs[i]'(by omega), SqL.of (s _ _ h), by simp [l, hi]⟩, fun H2 s => ⟨vs, SqL.of (s _ _ h), by omega⟩, fun i H2 y H3 s hi z => ?_⟩
  obtain ⟨rfl, z⟩ := z
  obtain ⟨d, h1, h2⟩ := r.getV (z vs (SqL.of (s _ _ h)))
  exact ⟨d, h1, Same.refl _, fun M' _ e => h2.mono e⟩
theorem walkD_tup {q : Addr} {vs : List V} {ds : List PyData} (h' : cut (O ++ C.M) H q = some (.tup vs)) (r : Reps K (cut (O ++ C.M) H) vs ds) : WalkD K C O H (Itt K q) ds := by
  have h : SqT K (cut (O ++ C.M) H) q vs := SqT.of h'
  have l := r.length
  refine ⟨fun i H2 s hi => ⟨vs, vs[i]'(by omega), sqT_mono s h, by simp [l, hi]⟩, fun H2 s => ⟨vs, sqT_mono s h, by omega⟩, fun i H2 y H3 s hi z => ?_⟩
  obtain ⟨rfl, z⟩ := z
  obtain ⟨d, h1, h2⟩ := r.getV (z vs (sqT_mono s h))
  exact ⟨d, h1, Same.refl _, fun M' _ e => h2.mono e⟩
theorem it_list {T : List PyData → Prop} (h : EV C X e sl (fun d => ∃ ds, d = .list ds ∧ T ds)) : IT C X tg e sl T := fun σ H O E R k => ofI (pi_list (pe_c e)) (h σ H O E _ fun v H1 d ⟨ds, e1, pt⟩ t1 r1 => by
  subst e1
  obtain ⟨q, vs, rfl, h1, s1⟩ := r1.lst_inv
  exact ⟨q, rfl, ⟨vs, SqL.of (cut_some h1).2⟩, k _ H1 ds pt t1 (walkD_list h1 s1)⟩)
theorem it_l {ds : List PyData} (h : EV C X e sl (is (.list ds))) : IT C X tg e sl (isL ds) := it_list (h.imp fun _ p => ⟨ds, p, rfl⟩)
theorem it_tuple {T : List PyData → Prop} (h : EV C X e sl (fun d => ∃ ds, d = .tuple ds ∧ T ds)) : IT C X tg e sl T := fun σ H O E R k => ofI (pi_tup (pe_c e)) (h σ H O E _ fun v H1 d ⟨ds, e1, pt⟩ t1 r1 => by
  subst e1
  obtain ⟨q, vs, rfl, h1, s1⟩ := r1.tup_inv
  exact ⟨q, rfl, ⟨vs, SqT.of (cut_some h1).2⟩, k _ H1 ds pt t1 (walkD_tup h1 s1)⟩)
theorem it_t {ds : List PyData} (h : EV C X e sl (is (.tuple ds))) : IT C X tg e sl (isL ds) := it_tuple (h.imp fun _ p => ⟨ds, p, rfl⟩)
theorem rgD_length (lo hi : Int) : (rgD lo hi).length = (hi - lo).toNat := by unfold rgD; rw [List.length_map, List.length_range]
theorem rgD_get {lo hi : Int} {k : Nat} (h : k < (hi - lo).toNat) : (rgD lo hi)[k]? = some (.int (lo + (k : Nat))) := by
  unfold rgD
  rw [List.getElem?_map, List.getElem?_range h]
  rfl
theorem walkD_range (lo hi : Int) : WalkD K C O H (Itr lo (hi - lo).toNat) (rgD lo hi) := by
  refine ⟨fun i H2 _ hi => by rw [rgD_length] at hi; exact hi, fun H2 _ => by rw [rgD_length]; exact Nat.le_refl _, fun i H2 y H3 _ hi z => ?_⟩
  obtain ⟨rfl, rfl⟩ := z
  rw [rgD_length] at hi
  exact ⟨_, rgD_get hi, Same.refl _, fun M' _ _ => .int _⟩
theorem it_range1P {T : List PyData → Prop} (hm : X.mg "range" = none) (h : EV C X a sl (fun d => ∃ n : Int, d = .int n ∧ -(2 ^ 62) ≤ n ∧ n < 2 ^ 62 ∧ T (rgD 0 n))) (hg : Gl X "range" := by rfl) (hs : starEach [a] X.env = [(false, eval a X.env)] := by rfl) : IT C X tg (.Call (.Name "range" p) [a] [] pos) sl T := fun σ H O E R k =>
  ofI (pi_range1 hg hm (pa_cons (pe_c a) pa_nil hs) hs) (h σ H O E _ fun v H1 d ⟨n, e1, h1, h2, pt⟩ t1 r1 => by
    subst e1
    have w := walkD_range (K := X.K) (C := C) (O := O) (H := H1) 0 n
    rw [Int.sub_zero] at w
    exact ⟨n, by rw [r1.int_inv], h1, h2, k _ H1 _ pt t1 w⟩)
theorem it_range1 {n : Int} (hm : X.mg "range" = none) (h : EV C X a sl (is (.int n))) (h1 : -(2 ^ 62) ≤ n) (h2 : n < 2 ^ 62) (hg : Gl X "range" := by rfl) (hs : starEach [a] X.env = [(false, eval a X.env)] := by rfl) : IT C X tg (.Call (.Name "range" p) [a] [] pos) sl (isL (rgD 0 n)) :=
  it_range1P hm (h.imp fun _ p => ⟨n, p, h1, h2, rfl⟩) hg hs
theorem it_range2 {m n : Int} (hm : X.mg "range" = none) (ha : EV C X a sl (is (.int m))) (hb : EV C X b sl (is (.int n))) (h : -(2 ^ 62) ≤ m ∧ m < 2 ^ 62 ∧ -(2 ^ 62) ≤ n ∧ n < 2 ^ 62) (hg : Gl X "range" := by rfl)
    (hs : starEach [a, b] X.env = [(false, eval a X.env), (false, eval b X.env)] := by rfl) (hs2 : starEach [b] X.env = [(false, eval b X.env)] := by rfl) : IT C X tg (.Call (.Name "range" p) [a, b] [] pos) sl (isL (rgD m n)) := fun σ H O E R k =>
  ofI (pi_range2 hg hm (pa_cons (pe_c a) (pa_cons (pe_c b) pa_nil hs2) (by rw [hs, hs2])) hs hs2) (ha σ H O E _ fun v H1 d p1 t1 r1 => hb σ H1 O (E.tr t1) _ fun v2 H2 d2 p2 t2 r2 => by
    have p1 : d = .int m := p1
    have p2 : d2 = .int n := p2
    subst p1 p2
    exact ⟨m, n, by rw [r1.int_inv, r2.int_inv], h, k _ H2 _ rfl (t1.trans t2) (walkD_range m n)⟩)
/-- enumerate(xs): pairs -/
def enumD (ds : List PyData) : List PyData := ds.mapIdx fun k d => .tuple [.int (k : Nat), d]
theorem enumD_length (ds : List PyData) : (enumD ds).length = ds.length := by unfold enumD; rw [List.length_mapIdx]
theorem enumD_get {ds : List PyData} {k : Nat} {d : PyData} (h : ds[k]? = some d) : (enumD ds)[k]? = some (.tuple [.int (k : Nat), d]) := by
  unfold enumD
  rw [List.getElem?_mapIdx, h]
  rfl
theorem it_enumL {elts : List Expr} {kk : Nat} {tpos : Pos} {ds : List PyData} (hm : X.mg "enumerate" = none) (h : EV C X a sl (is (.list ds))) (hg : Gl X "enumerate" := by rfl) (hs : starEach [a] X.env = [(false, eval a X.env)] := by rfl) :
    IT C X (.Tuple elts kk tpos) (.Call (.Name "enumerate" p) [a] [] pos) sl (isL (enumD ds)) := fun σ H O E R k =>
  ofI (pi_enum hg hm (pa_cons (pe_c a) pa_nil hs) hs) (h σ H O E _ fun v H1 d p1 t1 r1 => by
    have p1 : d = .list ds := p1
    subst p1
    obtain ⟨q, vs, rfl, h1, s1⟩ := r1.lst_inv
    have l := s1.length
    refine ⟨q, vs, rfl, SqL.of (cut_some h1).2, k _ H1 _ rfl t1 ⟨fun i H2 s hi => ?_, fun H2 s => ?_, fun i H2 y H3 s hi z => ?_⟩⟩
    · rw [enumD_length] at hi
      exact ⟨vs, vs[i]'(by omega), SqL.of (s _ _ h1), by simp [l, hi]⟩
    · rw [enumD_length]
      exact ⟨vs, SqL.of (s _ _ h1), by omega⟩
    · obtain ⟨T, w, rfl, hT, rfl, z⟩ := z
      obtain ⟨d, g1, g2⟩ := s1.getV (z vs (SqL.of (s _ _ h1)))
      refine ⟨_, enumD_get g1, same_new hT, fun M' nM e => .obj ?_ (.tup (.cons (.int _) (.cons (g2.mono ?_) .nil)))⟩
      · rw [cut_out (fun m => nM T m hT), upd_same]
      · exact e.trans (cut_same fun a o n h => ⟨n, same_new hT a o h⟩))
def zipD : List PyData → List PyData → List PyData
  | d :: ds, e :: es => .tuple [d, e] :: zipD ds es
  | _, _ => []
theorem zipD_length : ∀ ds es : List PyData, (zipD ds es).length = min ds.length es.length
  | [], _ => by simp [zipD]
  | _ :: _, [] => by simp [zipD]
  | d :: ds, e :: es => by simp only [zipD, List.length_cons, zipD_length ds es]; omega
theorem zipD_get : ∀ {ds es : List PyData} {k : Nat} {d e : PyData}, ds[k]? = some d → es[k]? = some e → (zipD ds es)[k]? = some (.tuple [d, e])
  | [], _, _, _, _, h, _ => by simp at h
  | _ :: _, [], _, _, _, _, h => by simp at h
  | _ :: _, _ :: _, 0, _, _, h, h2 => by simp at h h2; subst h h2; rfl
  | _ :: _, _ :: _, k + 1, _, _, h, h2 => by
    simp only [zipD, List.getElem?_cons_succ]
    exact zipD_get (by simpa using h) (by simpa using h2)
theorem it_zipL {elts : List Expr} {kk : Nat} {tpos : Pos} {ds es : List PyData} (hm : X.mg "zip" = none) (ha : EV C X a sl (is (.list ds))) (hb : EV C X b sl (is (.list es))) (hg : Gl X "zip" := by rfl)
    (hs : starEach [a, b] X.env = (false, eval a X.env) :: starEach [b] X.env := by rfl) (hs2 : starEach [b] X.env = (false, eval b X.env) :: starEach [] X.env := by rfl) (hpl : (backTo pos (starEach [b] X.env)).any (·.1) = false := by rfl) :
    IT C X (.Tuple elts kk tpos) (.Call (.Name "zip" p) [a, b] [] pos) sl (isL (zipD ds es)) := fun σ H O E R k =>
  ofI (pi_zip hg hm (pa_cons (pe_c a) (pa_cons (pe_c b) pa_nil hs2) hs) hs hpl) (ha σ H O E _ fun v H1 d p1 t1 r1 => hb σ H1 O (E.tr t1) _ fun v2 H2 d2 p2 t2 r2 => by
    have p1 : d = .list ds := p1
    have p2 : d2 = .list es := p2
    subst p1 p2
    obtain ⟨q, vs, rfl, h1, s1⟩ := (r1.mono (t2.cutS O)).lst_inv
    obtain ⟨q2, ws, rfl, h2, s2⟩ := r2.lst_inv
    have l := s1.length
    have l2 := s2.length
    refine ⟨q, q2, vs, ws, rfl, SqL.of (cut_some h1).2, SqL.of (cut_some h2).2, k _ H2 _ rfl (t1.trans t2) ⟨fun i G s hi => ?_, fun G s => ?_, fun i G y H3 s hi z => ?_⟩⟩
    · rw [zipD_length] at hi
      exact ⟨vs, ws, vs[i]'(by omega), ws[i]'(by omega), SqL.of (s _ _ h1), SqL.of (s _ _ h2), by simp, by simp⟩
    · rw [zipD_length]
      exact ⟨vs, ws, SqL.of (s _ _ h1), SqL.of (s _ _ h2), by omega⟩
    · obtain ⟨T, w, w2, rfl, hT, rfl, z, z2⟩ := z
      obtain ⟨d, g1, g2⟩ := s1.getV (z vs (SqL.of (s _ _ h1)))
      obtain ⟨d2, f1, f2⟩ := s2.getV (z2 ws (SqL.of (s _ _ h2)))
      have up : ∀ M', Same (cut (O ++ C.M) H2) (cut M' G) → Same (cut (O ++ C.M) H2) (cut M' (upd G T (.tup [w, w2]))) := fun M' e => e.trans (cut_same fun a o n h => ⟨n, same_new hT a o h⟩)
      refine ⟨_, zipD_get g1 f1, same_new hT, fun M' nM e => .obj ?_ (.tup (.cons (g2.mono (up M' e)) (.cons (f2.mono (up M' e)) .nil)))⟩
      rw [cut_out (fun m => nM T m hT), upd_same])

/-! ### comprehensions -/
/-- a reading that gives a new object -/
def RdN (C : Cfg) (X : Cx) (t : TE) (sl : List Sl) (P : PyData → Prop) : Prop :=
  ∀ (σ : L2.St) (H : Hp) (O : List Addr), EnvOk X.K C H σ sl O → ∀ Q : VK, (∀ p o H' d, P d → Tr C H H' → H p = none → H' p = some o → ObjR X.K (cut (p :: (O ++ C.M)) H') o d → Q (.ref p) H') → t σ H Q
/-- an element's reading, in any block -/
def cBlk (X : Cx) (scope : Scope) (elt : Expr) : TE := fun σ H Q => ∀ (s : Shared) (H0 : Hp) (L : Addr) (cl : List (Str × Addr)) (fp : List Addr), cE (X.blk s H0 scope (compEnvC scope cl L X.env) fp) elt σ H Q
theorem pe_blk {scope : Scope} {elt : Expr} (s : Shared) (H0 : Hp) (L : Addr) (cl : List (Str × Addr)) (fp : List Addr) : PE (X.blk s H0 scope (compEnvC scope cl L X.env) fp) elt (cBlk X scope elt) := ⟨fun pins s1 σ H Q I h => h s H0 L cl fp pins s1 I⟩
theorem lc_read {iter elt : Expr} {scope : Scope} {n : Nat} {xs : Str} {px : Pos} {T : List PyData → Prop} {U : List PyData → Nat → PyData → PyData → Prop}
    (hi : IT C X (.Name xs px) iter sl T) (hT : ∀ ds, T ds → ds.length ≤ 1000000)
    (he : ∀ (s : Shared) (H : Hp) (L : Addr) (cl : List (Str × Addr)) (fp : List Addr) ds k d, T ds → ds[k]? = some d → EV C (X.blk s H scope (compEnvC scope cl L X.env) fp) elt ((sl.set n .u).set n (.d d)) (U ds k d)) :
    RdN C X (tLc (cI X (.Name xs px) iter) (gName n) tYes (cBlk X scope elt) [n]) sl (fun d => ∃ ds out, d = .list out ∧ T ds ∧ out.length = ds.length ∧ ∀ k y, ds[k]? = some y → ∃ z, out[k]? = some z ∧ U ds k y z) := fun σ H O E Q k => by
  refine hi σ H O E _ fun J H1 ds pT t1 w D hD => ?_
  have E1 := E.tr t1
  have lds := hT ds pT
  let B := cut (D :: (O ++ C.M))
  let Pv : Nat → Hp → Prop := fun i H2 => ∃ acc out, H2 D = some (.lst acc) ∧ Reps X.K (cut (D :: (O ++ C.M)) H2) acc out ∧ out.length = i ∧ (∀ k y, k < i → ds[k]? = some y → ∃ z, out[k]? = some z ∧ U ds k y z) ∧ Tr C (upd H1 D (.lst [])) H2
  have nst : ¬ C.vol D := fun e => (E1.fresh hD).2 (C.hst D e)
  have base : ∀ {H2 : Hp}, Tr C (upd H1 D (.lst [])) H2 → Same (cut (O ++ C.M) H1) (cut (D :: (O ++ C.M)) H2) := fun {H2} t => cut_same fun a o na h => by
    refine ⟨fun z => ?_, t.keep a o (fun e => na (List.mem_append_right _ (C.hst a e))) (by rw [upd_ne (ne_of_none h hD)]; exact h)⟩
    rcases List.mem_cons.mp z with rfl | z
    · rw [hD] at h; cases h
    · exact na z
  refine ⟨fun i m H2 => m = ds.length - i ∧ i ≤ ds.length ∧ ∃ acc out, H2 D = some (.lst acc) ∧ Reps X.K (cut (D :: (O ++ C.M)) H2) acc out ∧ out.length = i ∧ (∀ k y, k < i → ds[k]? = some y → ∃ z, out[k]? = some z ∧ U ds k y z) ∧ Same (cut (O ++ C.M) H1) (cut (D :: (O ++ C.M)) H2) ∧ Tr C H1 H2,
    ⟨ds.length, by simp, Nat.zero_le _, [], [], upd_same, .nil, rfl, fun k y h => absurd h (by omega), base (Tr.refl _), Tr.new hD⟩, ?_⟩
  rintro i m H2 ⟨rfl, hi2, acc, out, h1, h2, h3, h4, h5, h6⟩
  have E2 : EnvOk X.K C H2 σ sl (D :: O) := E1.within hD h1 h5 h6
  have hsame : Same (cut (O ++ C.M) H1) H2 := h5.trans (cut_le _ _)
  by_cases hlt : i < ds.length
  · refine .inr ⟨w.goes i H2 hsame hlt, fun H' => ∃ acc out, H' D = some (.lst acc) ∧ Reps X.K (cut (D :: (O ++ C.M)) H') acc out ∧ out.length = i + 1 ∧ (∀ k y, k < i + 1 → ds[k]? = some y → ∃ z, out[k]? = some z ∧ U ds k y z) ∧ Same (cut (O ++ C.M) H1) (cut (D :: (O ++ C.M)) H') ∧ Tr C H1 H',
      fun H' ⟨acc', out', g1, g2, g3, g4, g5, g6⟩ => ⟨ds.length - (i + 1), by omega, rfl, hlt, acc', out', g1, g2, g3, g4, g5, g6⟩, fun v H3 yl => ?_⟩
    obtain ⟨d, hd, sm, rp⟩ := w.yields i H2 v H3 hsame hlt yl
    have E3 := E2.tr (Tr.of sm)
    have rv : Rep X.K (cut ((D :: O) ++ C.M) H3) v d := rp _ (fun a h => by
      rcases List.mem_append.mp h with h | h
      · exact E2.to a h
      · exact E2.tm a h) h5
    have E4 := (E3.setU none n).setD rv n
    refine ⟨?_, fun s H0 L cl fp => ?_⟩
    · show wipe ((wipe σ [n]).set n (some v)) [n] = wipe σ [n]
      show ((σ.set n none).set n (some v)).set n none = σ.set n none
      rw [List.set_set, List.set_set]
    · refine he s H0 L cl fp ds i d pT hd ((σ.set n none).set n (some v)) H3 (D :: O) E4 _ fun y H4 z pz t4 r4 => ?_
      have hD4 : H4 D = some (.lst acc) := t4.keep D _ nst (sm _ _ h1)
      have c4 : Same (cut (D :: (O ++ C.M)) H2) (cut (D :: (O ++ C.M)) H4) := cut_same fun a o na h => ⟨na, t4.keep a o (fun e => na (List.mem_cons_of_mem _ (List.mem_append_right _ (C.hst a e)))) (sm a o h)⟩
      have eD : cut (D :: (O ++ C.M)) (upd H4 D (.lst (acc ++ [y]))) = cut (D :: (O ++ C.M)) H4 := cut_upd List.mem_cons_self
      have la : acc.length = i := by rw [h2.length, h3]
      refine ⟨acc, hD4, ?_, acc ++ [y], out ++ [z], upd_same, ?_, ?_, fun k y' hk hy => ?_, ?_, ?_⟩
      · rw [la]; exact Nat.lt_of_lt_of_le hlt (Nat.le_trans lds (by decide))
      · rw [eD]; exact (h2.mono c4).append (.cons r4 .nil)
      · rw [List.length_append, h3]; rfl
      · by_cases hki : k < i
        · obtain ⟨z', q1, q2⟩ := h4 k y' hki hy
          exact ⟨z', by rw [List.getElem?_append_left (by omega)]; exact q1, q2⟩
        · have ek : k = i := by omega
          subst ek
          rw [hd] at hy
          cases hy
          exact ⟨z, by rw [List.getElem?_append_right (by omega), h3]; simp, pz⟩
      · rw [eD]; exact h5.trans c4
      · exact (h6.trans ((Tr.of sm).trans t4)).within hD hD4
  · have ei : i = ds.length := by omega
    refine .inl ⟨by rw [ei]; exact w.stops H2 hsame, ?_⟩
    refine k D _ H2 (.list out) ⟨ds, out, rfl, pT, by omega, fun kk y hy => h4 kk y (by have := (List.getElem?_eq_some_iff.mp hy).1; omega) hy⟩ (t1.trans h6) (t1.none hD nst) h1 (.lst h2)

theorem RdN.imp {t : TE} (h : RdN C X t sl P) (k : ∀ d, P d → P' d) : RdN C X t sl P' := fun σ H O E Q q => h σ H O E Q fun p o H' d pd t n ho r => q p o H' d (k d pd) t n ho r
theorem lc_readm {iter elt : Expr} {scope : Scope} {n : Nat} {xs : Str} {px : Pos} {ds out : List PyData}
    (hi : IT C X (.Name xs px) iter sl (isL ds)) (hT : ds.length ≤ 1000000) (hl : out.length = ds.length)
    (he : ∀ (s : Shared) (H : Hp) (L : Addr) (cl : List (Str × Addr)) (fp : List Addr) (k : Nat) d z, ds[k]? = some d → out[k]? = some z → EV C (X.blk s H scope (compEnvC scope cl L X.env) fp) elt ((sl.set n .u).set n (.d d)) (is z)) :
    RdN C X (tLc (cI X (.Name xs px) iter) (gName n) tYes (cBlk X scope elt) [n]) sl (is (.list out)) :=
  (lc_read (U := fun ds' k d z => ds' = ds → out[k]? = some z) hi (fun ds' p => by have p : ds' = ds := p; rw [p]; exact hT) (fun s H L cl fp ds' k d p hd => by
    have p : ds' = ds := p
    subst p
    have hk := (List.getElem?_eq_some_iff.mp hd).1
    have hz : out[k]? = some (out[k]'(by omega)) := List.getElem?_eq_getElem (by omega)
    exact (he s H L cl fp k d _ hd hz).imp fun z pz _ => by rw [pz]; exact hz)).imp fun d ⟨ds', out', e1, p, l, q⟩ => by
    have p : ds' = ds := p
    subst p
    rw [e1]
    congr 1
    refine List.ext_getElem? fun k => ?_
    by_cases hk : k < ds'.length
    · obtain ⟨z, q1, q2⟩ := q k _ (List.getElem?_eq_getElem hk)
      rw [q1, q2 rfl]
    · rw [List.getElem?_eq_none (by omega), List.getElem?_eq_none (by omega)]
/-- how a comprehension's own name is stored -/
structure LcOk (X : Cx) (scope : Scope) (n : Nat) (xs : Str) : Prop where
  ok : BlkOk X.N X.env.scope scope [(xs, n)]
  ix : X.N[n]? = some xs
  loc : ∀ (s : Shared) (H : Hp) (L : Addr) (cl : List (Str × Addr)) (fp : List Addr), Loc (compEnvC scope cl L X.env).scope xs
  st : ∀ (s : Shared) (H : Hp) (L : Addr) (cl : List (Str × Addr)) (fp : List Addr), (X.blk s H scope (compEnvC scope cl L X.env) fp).fn xs = true ∨ (compEnvC scope cl L X.env).scope.names.lookup xs = some .local
theorem lcok {scope : Scope} {xs : Str} (n : Nat) (ok : BlkOk X.N X.env.scope scope [(xs, n)]) (ix : X.N[n]? = some xs := by rfl)
    (loc : ∀ (s : Shared) (H : Hp) (L : Addr) (cl : List (Str × Addr)) (fp : List Addr), Loc (compEnvC scope cl L X.env).scope xs := by first | exact fun _ _ _ _ _ => .inl rfl | exact fun _ _ _ _ _ => .inr rfl)
    (st : ∀ (s : Shared) (H : Hp) (L : Addr) (cl : List (Str × Addr)) (fp : List Addr), (X.blk s H scope (compEnvC scope cl L X.env) fp).fn xs = true ∨ (compEnvC scope cl L X.env).scope.names.lookup xs = some .local := by first | exact fun _ _ _ _ _ => .inr rfl | exact fun _ _ _ _ _ => .inl rfl) : LcOk X scope n xs := ⟨ok, ix, loc, st⟩
theorem en_lc {iter elt : Expr} {scope : Scope} {n : Nat} {xs : Str} {px : Pos} (hc : X.calm = true) (hN : X.N.Nodup) (ok : LcOk X scope n xs) (h : RdN C X (tLc (cI X (.Name xs px) iter) (gName n) tYes (cBlk X scope elt) [n]) sl P)
    (hs : ∀ y, foldedSetIterable iter X.env y = pure y := by intro _; rfl) : EVN C X (.ListComp elt [⟨.Name xs px, iter, [], 0⟩] scope pos) sl P := fun σ H O E Q k =>
  ofE (pe_lc (own := [(xs, n)]) hc hN (pi_c _ _) ok.ok (fun s H L cl fp => pg_name hN ok.ix (ok.loc s H L cl fp) (ok.st s H L cl fp)) (fun _ _ _ _ _ => pts_nil) (fun s H0 L cl fp => pe_blk s H0 L cl fp) hs) (h σ H O E Q k)
end
end DL
/-! Statements, defs. -/
namespace DL
open PySem PySem.Spec PyProof.Rows L2
/-- what is wanted behind a block -/
structure Ps where
  nx : List Sl → Prop
  rt : PyData → Prop
  bk : List Sl → Prop := fun _ => False
  ct : List Sl → Prop := fun _ => False
structure Fin (K : PySem.W.Frag) (C : Cfg) (H : Hp) (O : List Addr) (D : Ends) (p : Ps) : Prop where
  nx : ∀ σ' H' O' sl', p.nx sl' → EnvOk K C H' σ' sl' O' → Step C O H O' H' → D.nx σ' H'
  rt : ∀ v H' d, p.rt d → Step C O H [] H' → Rep K (cut C.M H') v d → D.rt v H'
  bk : ∀ σ' H' O' sl', p.bk sl' → EnvOk K C H' σ' sl' O' → Step C O H O' H' → D.bk σ' H'
  ct : ∀ σ' H' O' sl', p.ct sl' → EnvOk K C H' σ' sl' O' → Step C O H O' H' → D.ct σ' H'
def STs (C : Cfg) (X : Cx) (ss : List Stmt) (sl : List Sl) (p : Ps) : Prop :=
  ∀ (σ : L2.St) (H : Hp) (O : List Addr), EnvOk X.K C H σ sl O → ∀ D : Ends, Fin X.K C H O D p → cSs X ss D σ H
def ST (C : Cfg) (X : Cx) (s : Stmt) (sl : List Sl) (p : Ps) : Prop :=
  ∀ (σ : L2.St) (H : Hp) (O : List Addr), EnvOk X.K C H σ sl O → ∀ D : Ends, Fin X.K C H O D p → cS X s D σ H
/-- a target is given data -/
def GA (C : Cfg) (X : Cx) (tg : Expr) (d : PyData) (sl : List Sl) (N : List Sl → Prop) : Prop :=
  ∀ (σ : L2.St) (H : Hp) (O : List Addr) (v : V), EnvOk X.K C H σ sl O → Rep X.K (cut (O ++ C.M) H) v d → ∀ Q : L2.St → Hp → Prop, (∀ σ' sl', N sl' → EnvOk X.K C H σ' sl' O → Q σ' H) → cG X tg v σ H Q
def cGs (X : Cx) (ts : List Expr) : TGs := fun vs σ H Q => ∀ (pins : List (Addr × Obj)) (s : Shared) (us : List Value), Inv X pins σ H s → Vals vs us →
  wpAny (model X.prog X.w) X.A (assignInOrder ((assignEach ts X.env).map (·.2)) us) (fun _ s' => ∃ σ' H', Inv X pins σ' H' s' ∧ Q σ' H') X.xe s
theorem pgs_c {X : Cx} (ts : List Expr) : PGs X ts (cGs X ts) := ⟨fun pins s _ _ _ us _ I r h => h pins s us I r⟩
theorem ofGs {X : Cx} {ts : List Expr} {t : TGs} {vs : List V} {σ : L2.St} {H : Hp} {Q : L2.St → Hp → Prop} (p : PGs X ts t) (h : t vs σ H Q) : cGs X ts vs σ H Q := fun pins s us I r => p.run pins s σ H vs us Q I r h
def GAs (C : Cfg) (X : Cx) (ts : List Expr) (ds : List PyData) (sl : List Sl) (N : List Sl → Prop) : Prop :=
  ∀ (σ : L2.St) (H : Hp) (O : List Addr) (vs : List V), EnvOk X.K C H σ sl O → Reps X.K (cut (O ++ C.M) H) vs ds → ∀ Q : L2.St → Hp → Prop, (∀ σ' sl', N sl' → EnvOk X.K C H σ' sl' O → Q σ' H) → cGs X ts vs σ H Q
section
variable {C : Cfg} {X : Cx} {e a b c tg : Expr} {es : List Expr} {sl : List Sl} {P P' Pa Pb Pc : PyData → Prop} {pos p1 : Pos} {K : PySem.W.Frag} {H H' : Hp} {σ : L2.St} {O O' : List Addr} {i j : Int} {x : Str} {p : Ps} {s : Stmt} {ss : List Stmt} {D : Ends}
theorem Fin.step (f : Fin K C H O D p) (st : Step C O H O' H') : Fin K C H' O' D p :=
  ⟨fun σ' H2 O2 sl' h E t => f.nx σ' H2 O2 sl' h E (st.trans t), fun v H2 d h t r => f.rt v H2 d h (st.trans t) r, fun σ' H2 O2 sl' h E t => f.bk σ' H2 O2 sl' h E (st.trans t), fun σ' H2 O2 sl' h E t => f.ct σ' H2 O2 sl' h E (st.trans t)⟩
theorem Step.last (t : Step C O H O H') : Step C O H [] H' := ⟨t.keep, fun a h => absurd h (by simp), t.ok, fun a h => absurd h (by simp), t.tab⟩
theorem sts_cons {N : List Sl → Prop} (h : ST C X s sl { p with nx := N }) (k : ∀ sl', N sl' → STs C X ss sl' p) : STs C X (s :: ss) sl p := fun σ H O E D f =>
  ofSs (pss_cons (ps_c s) (pss_c ss)) (h σ H O E { D with nx := cSs X ss D } ⟨fun σ' H' O' sl' n E' t => k sl' n σ' H' O' E' D (f.step t), f.rt, f.bk, f.ct⟩)
theorem sts_nil (h : p.nx sl) : STs C X [] sl p := fun σ H O E D f => ofSs pss_nil (f.nx σ H O sl h E (Step.refl E))
theorem sts_one (h : ST C X s sl p) : STs C X [s] sl p := sts_cons h fun _ n => sts_nil n
theorem STs.imp {p' : Ps} (h : STs C X ss sl p) (h1 : ∀ s, p.nx s → p'.nx s) (h2 : ∀ s, p.rt s → p'.rt s) (h3 : ∀ s, p.bk s → p'.bk s) (h4 : ∀ s, p.ct s → p'.ct s) : STs C X ss sl p' := fun σ H O E D f =>
  h σ H O E D ⟨fun σ' H' O' sl' n => f.nx σ' H' O' sl' (h1 _ n), fun v H' d n => f.rt v H' d (h2 _ n), fun σ' H' O' sl' n => f.bk σ' H' O' sl' (h3 _ n), fun σ' H' O' sl' n => f.ct σ' H' O' sl' (h4 _ n)⟩
/-! targets -/
theorem ga_name (n : Nat) {d : PyData} (hN : X.N.Nodup) (hi : X.N[n]? = some x := by rfl) (hx : Loc X.env.scope x := by first | exact .inl rfl | exact .inr rfl) (hf : X.fn x = true ∨ X.env.scope.names.lookup x = some .local := by first | exact .inl rfl | exact .inr rfl) :
    GA C X (.Name x pos) d sl (fun s => s = sl.set n (.d d)) := fun σ H O v E r Q k => ofG (pg_name hN hi hx hf) (k _ _ rfl (E.setD r n))
theorem gas_nil : GAs C X [] [] sl (fun s => s = sl) := fun σ H O vs E r Q k => ofGs pgs_nil (by cases r; exact ⟨rfl, k σ sl rfl E⟩)
theorem gas_cons {d : PyData} {ds : List PyData} {N N' : List Sl → Prop} (h : GA C X a d sl N) (t : ∀ sl', N sl' → GAs C X es ds sl' N') (hs : (assignEach (a :: es) X.env).map (·.2) = assign a X.env :: (assignEach es X.env).map (·.2) := by rfl) :
    GAs C X (a :: es) (d :: ds) sl N' := fun σ H O vs E r Q k => ofGs (pgs_cons (pg_c a) (pgs_c es) hs) (by
  cases r with
  | cons r1 r2 => exact ⟨_, _, rfl, h σ H O _ E r1 _ fun σ' sl' n E' => t sl' n σ' H O _ E' r2 Q k⟩)
theorem ga_tup {k : Nat} {ds : List PyData} {N : List Sl → Prop} (hc : X.calm = true) (h : GAs C X es ds sl N) (hn : (assignEach es X.env).length = ds.length := by rfl) (hst : (assignEach es X.env).findIdx? (·.1) = none := by rfl) :
    GA C X (.Tuple es k pos) (.tuple ds) sl N := fun σ H O v E r Q k => ofG (pg_tup hc (pgs_c es) hn hst) (by
  obtain ⟨q, vs, rfl, h1, s1⟩ := r.tup_inv
  exact ⟨q, vs, rfl, SqT.of (cut_some h1).2, s1.length, h σ H O vs E s1 Q k⟩)
/-- one name, two names -/
theorem gas_n1 (n : Nat) {d : PyData} (hN : X.N.Nodup) (hi : X.N[n]? = some x := by rfl) (hx : Loc X.env.scope x := by first | exact .inl rfl | exact .inr rfl) (hf : X.fn x = true ∨ X.env.scope.names.lookup x = some .local := by first | exact .inl rfl | exact .inr rfl)
    (hs : (assignEach [Expr.Name x pos] X.env).map (·.2) = assign (Expr.Name x pos) X.env :: (assignEach [] X.env).map (·.2) := by rfl) : GAs C X [.Name x pos] [d] sl (fun s => s = sl.set n (.d d)) :=
  gas_cons (ga_name n hN hi hx hf) (fun sl' e => by rw [show sl' = _ from e]; exact gas_nil) hs

theorem ga_t2 (n m : Nat) {x y : Str} {px py pt : Pos} {kk : Nat} {d1 d2 : PyData} (hc : X.calm = true) (hN : X.N.Nodup)
    (hi : X.N[n]? = some x := by rfl) (hj : X.N[m]? = some y := by rfl) (hx : Loc X.env.scope x := by first | exact .inl rfl | exact .inr rfl) (hy : Loc X.env.scope y := by first | exact .inl rfl | exact .inr rfl)
    (hf : X.fn x = true ∨ X.env.scope.names.lookup x = some .local := by first | exact .inl rfl | exact .inr rfl) (hg : X.fn y = true ∨ X.env.scope.names.lookup y = some .local := by first | exact .inl rfl | exact .inr rfl)
    (a1 : (assignEach [.Name x px, .Name y py] X.env).map (·.2) = assign (.Name x px) X.env :: (assignEach [.Name y py] X.env).map (·.2) := by rfl) (a2 : (assignEach [Expr.Name y py] X.env).map (·.2) = assign (.Name y py) X.env :: (assignEach [] X.env).map (·.2) := by rfl)
    (hn : (assignEach [.Name x px, .Name y py] X.env).length = 2 := by rfl) (hst : (assignEach [.Name x px, .Name y py] X.env).findIdx? (·.1) = none := by rfl) :
    GA C X (.Tuple [.Name x px, .Name y py] kk pt) (.tuple [d1, d2]) sl (fun s => s = (sl.set n (.d d1)).set m (.d d2)) :=
  ga_tup hc (gas_cons (ga_name n hN hi hx hf) (fun sl' e => by rw [show sl' = _ from e]; exact gas_n1 m hN hj hy hg a2) a1) hn hst
theorem ga_t3 (n m l : Nat) {x y z : Str} {px py pz pt : Pos} {kk : Nat} {d1 d2 d3 : PyData} (hc : X.calm = true) (hN : X.N.Nodup)
    (hi : X.N[n]? = some x := by rfl) (hj : X.N[m]? = some y := by rfl) (hl : X.N[l]? = some z := by rfl) (hx : Loc X.env.scope x := by first | exact .inl rfl | exact .inr rfl) (hy : Loc X.env.scope y := by first | exact .inl rfl | exact .inr rfl) (hz : Loc X.env.scope z := by first | exact .inl rfl | exact .inr rfl)
    (hf : X.fn x = true ∨ X.env.scope.names.lookup x = some .local := by first | exact .inl rfl | exact .inr rfl) (hg : X.fn y = true ∨ X.env.scope.names.lookup y = some .local := by first | exact .inl rfl | exact .inr rfl) (hh : X.fn z = true ∨ X.env.scope.names.lookup z = some .local := by first | exact .inl rfl | exact .inr rfl)
    (a1 : (assignEach [.Name x px, .Name y py, .Name z pz] X.env).map (·.2) = assign (.Name x px) X.env :: (assignEach [.Name y py, .Name z pz] X.env).map (·.2) := by rfl)
    (a2 : (assignEach [.Name y py, .Name z pz] X.env).map (·.2) = assign (.Name y py) X.env :: (assignEach [.Name z pz] X.env).map (·.2) := by rfl) (a3 : (assignEach [Expr.Name z pz] X.env).map (·.2) = assign (.Name z pz) X.env :: (assignEach [] X.env).map (·.2) := by rfl)
    (hn : (assignEach [.Name x px, .Name y py, .Name z pz] X.env).length = 3 := by rfl) (hst : (assignEach [.Name x px, .Name y py, .Name z pz] X.env).findIdx? (·.1) = none := by rfl) :
    GA C X (.Tuple [.Name x px, .Name y py, .Name z pz] kk pt) (.tuple [d1, d2, d3]) sl (fun s => s = ((sl.set n (.d d1)).set m (.d d2)).set l (.d d3)) :=
  ga_tup hc (gas_cons (ga_name n hN hi hx hf) (fun sl' e => by rw [show sl' = _ from e]; exact gas_cons (ga_name m hN hj hy hg) (fun sl' e => by rw [show sl' = _ from e]; exact gas_n1 l hN hl hz hh a3) a2) a1) hn hst

/-! assignments -/
theorem sts_set (n : Nat) (hN : X.N.Nodup) (h : EV C X e sl P) (k : ∀ d, P d → STs C X ss (sl.set n (.d d)) p) (hi : X.N[n]? = some x := by rfl) (hx : Loc X.env.scope x := by first | exact .inl rfl | exact .inr rfl)
    (hs : swapsWith e (some (.Name x p1)) pos.line X.env = pure false := by rfl) (hf : X.fn x = true ∨ X.env.scope.names.lookup x = some .local := by first | exact .inl rfl | exact .inr rfl) : STs C X (.Assign [.Name x p1] e pos :: ss) sl p := fun σ H O E D f =>
  ofSs (pss_cons (ps_set hN hi hx (pe_c e) hs hf) (pss_c ss)) (h σ H O E _ fun v H1 d pd t1 r1 => k d pd _ H1 O ((E.tr t1).setD r1 n) D (f.step (Step.tr E t1)))
/-- a list or dict that the def will change -/
theorem sts_setO (n : Nat) (hN : X.N.Nodup) (h : EVN C X e sl P) (k : ∀ d, P d → STs C X ss (sl.set n (.own d)) p) (hi : X.N[n]? = some x := by rfl) (hx : Loc X.env.scope x := by first | exact .inl rfl | exact .inr rfl)
    (hs : swapsWith e (some (.Name x p1)) pos.line X.env = pure false := by rfl) (hf : X.fn x = true ∨ X.env.scope.names.lookup x = some .local := by first | exact .inl rfl | exact .inr rfl) : STs C X (.Assign [.Name x p1] e pos :: ss) sl p := fun σ H O E D f =>
  ofSs (pss_cons (ps_set hN hi hx (pe_c e) hs hf) (pss_c ss)) (h σ H O E _ fun q o H1 d pd t1 hq ho r1 => by
    obtain ⟨E1, st⟩ := E.setO t1 hq ho r1 n
    exact k d pd _ H1 (q :: O) E1 D (f.step st))
/-- y = [elt for x in iter], y a plain local name -/
theorem sts_lc (n : Nat) {m : Nat} {xs : Str} {px sp : Pos} {iter elt : Expr} {scope : Scope} (hc : X.calm = true) (hN : X.N.Nodup) (ok : LcOk X scope m xs) (h : RdN C X (tLc (cI X (.Name xs px) iter) (gName m) tYes (cBlk X scope elt) [m]) sl P)
    (k : ∀ d, P d → STs C X ss (sl.set n (.d d)) p) (hi : X.N[n]? = some x := by rfl) (hyl : X.env.scope.names.lookup x = some .local := by rfl)
    (hsw : swapsWith (.ListComp elt [⟨.Name xs px, iter, [], 0⟩] scope pos) (some (.Name x p1)) sp.line X.env = pure true := by exact sw_true rfl rfl rfl (by decide +kernel))
    (hs : ∀ y, foldedSetIterable iter X.env y = pure y := by intro _; rfl) : STs C X (.Assign [.Name x p1] (.ListComp elt [⟨.Name xs px, iter, [], 0⟩] scope pos) sp :: ss) sl p := fun σ H O E D f =>
  ofSs (pss_cons (ps_setLc (i := n) (own := [(xs, m)]) hc hN hi hyl hsw (pi_c _ _) ok.ok (fun s H L cl fp => pg_name hN ok.ix (ok.loc s H L cl fp) (ok.st s H L cl fp)) (fun _ _ _ _ _ => pts_nil) (fun s H0 L cl fp => pe_blk s H0 L cl fp) hs) (pss_c ss))
    (h σ H O E (fun v H1 => cSs X ss D (σ.set n (some v)) H1) fun q o H1 d pd t1 hq ho r1 => by
      obtain ⟨n1, n2⟩ := E.fresh hq
      have r2 : Rep X.K (cut (O ++ C.M) H1) (.ref q) d := .obj (by rw [cut_out (by intro z; exact (List.mem_append.mp z).elim n1 n2)]; exact ho) (r1.mono (cut_same fun a u na x => ⟨fun z => na (List.mem_cons_of_mem _ z), x⟩))
      exact k d pd _ H1 O ((E.tr t1).setD r2 n) D (f.step (Step.tr E t1)))
theorem sts_lcO (n : Nat) {m : Nat} {xs : Str} {px sp : Pos} {iter elt : Expr} {scope : Scope} (hc : X.calm = true) (hN : X.N.Nodup) (ok : LcOk X scope m xs) (h : RdN C X (tLc (cI X (.Name xs px) iter) (gName m) tYes (cBlk X scope elt) [m]) sl P)
    (k : ∀ d, P d → STs C X ss (sl.set n (.own d)) p) (hi : X.N[n]? = some x := by rfl) (hyl : X.env.scope.names.lookup x = some .local := by rfl)
    (hsw : swapsWith (.ListComp elt [⟨.Name xs px, iter, [], 0⟩] scope pos) (some (.Name x p1)) sp.line X.env = pure true := by exact sw_true rfl rfl rfl (by decide +kernel))
    (hs : ∀ y, foldedSetIterable iter X.env y = pure y := by intro _; rfl) : STs C X (.Assign [.Name x p1] (.ListComp elt [⟨.Name xs px, iter, [], 0⟩] scope pos) sp :: ss) sl p := fun σ H O E D f =>
  ofSs (pss_cons (ps_setLc (i := n) (own := [(xs, m)]) hc hN hi hyl hsw (pi_c _ _) ok.ok (fun s H L cl fp => pg_name hN ok.ix (ok.loc s H L cl fp) (ok.st s H L cl fp)) (fun _ _ _ _ _ => pts_nil) (fun s H0 L cl fp => pe_blk s H0 L cl fp) hs) (pss_c ss))
    (h σ H O E (fun v H1 => cSs X ss D (σ.set n (some v)) H1) fun q o H1 d pd t1 hq ho r1 => by
      obtain ⟨E1, st⟩ := E.setO t1 hq ho r1 n
      exact k d pd _ H1 (q :: O) E1 D (f.step st))
theorem sts_asg {N : PyData → List Sl → Prop} (h : EV C X e sl P) (hg : ∀ d, P d → GA C X tg d sl (N d)) (k : ∀ d sl', P d → N d sl' → STs C X ss sl' p) (hs : swapsWithSole [tg] e pos.line X.env = pure false := by rfl) (hw : swappedStores [tg] e X.env = pure none := by rfl)
    (h1 : (assignEach [tg] X.env).map (·.2) = [assign tg X.env] := by rfl) : STs C X (.Assign [tg] e pos :: ss) sl p := fun σ H O E D f =>
  ofSs (pss_cons (ps_asg (pe_c e) (pg_c tg) hs hw h1) (pss_c ss)) (h σ H O E _ fun v H1 d pd t1 r1 => hg d pd σ H1 O v (E.tr t1) r1 _ fun σ' sl' n E' => k d sl' pd n σ' H1 O E' D (f.step (Step.tr E t1)))
/-- a, b = e, a pair -/
theorem sts_unpack2 (n m : Nat) {x y : Str} {px py pt : Pos} {kk : Nat} {d1 d2 : PyData} (hc : X.calm = true) (hN : X.N.Nodup) (h : EV C X e sl (is (.tuple [d1, d2]))) (k : STs C X ss ((sl.set n (.d d1)).set m (.d d2)) p)
    (hi : X.N[n]? = some x := by rfl) (hj : X.N[m]? = some y := by rfl) (hx : Loc X.env.scope x := by first | exact .inl rfl | exact .inr rfl) (hy : Loc X.env.scope y := by first | exact .inl rfl | exact .inr rfl)
    (hf : X.fn x = true ∨ X.env.scope.names.lookup x = some .local := by first | exact .inl rfl | exact .inr rfl) (hg : X.fn y = true ∨ X.env.scope.names.lookup y = some .local := by first | exact .inl rfl | exact .inr rfl)
    (hs : swapsWithSole [.Tuple [.Name x px, .Name y py] kk pt] e pos.line X.env = pure false := by rfl) (hw : swappedStores [.Tuple [.Name x px, .Name y py] kk pt] e X.env = pure none := by rfl)
    (h1 : (assignEach [.Tuple [.Name x px, .Name y py] kk pt] X.env).map (·.2) = [assign (.Tuple [.Name x px, .Name y py] kk pt) X.env] := by rfl)
    (a1 : (assignEach [.Name x px, .Name y py] X.env).map (·.2) = assign (.Name x px) X.env :: (assignEach [.Name y py] X.env).map (·.2) := by rfl) (a2 : (assignEach [Expr.Name y py] X.env).map (·.2) = assign (.Name y py) X.env :: (assignEach [] X.env).map (·.2) := by rfl)
    (hn : (assignEach [.Name x px, .Name y py] X.env).length = 2 := by rfl) (hst : (assignEach [.Name x px, .Name y py] X.env).findIdx? (·.1) = none := by rfl) :
    STs C X (.Assign [.Tuple [.Name x px, .Name y py] kk pt] e pos :: ss) sl p :=
  sts_asg (N := fun _ s => s = (sl.set n (.d d1)).set m (.d d2)) h (fun d pd => by
    rw [show d = _ from pd]
    exact ga_tup hc (gas_cons (ga_name n hN hi hx hf) (fun sl' e => by rw [show sl' = _ from e]; exact gas_n1 m hN hj hy hg a2) a1) hn hst) (fun d sl' pd n => by rw [n]; exact k) hs hw h1
/-- a, b, c = e, a triple -/
theorem sts_unpack3 (n m l : Nat) {x y z : Str} {px py pz pt : Pos} {kk : Nat} {d1 d2 d3 : PyData} (hc : X.calm = true) (hN : X.N.Nodup) (h : EV C X e sl (is (.tuple [d1, d2, d3]))) (k : STs C X ss (((sl.set n (.d d1)).set m (.d d2)).set l (.d d3)) p)
    (hi : X.N[n]? = some x := by rfl) (hj : X.N[m]? = some y := by rfl) (hl : X.N[l]? = some z := by rfl) (hx : Loc X.env.scope x := by first | exact .inl rfl | exact .inr rfl) (hy : Loc X.env.scope y := by first | exact .inl rfl | exact .inr rfl) (hz : Loc X.env.scope z := by first | exact .inl rfl | exact .inr rfl)
    (hf : X.fn x = true ∨ X.env.scope.names.lookup x = some .local := by first | exact .inl rfl | exact .inr rfl) (hg : X.fn y = true ∨ X.env.scope.names.lookup y = some .local := by first | exact .inl rfl | exact .inr rfl) (hh : X.fn z = true ∨ X.env.scope.names.lookup z = some .local := by first | exact .inl rfl | exact .inr rfl)
    (hs : swapsWithSole [.Tuple [.Name x px, .Name y py, .Name z pz] kk pt] e pos.line X.env = pure false := by rfl) (hw : swappedStores [.Tuple [.Name x px, .Name y py, .Name z pz] kk pt] e X.env = pure none := by rfl)
    (h1 : (assignEach [.Tuple [.Name x px, .Name y py, .Name z pz] kk pt] X.env).map (·.2) = [assign (.Tuple [.Name x px, .Name y py, .Name z pz] kk pt) X.env] := by rfl)
    (a1 : (assignEach [.Name x px, .Name y py, .Name z pz] X.env).map (·.2) = assign (.Name x px) X.env :: (assignEach [.Name y py, .Name z pz] X.env).map (·.2) := by rfl)
    (a2 : (assignEach [.Name y py, .Name z pz] X.env).map (·.2) = assign (.Name y py) X.env :: (assignEach [.Name z pz] X.env).map (·.2) := by rfl) (a3 : (assignEach [Expr.Name z pz] X.env).map (·.2) = assign (.Name z pz) X.env :: (assignEach [] X.env).map (·.2) := by rfl)
    (hn : (assignEach [.Name x px, .Name y py, .Name z pz] X.env).length = 3 := by rfl) (hst : (assignEach [.Name x px, .Name y py, .Name z pz] X.env).findIdx? (·.1) = none := by rfl) :
    STs C X (.Assign [.Tuple [.Name x px, .Name y py, .Name z pz] kk pt] e pos :: ss) sl p :=
  sts_asg (N := fun _ s => s = ((sl.set n (.d d1)).set m (.d d2)).set l (.d d3)) h (fun d pd => by
    rw [show d = _ from pd]
    exact ga_tup hc (gas_cons (ga_name n hN hi hx hf) (fun sl' e => by rw [show sl' = _ from e]; exact gas_cons (ga_name m hN hj hy hg) (fun sl' e => by rw [show sl' = _ from e]; exact gas_n1 l hN hl hz hh a3) a2) a1) hn hst) (fun d sl' pd n => by rw [n]; exact k) hs hw h1

/-! if, return, append -/
theorem sts_if {T : Bool → Prop} {N : List Sl → Prop} {sa sb : List Stmt} (h : EVT C X c sl T) (ha : T true → STs C X sa sl { p with nx := N }) (hb : T false → STs C X sb sl { p with nx := N }) (k : ∀ sl', N sl' → STs C X ss sl' p) : STs C X (.If c sa sb pos :: ss) sl p :=
  sts_cons (N := N) (fun σ H O E D f => ofS (ps_if (pt_c c) (pss_c sa) (pss_c sb)) (h σ H O E _ fun b H1 pb t1 => by
    cases b with
    | true =>
      show cSs X sa D σ H1
      exact ha pb σ H1 O (E.tr t1) D (f.step (Step.tr E t1))
    | false =>
      show cSs X sb D σ H1
      exact hb pb σ H1 O (E.tr t1) D (f.step (Step.tr E t1)))) k
/-- the then-branch does not come back -/
theorem sts_ifR {T : Bool → Prop} {sa : List Stmt} (h : EVT C X c sl T) (ha : T true → STs C X sa sl { p with nx := fun _ => False }) (k : T false → STs C X ss sl p) : STs C X (.If c sa [] pos :: ss) sl p :=
  sts_if (N := fun s => s = sl ∧ T false) h (fun t => (ha t).imp (fun _ f => f.elim) (fun _ h => h) (fun _ h => h) (fun _ h => h)) (fun t => sts_nil ⟨rfl, t⟩) fun sl' n => by rw [n.1]; exact k n.2
theorem sts_ret (h : EV C X e sl P) (k : ∀ d, P d → p.rt d) : STs C X [.Return (some e) pos] sl p := fun σ H O E D f =>
  ofSs (pss_one (ps_ret (pe_c e))) (h σ H O E _ fun v H1 d pd t1 r1 => f.rt v H1 d (k d pd) (Step.tr E t1).last (r1.mono (cut_same fun a u na x => ⟨fun z => na (List.mem_append_right _ z), x⟩)))
theorem sts_retO (n : Nat) {d : PyData} (k : p.rt d) (hs : sl[n]? = some (.own d) := by rfl) (hN : X.N[n]? = some x := by rfl) (hv : Vis X.env.scope x := by first | exact Or.inl rfl | exact Or.inr (Or.inl rfl) | exact Or.inr (Or.inr rfl))
    (hd : (x == ("__debug__" : Str)) = false := by decide) (hcd : (x == ("__classdict__" : Str)) = false := by decide) : STs C X [.Return (some (.Name x p1)) pos] sl p := fun σ H O E D f => by
  obtain ⟨q, o, h1, h2, h3, h4⟩ := E.own hs
  refine ofSs (pss_one (ps_ret (pe_var hN hv hd hcd))) ⟨.ref q, h1, f.rt _ H d k (Step.refl E).last (.obj ?_ (h3.mono (cut_same fun a u na x => ⟨fun z => na (List.mem_append_right _ z), x⟩)))⟩
  rw [cut_out (E.dj q h4)]
  exact h2
theorem sts_append (n : Nat) {xs : List PyData} {px ap : Pos} (h : EV C X e sl P) (hz : xs.length < 1000000) (k : ∀ d, P d → STs C X ss (sl.set n (.own (.list (xs ++ [d])))) p) (hs : sl[n]? = some (.own (.list xs)) := by rfl) (hN : X.N[n]? = some x := by rfl)
    (hv : Vis X.env.scope x := by first | exact Or.inl rfl | exact Or.inr (Or.inl rfl) | exact Or.inr (Or.inr rfl)) (hd : (x == ("__debug__" : Str)) = false := by decide) (hcd : (x == ("__classdict__" : Str)) = false := by decide)
    (hsw : swapsWith (.Call (.Attribute (.Name x px) "append" ap) [e] [] p1) none pos.line X.env = pure false := by rfl) (hbase : attributeBase (.Name x px) "append" X.env (eval (.Name x px) X.env) = eval (.Name x px) X.env := by rfl)
    (hfew : ((backTo p1 (starEach [e] X.env)).all (fun x => !x.1) && (backToKw p1 (keywordEach [] X.env)).all (fun x => x.1.isSome)
      && decide ([e].length + ([] : List Keyword).length + (if ([] : List Keyword).isEmpty then 0 else 1) < 30)) = true := by rfl)
    (hline : (ap.endLine == p1.line) = true := by rfl) (hst : starEach [e] X.env = (false, eval e X.env) :: starEach [] X.env := by rfl) (hplain : (backTo p1 (starEach [] X.env)).any (·.1) = false := by rfl) :
    STs C X (.Expr (.Call (.Attribute (.Name x px) "append" ap) [e] [] p1) pos :: ss) sl p := fun σ H O E D f => by
  obtain ⟨q, o, h1, h2, h3, h4⟩ := E.own hs
  cases h3 with
  | @lst vs ds r =>
    refine ofSs (pss_cons (ps_expr (pe_bm PySem.F.plainAttrs_list PySem.F.slot_list_append PySem.F.type_list_append mt_append (pe_var hN hv hd hcd) (pa_cons (pe_c e) pa_nil hst) hbase hfew hline hst hplain) hsw) (pss_c ss))
      ⟨.ref q, h1, Or.inl ⟨rfl, _, SqL.of h2⟩, h σ H O E _ fun v H1 d pd t1 r1 => ⟨q, vs, v, rfl, rfl, t1.keep _ _ (E.notSt h4) h2, ?_, ?_⟩⟩
    · rw [r.length]; exact Nat.lt_of_lt_of_le hz (by decide)
    · have E1 := E.tr t1
      obtain ⟨E2, st⟩ := E1.mut (o := .lst (vs ++ [v])) (y := .list (xs ++ [d])) hs h1 (.lst ((r.mono (t1.cutS O)).append (.cons r1 .nil)))
      exact k d pd σ _ O E2 D (f.step ((Step.tr E t1).trans st))
/-- the def's own list or dict is changed no more -/
theorem sts_freeze (n : Nat) {d : PyData} (k : STs C X ss (sl.set n (.d d)) p) (hs : sl[n]? = some (.own d) := by rfl) : STs C X ss sl p := fun σ H O E D f => by
  obtain ⟨O', E', st⟩ := E.freeze hs
  exact k σ H O' E' D (f.step st)
theorem sts_break (h : p.bk sl) : STs C X [.Break pos] sl p := fun σ H O E D f => ofSs (pss_one ps_break) (f.bk σ H O sl h E (Step.refl E))
theorem sts_continue (h : p.ct sl) : STs C X [.Continue pos] sl p := fun σ H O E D f => ofSs (pss_one ps_continue) (f.ct σ H O sl h E (Step.refl E))
theorem sts_pass (k : STs C X ss sl p) : STs C X (.Pass pos :: ss) sl p := fun σ H O E D f => ofSs (pss_cons ps_pass (pss_c ss)) (k σ H O E D f)

/-! for -/
theorem sts_for {iter : Expr} {body : List Stmt} {T : List PyData → Prop} {Nb : List Sl → Prop} (Inv : List PyData → Nat → List Sl → Prop) (hc : X.calm = true) (hi : IT C X tg iter sl T) (h0 : ∀ ds, T ds → Inv ds 0 sl)
    (hb : ∀ ds k d sl', T ds → ds[k]? = some d → Inv ds k sl' → ∃ N, GA C X tg d sl' N ∧ ∀ sl2, N sl2 → STs C X body sl2 { p with nx := Inv ds (k + 1), ct := Inv ds (k + 1), bk := Nb })
    (k : ∀ ds sl', T ds → Inv ds ds.length sl' → STs C X ss sl' p) (kb : ∀ sl', Nb sl' → STs C X ss sl' p)
    (hp : PassesOwn (model X.prog X.w) X.A X.env X.xe := by exact PassesOwn.never) (hs : ∀ y, foldedSetIterable iter X.env y = pure y := by intro _; rfl) : STs C X (.For tg iter body [] pos :: ss) sl p := fun σ H O E D f =>
  ofSs (pss_cons (ps_for hp hc (pi_c tg iter) (pg_c tg) (pss_c body) hs) (pss_c ss)) (hi σ H O E _ fun J H1 ds pT t1 w => by
    have E1 := E.tr t1
    have st1 := Step.tr E t1
    refine ⟨fun i m σ H2 => m = ds.length - i ∧ i ≤ ds.length ∧ ∃ O2 sl2, Inv ds i sl2 ∧ EnvOk X.K C H2 σ sl2 O2 ∧ Step C O H1 O2 H2, ⟨ds.length, by simp, Nat.zero_le _, O, sl, h0 ds pT, E1, Step.refl E1⟩, ?_⟩
    rintro i m σ2 H2 ⟨rfl, hi2, O2, sl2, hI, E2, st2⟩
    have sm : Same (cut (O ++ C.M) H1) (cut (O2 ++ C.M) H2) := st2.cutS
    by_cases hlt : i < ds.length
    · refine .inr ⟨w.goes i H2 (sm.trans (cut_le _ _)) hlt, fun σ' H' => ∃ O2 sl2, Inv ds (i + 1) sl2 ∧ EnvOk X.K C H' σ' sl2 O2 ∧ Step C O H1 O2 H', fun σ' H' ⟨O3, sl3, a1, a2, a3⟩ => ⟨ds.length - (i + 1), by omega, rfl, hlt, O3, sl3, a1, a2, a3⟩, fun v H3 yl => ?_⟩
      obtain ⟨d, hd, s3, rp⟩ := w.yields i H2 v H3 (sm.trans (cut_le _ _)) hlt yl
      have t3 : Tr C H2 H3 := Tr.of s3
      have E3 := E2.tr t3
      have rv := rp (O2 ++ C.M) (fun a h => (List.mem_append.mp h).elim (E2.to a) (E2.tm a)) sm
      obtain ⟨N, hg, hbody⟩ := hb ds i d sl2 pT hd hI
      refine hg σ2 H3 O2 v E3 rv _ fun σ4 sl4 n4 E4 => ?_
      have st3 : Step C O H1 O2 H3 := st2.trans (Step.tr E2 t3)
      exact hbody sl4 n4 σ4 H3 O2 E4 _ ⟨fun σ' H' O' sl' n E' st => ⟨O', sl', n, E', st3.trans st⟩, fun v H' d pd st r => f.rt v H' d pd (st1.trans (st3.trans st)) r,
        fun σ' H' O' sl' n E' st => kb sl' n σ' H' O' E' D (f.step (st1.trans (st3.trans st))), fun σ' H' O' sl' n E' st => ⟨O', sl', n, E', st3.trans st⟩⟩
    · have ei : i = ds.length := by omega
      subst ei
      exact .inl ⟨w.stops H2 (sm.trans (cut_le _ _)), k ds sl2 pT hI σ2 H2 O2 E2 D (f.step (st1.trans st2))⟩)
/-- the target a name -/
theorem sts_forN (n : Nat) {iter : Expr} {body : List Stmt} {T : List PyData → Prop} {Nb : List Sl → Prop} (Inv : List PyData → Nat → List Sl → Prop) (hc : X.calm = true) (hN : X.N.Nodup) (hi : IT C X (.Name x p1) iter sl T) (h0 : ∀ ds, T ds → Inv ds 0 sl)
    (hb : ∀ ds k d sl', T ds → ds[k]? = some d → Inv ds k sl' → STs C X body (sl'.set n (.d d)) { p with nx := Inv ds (k + 1), ct := Inv ds (k + 1), bk := Nb })
    (k : ∀ ds sl', T ds → Inv ds ds.length sl' → STs C X ss sl' p) (kb : ∀ sl', Nb sl' → STs C X ss sl' p)
    (hx1 : X.N[n]? = some x := by rfl) (hx : Loc X.env.scope x := by first | exact .inl rfl | exact .inr rfl) (hf : X.fn x = true ∨ X.env.scope.names.lookup x = some .local := by first | exact .inl rfl | exact .inr rfl)
    (hp : PassesOwn (model X.prog X.w) X.A X.env X.xe := by exact PassesOwn.never) (hs : ∀ y, foldedSetIterable iter X.env y = pure y := by intro _; rfl) : STs C X (.For (.Name x p1) iter body [] pos :: ss) sl p :=
  sts_for Inv hc hi h0 (fun ds k d sl' pT hd hI => ⟨_, ga_name n hN hx1 hx hf, fun sl2 e => by rw [show sl2 = _ from e]; exact hb ds k d sl' pT hd hI⟩) k kb hp hs
/-- over items that are known, the target a name; no break -/
theorem sts_forL (n : Nat) {iter : Expr} {body : List Stmt} {ds : List PyData} (Inv : Nat → List Sl → Prop) (hc : X.calm = true) (hN : X.N.Nodup) (hi : IT C X (.Name x p1) iter sl (isL ds)) (h0 : Inv 0 sl)
    (hb : ∀ k d sl', ds[k]? = some d → Inv k sl' → STs C X body (sl'.set n (.d d)) { p with nx := Inv (k + 1), ct := Inv (k + 1), bk := fun _ => False })
    (k : ∀ sl', Inv ds.length sl' → STs C X ss sl' p)
    (hx1 : X.N[n]? = some x := by rfl) (hx : Loc X.env.scope x := by first | exact .inl rfl | exact .inr rfl) (hf : X.fn x = true ∨ X.env.scope.names.lookup x = some .local := by first | exact .inl rfl | exact .inr rfl)
    (hp : PassesOwn (model X.prog X.w) X.A X.env X.xe := by exact PassesOwn.never) (hs : ∀ y, foldedSetIterable iter X.env y = pure y := by intro _; rfl) : STs C X (.For (.Name x p1) iter body [] pos :: ss) sl p :=
  sts_forN n (fun _ => Inv) hc hN hi (fun _ _ => h0) (fun ds' k d sl' pT hd hI => hb k d sl' (by rw [← show ds' = ds from pT]; exact hd) hI) (fun ds' sl' pT hI => k sl' (by rw [← show ds' = ds from pT]; exact hI)) (fun _ f => f.elim) hx1 hx hf hp hs
/-- the same with a break -/
theorem sts_forLB (n : Nat) {iter : Expr} {body : List Stmt} {ds : List PyData} (Inv : Nat → List Sl → Prop) (Nb : List Sl → Prop) (hc : X.calm = true) (hN : X.N.Nodup) (hi : IT C X (.Name x p1) iter sl (isL ds)) (h0 : Inv 0 sl)
    (hb : ∀ k d sl', ds[k]? = some d → Inv k sl' → STs C X body (sl'.set n (.d d)) { p with nx := Inv (k + 1), ct := Inv (k + 1), bk := Nb })
    (k : ∀ sl', Inv ds.length sl' ∨ Nb sl' → STs C X ss sl' p)
    (hx1 : X.N[n]? = some x := by rfl) (hx : Loc X.env.scope x := by first | exact .inl rfl | exact .inr rfl) (hf : X.fn x = true ∨ X.env.scope.names.lookup x = some .local := by first | exact .inl rfl | exact .inr rfl)
    (hp : PassesOwn (model X.prog X.w) X.A X.env X.xe := by exact PassesOwn.never) (hs : ∀ y, foldedSetIterable iter X.env y = pure y := by intro _; rfl) : STs C X (.For (.Name x p1) iter body [] pos :: ss) sl p :=
  sts_forN n (fun _ => Inv) hc hN hi (fun _ _ => h0) (fun ds' k d sl' pT hd hI => hb k d sl' (by rw [← show ds' = ds from pT]; exact hd) hI) (fun ds' sl' pT hI => k sl' (.inl (by rw [← show ds' = ds from pT]; exact hI))) (fun sl' f => k sl' (.inr f)) hx1 hx hf hp hs
/-- over items that are known, any target; no break -/
theorem sts_forG {iter : Expr} {body : List Stmt} {ds : List PyData} (Inv : Nat → List Sl → Prop) (hc : X.calm = true) (hi : IT C X tg iter sl (isL ds)) (h0 : Inv 0 sl)
    (hb : ∀ k d sl', ds[k]? = some d → Inv k sl' → ∃ N, GA C X tg d sl' N ∧ ∀ sl2, N sl2 → STs C X body sl2 { p with nx := Inv (k + 1), ct := Inv (k + 1), bk := fun _ => False })
    (k : ∀ sl', Inv ds.length sl' → STs C X ss sl' p)
    (hp : PassesOwn (model X.prog X.w) X.A X.env X.xe := by exact PassesOwn.never) (hs : ∀ y, foldedSetIterable iter X.env y = pure y := by intro _; rfl) : STs C X (.For tg iter body [] pos :: ss) sl p :=
  sts_for (fun _ => Inv) hc hi (fun _ _ => h0) (fun ds' k d sl' pT hd hI => hb k d sl' (by rw [← show ds' = ds from pT]; exact hd) hI) (fun ds' sl' pT hI => k sl' (by rw [← show ds' = ds from pT]; exact hI)) (fun _ f => f.elim) hp hs
end

/-! ### defs -/
section
variable {P : Program} {w : World} {K : PySem.W.Frag} {mg : Str → Option Value} {base : Heap}
def slots0 (N : List Str) (ds : List PyData) : List Sl := ds.map .d ++ List.replicate (N.length - ds.length) .u
theorem slots_u (B H : Hp) : ∀ n, Slots K B H (List.replicate n none) (List.replicate n .u) []
  | 0 => .nil
  | n + 1 => by
    rw [List.replicate_succ, List.replicate_succ]
    exact .cons (F := []) .u (slots_u B H n)
theorem slots_start {B H : Hp} {vs : List V} {ds : List PyData} (r : Reps K B vs ds) (n : Nat) : Slots K B H (vs.map some ++ List.replicate n none) (ds.map .d ++ List.replicate n .u) [] := by
  induction vs generalizing ds with
  | nil => cases r; exact slots_u B H n
  | cons v vs ih =>
    cases r with
    | cons r1 r2 => exact .cons (F := []) (.d r1) (ih r2)
/-- THE RULE for a def that only reads: its body, from data to data -/
theorem fn_D {α : Type} {args : α → List PyData} {pre : α → Prop} {post : α → PyData → Prop} {x qual : Str} {st : Stmt} {f : Addr} {fd : FuncData} {N ps : List Str} {k : Nat} (F : Fun K x qual st f fd) (S : FnScope N ps (defScope st)) (hl : ∀ y, (args y).length = ps.length)
    (hb : ∀ (cdv : Value) (A : Around) (outer : List Env) (s : Shared) (H : Hp) (E : XK) (y : α), Room k (A.deeper (envOfC qual (defScope st) s.heap.objs.size f cdv)) → pre y → ∀ C : Cfg, C.st = none →
      STs C (cxOf CX0 P w K mg base N qual (defScope st) f cdv A outer s H E).nox (defBody st) (slots0 N (args y)) { nx := fun _ => post y .none, rt := post y }) :
    FnOk P w K mg base CX0 (k + 1) f fd ps (SpD K args pre post) := by
  refine F.ok S (fun vs H Q E h => ?_) (fun cdv A outer s H vs Q E hr h => ?_)
  · obtain ⟨M, y, _, r, _⟩ := h
    rw [r.length, hl]
  · obtain ⟨M, y, hM, r, hy, q⟩ := h
    refine ⟨_, pss_c _, ?_⟩
    have lv := r.length
    have E0 : EnvOk K (Cfg.pl none M (fun a e => by cases e)) H (start N vs) (slots0 N (args y)) [] := by
      refine ⟨⟨[], ?_, List.nodup_nil, fun a h => h⟩, fun a h => absurd h (by simp), fun a h => absurd h (by simp), hM, fun a e => (by cases e), Bg.pl⟩
      unfold L2.start slots0
      rw [lv]
      exact slots_start r _
    refine hb cdv A outer s H E y hr hy (Cfg.pl none M (fun a e => by cases e)) rfl (start N vs) H [] E0 _ ⟨fun σ' H' O' sl' n E' st => q _ H' .none n (fun a o h => st.keep a o (fun z => by cases Cfg.pl_vol z) (by simp) h) .non, fun v H' d pd st r => q v H' d pd (fun a o h => st.keep a o (fun z => by cases Cfg.pl_vol z) (by simp) h) r, fun _ _ _ _ n => n.elim, fun _ _ _ _ n => n.elim⟩
/-- the same for a def that draws from the state, its first parameter -/
theorem fn_S {α : Type} {args : α → List PyData} {pre : α → Prop} {post : α → PyData → Prop} {x qual : Str} {st : Stmt} {f : Addr} {fd : FuncData} {N ps : List Str} {k : Nat} (F : Fun K x qual st f fd) (S : FnScope N ps (defScope st)) (hl : ∀ y, (args y).length + 1 = ps.length)
    (hb : ∀ (cdv : Value) (A : Around) (outer : List Env) (s : Shared) (H : Hp) (E : XK) (y : α) (a : Addr), Room k (A.deeper (envOfC qual (defScope st) s.heap.objs.size f cdv)) → pre y → ∀ C : Cfg, C.st = some a →
      STs C (cxOf CX0 P w K mg base N qual (defScope st) f cdv A outer s H E).nox (defBody st) (.r (.ref a) :: ((args y).map .d ++ List.replicate (N.length - ((args y).length + 1)) .u)) { nx := fun _ => post y .none, rt := post y }) :
    FnOk P w K mg base CX0 (k + 1) f fd ps (SpS K args pre post) := by
  refine F.ok S (fun vs H Q E h => ?_) (fun cdv A outer s H vs Q E hr h => ?_)
  · obtain ⟨M, a, vs', y, _, _, _, e, r, _⟩ := h
    rw [e, List.length_cons, r.length, hl]
  · obtain ⟨M, a, vs', y, ha, hM, hok, rfl, r, hy, q⟩ := h
    obtain ⟨xs, hl⟩ := hok.lst
    refine ⟨_, pss_c _, ?_⟩
    have lv := r.length
    have E0 : EnvOk K (Cfg.pl (some a) M (fun b e => by cases e; exact ha)) H (start N (.ref a :: vs')) (.r (.ref a) :: ((args y).map .d ++ List.replicate (N.length - ((args y).length + 1)) .u)) [] := by
      refine ⟨⟨[], ?_, List.nodup_nil, fun a h => h⟩, fun a h => absurd h (by simp), fun a h => absurd h (by simp), hM, fun b e => (by cases e; rw [cut_nil]; exact hok), Bg.pl⟩
      unfold L2.start
      rw [List.length_cons, lv]
      exact .cons (F := []) .r (slots_start r _)
    refine hb cdv A outer s H E y a hr hy (Cfg.pl (some a) M (fun b e => by cases e; exact ha)) rfl (start N (.ref a :: vs')) H [] E0 _ ⟨fun σ' H' O' sl' n E' st => q _ H' .none n (fun C e => ⟨fun b o ns h => st.keep b o (fun z => ns (.inl (e.trans (Cfg.pl_vol z)))) (by simp) h, fun b eb Ox h => st.ok b (e.symm.trans eb) Ox h, tabs_but hl (fun b o nb h => st.keep b o (fun z => nb (Option.some.inj (Cfg.pl_vol z)).symm) (by simp) h)⟩) .non,
      fun v H' d pd st r => q v H' d pd (fun C e => ⟨fun b o ns h => st.keep b o (fun z => ns (.inl (e.trans (Cfg.pl_vol z)))) (by simp) h, fun b eb Ox h => st.ok b (e.symm.trans eb) Ox h, tabs_but hl (fun b o nb h => st.keep b o (fun z => nb (Option.some.inj (Cfg.pl_vol z)).symm) (by simp) h)⟩) r, fun _ _ _ _ n => n.elim, fun _ _ _ _ n => n.elim⟩
end
end DL
/-! Raw blocks, cut by what is wanted between; the promise of a draw. -/
namespace DL
open PySem PySem.Spec PyProof.Rows L2
section
variable {X : Cx} {s : Stmt} {ss : List Stmt} {D : Ends} {σ : L2.St} {H : Hp} {t : TS}
theorem cSs_mid (Good : L2.St → Hp → Prop) (h : cS X s { D with nx := Good } σ H) (k : ∀ σ' H', Good σ' H' → cSs X ss D σ' H') : cSs X (s :: ss) D σ H :=
  ofSs (pss_cons (ps_c s) (pss_c ss)) (fun pins s0 I => thn (h pins s0 I) fun f s' q => by
    cases f with
    | next =>
      obtain ⟨σ', H', I', g⟩ := q
      exact ⟨σ', H', I', k σ' H' g⟩
    | brk => exact q
    | cont => exact q
    | ret v => exact q)
theorem cSs_cons (h : PS X s t) (k : t { D with nx := cSs X ss D } σ H) : cSs X (s :: ss) D σ H := ofSs (pss_cons h (pss_c ss)) k
theorem cSs_one (h : PS X s t) (k : t D σ H) : cSs X [s] D σ H := ofSs (pss_one h) k
theorem cSs_nil (k : D.nx σ H) : cSs X [] D σ H := ofSs pss_nil k
end
abbrev SpDraw (K : PySem.W.Frag) : Sp := SpS K (fun m : Int => [.int m]) (fun m => 0 < m ∧ m ≤ 1000000) (fun m d => ∃ j : Int, d = .int j ∧ 0 ≤ j ∧ j < m)
/-- the state's list -/
abbrev stL (x p : Int) (L : Addr) (z : Int) : HO := .lst [.int x, .int p, .ref L, .int z]
theorem st_tr {H : Hp} {a L : Addr} {x p z x' p' z' : Int} {ns : List Int} (h : H a = some (stL x p L z)) (hl : H L = some (.lst (ns.map V.int))) (b : 0 ≤ x' ∧ 0 ≤ p' ∧ 0 ≤ z' ∧ z' < 2147483647) {C : Cfg} (e : C.st = some a) : Tr C H (upd H a (stL x' p' L z')) := by
  refine ⟨fun c o n hc => ?_, fun c ec O hO => ?_, tabs_but h (fun b o nb q => by rw [upd_ne nb]; exact q)⟩
  · rw [upd_ne (fun q => n (.inl (by rw [e, q])))]; exact hc
  · obtain rfl : a = c := by rw [e] at ec; exact Option.some.inj ec
    obtain ⟨x1, p1, L1, z1, ns1, g1, g2, g3⟩ := hO
    have q1 := (cut_some g1).2
    rw [h] at q1
    injection q1 with q1
    injection q1 with q1
    injection q1 with _ q1
    injection q1 with _ q1
    injection q1 with q1 _
    injection q1 with q1
    subst q1
    have nL : L ≠ a := fun q => by
      rw [q, h] at hl
      injection hl with hl
      injection hl with hl
      cases ns with
      | nil => simp at hl
      | cons n1 ns =>
        cases ns with
        | nil => simp at hl
        | cons n2 ns =>
          cases ns with
          | nil => simp at hl
          | cons n3 ns => simp at hl
    refine ⟨x', p', L, z', ns1, ?_, ?_, b.1, b.2.1, b.2.2.1, b.2.2.2, g3.2.2.2.2⟩
    · rw [cut_out (cut_some g1).1, upd_same]
    · rw [cut_out (cut_some g2).1, upd_ne nL]; exact (cut_some g2).2
end DL
/-! Data without bools: equal exactly if the same; lists of ints, words. -/
namespace DL
open PySem PySem.Spec PyProof.Rows L2
mutual
/-- ints, texts, None, lists and tuples of them, at most so deep -/
def flat : Nat → PyData → Bool
  | _, .none => true
  | _, .int _ => true
  | _, .str x => PyData.strOk x
  | n + 1, .list xs => flats n xs
  | n + 1, .tuple xs => flats n xs
  | _, _ => false
def flats : Nat → List PyData → Bool
  | _, [] => true
  | n, x :: xs => flat n x && flats n xs
end
mutual
theorem flat_lay : ∀ (d : PyData) (n : Nat), flat n d = true → d.canLay0 = true ∧ d.depth ≤ n + 1
  | .none, n, _ => by simp [PyData.canLay0, PyData.depth]
  | .int _, n, _ => by simp [PyData.canLay0, PyData.depth]
  | .str x, n, h => by
    have h : PyData.strOk x = true := by cases n <;> simpa [flat] using h
    simp [PyData.canLay0, PyData.depth, h]
  | .bool _, n, h => by cases n <;> simp [flat] at h
  | .dict _, n, h => by cases n <;> simp [flat] at h
  | .list xs, 0, h => by simp [flat] at h
  | .tuple xs, 0, h => by simp [flat] at h
  | .list xs, n + 1, h => by
    have q := flats_lay xs n (by simpa [flat] using h)
    simp only [PyData.canLay0, PyData.depth]
    exact ⟨q.1, by omega⟩
  | .tuple xs, n + 1, h => by
    have q := flats_lay xs n (by simpa [flat] using h)
    simp only [PyData.canLay0, PyData.depth]
    exact ⟨q.1, by omega⟩
theorem flats_lay : ∀ (xs : List PyData) (n : Nat), flats n xs = true → PyData.canLayAll0 xs = true ∧ PyData.depthAll xs ≤ n + 1
  | [], n, _ => by simp [PyData.canLayAll0, PyData.depthAll]
  | x :: xs, n, h => by
    have h2 : flat n x = true ∧ flats n xs = true := by simpa [flats] using h
    have q1 := flat_lay x n h2.1
    have q2 := flats_lay xs n h2.2
    simp only [PyData.canLayAll0, PyData.depthAll, Bool.and_eq_true]
    exact ⟨⟨q1.1, q2.1⟩, by omega⟩
end
theorem flat_shaped {d : PyData} {n : Nat} (h : flat n d = true) (hn : n ≤ 60 := by decide) : SeqAt.shaped d = true := by
  have q := flat_lay d n h
  unfold SeqAt.shaped
  rw [q.1, Bool.true_and]
  exact decide_eq_true (by omega)
mutual
theorem eqv_flat : ∀ (d e : PyData) (n : Nat), flat n d = true → flat n e = true → (PyData.eqv d e = true ↔ d = e)
  | .none, e, n, _, h => by cases e <;> simp [PyData.eqv]
  | .int i, e, n, _, h => by cases e <;> cases n <;> simp [PyData.eqv, flat] at h ⊢
  | .str s, e, n, _, h => by cases e <;> simp [PyData.eqv]
  | .bool _, e, n, h, _ => by cases n <;> simp [flat] at h
  | .dict _, e, n, h, _ => by cases n <;> simp [flat] at h
  | .list xs, e, 0, h, _ => by simp [flat] at h
  | .tuple xs, e, 0, h, _ => by simp [flat] at h
  | .list xs, e, n + 1, h, h' => by
    cases e with
    | list ys =>
      have q := eqvs_flat xs ys n (by simpa [flat] using h) (by simpa [flat] using h')
      simp only [PyData.eqv, PyData.list.injEq]
      exact q
    | _ => simp [PyData.eqv]
  | .tuple xs, e, n + 1, h, h' => by
    cases e with
    | tuple ys =>
      have q := eqvs_flat xs ys n (by simpa [flat] using h) (by simpa [flat] using h')
      simp only [PyData.eqv, PyData.tuple.injEq]
      exact q
    | _ => simp [PyData.eqv]
theorem eqvs_flat : ∀ (xs ys : List PyData) (n : Nat), flats n xs = true → flats n ys = true → (PyData.eqvAll xs ys = true ↔ xs = ys)
  | [], [], _, _, _ => by simp [PyData.eqvAll]
  | [], _ :: _, _, _, _ => by simp [PyData.eqvAll]
  | _ :: _, [], _, _, _ => by simp [PyData.eqvAll]
  | x :: xs, y :: ys, n, h, h' => by
    have h1 : flat n x = true ∧ flats n xs = true := by simpa [flats] using h
    have h2 : flat n y = true ∧ flats n ys = true := by simpa [flats] using h'
    simp only [PyData.eqvAll, Bool.and_eq_true, List.cons.injEq]
    rw [eqv_flat x y n h1.1 h2.1, eqvs_flat xs ys n h1.2 h2.2]
end
theorem eqv_b {d e : PyData} {n : Nat} {b : Bool} (h : flat n d = true) (h' : flat n e = true) (hb : b = true ↔ d = e) : PyData.eqv d e = b := by
  have q := (eqv_flat d e n h h').trans hb.symm
  cases b <;> cases z : PyData.eqv d e <;> simp_all
theorem any_flat {ds : List PyData} {d : PyData} {n : Nat} (h : flats n ds = true) (hd : flat n d = true) : (ds.any fun z => PyData.eqv z d) = true ↔ d ∈ ds := by
  induction ds with
  | nil => simp
  | cons x ds ih =>
    have h2 : flat n x = true ∧ flats n ds = true := by simpa [flats] using h
    rw [List.any_cons, Bool.or_eq_true, ih h2.2, eqv_flat x d n h2.1 hd, List.mem_cons]
    exact ⟨fun h => h.elim (fun e => .inl e.symm) .inr, fun h => h.elim (fun e => .inl e.symm) .inr⟩
theorem flats_map {α : Type} {n : Nat} {g : α → PyData} : ∀ xs : List α, (∀ x ∈ xs, flat n (g x) = true) → flats n (xs.map g) = true
  | [], _ => by cases n <;> rfl
  | x :: xs, h => by
    rw [List.map_cons, flats, h x List.mem_cons_self, flats_map xs fun y hy => h y (List.mem_cons_of_mem _ hy)]
    rfl
theorem flat_int {n : Nat} {i : Int} : flat n (.int i) = true := by cases n <;> rfl
/-- a list of ints; a word -/
def li (ns : List Int) : PyData := .list (ns.map .int)
theorem flat_li (n : Nat) (ns : List Int) : flat (n + 1) (li ns) = true := by
  rw [li, flat]
  exact flats_map ns fun _ _ => flat_int
theorem li_inj {a b : List Int} (h : li a = li b) : a = b := by
  injection h with h
  exact (List.map_inj_right fun _ _ e => PyData.int.inj e).mp h
theorem li_at {ns : List Int} {m : Nat} (h : m < ns.length) : atI (ns.map PyData.int) (m : Int) = some (.int (ns.getD m 0)) := by
  refine atI_nat ?_
  rw [List.getElem?_map, List.getD_eq_getElem?_getD, List.getElem?_eq_getElem h]
  rfl
theorem cutL_to {α : Type} (xs : List α) (n : Nat) : cutL xs none (some (n : Int)) = xs.take n := by
  unfold cutL
  rw [HT.sIx_none, HT.sIx_nat, List.drop_zero, Nat.sub_zero]
  by_cases h : n ≤ xs.length
  · rw [Nat.min_eq_left h]
  · rw [Nat.min_eq_right (by omega), List.take_of_length_le (Nat.le_refl _), List.take_of_length_le (by omega)]
theorem cutL_from {α : Type} (xs : List α) (n : Nat) : cutL xs (some (n : Int)) none = xs.drop n := by
  unfold cutL
  rw [HT.sIx_none, HT.sIx_nat]
  by_cases h : n ≤ xs.length
  · rw [Nat.min_eq_left h, List.take_of_length_le (by rw [List.length_drop]; omega)]
  · rw [Nat.min_eq_right (by omega), List.drop_of_length_le (Nat.le_refl _), List.drop_of_length_le (by omega)]
    exact List.take_nil
theorem foldl_take {α β : Type} {f : β → α → β} {a : β} {xs : List α} {k : Nat} {x : α} (h : xs[k]? = some x) : (xs.take (k + 1)).foldl f a = f ((xs.take k).foldl f a) x := by
  rw [List.take_add_one, h, List.foldl_append]
  rfl
/-- from items of one form to a list of what they are made of -/
theorem choose_list {α : Type} {g : α → PyData} {Q : α → Prop} : ∀ out : List PyData, (∀ z ∈ out, ∃ w, z = g w ∧ Q w) → ∃ ws : List α, out = ws.map g ∧ ∀ w ∈ ws, Q w
  | [], _ => ⟨[], rfl, fun w h => absurd h (by simp)⟩
  | z :: zs, h => by
    obtain ⟨w, e, q⟩ := h z List.mem_cons_self
    obtain ⟨ws, e2, q2⟩ := choose_list zs fun y hy => h y (List.mem_cons_of_mem _ hy)
    exact ⟨w :: ws, by rw [e, e2]; rfl, fun x hx => by
      rcases List.mem_cons.mp hx with rfl | hx
      · exact q
      · exact q2 x hx⟩
/-- what a comprehension whose items are drawn gives -/
theorem drawn {α : Type} {g : α → PyData} {Q : α → Prop} {ds out : List PyData} (hl : out.length = ds.length) (h : ∀ (k : Nat) (y : PyData), ds[k]? = some y → ∃ z, out[k]? = some z ∧ ∃ w, z = g w ∧ Q w) : ∃ ws : List α, out = ws.map g ∧ ws.length = ds.length ∧ ∀ w ∈ ws, Q w := by
  obtain ⟨ws, e, q⟩ := choose_list (g := g) (Q := Q) out fun z hz => by
    obtain ⟨k, hk, e⟩ := List.getElem_of_mem hz
    obtain ⟨z', h1, h2⟩ := h k _ (List.getElem?_eq_getElem (by omega))
    rw [List.getElem?_eq_getElem hk, e] at h1
    injection h1 with h1
    rw [h1]; exact h2
  exact ⟨ws, e, by rw [← hl, e, List.length_map], q⟩
end DL
/-! A law: its first row makes the state; its promise. -/
namespace DL
open PySem PySem.Spec PyProof.Rows L2
open NdefX (NTab TabN TabsN)
section
variable {X : Cx} {ss : List Stmt}
/-- what a law promises: True, whatever the script -/
def spLaw (K : PySem.W.Frag) : Sp := fun vs H Q _ => ∃ (a : Addr) (ns : List Int), vs = [.ref a] ∧ SqL K H a (ns.map V.int) ∧ ns.length ≤ 63 ∧ ∀ H', Q (.bl true) H'
theorem law_openT {T : List NTab} {p1 q1 q2 q3 q4 q5 q6 q7 q8 : Pos} {j1 j2 j3 : Nat} {H : Hp} {a : Addr} {ns : List Int} {n : Nat} {Q : VK} (hN : X.N.Nodup) (h0 : X.N[0]? = some ("script" : Str)) (h1 : X.N[1]? = some ("state" : Str)) (hv : Vis X.env.scope "script") (hx : Loc X.env.scope "state") (hf : X.fn "state" = true ∨ X.env.scope.names.lookup ("state" : Str) = some .local)
    (hg : Gl X "list") (hm : X.mg "list" = none) (hT : TabsN T H) (hS : SqL X.K H a (ns.map V.int)) (hn : ns.length ≤ 63) (hQ : ∀ H', Q (.bl true) H')
    (hb : ∀ (p : Addr) (C : Cfg), C.st = some p → C.tb = T → STs C X ss (.u :: .r (.ref p) :: List.replicate n .u) { nx := fun _ => False, rt := fun d => d = .bool true })
    (hs : swapsWith (.List [.Constant (.int 0) j1 q1, .Constant (.int 0) j2 q2, .Call (.Name "list" q3) [.Name "script" q4] [] q5, .Constant (.int 1) j3 q6] q7) (some (.Name "state" p1)) q8.line X.env = pure false := by rfl) :
    cSs X (.Assign [.Name "state" p1] (.List [.Constant (.int 0) j1 q1, .Constant (.int 0) j2 q2, .Call (.Name "list" q3) [.Name "script" q4] [] q5, .Constant (.int 1) j3 q6] q7) q8 :: ss) { nx := fun _ H' => Q .non H', rt := Q } (some (.ref a) :: none :: List.replicate n none) H := by
  refine cSs_cons (ps_set (i := 1) hN h1 hx (pe_lst (pa_cons pe_int (pa_cons pe_int (pa_cons (pe_callTy call_list_of hg hm boot_list (pa_cons (pe_var h0 hv) pa_nil)) (pa_cons pe_int pa_nil))))) hs hf) ?_
  refine ⟨.ref a, rfl, a, _, rfl, .inl hS, fun l hl => ⟨by show 4 ≤ sizeLine; decide, fun p hp => ?_⟩⟩
  have hpl : l ≠ p := fun e => by rw [← e, upd_same] at hp; cases hp
  have g1 : upd (upd H l (.lst (ns.map V.int))) p (.lst [.int 0, .int 0, .ref l, .int 1]) p = some (.lst [.int 0, .int 0, .ref l, .int 1]) := upd_same
  have g2 : upd (upd H l (.lst (ns.map V.int))) p (.lst [.int 0, .int 0, .ref l, .int 1]) l = some (.lst (ns.map V.int)) := by rw [upd_ne hpl, upd_same]
  have gS : Same H (upd (upd H l (.lst (ns.map V.int))) p (.lst [.int 0, .int 0, .ref l, .int 1])) := fun b o e => by
    rw [upd_ne (fun z => ?_), upd_ne (ne_of_none e hl)]
    · exact e
    · rw [z] at e
      rw [upd_ne (Ne.symm hpl)] at hp
      rw [hp] at e
      cases e
  generalize upd (upd H l (.lst (ns.map V.int))) p (.lst [.int 0, .int 0, .ref l, .int 1]) = G at g1 g2 gS
  have gT := hT.ext gS
  have inM : ∀ b, (some p = some b ∨ ∃ q ∈ T, q.1 = b) → b ∈ p :: T.map (·.1) := fun b e => by
    rcases e with e | ⟨q, hq, e⟩
    · cases e; exact List.mem_cons_self
    · exact List.mem_cons_of_mem _ (List.mem_map.mpr ⟨q, hq, e⟩)
  refine hb p ⟨some p, T, [], [], p :: T.map (·.1), inM, fun q h => absurd h (by simp)⟩ rfl rfl _ G [] ⟨⟨[], ?_, List.nodup_nil, fun a h => h⟩, fun a h => absurd h (by simp), fun a h => absurd h (by simp), fun b h => ?_, fun b e => ?_, ⟨gT, fun q h => absurd h (by simp), fun q h => absurd h (by simp)⟩⟩ _ ⟨fun _ _ _ _ n => n.elim, fun v H' d pd st r => ?_, fun _ _ _ _ n => n.elim, fun _ _ _ _ n => n.elim⟩
  · exact .cons (F := []) .u (.cons (F := []) .r (slots_u _ _ n))
  · rcases List.mem_cons.mp h with h | h
    · rw [h, g1]; simp
    · obtain ⟨q, hq, e⟩ := List.mem_map.mp h
      obtain ⟨ps, e1, _⟩ := gT q hq
      rw [← e, e1]
      simp
  · cases e
    rw [cut_nil]
    exact ⟨0, 0, l, 1, ns, g1, g2, by decide, by decide, by decide, by decide, by omega⟩
  · have pd : d = .bool true := pd
    subst pd
    rw [r.bl_inv]
    exact hQ H'
theorem law_open {p1 q1 q2 q3 q4 q5 q6 q7 q8 : Pos} {j1 j2 j3 : Nat} {H : Hp} {a : Addr} {ns : List Int} {n : Nat} {Q : VK} (hN : X.N.Nodup) (h0 : X.N[0]? = some ("script" : Str)) (h1 : X.N[1]? = some ("state" : Str)) (hv : Vis X.env.scope "script") (hx : Loc X.env.scope "state") (hf : X.fn "state" = true ∨ X.env.scope.names.lookup ("state" : Str) = some .local)
    (hg : Gl X "list") (hm : X.mg "list" = none) (hS : SqL X.K H a (ns.map V.int)) (hn : ns.length ≤ 63) (hQ : ∀ H', Q (.bl true) H')
    (hb : ∀ (p : Addr) (C : Cfg), C.st = some p → STs C X ss (.u :: .r (.ref p) :: List.replicate n .u) { nx := fun _ => False, rt := fun d => d = .bool true })
    (hs : swapsWith (.List [.Constant (.int 0) j1 q1, .Constant (.int 0) j2 q2, .Call (.Name "list" q3) [.Name "script" q4] [] q5, .Constant (.int 1) j3 q6] q7) (some (.Name "state" p1)) q8.line X.env = pure false := by rfl) :
    cSs X (.Assign [.Name "state" p1] (.List [.Constant (.int 0) j1 q1, .Constant (.int 0) j2 q2, .Call (.Name "list" q3) [.Name "script" q4] [] q5, .Constant (.int 1) j3 q6] q7) q8 :: ss) { nx := fun _ H' => Q .non H', rt := Q } (some (.ref a) :: none :: List.replicate n none) H :=
  law_openT (T := []) hN h0 h1 hv hx hf hg hm (fun p h => absurd h (by simp)) hS hn hQ (fun p C h _ => hb p C h) hs
end
end DL
/-! More rules: slots forgotten, membership, index, dicts, comprehensions with a test, pop. -/
namespace DL
open PySem PySem.Spec PyProof.Rows L2
/-- the second knows no more than the first -/
def Wk : List Sl → List Sl → Prop
  | [], [] => True
  | s :: a, t :: b => (t = .u ∨ t = s) ∧ Wk a b
  | _, _ => False
theorem Wk.refl : ∀ a, Wk a a
  | [] => trivial
  | _ :: a => ⟨.inr rfl, Wk.refl a⟩
section
variable {K : PySem.W.Frag} {B H : Hp}
theorem Slots.wk : ∀ {σ : L2.St} {sl sl' : List Sl} {O : List Addr}, Slots K B H σ sl O → Wk sl sl' → O.Nodup → ∃ O', Slots K B H σ sl' O' ∧ O'.Nodup ∧ ∀ a ∈ O', a ∈ O := by
  intro σ sl sl' O h
  induction h generalizing sl' with
  | nil =>
    intro w n
    cases sl' with
    | nil => exact ⟨[], .nil, n, fun a h => h⟩
    | cons _ _ => exact w.elim
  | @cons o s F O σ sl a b ih =>
    intro w n
    cases sl' with
    | nil => exact w.elim
    | cons t sl' =>
      rw [List.nodup_append] at n
      obtain ⟨O', s', n', m'⟩ := ih w.2 n.2.1
      rcases w.1 with e | e
      · subst e
        exact ⟨[] ++ O', .cons .u s', by simpa using n', fun x hx => List.mem_append_right _ (m' x (by simpa using hx))⟩
      · subst e
        refine ⟨F ++ O', .cons a s', ?_, fun x hx => ?_⟩
        · rw [List.nodup_append]
          exact ⟨n.1, n', fun x hx y hy e => n.2.2 x hx y (m' y hy) e⟩
        · rcases List.mem_append.mp hx with hx | hx
          · exact List.mem_append_left _ hx
          · exact List.mem_append_right _ (m' x hx)
end
theorem EnvOk.wk {K : PySem.W.Frag} {C : Cfg} {H : Hp} {σ : L2.St} {sl sl' : List Sl} {O : List Addr} (E : EnvOk K C H σ sl O) (w : Wk sl sl') : EnvOk K C H σ sl' O := by
  obtain ⟨O1, s, n, m⟩ := E.slots
  obtain ⟨O2, s2, n2, m2⟩ := s.wk w n
  exact ⟨⟨O2, s2, n2, fun a h => m a (m2 a h)⟩, E.dj, E.to, E.tm, E.ok, E.bg⟩
section
variable {C : Cfg} {X : Cx} {e a b c : Expr} {es : List Expr} {sl sl' : List Sl} {P P' Pa Pb Pc : PyData → Prop} {pos p1 : Pos} {K : PySem.W.Frag} {H H' : Hp} {σ : L2.St} {O : List Addr} {i j : Int} {x : Str} {p : Ps} {ss : List Stmt}
theorem sts_wk (k : STs C X ss sl' p) (w : Wk sl sl') : STs C X ss sl p := fun σ H O E D f => k σ H O (E.wk w) D f
/-- a block's end, some slots forgotten -/
theorem sts_end (h : p.nx sl') (w : Wk sl sl' := by repeat (first | exact trivial | refine ⟨by first | exact .inr rfl | exact .inl rfl, ?_⟩)) : STs C X [] sl p := sts_wk (sts_nil h) w
theorem sts_contW (h : p.ct sl') (w : Wk sl sl' := by repeat (first | exact trivial | refine ⟨by first | exact .inr rfl | exact .inl rfl, ?_⟩)) : STs C X [.Continue pos] sl p := sts_wk (sts_continue h) w
theorem sts_breakW (h : p.bk sl') (w : Wk sl sl' := by repeat (first | exact trivial | refine ⟨by first | exact .inr rfl | exact .inl rfl, ?_⟩)) : STs C X [.Break pos] sl p := sts_wk (sts_break h) w
/-- a for whose slots are told by the turn's number -/
theorem sts_forX (n : Nat) {iter : Expr} {body : List Stmt} {ds : List PyData} (L : Nat → List Sl) (hc : X.calm = true) (hN : X.N.Nodup) (hi : IT C X (.Name x p1) iter sl (isL ds)) (h0 : Wk sl (L 0))
    (hb : ∀ k d, ds[k]? = some d → STs C X body ((L k).set n (.d d)) { p with nx := fun s => s = L (k + 1), ct := fun s => s = L (k + 1), bk := fun _ => False })
    (k : STs C X ss (L ds.length) p)
    (hx1 : X.N[n]? = some x := by rfl) (hx : Loc X.env.scope x := by first | exact .inl rfl | exact .inr rfl) (hf : X.fn x = true ∨ X.env.scope.names.lookup x = some .local := by first | exact .inl rfl | exact .inr rfl)
    (hp : PassesOwn (model X.prog X.w) X.A X.env X.xe := by exact PassesOwn.never) (hs : ∀ y, foldedSetIterable iter X.env y = pure y := by intro _; rfl) : STs C X (.For (.Name x p1) iter body [] pos :: ss) sl p :=
  sts_forL n (fun k s => (k = 0 ∧ s = sl) ∨ s = L k) hc hN hi (.inl ⟨rfl, rfl⟩) (fun k d sl' hd hI => by
    have key : STs C X body ((L k).set n (.d d)) { p with nx := fun s => (k + 1 = 0 ∧ s = sl) ∨ s = L (k + 1), ct := fun s => (k + 1 = 0 ∧ s = sl) ∨ s = L (k + 1), bk := fun _ => False } := (hb k d hd).imp (fun _ h => .inr h) (fun _ h => h) (fun _ h => h) (fun _ h => .inr h)
    rcases hI with ⟨rfl, rfl⟩ | rfl
    · refine sts_wk key ?_
      have : ∀ (s t : List Sl) (n : Nat) (v : Sl), Wk s t → Wk (s.set n v) (t.set n v) := by
        intro s
        induction s with
        | nil => intro t n v h; cases t with
          | nil => exact trivial
          | cons _ _ => exact h.elim
        | cons s0 s ih => intro t n v h; cases t with
          | nil => exact h.elim
          | cons t0 t => cases n with
            | zero => exact ⟨.inr rfl, h.2⟩
            | succ n => exact ⟨h.1, ih t n v h.2⟩
      exact this _ _ n _ h0
    · exact key) (fun sl' hI => by
    rcases hI with ⟨e, rfl⟩ | rfl
    · rw [e] at k
      exact sts_wk k h0
    · exact k) hx1 hx hf hp hs

theorem Wk.set : ∀ {s t : List Sl} (n : Nat) (v : Sl), Wk s t → Wk (s.set n v) (t.set n v)
  | [], [], _, _, _ => trivial
  | [], _ :: _, _, _, h => h.elim
  | _ :: _, [], _, _, h => h.elim
  | _ :: _, _ :: _, 0, _, h => ⟨.inr rfl, h.2⟩
  | _ :: _, _ :: _, n + 1, v, h => ⟨h.1, Wk.set n v h.2⟩
/-- a for with a word; some slots are forgotten at its start -/
theorem sts_forI (n : Nat) {iter : Expr} {body : List Stmt} {ds : List PyData} (Inv : Nat → List Sl → Prop) (s0 : List Sl) (hc : X.calm = true) (hN : X.N.Nodup) (hi : IT C X (.Name x p1) iter sl (isL ds)) (h0 : Inv 0 s0)
    (hb : ∀ k d sl', ds[k]? = some d → Inv k sl' → STs C X body (sl'.set n (.d d)) { p with nx := Inv (k + 1), ct := Inv (k + 1), bk := fun _ => False })
    (k : ∀ sl', Inv ds.length sl' → STs C X ss sl' p) (w : Wk sl s0 := by repeat (first | exact trivial | refine ⟨by first | exact .inr rfl | exact .inl rfl, ?_⟩))
    (hx1 : X.N[n]? = some x := by rfl) (hx : Loc X.env.scope x := by first | exact .inl rfl | exact .inr rfl) (hf : X.fn x = true ∨ X.env.scope.names.lookup x = some .local := by first | exact .inl rfl | exact .inr rfl)
    (hp : PassesOwn (model X.prog X.w) X.A X.env X.xe := by exact PassesOwn.never) (hs : ∀ y, foldedSetIterable iter X.env y = pure y := by intro _; rfl) : STs C X (.For (.Name x p1) iter body [] pos :: ss) sl p :=
  sts_forL n (fun k s => (k = 0 ∧ s = sl) ∨ Inv k s) hc hN hi (.inl ⟨rfl, rfl⟩) (fun k d sl' hd hI => by
    have im : ∀ {s}, STs C X body s { p with nx := Inv (k + 1), ct := Inv (k + 1), bk := fun _ => False } → STs C X body s { p with nx := fun s => (k + 1 = 0 ∧ s = sl) ∨ Inv (k + 1) s, ct := fun s => (k + 1 = 0 ∧ s = sl) ∨ Inv (k + 1) s, bk := fun _ => False } :=
      fun h => h.imp (fun _ h => .inr h) (fun _ h => h) (fun _ h => h) (fun _ h => .inr h)
    rcases hI with ⟨rfl, rfl⟩ | hI
    · exact im (sts_wk (hb 0 d s0 hd h0) (Wk.set n _ w))
    · exact im (hb k d sl' hd hI)) (fun sl' hI => by
    rcases hI with ⟨e, rfl⟩ | hI
    · rw [e] at k
      exact sts_wk (k s0 h0) w
    · exact k sl' hI) hx1 hx hf hp hs

/-! ### membership, index -/
def rInDT (K : PySem.W.Frag) : R2 := fun x y H Q => ∃ d ds, Dp K H x d ∧ Dp K H y (.tuple ds) ∧ SeqAt.shaped d = true ∧ SeqAt.shaped (.tuple ds) = true ∧ Q (.bl (ds.any fun z => PyData.eqv z d)) H
def rNotInDT (K : PySem.W.Frag) : R2 := fun x y H Q => ∃ d ds, Dp K H x d ∧ Dp K H y (.tuple ds) ∧ SeqAt.shaped d = true ∧ SeqAt.shaped (.tuple ds) = true ∧ Q (.bl (!ds.any fun z => PyData.eqv z d)) H
theorem op_inDT (hu : X.A.units + 65 < cLine) : OpR X (compareOp .In) (rInDT X.K) := by
  intro pins s σ H x y v u Q I rx ry h
  obtain ⟨d, ds, hd, he, sd, se, q⟩ := h
  obtain ⟨as, r1⟩ := Dp.reads I d x v hd rx
  obtain ⟨bs, r2⟩ := Dp.reads I (.tuple ds) y u he ry
  exact SeqAt.in_tuple_reads r2 r1 (SeqAt.canLay_of_shaped se) (SeqAt.canLay_of_shaped sd) (room_in_shaped sd hu) ⟨.bl _, H, I, rfl, q⟩
theorem op_notInDT (hu : X.A.units + 65 < cLine) : OpR X (compareOp .NotIn) (rNotInDT X.K) := by
  intro pins s σ H x y v u Q I rx ry h
  obtain ⟨d, ds, hd, he, sd, se, q⟩ := h
  obtain ⟨as, r1⟩ := Dp.reads I d x v hd rx
  obtain ⟨bs, r2⟩ := Dp.reads I (.tuple ds) y u he ry
  exact SeqAt.notIn_tuple_reads r2 r1 (SeqAt.canLay_of_shaped se) (SeqAt.canLay_of_shaped sd) (room_in_shaped sd hu) ⟨.bl _, H, I, rfl, q⟩
theorem lay_of {d : PyData} (s : SeqAt.shaped d = true) : d.canLay0 = true := by unfold SeqAt.shaped at s; exact (Bool.and_eq_true _ _ ▸ s).1
section
variable {d : PyData} {ds : List PyData} (hu : X.A.units + 65 < cLine) (ha : EV C X a sl (is d))
include hu ha
theorem et_inL (hb : EVB C X b sl (is (.list ds))) (s1 : SeqAt.shaped d = true) (s2 : SeqAt.shaped (.list ds) = true) (hm : behindInMarks .In b = false := by rfl) : EVT C X (.Compare a [.In] [b] pos) sl (isB (ds.any fun z => PyData.eqv z d)) :=
  et_cmp (op_inD hu) ha hb hm fun H x y dx dy px py rx ry => by
    have px : dx = d := px
    have py : dy = .list ds := py
    subst px py
    exact ⟨_, rfl, fun Q q => ⟨dx, ds, Rep.dp _ _ rx (lay_of s1), Rep.dp _ _ ry (lay_of s2), s1, s2, q⟩⟩
theorem et_notInL (hb : EVB C X b sl (is (.list ds))) (s1 : SeqAt.shaped d = true) (s2 : SeqAt.shaped (.list ds) = true) (hm : behindInMarks .NotIn b = false := by rfl) : EVT C X (.Compare a [.NotIn] [b] pos) sl (isB (!ds.any fun z => PyData.eqv z d)) :=
  et_cmp (op_notInD hu) ha hb hm fun H x y dx dy px py rx ry => by
    have px : dx = d := px
    have py : dy = .list ds := py
    subst px py
    exact ⟨_, rfl, fun Q q => ⟨dx, ds, Rep.dp _ _ rx (lay_of s1), Rep.dp _ _ ry (lay_of s2), s1, s2, q⟩⟩
theorem ev_inT (hb : EVB C X b sl (is (.tuple ds))) (s1 : SeqAt.shaped d = true) (s2 : SeqAt.shaped (.tuple ds) = true) (hm : behindInMarks .In b = false := by rfl) : EV C X (.Compare a [.In] [b] pos) sl (is (.bool (ds.any fun z => PyData.eqv z d))) :=
  (ev_cmp (T := isB (ds.any fun z => PyData.eqv z d)) (op_inDT hu) ha hb hm fun H x y dx dy px py rx ry => by
    have px : dx = d := px
    have py : dy = .tuple ds := py
    subst px py
    exact ⟨_, rfl, fun Q q => ⟨dx, ds, Rep.dp _ _ rx (lay_of s1), Rep.dp _ _ ry (lay_of s2), s1, s2, q⟩⟩).bool fun _ p => p
theorem et_inT (hb : EVB C X b sl (is (.tuple ds))) (s1 : SeqAt.shaped d = true) (s2 : SeqAt.shaped (.tuple ds) = true) (hm : behindInMarks .In b = false := by rfl) : EVT C X (.Compare a [.In] [b] pos) sl (isB (ds.any fun z => PyData.eqv z d)) :=
  et_cmp (op_inDT hu) ha hb hm fun H x y dx dy px py rx ry => by
    have px : dx = d := px
    have py : dy = .tuple ds := py
    subst px py
    exact ⟨_, rfl, fun Q q => ⟨dx, ds, Rep.dp _ _ rx (lay_of s1), Rep.dp _ _ ry (lay_of s2), s1, s2, q⟩⟩
theorem et_notInT (hb : EVB C X b sl (is (.tuple ds))) (s1 : SeqAt.shaped d = true) (s2 : SeqAt.shaped (.tuple ds) = true) (hm : behindInMarks .NotIn b = false := by rfl) : EVT C X (.Compare a [.NotIn] [b] pos) sl (isB (!ds.any fun z => PyData.eqv z d)) :=
  et_cmp (op_notInDT hu) ha hb hm fun H x y dx dy px py rx ry => by
    have px : dx = d := px
    have py : dy = .tuple ds := py
    subst px py
    exact ⟨_, rfl, fun Q q => ⟨dx, ds, Rep.dp _ _ rx (lay_of s1), Rep.dp _ _ ry (lay_of s2), s1, s2, q⟩⟩
end
/-- xs.index(e), xs a list that is not changed here -/
theorem ev_index {d z : PyData} {ds : List PyData} {k : Nat} {ap : Pos} (hu : X.A.units + 65 < cLine) (ha : EV C X a sl (is (.list ds))) (hb : EV C X b sl (is d)) (s1 : SeqAt.shaped d = true) (s2 : SeqAt.shaped (.list ds) = true) (hz : ds[k]? = some z) (h1 : PyData.eqv z d = true)
    (h2 : ∀ (m : Nat) (z' : PyData), m < k → ds[m]? = some z' → PyData.eqv z' d = false)
    (hbase : attributeBase a "index" X.env (eval a X.env) = eval a X.env := by rfl)
    (hfew : ((backTo p1 (starEach [b] X.env)).all (fun x => !x.1) && (backToKw p1 (keywordEach [] X.env)).all (fun x => x.1.isSome)
      && decide ([b].length + ([] : List Keyword).length + (if ([] : List Keyword).isEmpty then 0 else 1) < 30)) = true := by rfl)
    (hline : (ap.endLine == p1.line) = true := by rfl) (hst : starEach [b] X.env = (false, eval b X.env) :: starEach [] X.env := by rfl) (hplain : (backTo p1 (starEach [] X.env)).any (·.1) = false := by rfl) :
    EV C X (.Call (.Attribute a "index" ap) [b] [] p1) sl (is (.int (k : Nat))) := fun σ H O E Q q =>
  ofE (pe_bm PySem.F.plainAttrs_list PySem.F.slot_list_index PySem.F.type_list_index (mt_indexD hu) (pe_c a) (pa_cons (pe_c b) pa_nil hst) hbase hfew hline hst hplain) (ha σ H O E _ fun x H1 dx px t1 r1 => by
    have px : dx = .list ds := px
    subst px
    obtain ⟨l, vs, rfl, e1, q1⟩ := r1.lst_inv
    refine ⟨Or.inl ⟨rfl, _, SqL.of (cut_some e1).2⟩, hb σ H1 O (E.tr t1) _ fun y H2 dy py t2 r2 => ?_⟩
    have py : dy = d := py
    subst py
    have r1' : Rep X.K (cut (O ++ C.M) H2) (.ref l) (.list ds) := r1.mono (t2.cutS O)
    exact ⟨l, y, dy, ds, k, z, rfl, rfl, Rep.dp _ _ (r1'.mono (cut_le _ _)) (lay_of s2), Rep.dp _ _ (r2.mono (cut_le _ _)) (lay_of s1), s2, s1, hz, h1, h2, q _ H2 _ rfl (t1.trans t2) (.int _)⟩)

/-! ### tuple(range(n)) -/
theorem ev_tupR {p2 pos2 q2 : Pos} (hc : X.calm = true) (hm : X.mg "tuple" = none) (hm2 : X.mg "range" = none) (h : EV C X e sl (is (.int i))) (hz : RgOk 0 i) (hg : Gl X "tuple" := by rfl) (hg2 : Gl X "range" := by rfl)
    (he : starEach [e] X.env = (false, eval e X.env) :: starEach [] X.env := by rfl)
    (na : starEach [Expr.Call (.Name "range" p2) [e] [] pos2] X.env = (false, eval (Expr.Call (.Name "range" p2) [e] [] pos2) X.env) :: starEach [] X.env := by rfl) :
    EV C X (.Call (.Name "tuple" q2) [.Call (.Name "range" p2) [e] [] pos2] [] pos) sl (is (.tuple (rgD 0 i))) := fun σ H O E Q k =>
  ofE (pe_tupRg hc hg hm (prg_1 hg2 hm2 (pe_c e) he) na) (h σ H O E _ fun y H1 dy py t1 r1 => by
    have py : dy = .int i := py
    subst py
    have E1 := E.tr t1
    refine ⟨i, r1.int_inv, hz, fun q hq => k _ _ _ rfl (t1.trans (Tr.new hq)) (.obj ?_ (.tup (rg_reps 0 i)))⟩
    rw [cut_out (by intro z; exact (List.mem_append.mp z).elim (E1.fresh hq).1 (E1.fresh hq).2), upd_same])

/-! ### dicts whose keys are tuples -/
def valD {κ : Type} [DecidableEq κ] (kvs : List (κ × PyData)) (k : κ) : Option PyData := (kvs.find? fun kv => decide (kv.1 = k)).map (·.2)
def putD {κ : Type} [DecidableEq κ] (kvs : List (κ × PyData)) (k : κ) (v : PyData) : List (κ × PyData) :=
  if (kvs.any fun kv => decide (kv.1 = k)) = true then kvs.map (fun kv => if kv.1 = k then (kv.1, v) else kv) else kvs ++ [(k, v)]
theorem repT_len {B : Hp} : ∀ {kv : List (List Key × V)} {kvs : List (List Key × PyData)}, RepT K B kv kvs → kv.length = kvs.length
  | _, _, .nil => rfl
  | _, _, .cons _ r => by rw [List.length_cons, List.length_cons, repT_len r]
theorem repT_val {B : Hp} {k : List Key} {kv : List (List Key × V)} {kvs : List (List Key × PyData)} (r : RepT K B kv kvs) : (∀ d, valD kvs k = some d → ∃ v, valV kv k = some v ∧ Rep K B v d) ∧ (valV kv k).isSome = (valD kvs k).isSome := by
  induction kv generalizing kvs with
  | nil => cases r; exact ⟨fun d h => (by cases h), rfl⟩
  | cons q kv ih =>
    cases r with
    | @cons k' v _ d kvs a r =>
      obtain ⟨h1, h2⟩ := ih r
      unfold valD valV at *
      simp only [List.find?_cons]
      by_cases e : k' = k
      · simp only [e, decide_true]
        exact ⟨fun d' h => by simp at h; subst h; exact ⟨v, rfl, a⟩, rfl⟩
      · simp only [e, decide_false]
        exact ⟨h1, h2⟩
theorem repT_any {B : Hp} {k : List Key} : ∀ {kv : List (List Key × V)} {kvs : List (List Key × PyData)}, RepT K B kv kvs → (kv.any fun q => decide (q.1 = k)) = (kvs.any fun q => decide (q.1 = k))
  | _, _, .nil => rfl
  | _, _, .cons a r => by rw [List.any_cons, List.any_cons, repT_any r]
theorem repT_map {B : Hp} {k : List Key} {v : V} {d : PyData} (rv : Rep K B v d) : ∀ {kv : List (List Key × V)} {kvs : List (List Key × PyData)}, RepT K B kv kvs → RepT K B (kv.map fun q => if q.1 = k then (q.1, v) else q) (kvs.map fun q => if q.1 = k then (q.1, d) else q)
  | _, _, .nil => .nil
  | _, _, .cons (k := k') a r => by
    rw [List.map_cons, List.map_cons]
    by_cases e : k' = k
    · rw [if_pos e, if_pos e]; exact .cons rv (repT_map rv r)
    · rw [if_neg e, if_neg e]; exact .cons a (repT_map rv r)
theorem repT_snoc {B : Hp} {k : List Key} {v : V} {d : PyData} (rv : Rep K B v d) : ∀ {kv : List (List Key × V)} {kvs : List (List Key × PyData)}, RepT K B kv kvs → RepT K B (kv ++ [(k, v)]) (kvs ++ [(k, d)])
  | _, _, .nil => .cons rv .nil
  | _, _, .cons a r => .cons a (repT_snoc rv r)
theorem repT_put {B : Hp} {k : List Key} {v : V} {d : PyData} {kv : List (List Key × V)} {kvs : List (List Key × PyData)} (r : RepT K B kv kvs) (rv : Rep K B v d) : RepT K B (putK kv k v) (putD kvs k d) := by
  unfold putK putD
  rw [repT_any r]
  split
  · exact repT_map rv r
  · exact repT_snoc rv r
theorem keys_of {B : Hp} : ∀ {vs : List V} {k : List Key}, Reps K B vs (k.map keyD) → vs = k.map kV
  | _, [], h => by cases h; rfl
  | _, .inl n :: k, h => by
    cases h with
    | cons r t => rw [List.map_cons, keys_of t, r.int_inv]; rfl
  | _, .inr n :: k, h => by
    cases h with
    | cons r t => rw [List.map_cons, keys_of t, r.str_inv]; rfl
/-- d[k], the dict the def's own or not -/
theorem ev_dgetT {k : List Key} {d : PyData} {kvs : List (List Key × PyData)} (hu : X.A.units + 1 < cLine) (ha : EV C X a sl (is (dTD kvs))) (hb : EV C X b sl (is (.tuple (k.map keyD)))) (h : valD kvs k = some d) (hs : NoSl b := by exact fun _ _ => rfl) : EV C X (.Subscript a b pos) sl (is d) := fun σ H O E Q q =>
  ofE (pe_dget hu (pe_c a) (pe_c b) hs) (ha σ H O E _ fun x H1 dx px t1 r1 => hb σ H1 O (E.tr t1) _ fun y H2 dy py t2 r2 => by
    have px : dx = dTD kvs := px
    have py : dy = .tuple (k.map keyD) := py
    subst px py
    obtain ⟨l, kv, rfl, e1, q1⟩ := (r1.mono (t2.cutS O)).dT_inv
    obtain ⟨kb, vs, rfl, e2, q2⟩ := r2.tup_inv
    obtain ⟨v, h3, h4⟩ := (repT_val (k := k) q1).1 d h
    refine ⟨l, v, rfl, ?_, q v H2 d rfl (t1.trans t2) h4⟩
    have g := DGet.t (k := k) (cut_some e1).2 (by rw [← keys_of q2]; exact (cut_some e2).2)
    rw [h3] at g
    exact g)
theorem ev_dgetTO (n : Nat) {px : Pos} {k : List Key} {d : PyData} {kvs : List (List Key × PyData)} (hu : X.A.units + 1 < cLine) (hb : EV C X b sl (is (.tuple (k.map keyD)))) (h : valD kvs k = some d) (hs : sl[n]? = some (.own (dTD kvs)) := by rfl) (hN : X.N[n]? = some x := by rfl)
    (hv : Vis X.env.scope x := by first | exact Or.inl rfl | exact Or.inr (Or.inl rfl) | exact Or.inr (Or.inr rfl)) (hl : NoSl b := by exact fun _ _ => rfl)
    (hd : (x == ("__debug__" : Str)) = false := by decide) (hcd : (x == ("__classdict__" : Str)) = false := by decide) : EV C X (.Subscript (.Name x px) b pos) sl (is d) := fun σ H O E Q q => by
  obtain ⟨l, o, h1, h2, h3, h4⟩ := E.own hs
  obtain ⟨kv, rfl, q1⟩ := h3.dT_inv
  refine ofE (pe_dget hu (pe_var hN hv hd hcd) (pe_c b) hl) ⟨.ref l, h1, hb σ H O E _ fun y H2 dy py t2 r2 => ?_⟩
  have py : dy = .tuple (k.map keyD) := py
  subst py
  obtain ⟨kb, vs, rfl, e2, q2⟩ := r2.tup_inv
  obtain ⟨v, h3, h5⟩ := (repT_val (k := k) (q1.mono (t2.cutS O))).1 d h
  refine ⟨l, v, rfl, ?_, q v H2 d rfl t2 h5⟩
  have g := DGet.t (k := k) (t2.keep _ _ (E.notSt h4) h2) (by rw [← keys_of q2]; exact (cut_some e2).2)
  rw [h3] at g
  exact g
/-- k in d, d the def's own -/
theorem et_inDO (n : Nat) {px : Pos} {k : List Key} {kvs : List (List Key × PyData)} (hu : X.A.units + 1 < cLine) (hb : EV C X b sl (is (.tuple (k.map keyD)))) (hs : sl[n]? = some (.own (dTD kvs)) := by rfl) (hN : X.N[n]? = some x := by rfl)
    (hv : Vis X.env.scope x := by first | exact Or.inl rfl | exact Or.inr (Or.inl rfl) | exact Or.inr (Or.inr rfl)) (hm : behindInMarks .In (Expr.Name x px) = false := by rfl)
    (hd : (x == ("__debug__" : Str)) = false := by decide) (hcd : (x == ("__classdict__" : Str)) = false := by decide) : EVT C X (.Compare b [.In] [.Name x px] pos) sl (isB (valD kvs k).isSome) := fun σ H O E Q q =>
  ofT (pt_cmp (pc_din hu (pe_c b) (pe_var hN hv hd hcd)) hm) (hb σ H O E _ fun y H2 dy py t2 r2 => by
    obtain ⟨l, o, h1, h2, h3, h4⟩ := E.own hs
    obtain ⟨kv, rfl, q1⟩ := h3.dT_inv
    have py : dy = .tuple (k.map keyD) := py
    subst py
    obtain ⟨kb, vs, rfl, e2, q2⟩ := r2.tup_inv
    exact ⟨.ref l, h1, l, _, rfl, DGet.t (k := k) (t2.keep _ _ (E.notSt h4) h2) (by rw [← keys_of q2]; exact (cut_some e2).2), _, rfl, q _ H2 (repT_val (k := k) q1).2 t2⟩)
theorem et_notInDO (n : Nat) {px : Pos} {k : List Key} {kvs : List (List Key × PyData)} (hu : X.A.units + 1 < cLine) (hb : EV C X b sl (is (.tuple (k.map keyD)))) (hs : sl[n]? = some (.own (dTD kvs)) := by rfl) (hN : X.N[n]? = some x := by rfl)
    (hv : Vis X.env.scope x := by first | exact Or.inl rfl | exact Or.inr (Or.inl rfl) | exact Or.inr (Or.inr rfl)) (hm : behindInMarks .NotIn (Expr.Name x px) = false := by rfl)
    (hd : (x == ("__debug__" : Str)) = false := by decide) (hcd : (x == ("__classdict__" : Str)) = false := by decide) : EVT C X (.Compare b [.NotIn] [.Name x px] pos) sl (isB (!(valD kvs k).isSome)) := fun σ H O E Q q =>
  ofT (pt_cmp (pc_dnotin hu (pe_c b) (pe_var hN hv hd hcd)) hm) (hb σ H O E _ fun y H2 dy py t2 r2 => by
    obtain ⟨l, o, h1, h2, h3, h4⟩ := E.own hs
    obtain ⟨kv, rfl, q1⟩ := h3.dT_inv
    have py : dy = .tuple (k.map keyD) := py
    subst py
    obtain ⟨kb, vs, rfl, e2, q2⟩ := r2.tup_inv
    exact ⟨.ref l, h1, l, _, rfl, DGet.t (k := k) (t2.keep _ _ (E.notSt h4) h2) (by rw [← keys_of q2]; exact (cut_some e2).2), _, rfl, q _ H2 (by rw [(repT_val (k := k) q1).2]) t2⟩)
theorem en_dictT : EVN C X (.Dict [] [] pos) sl (is (dTD [])) := fun σ H O E Q q => ofE pe_dnewT (fun p hp => q p _ _ _ rfl (Tr.new hp) hp upd_same (.dT .nil))
theorem en_dictK : EVN C X (.Dict [] [] pos) sl (is (dKD [])) := fun σ H O E Q q => ofE pe_dnewK (fun p hp => q p _ _ _ rfl (Tr.new hp) hp upd_same (.dK .nil))
/-- d[k] = v, d the def's own -/
theorem sts_dputT (n : Nat) {v : Expr} {px pp : Pos} {k : List Key} {kvs : List (List Key × PyData)} (hu : X.A.units + 1 < cLine) (hv : EV C X v sl P) (hb : EV C X b sl (is (.tuple (k.map keyD)))) (hz : kvs.length < 1000000) (q : ∀ d, P d → STs C X ss (sl.set n (.own (dTD (putD kvs k d)))) p)
    (hs : sl[n]? = some (.own (dTD kvs)) := by rfl) (hN : X.N[n]? = some x := by rfl)
    (hvis : Vis X.env.scope x := by first | exact Or.inl rfl | exact Or.inr (Or.inl rfl) | exact Or.inr (Or.inr rfl)) (hsw : swapsWith v (some (.Subscript (.Name x px) b pp)) pos.line X.env = pure false := by rfl)
    (hd : (x == ("__debug__" : Str)) = false := by decide) (hcd : (x == ("__classdict__" : Str)) = false := by decide) : STs C X (.Assign [.Subscript (.Name x px) b pp] v pos :: ss) sl p := fun σ H O E D f => by
  refine ofSs (pss_cons (ps_dput hu (pe_var hN hvis hd hcd) (pe_c b) (pe_c v) hsw) (pss_c ss)) (hv σ H O E _ fun y H1 dv pv t1 r1 => ?_)
  have E1 := E.tr t1
  obtain ⟨l, o, h1, h2, h3, h4⟩ := E1.own hs
  obtain ⟨kv, rfl, q1⟩ := h3.dT_inv
  refine ⟨.ref l, h1, hb σ H1 O E1 _ fun ky H2 dk pk t2 r2 => ?_⟩
  have pk : dk = .tuple (k.map keyD) := pk
  subst pk
  have E2 := E1.tr t2
  obtain ⟨kb, vs, rfl, e2, q2⟩ := r2.tup_inv
  obtain ⟨E3, st⟩ := E2.mut (o := .dT (putK kv k y)) (y := dTD (putD kvs k dv)) hs h1 (.dT (repT_put (q1.mono (t2.cutS O)) (r1.mono (t2.cutS O))))
  refine ⟨l, _, rfl, DPut.t (k := k) (t2.keep _ _ (E1.notSt h4) h2) (by rw [← keys_of q2]; exact (cut_some e2).2) (by rw [repT_len q1]; exact Nat.lt_of_lt_of_le hz (by decide)), ?_⟩
  exact q dv pv σ _ O E3 D (f.step ((Step.tr E (t1.trans t2)).trans st))
end
end DL
/-! Comprehensions with a test; expressions that change a list of the def's own. -/
namespace DL
open PySem PySem.Spec PyProof.Rows L2
def cBlkT (X : Cx) (scope : Scope) (c : Expr) : TT := fun σ H Q => ∀ (s : Shared) (H0 : Hp) (L : Addr) (cl : List (Str × Addr)) (fp : List Addr), cT (X.blk s H0 scope (compEnvC scope cl L X.env) fp) c σ H Q
section
variable {C : Cfg} {X : Cx} {e a b c : Expr} {es : List Expr} {sl sl' : List Sl} {P P' Pa Pb Pc : PyData → Prop} {pos p1 : Pos} {K : PySem.W.Frag} {H H' : Hp} {σ : L2.St} {O : List Addr} {i j : Int} {x : Str} {p : Ps} {ss : List Stmt}
theorem pt_blk {scope : Scope} {c : Expr} (s : Shared) (H0 : Hp) (L : Addr) (cl : List (Str × Addr)) (fp : List Addr) : PT (X.blk s H0 scope (compEnvC scope cl L X.env) fp) c (cBlkT X scope c) := ⟨fun pins s1 σ H Q I h => h s H0 L cl fp pins s1 I⟩
/-- [elt for x in iter if c]: q tells what is kept, g what is made of it -/
theorem lc_readF {α : Type} {iter elt : Expr} {scope : Scope} {n : Nat} {xs : Str} {px : Pos} {ws : List α} {enc : α → PyData} (q : α → Bool) (g : α → PyData)
    (hi : IT C X (.Name xs px) iter sl (isL (ws.map enc))) (hT : ws.length ≤ 1000000)
    (hc : ∀ (s : Shared) (H : Hp) (L : Addr) (cl : List (Str × Addr)) (fp : List Addr) d, d ∈ ws → EVT C (X.blk s H scope (compEnvC scope cl L X.env) fp) c ((sl.set n .u).set n (.d (enc d))) (isB (q d)))
    (he : ∀ (s : Shared) (H : Hp) (L : Addr) (cl : List (Str × Addr)) (fp : List Addr) d, d ∈ ws → q d = true → EV C (X.blk s H scope (compEnvC scope cl L X.env) fp) elt ((sl.set n .u).set n (.d (enc d))) (is (g d))) :
    RdN C X (tLc (cI X (.Name xs px) iter) (gName n) (cBlkT X scope c) (cBlk X scope elt) [n]) sl (is (.list ((ws.filter q).map g))) := fun σ H O E Q k => by
  refine hi σ H O E _ fun J H1 ds' pT t1 w D hD => ?_
  have pT : ds' = ws.map enc := pT
  subst pT
  have hlen : (ws.map enc).length = ws.length := List.length_map _
  have E1 := E.tr t1
  have nst : ¬ C.vol D := fun e => (E1.fresh hD).2 (C.hst D e)
  refine ⟨fun i m H2 => m = ws.length - i ∧ i ≤ ws.length ∧ ∃ acc, H2 D = some (.lst acc) ∧ Reps X.K (cut (D :: (O ++ C.M)) H2) acc (((ws.take i).filter q).map g) ∧ Same (cut (O ++ C.M) H1) (cut (D :: (O ++ C.M)) H2) ∧ Tr C H1 H2,
    ⟨ws.length, by simp, Nat.zero_le _, [], upd_same, .nil, cut_same fun a o na h => ⟨fun z => ?_, ?_⟩, Tr.new hD⟩, ?_⟩
  · rcases List.mem_cons.mp z with rfl | z
    · rw [hD] at h; cases h
    · exact na z
  · rw [upd_ne (ne_of_none h hD)]; exact h
  rintro i m H2 ⟨rfl, hi2, acc, h1, h2, h5, h6⟩
  have E2 : EnvOk X.K C H2 σ sl (D :: O) := E1.within hD h1 h5 h6
  have hsame : Same (cut (O ++ C.M) H1) H2 := h5.trans (cut_le _ _)
  by_cases hlt : i < ws.length
  · refine .inr ⟨w.goes i H2 hsame (by rw [hlen]; exact hlt), fun H' => ∃ acc, H' D = some (.lst acc) ∧ Reps X.K (cut (D :: (O ++ C.M)) H') acc (((ws.take (i + 1)).filter q).map g) ∧ Same (cut (O ++ C.M) H1) (cut (D :: (O ++ C.M)) H') ∧ Tr C H1 H',
      fun H' ⟨acc', g1, g2, g5, g6⟩ => ⟨ws.length - (i + 1), by omega, rfl, hlt, acc', g1, g2, g5, g6⟩, fun v H3 yl => ?_⟩
    obtain ⟨d', hd', sm, rp⟩ := w.yields i H2 v H3 hsame (by rw [hlen]; exact hlt) yl
    rw [List.getElem?_map] at hd'
    obtain ⟨d, hd, rfl⟩ := Option.map_eq_some_iff.mp hd'
    have hmem : d ∈ ws := List.mem_of_getElem? hd
    have E3 := E2.tr (Tr.of sm)
    have rv : Rep X.K (cut ((D :: O) ++ C.M) H3) v (enc d) := rp _ (fun a h => by
      rcases List.mem_append.mp h with h | h
      · exact E2.to a h
      · exact E2.tm a h) h5
    have E4 := (E3.setU none n).setD rv n
    have etake : ((ws.take (i + 1)).filter q).map g = ((ws.take i).filter q).map g ++ (if q d = true then [g d] else []) := by
      rw [List.take_add_one, hd, List.filter_append, List.map_append]
      congr 1
      show ([d].filter q).map g = _
      by_cases hq : q d = true
      · rw [if_pos hq, List.filter_cons_of_pos hq]; rfl
      · rw [if_neg hq, List.filter_cons_of_neg (by simpa using hq)]; rfl
    refine ⟨?_, fun s H0 L cl fp => ?_⟩
    · show ((σ.set n none).set n (some v)).set n none = σ.set n none
      rw [List.set_set, List.set_set]
    · refine hc s H0 L cl fp d hmem ((σ.set n none).set n (some v)) H3 (D :: O) E4 _ fun tb H3' ptb t3 => ?_
      have ptb : tb = q d := ptb
      have hD3 : H3' D = some (.lst acc) := t3.keep D _ nst (sm _ _ h1)
      have c3 : Same (cut (D :: (O ++ C.M)) H2) (cut (D :: (O ++ C.M)) H3') := cut_same fun a o na h => ⟨na, t3.keep a o (fun e => na (List.mem_cons_of_mem _ (List.mem_append_right _ (C.hst a e)))) (sm a o h)⟩
      by_cases hq : q d = true
      · rw [ptb, if_pos hq]
        intro s H0 L cl fp
        refine he s H0 L cl fp d hmem hq ((σ.set n none).set n (some v)) H3' (D :: O) (E4.tr t3) _ fun y H4 z pz t4 r4 => ?_
        have pz : z = g d := pz
        subst pz
        have hD4 : H4 D = some (.lst acc) := t4.keep D _ nst hD3
        have c4 : Same (cut (D :: (O ++ C.M)) H2) (cut (D :: (O ++ C.M)) H4) := c3.trans (cut_same fun a o na h => ⟨na, t4.keep a o (fun e => na (List.mem_cons_of_mem _ (List.mem_append_right _ (C.hst a e)))) h⟩)
        have eD : cut (D :: (O ++ C.M)) (upd H4 D (.lst (acc ++ [y]))) = cut (D :: (O ++ C.M)) H4 := cut_upd List.mem_cons_self
        refine ⟨acc, hD4, ?_, acc ++ [y], upd_same, ?_, ?_, (h6.trans ((Tr.of sm).trans (t3.trans t4))).within hD hD4⟩
        · rw [h2.length, List.length_map]
          refine Nat.lt_of_le_of_lt (List.length_filter_le _ _) ?_
          rw [List.length_take]
          exact Nat.lt_of_le_of_lt (Nat.min_le_right _ _) (Nat.lt_of_le_of_lt hT (by decide))
        · rw [eD, etake, if_pos hq]; exact (h2.mono c4).append (.cons r4 .nil)
        · rw [eD]; exact h5.trans c4
      · have hq' : q d = false := by simpa using hq
        rw [ptb, if_neg hq]
        refine ⟨acc, hD3, ?_, h5.trans c3, h6.trans ((Tr.of sm).trans t3)⟩
        rw [etake, if_neg hq, List.append_nil]
        exact h2.mono c3
  · have ei : i = ws.length := by omega
    subst ei
    rw [List.take_length] at h2
    exact .inl ⟨(by rw [← hlen]; exact w.stops H2 hsame), k D _ H2 _ rfl (t1.trans h6) (t1.none hD nst) h1 (.lst h2)⟩
theorem en_lcF {iter elt : Expr} {scope : Scope} {n : Nat} {xs : Str} {px : Pos} (hc : X.calm = true) (hN : X.N.Nodup) (ok : LcOk X scope n xs) (h : RdN C X (tLc (cI X (.Name xs px) iter) (gName n) (cBlkT X scope c) (cBlk X scope elt) [n]) sl P)
    (hs : ∀ y, foldedSetIterable iter X.env y = pure y := by intro _; rfl) : EVN C X (.ListComp elt [⟨.Name xs px, iter, [c], 0⟩] scope pos) sl P := fun σ H O E Q k =>
  ofE (pe_lc (own := [(xs, n)]) hc hN (pi_c _ _) ok.ok (fun s H L cl fp => pg_name hN ok.ix (ok.loc s H L cl fp) (ok.st s H L cl fp)) (fun s H0 L cl fp => pts_one (pt_blk s H0 L cl fp)) (fun s H0 L cl fp => pe_blk s H0 L cl fp) hs) (h σ H O E Q k)

/-- tuple(xs), xs drawn -/
theorem ev_tupleLP {T : List PyData → Prop} {q1 : Pos} (hm : X.mg "tuple" = none) (h : EV C X e sl (fun d => ∃ ds, d = .list ds ∧ T ds)) (hg : Gl X "tuple" := by rfl) (he : starEach [e] X.env = (false, eval e X.env) :: starEach [] X.env := by rfl) :
    EV C X (.Call (.Name "tuple" q1) [e] [] pos) sl (fun d => ∃ ds, d = .tuple ds ∧ T ds) := fun σ H O E Q k =>
  ofE (pe_callTy call_tuple_of hg hm boot_tuple (pa_cons (pe_c e) pa_nil he) (by decide) (by decide) he (by rfl)) (h σ H O E _ fun y H1 dy py t1 r1 => by
    obtain ⟨ds, rfl, pt⟩ := py
    have E1 := E.tr t1
    obtain ⟨q, vs, rfl, h1, s1⟩ := r1.lst_inv
    refine ⟨q, vs, rfl, .inl ⟨SqL.of (cut_some h1).2, fun l hl => k _ _ _ ⟨ds, rfl, pt⟩ (t1.trans (Tr.new hl)) (.obj ?_ (.tup (s1.mono ((Tr.new (C := C) hl).cutS O))))⟩⟩
    rw [cut_out (by intro z; exact (List.mem_append.mp z).elim (E1.fresh hl).1 (E1.fresh hl).2), upd_same])
/-! ### expressions that change a list of the def's own -/
def EVM (C : Cfg) (X : Cx) (e : Expr) (sl : List Sl) (P : PyData → List Sl → Prop) : Prop :=
  ∀ (σ : L2.St) (H : Hp) (O : List Addr), EnvOk X.K C H σ sl O → ∀ Q : VK, (∀ v H' O' d sl', P d sl' → EnvOk X.K C H' σ sl' O' → Step C O H O' H' → Rep X.K (cut (O' ++ C.M) H') v d → Q v H') → cE X e σ H Q
/-- xs.pop(e), e drawn -/
theorem em_pop (n : Nat) {xs : List PyData} {px ap : Pos} (h : EV C X e sl (fun d => ∃ k : Nat, d = .int (k : Nat) ∧ k < xs.length)) (hz : xs.length ≤ 1000000) (hs : sl[n]? = some (.own (.list xs)) := by rfl) (hN : X.N[n]? = some x := by rfl)
    (hv : Vis X.env.scope x := by first | exact Or.inl rfl | exact Or.inr (Or.inl rfl) | exact Or.inr (Or.inr rfl)) (hd : (x == ("__debug__" : Str)) = false := by decide) (hcd : (x == ("__classdict__" : Str)) = false := by decide)
    (hbase : attributeBase (.Name x px) "pop" X.env (eval (.Name x px) X.env) = eval (.Name x px) X.env := by rfl)
    (hfew : ((backTo p1 (starEach [e] X.env)).all (fun x => !x.1) && (backToKw p1 (keywordEach [] X.env)).all (fun x => x.1.isSome)
      && decide ([e].length + ([] : List Keyword).length + (if ([] : List Keyword).isEmpty then 0 else 1) < 30)) = true := by rfl)
    (hline : (ap.endLine == p1.line) = true := by rfl) (hst : starEach [e] X.env = (false, eval e X.env) :: starEach [] X.env := by rfl) (hplain : (backTo p1 (starEach [] X.env)).any (·.1) = false := by rfl) :
    EVM C X (.Call (.Attribute (.Name x px) "pop" ap) [e] [] p1) sl (fun d sl' => ∃ k : Nat, xs[k]? = some d ∧ sl' = sl.set n (.own (.list (xs.eraseIdx k)))) := fun σ H O E Q q => by
  obtain ⟨l, o, h1, h2, h3, h4⟩ := E.own hs
  cases h3 with
  | @lst vs ds r =>
    refine ofE (pe_bm PySem.F.plainAttrs_list PySem.F.slot_list_pop PySem.F.type_list_pop mt_popAt (pe_var hN hv hd hcd) (pa_cons (pe_c e) pa_nil hst) hbase hfew hline hst hplain)
      ⟨.ref l, h1, Or.inl ⟨rfl, _, SqL.of h2⟩, h σ H O E _ fun v H1 d pd t1 r1 => ?_⟩
    obtain ⟨k, rfl, hk⟩ := pd
    have hdk : xs[k]? = some xs[k] := List.getElem?_eq_getElem hk
    obtain ⟨y, hy, ry⟩ := (r.mono (t1.cutS O)).get hdk
    have E1 := E.tr t1
    have rer : Reps X.K (cut (O ++ C.M) H1) (vs.eraseIdx k) (xs.eraseIdx k) := by
      have : ∀ {vs : List V} {ds : List PyData} (k : Nat), Reps X.K (cut (O ++ C.M) H1) vs ds → Reps X.K (cut (O ++ C.M) H1) (vs.eraseIdx k) (ds.eraseIdx k) := by
        intro vs
        induction vs with
        | nil => intro ds k r; cases r; exact .nil
        | cons v vs ih => intro ds k r; cases r with
          | cons r1 r2 => cases k with
            | zero => exact r2
            | succ k => exact .cons r1 (ih k r2)
      exact this k (r.mono (t1.cutS O))
    obtain ⟨E2, st⟩ := E1.mut (o := .lst (vs.eraseIdx k)) (y := .list (xs.eraseIdx k)) hs h1 (.lst rer)
    have hlen := r.length
    have hsq : seqIndex? (k : Int) vs.length = some k := (ixN_seq (by unfold ixN; rw [if_pos (by omega), if_pos (by omega), Int.toNat_natCast] : ixN vs.length (k : Int) = some k)).1
    refine ⟨l, vs, (k : Int), k, y, rfl, by rw [r1.int_inv], t1.keep _ _ (E.notSt h4) h2, by omega, by omega, hsq, hy, ?_⟩
    refine q y _ O _ _ ⟨k, hdk, rfl⟩ E2 ((Step.tr E t1).trans st) ?_
    rw [cut_upd (List.mem_append_left _ h4)]
    exact ry
/-- xs.append(e), e changing another list of the def's own -/
theorem sts_appendM (n : Nat) {P : PyData → List Sl → Prop} {px ap : Pos} {xs : List PyData} (h : EVM C X e sl P) (hz : xs.length < 1000000) (hn : ∀ d sl', P d sl' → sl'[n]? = some (.own (.list xs))) (k : ∀ d sl', P d sl' → STs C X ss (sl'.set n (.own (.list (xs ++ [d])))) p)
    (hs : sl[n]? = some (.own (.list xs)) := by rfl) (hN : X.N[n]? = some x := by rfl)
    (hv : Vis X.env.scope x := by first | exact Or.inl rfl | exact Or.inr (Or.inl rfl) | exact Or.inr (Or.inr rfl)) (hd : (x == ("__debug__" : Str)) = false := by decide) (hcd : (x == ("__classdict__" : Str)) = false := by decide)
    (hsw : swapsWith (.Call (.Attribute (.Name x px) "append" ap) [e] [] p1) none pos.line X.env = pure false := by rfl) (hbase : attributeBase (.Name x px) "append" X.env (eval (.Name x px) X.env) = eval (.Name x px) X.env := by rfl)
    (hfew : ((backTo p1 (starEach [e] X.env)).all (fun x => !x.1) && (backToKw p1 (keywordEach [] X.env)).all (fun x => x.1.isSome)
      && decide ([e].length + ([] : List Keyword).length + (if ([] : List Keyword).isEmpty then 0 else 1) < 30)) = true := by rfl)
    (hline : (ap.endLine == p1.line) = true := by rfl) (hst : starEach [e] X.env = (false, eval e X.env) :: starEach [] X.env := by rfl) (hplain : (backTo p1 (starEach [] X.env)).any (·.1) = false := by rfl) :
    STs C X (.Expr (.Call (.Attribute (.Name x px) "append" ap) [e] [] p1) pos :: ss) sl p := fun σ H O E D f => by
  obtain ⟨q, o, h1, h2, h3, h4⟩ := E.own hs
  cases h3 with
  | @lst vs ds r =>
    refine ofSs (pss_cons (ps_expr (pe_bm PySem.F.plainAttrs_list PySem.F.slot_list_append PySem.F.type_list_append mt_append (pe_var hN hv hd hcd) (pa_cons (pe_c e) pa_nil hst) hbase hfew hline hst hplain) hsw) (pss_c ss))
      ⟨.ref q, h1, Or.inl ⟨rfl, _, SqL.of h2⟩, h σ H O E _ fun v H1 O1 d sl' pd E1 st r1 => ?_⟩
    obtain ⟨q', o', g1, g2, g3, g4⟩ := E1.own (hn d sl' pd)
    rw [h1] at g1
    have eq : q = q' := by injection g1 with g1; injection g1 with g1; injection g1
    subst eq
    cases g3 with
    | @lst vs' ds' r' =>
      refine ⟨q, vs', v, rfl, rfl, g2, ?_, ?_⟩
      · rw [r'.length]; exact Nat.lt_of_lt_of_le hz (by decide)
      · obtain ⟨E2, st2⟩ := E1.mut (o := .lst (vs' ++ [v])) (y := .list (xs ++ [d])) (hn d sl' pd) h1 (.lst (r'.append (.cons r1 .nil)))
        exact k d sl' pd σ _ O1 E2 D (f.step (st.trans st2))
end
end DL
/-! while; the truth of a list; a list times an int; isinstance of an int or a bool. -/
namespace DL
open PySem PySem.Spec PyProof.Rows L2
section
variable {C : Cfg} {X : Cx} {e a b c : Expr} {ss : List Stmt} {sl : List Sl} {p : Ps} {pos q : Pos} {i j : Int}
theorem sts_while {m0 : Nat} {body : List Stmt} {Nb : List Sl → Prop} (Inv : Nat → List Sl → Prop) (h0 : Inv m0 sl)
    (hb : ∀ m sl', Inv m sl' → ∃ T : Bool → Prop, EVT C X c sl' T ∧ (T true → STs C X body sl' { p with nx := fun s => ∃ m', m' < m ∧ Inv m' s, ct := fun s => ∃ m', m' < m ∧ Inv m' s, bk := Nb }) ∧ (T false → STs C X ss sl' p))
    (kb : ∀ sl', Nb sl' → STs C X ss sl' p)
    (hp : PassesOwn (model X.prog X.w) X.A X.env X.xe := by exact PassesOwn.never) : STs C X (.While c body [] pos :: ss) sl p := fun σ H O E D f =>
  ofSs (pss_cons (ps_while hp (pt_c c) (pss_c body)) (pss_c ss)) (by
    refine ⟨fun m σ' H' => ∃ O' sl', Inv m sl' ∧ EnvOk X.K C H' σ' sl' O' ∧ Step C O H O' H', ⟨m0, O, sl, h0, E, Step.refl E⟩, ?_⟩
    rintro m σ2 H2 ⟨O2, sl2, hI, E2, st2⟩
    obtain ⟨T, hc, ht, hf⟩ := hb m sl2 hI
    refine hc σ2 H2 O2 E2 _ fun u H3 hu t3 => ?_
    have E3 := E2.tr t3
    have st3 : Step C O H O2 H3 := st2.trans (Step.tr E2 t3)
    cases u with
    | true =>
      rw [if_pos rfl]
      refine ⟨fun σ' H' => ∃ m', m' < m ∧ ∃ O' sl', Inv m' sl' ∧ EnvOk X.K C H' σ' sl' O' ∧ Step C O H O' H', fun σ' H' ⟨m', hm, h⟩ => ⟨m', hm, h⟩, ?_⟩
      exact ht hu σ2 H3 O2 E3 _ ⟨fun σ' H' O' sl' ⟨m', hm, n⟩ E' st => ⟨m', hm, O', sl', n, E', st3.trans st⟩, fun v H' d pd st r => f.rt v H' d pd (st3.trans st) r,
        fun σ' H' O' sl' n E' st => kb sl' n σ' H' O' E' D (f.step (st3.trans st)), fun σ' H' O' sl' ⟨m', hm, n⟩ E' st => ⟨m', hm, O', sl', n, E', st3.trans st⟩⟩
    | false =>
      rw [if_neg Bool.false_ne_true]
      exact hf hu σ2 H3 O2 E3 D (f.step st3))
/-- the truth of a list -/
theorem et_truL {ds : List PyData} (h : EVB C X e sl (is (.list ds))) (he : ∀ whole, isTrue e X.env whole = (do let v ← whole; standAt e.pos; holding [v] (truthy v)) := by intro _; rfl) : EVT C X e sl (isB (!ds.isEmpty)) := fun σ H O E Q k =>
  ofT (pt_truth (pe_c e) he) (h σ H O E _ fun v H1 d pd t1 r1 => by
    have pd : d = .list ds := pd
    subst pd
    obtain ⟨l, vs, rfl, h1, s1⟩ := r1.lst_inv
    refine ⟨!vs.isEmpty, .inl ⟨vs, SqL.of h1, rfl⟩, k _ H1 ?_ t1⟩
    have := s1.length
    cases vs <;> cases ds <;> simp_all [isB])
theorem et_truT {ds : List PyData} (h : EVB C X e sl (is (.tuple ds))) (he : ∀ whole, isTrue e X.env whole = (do let v ← whole; standAt e.pos; holding [v] (truthy v)) := by intro _; rfl) : EVT C X e sl (isB (!ds.isEmpty)) := fun σ H O E Q k =>
  ofT (pt_truth (pe_c e) he) (h σ H O E _ fun v H1 d pd t1 r1 => by
    have pd : d = .tuple ds := pd
    subst pd
    obtain ⟨l, vs, rfl, h1, s1⟩ := r1.tup_inv
    refine ⟨!vs.isEmpty, .inr (.inl ⟨vs, SqT.of h1, rfl⟩), k _ H1 ?_ t1⟩
    have := s1.length
    cases vs <;> cases ds <;> simp_all [isB])
theorem Reps.rep {K : PySem.W.Frag} {B : Hp} {vs : List V} {ds : List PyData} (r : Reps K B vs ds) : ∀ n, Reps K B (List.replicate n vs).flatten (List.replicate n ds).flatten
  | 0 => .nil
  | n + 1 => by
    rw [List.replicate_succ, List.replicate_succ, List.flatten_cons, List.flatten_cons]
    exact r.append (r.rep n)
/-- a list times a drawn int -/
theorem en_repP {P : Nat → Prop} {ds : List PyData} (ha : EV C X a sl (is (.list ds))) (hb : EV C X b sl (fun d => ∃ k : Nat, d = .int (k : Nat) ∧ k < 2 ^ 62 ∧ ds.length * k ≤ 1000000 ∧ P k)) : EVN C X (.BinOp a .Mult b pos) sl (fun d => ∃ k : Nat, d = .list (List.replicate k ds).flatten ∧ P k) := fun σ H O E Q k =>
  ofE (pe_op op_rep (pe_c a) (pe_c b)) (ha σ H O E _ fun x H1 dx px t1 r1 => hb σ H1 O (E.tr t1) _ fun y H2 dy py t2 r2 => by
    have px : dx = .list ds := px
    obtain ⟨n, rfl, h1, h2, h3⟩ := py
    subst px
    have E2 := (E.tr t1).tr t2
    obtain ⟨l, vs, rfl, g1, s1⟩ := (r1.mono (t2.cutS O)).lst_inv
    have hl := s1.length
    refine ⟨l, (n : Int), vs, rfl, r2.int_inv, (cut_some g1).2, by omega, by omega, ?_, fun l hl => ?_⟩
    · rw [hl, Int.toNat_natCast]
      exact Nat.le_trans h2 (by decide)
    · rw [Int.toNat_natCast]
      exact k l _ _ _ ⟨n, rfl, h3⟩ ((t1.trans t2).trans (Tr.new hl)) (t1.none (t2.none hl fun e => (E2.fresh hl).2 (C.hst l e)) fun e => (E2.fresh hl).2 (C.hst l e)) upd_same (obj_new E2 hl (.lst (s1.rep n))))
/-- isinstance(x, bool) -/
theorem boot_isi0 : bootBuiltins "isinstance" = some (.builtin "isinstance") := by decide +kernel
theorem ev_isi {d : PyData} {T : String} {r : Bool} {n : Str} {p2 : Pos} (hm : X.mg "isinstance" = none) (hm2 : X.mg n = none) (h : EV C X a sl (is d)) (hn : bootBuiltins n = some (.type T)) (ht : (∃ i, d = .int i ∧ kitB "int" T = some r) ∨ (∃ u, d = .bool u ∧ kitB "bool" T = some r) ∨ (d = .none ∧ kitB "NoneType" T = some r))
    (hg : Gl X "isinstance" := by rfl) (hg2 : Gl X n := by rfl) (hnn : n ≠ "__name__" := by decide) (hdb : (n == ("__debug__" : Str)) = false := by decide)
    (he : starEach [a, .Name n p2] X.env = (false, eval a X.env) :: starEach [.Name n p2] X.env := by rfl) (he2 : starEach [Expr.Name n p2] X.env = (false, eval (.Name n p2) X.env) :: starEach [] X.env := by rfl) (hpl : (backTo pos (starEach [.Name n p2] X.env)).any (·.1) = false := by rfl) :
    EV C X (.Call (.Name "isinstance" q) [a, .Name n p2] [] pos) sl (is (.bool r)) := fun σ H O E Q k =>
  ofE (pe_callB call_isi hg hm boot_isi0 (pa_cons (pe_c a) (pa_cons (pe_bltn hg2 hm2 hn (v := .ty T) rfl hnn hdb) pa_nil he2) he) (by decide) (by decide) he hpl) (h σ H O E _ fun y H1 dy py t1 r1 => by
    have py : dy = d := py
    subst py
    have fin : Q (.bl r) H1 := k _ H1 _ rfl t1 (.bl r)
    rcases ht with ⟨i, rfl, e⟩ | ⟨u, rfl, e⟩ | ⟨rfl, e⟩
    · exact ⟨y, .ty T, .type "int", .type T, r, rfl, .ty T, by rw [r1.int_inv]; exact .base (.int i), kit_ty e, fin⟩
    · exact ⟨y, .ty T, .type "bool", .type T, r, rfl, .ty T, by rw [r1.bl_inv]; exact .base (.bl u), kit_ty e, fin⟩
    · exact ⟨y, .ty T, .type "NoneType", .type T, r, rfl, .ty T, by rw [r1.non_inv]; exact .base .non, kit_ty e, fin⟩)
end
end DL
/-! enumerate of a tuple. -/
namespace DL
open PySem PySem.Spec PyProof.Rows L2
set_option maxHeartbeats 1000000 in
theorem meets_enumerate_new1 {v : Value} {o : Obj} {H : Heap → Prop} (B : Begins v o H) :
    Meets (Builtin.«enumerate.__new__» ⟨[.type "enumerate", v], []⟩) (fun _ R s => H s.heap ∧
      R (.ok (.ret (.ref (s.heap.push o).objs.size))) { s with heap := (s.heap.push o).push { cls := .type "enumerate", data := .fields #[.none, .bool false, .ref s.heap.objs.size, rawInt 0, .none, .none] } }) :=
  .of_wp fun prog w A R s h => by
    obtain ⟨hp, g, d, tk, os⟩ := s; obtain ⟨h1, h⟩ := h
    have hsub := sub_enumerate
    have q1 : ∀ {A' : Around} {E : Value → Shared → Prop} {Q : Value → Shared → Prop}, Q (.ref hp.objs.size) ⟨hp.push o, g, d, tk, os⟩ → wpAny (model prog w) A' (pyIter v) Q E ⟨hp, g, d, tk, os⟩ :=
      fun q => B.iter prog w _ _ ⟨hp, g, d, tk, os⟩ _ h1 q
    wp_walk using q1
    refine wpAny_stack_any fun st => wpAny_pure ?_
    split
    · rename_i c _ _ _ _ _
      cases (c == Value.type "enumerate")
      · wp_walk using q1
        exact ⟨_, rfl, h⟩
      · wp_walk using q1
        exact ⟨_, rfl, h⟩
    · wp_walk using q1
      exact ⟨_, rfl, h⟩
section
variable {prog : Program} {w : World} {A : Around} {E : Value → Shared → Prop} {s : Shared}
theorem call_enumerate_tup {l : Addr} {items : Array Value} {Q : Value → Shared → Prop} (hL : s.heap.IsTuple l items)
    (h : ∀ h', IsEnum h' (s.heap.objs.size + 1) s.heap.objs.size 0 .none → h'.IsTupleIter s.heap.objs.size l 0 → h'.objs.size = s.heap.objs.size + 2 →
      (∀ b o, s.heap.get? b = some o → h'.get? b = some o) → Q (.ref (s.heap.objs.size + 1)) { s with heap := h' }) :
    wpAny (model prog w) A (call (.type "enumerate") [.ref l]) Q E s := by
  refine callType_new F.called_enumerate (by decide) (F.typeCall_enumerate_1 _) (F.newCall_enumerate_1 _) (fun obj => F.args_object_init_2 obj _) F.entry_enumerate_new
    (meets_enumerate_new1 (begins_tuple l items)) ⟨hL, ?_⟩
  have hz : (s.heap.push { cls := .type "tuple_iterator", data := .fields #[.ref l, .int 0 0] }).objs.size = s.heap.objs.size + 1 := Heap.size_push ..
  show _ ∧ _
  rw [hz]
  have he : IsEnum ((s.heap.push { cls := .type "tuple_iterator", data := .fields #[.ref l, .int 0 0] }).push
      { cls := .type "enumerate", data := .fields #[.none, .bool false, .ref s.heap.objs.size, rawInt 0, .none, .none] }) (s.heap.objs.size + 1) s.heap.objs.size 0 .none := by
    have := Heap.get?_push_size (s.heap.push { cls := .type "tuple_iterator", data := .fields #[.ref l, .int 0 0] })
      (o := { cls := .type "enumerate", data := .fields #[.none, .bool false, .ref s.heap.objs.size, rawInt 0, .none, .none] }) rfl
    rw [hz] at this; exact this
  exact ⟨⟨_, he, rfl⟩, h _ he ⟨_, Heap.get?_push_of_some _ (Heap.get?_push_size _ rfl), rfl, rfl⟩ (by rw [Heap.size_push, hz]) fun b o x => Heap.get?_push_of_some _ (Heap.get?_push_of_some _ x)⟩
end
/-- the tuple at a, each item in a new pair -/
def IteT (K : PySem.W.Frag) (a : Addr) : It :=
  ⟨fun i H => ∃ (xs : List V) (x : V), SqT K H a xs ∧ xs[i]? = some x, fun i H v H' => ∃ T x, v = .ref T ∧ H T = none ∧ H' = upd H T (.tup [.int (i : Nat), x]) ∧ ∀ xs, SqT K H a xs → xs[i]? = some x, fun i H => ∃ xs : List V, SqT K H a xs ∧ xs.length ≤ i⟩
theorem turn_enumT {P : Program} {w : World} {K : PySem.W.Frag} {elts : List Expr} {kk : Nat} {tpos : Pos} (a e it : Addr) :
    Turn P w K (.Tuple elts kk tpos) (IteT K a) [e, it] e (fun i h => (∃ old, IsEnum h e it ((i : Nat) : Int) old) ∧ h.IsTupleIter it a i ∧ e ≠ it ∧ e ≠ a ∧ a ≠ it) where
  mem := by simp
  obj := fun i h st b hb => by
    obtain ⟨⟨old, he⟩, ⟨o, ho, hc, hd⟩, _⟩ := st
    have e' : b = e ∨ b = it := by simpa using hb
    rcases e' with z | z
    · rw [z]; exact ⟨_, he, fun v q => nomatch q⟩
    · rw [z]; exact ⟨o, ho, fun v q => by rw [hd] at q; cases q⟩
  keep := fun i h h' st k => let ⟨⟨old, he⟩, hi, hne⟩ := st; ⟨⟨old, k e (by simp) _ he⟩, hi.at fun o q => k it (by simp) o q, hne⟩
  item := by
    intro X hP hw hK hc i pins s σ H E I hf st hg
    subst hP hw hK
    obtain ⟨⟨old, he⟩, hit, hne, hea, hai⟩ := st
    obtain ⟨xs, x, hq, hx⟩ := hg
    obtain ⟨its, rv, p, hz⟩ := I.tuple hq
    obtain ⟨u, hu, ru⟩ := rv.get hx
    have hel : e < s.heap.objs.size := Heap.lt_size he
    have hil : it < s.heap.objs.size := by obtain ⟨_, q, _⟩ := hit; exact Heap.lt_size q
    have D := Draws.tuple (prog := X.prog) (w := X.w) (A := X.A.in1) (I.ok.hd hc) it a hai its.toArray
    have hi : i < its.toArray.size := by
      rw [List.size_toArray]
      exact (List.getElem?_eq_some_iff.mp hu).1
    refine wpAny_pyNext_enum_itemD D he ⟨hit, show s.heap.IsTuple a its.toArray from p⟩ hi hne (by simp [hne, hea]) fun y h' tk hP ho hst' hT hsz hk => ?_
    have ey : y = u := by
      have hP : its.toArray[i]? = some y := hP
      rw [List.getElem?_toArray, hu] at hP
      exact (Option.some.inj hP).symm
    subst ey
    refine ⟨_, rfl, wpAny_letOwnedTupleGo_enum (s := { s with heap := h', toks := tk + 1 }) ho fun h'' he' sb => ?_⟩
    have hT2 : h''.get? s.heap.objs.size = some { cls := .type "tuple", data := .seq #[.int i tk, y] } := (sb.2 _ (Nat.ne_of_gt hel)).trans hT
    have new : ObjOk X.prog X.w (upd H s.heap.objs.size (.tup [.int (i : Nat), x])) h'' s.heap.objs.size (.tup [.int (i : Nat), x]) :=
      ⟨by show 2 ≤ sizeLine; decide, [.int i tk, y], .cons ⟨_, rfl⟩ (.cons ru .nil), ⟨_, hT2, rfl, _, rfl⟩⟩
    have I1 : Inv X pins σ (upd H s.heap.objs.size (.tup [.int (i : Nat), x])) { s with heap := h'', toks := tk + 1 } :=
      I.turnedNew (ch := [e, it]) (fun b ob hb q => (sb.2 b (fun z => hb (by simp [z]))).trans (hk b ob (fun z => hb (by simp [z])) (fun z => hb (by simp [z])) q)) hf (Nat.le_refl _) new
    refine ⟨.ref s.heap.objs.size, _, I1, rfl, ⟨_, x, rfl, I.hok.fresh (Nat.le_refl _), rfl, fun ys hy => by rw [I.tuple_inj hy hq]; exact hx⟩, ⟨⟨y, ?_⟩, hst'.1.at fun o q => (sb.2 it (Ne.symm hne)).trans q, hne, hea, hai⟩, fun b hb => ?_⟩
    · have e1 : ((i + 1 : Nat) : Int) = (i : Int) + 1 := by omega
      rw [e1]; exact he'
    · have hb' : b < s.heap.objs.size := by
        have e' : b = e ∨ b = it := by simpa using hb
        rcases e' with z | z
        · rw [z]; exact hel
        · rw [z]; exact hil
      rw [upd_ne (Nat.ne_of_lt hb')]
      exact (hf b hb).1
  done := by
    intro X hP hw hK hc i pins s σ H E I hf st hg
    subst hP hw hK
    obtain ⟨⟨old, he⟩, hit, hne, hea, hai⟩ := st
    obtain ⟨xs, hq, hx⟩ := hg
    obtain ⟨its, rv, p, hz⟩ := I.tuple hq
    obtain ⟨f0, f1, f2, f3, f4, f5⟩ := hf it (by simp)
    have hl := rv.length
    have hT : s.TypeIs (.ref e) "enumerate" := ⟨_, he, rfl⟩
    have hend : its.toArray[i]? = none := by simp; omega
    unfold pyNext
    refine wpAny_bind (wpAny_attempt (wpAny_callSpecial?_slot (name := Str.ofString "__next__") hT F.slot_enumerate_next
      (wpAny_call_entry F.slot_enumerate_next hT F.entry_enumerate_next ?_ (F.args_enumerate_next_1 _))))
    show wpAny _ _ (field (.ref e) 2 >>= _) _ _ _
    refine wpAny_bind (wpAny_field he rfl (x := .ref it) rfl ?_)
    refine wpAny_bind (wpAny_nextOf_tuple_end (I.ok.hd hc) hit (show s.heap.IsTuple a its.toArray from p) hend fun h' x he' hx' => ?_)
    obtain ⟨o, ho, hcl⟩ := hx'
    refine wpAny_bind (wpAny_isInstance (T := "StopIteration") (b := true) ⟨o, ho, hcl⟩ isSubtype_stop ?_)
    exact wpAny_pure ⟨rfl, I.turned (t' := s.toks) (fun b o hb q => he' b o hb q) f0 f1 f3 f4 f5⟩
  self := fun A i s Q E st h => let ⟨⟨_, he⟩, _⟩ := st; wpAny_pyIter_enum he h
def iEnumT (K : PySem.W.Frag) (ta : TA) : TI := fun σ H R => ta σ H fun vs H1 => ∃ a xs, vs = [.ref a] ∧ SqT K H1 a xs ∧ R (IteT K a) H1
theorem pi_enumT {X : Cx} {e : Expr} {ta : TA} {p pos tpos : Pos} {elts : List Expr} {kk : Nat} (hg : Gl X "enumerate") (hm : X.mg "enumerate" = none) (ha : PA X [e] ta) (hs : starEach [e] X.env = [(false, eval e X.env)] := by rfl) :
    PI X (.Tuple elts kk tpos) (.Call (.Name "enumerate" p) [e] [] pos) (iEnumT X.K ta) := by
  refine ⟨fun pins s σ H R I h => ?_⟩
  refine Call_ (ld_blt I hg hm boot_enumerate (PyProof.Rows.callWith_type1 (thn (ha.run pos pins s σ H _ I h) fun us s1 ⟨vs, H1, I1, r1, q1⟩ => ?_) hs rfl))
  obtain ⟨a, xs, ex, hq, q⟩ := q1
  subst ex
  cases r1 with
  | cons r rr =>
    cases rr
    cases r
    obtain ⟨its, rv, p', hz⟩ := I1.tuple hq
    have hal : a < s1.heap.objs.size := by obtain ⟨_, q, _⟩ := p'; exact Heap.lt_size q
    refine call_enumerate_tup (show s1.heap.IsTuple a its.toArray from p') fun h' he hit hsz hk => wpAny_pyIter_enum he ?_
    have I2 : Inv X pins σ H1 { s1 with heap := h' } := I1.kept (t' := s1.toks) hk
    refine ⟨s1.heap.objs.size + 1, [s1.heap.objs.size + 1, s1.heap.objs.size], _, _, H1, rfl, I2, turn_enumT a (s1.heap.objs.size + 1) s1.heap.objs.size, ⟨⟨.none, he⟩, hit, Nat.succ_ne_self _, Nat.ne_of_gt (Nat.lt_succ_of_lt hal), Nat.ne_of_lt hal⟩, fun b hb => ?_, q⟩
    have e' : b = s1.heap.objs.size + 1 ∨ b = s1.heap.objs.size := by simpa using hb
    have hle : s1.heap.objs.size ≤ b := by
      rcases e' with z | z
      · rw [z]; exact Nat.le_add_right _ _
      · rw [z]; exact Nat.le_refl _
    exact I1.fpOk hle (I1.hok.fresh hle)
end DL
/-! enumerate and zip of tuples; sums and slices of tuples; comprehensions with any target, with two sources. -/
namespace DL
open PySem PySem.Spec PyProof.Rows L2
section
variable {C : Cfg} {X : Cx} {e a b c tg : Expr} {es : List Expr} {sl sl' : List Sl} {P P' Pa Pb Pc : PyData → Prop} {pos p p1 : Pos} {K : PySem.W.Frag} {H H' : Hp} {σ : L2.St} {O : List Addr} {i j : Int} {x : Str}
theorem it_enumT {elts : List Expr} {kk : Nat} {tpos : Pos} {ds : List PyData} (hm : X.mg "enumerate" = none) (h : EV C X a sl (is (.tuple ds))) (hg : Gl X "enumerate" := by rfl) (hs : starEach [a] X.env = [(false, eval a X.env)] := by rfl) :
    IT C X (.Tuple elts kk tpos) (.Call (.Name "enumerate" p) [a] [] pos) sl (isL (enumD ds)) := fun σ H O E R k =>
  ofI (pi_enumT hg hm (pa_cons (pe_c a) pa_nil hs) hs) (h σ H O E _ fun v H1 d p1 t1 r1 => by
    have p1 : d = .tuple ds := p1
    subst p1
    obtain ⟨q, vs, rfl, h1, s1⟩ := r1.tup_inv
    have h1 : SqT X.K (cut (O ++ C.M) H1) q vs := SqT.of h1
    have l := s1.length
    refine ⟨q, vs, rfl, sqT_mono (cut_le _ _) h1, k _ H1 _ rfl t1 ⟨fun i H2 s hi => ?_, fun H2 s => ?_, fun i H2 y H3 s hi z => ?_⟩⟩
    · rw [enumD_length] at hi
      exact ⟨vs, vs[i]'(by omega), sqT_mono s h1, by simp [l, hi]⟩
    · rw [enumD_length]
      exact ⟨vs, sqT_mono s h1, by omega⟩
    · obtain ⟨T, w, rfl, hT, rfl, z⟩ := z
      obtain ⟨d, g1, g2⟩ := s1.getV (z vs (sqT_mono s h1))
      refine ⟨_, enumD_get g1, same_new hT, fun M' nM e => .obj ?_ (.tup (.cons (.int _) (.cons (g2.mono ?_) .nil)))⟩
      · rw [cut_out (fun m => nM T m hT), upd_same]
      · exact e.trans (cut_same fun a o n h => ⟨n, same_new hT a o h⟩))
theorem it_zipT {elts : List Expr} {kk : Nat} {tpos : Pos} {ds es : List PyData} (hm : X.mg "zip" = none) (ha : EV C X a sl (is (.tuple ds))) (hb : EV C X b sl (is (.tuple es))) (hg : Gl X "zip" := by rfl)
    (hs : starEach [a, b] X.env = (false, eval a X.env) :: starEach [b] X.env := by rfl) (hs2 : starEach [b] X.env = (false, eval b X.env) :: starEach [] X.env := by rfl) (hpl : (backTo pos (starEach [b] X.env)).any (·.1) = false := by rfl) :
    IT C X (.Tuple elts kk tpos) (.Call (.Name "zip" p) [a, b] [] pos) sl (isL (zipD ds es)) := fun σ H O E R k =>
  ofI (RZ.pi_zipA hg hm (pa_cons (pe_c a) (pa_cons (pe_c b) pa_nil hs2) hs) hs hpl) (ha σ H O E _ fun v H1 d p1 t1 r1 => hb σ H1 O (E.tr t1) _ fun v2 H2 d2 p2 t2 r2 => by
    have p1 : d = .tuple ds := p1
    have p2 : d2 = .tuple es := p2
    subst p1 p2
    obtain ⟨q, vs, rfl, h1, s1⟩ := (r1.mono (t2.cutS O)).tup_inv
    obtain ⟨q2, ws, rfl, h2, s2⟩ := r2.tup_inv
    have h1 : SqT X.K (cut (O ++ C.M) H2) q vs := SqT.of h1
    have h2 : SqT X.K (cut (O ++ C.M) H2) q2 ws := SqT.of h2
    have l := s1.length
    have l2 := s2.length
    refine ⟨q, q2, vs, ws, rfl, .inr ⟨sqT_mono (cut_le _ _) h1, sqT_mono (cut_le _ _) h2, k _ H2 _ rfl (t1.trans t2) ⟨fun i G s hi => ?_, fun G s => ?_, fun i G y H3 s hi z => ?_⟩⟩⟩
    · rw [zipD_length] at hi
      exact ⟨vs, ws, vs[i]'(by omega), ws[i]'(by omega), sqT_mono s h1, sqT_mono s h2, by simp, by simp⟩
    · rw [zipD_length]
      exact ⟨vs, ws, sqT_mono s h1, sqT_mono s h2, by omega⟩
    · obtain ⟨T, w, w2, rfl, hT, rfl, z, z2⟩ := z
      obtain ⟨d, g1, g2⟩ := s1.getV (z vs (sqT_mono s h1))
      obtain ⟨d2, f1, f2⟩ := s2.getV (z2 ws (sqT_mono s h2))
      have up : ∀ M', Same (cut (O ++ C.M) H2) (cut M' G) → Same (cut (O ++ C.M) H2) (cut M' (upd G T (.tup [w, w2]))) := fun M' e => e.trans (cut_same fun a o n h => ⟨n, same_new hT a o h⟩)
      refine ⟨_, zipD_get g1 f1, same_new hT, fun M' nM e => .obj ?_ (.tup (.cons (g2.mono (up M' e)) (.cons (f2.mono (up M' e)) .nil)))⟩
      rw [cut_out (fun m => nM T m hT), upd_same])
/-- tuple + tuple -/
theorem ev_catTA {xs ys : List PyData} (ha : EV C X a sl (is (.tuple xs))) (hb : EV C X b sl (is (.tuple ys))) (hz : xs.length + ys.length ≤ 1000000) : EV C X (.BinOp a .Add b pos) sl (is (.tuple (xs ++ ys))) := fun σ H O E Q k =>
  ofE (pe_op op_catA (pe_c a) (pe_c b)) (ha σ H O E _ fun x H1 dx px t1 r1 => hb σ H1 O (E.tr t1) _ fun y H2 dy py t2 r2 => by
    have px : dx = .tuple xs := px
    have py : dy = .tuple ys := py
    subst px py
    have r1' := r1.mono (t2.cutS O)
    have E2 := (E.tr t1).tr t2
    obtain ⟨q, vs, e1, h1, s1⟩ := r1'.tup_inv
    obtain ⟨q2, ws, e2, h2, s2⟩ := r2.tup_inv
    have l1 := s1.length
    have l2 := s2.length
    refine ⟨q, q2, vs, ws, e1, e2, SqT.of (cut_some h1).2, SqT.of (cut_some h2).2, Nat.le_trans (by omega) (show 1000000 ≤ sizeLine by decide), fun z => ?_, fun z z2 => ?_, fun z z2 l hl => ?_⟩
    · subst z
      cases s1
      rw [← e2]
      exact k _ H2 _ rfl (t1.trans t2) r2
    · subst z2
      cases s2
      rw [← e1]
      exact k _ H2 _ (by rw [List.append_nil]) (t1.trans t2) r1'
    · refine k _ _ _ rfl ((t1.trans t2).trans (Tr.new hl)) (.obj ?_ (.tup ((s1.append s2).mono ((Tr.new (C := C) hl).cutS O))))
      rw [cut_out (by intro z; exact (List.mem_append.mp z).elim (E2.fresh hl).1 (E2.fresh hl).2), upd_same])
/-- a slice of a tuple -/
theorem ev_sliceT {lo hi : Option Expr} {l u : Option Int} {p2 : Pos} {ds : List PyData} (ha : EV C X a sl (is (.tuple ds))) (hl : EVO C X lo sl l) (hh : EVO C X hi sl u) : EV C X (.Subscript a (.Slice lo hi none p2) pos) sl (is (.tuple (cutL ds l u))) := fun σ H O E Q k =>
  ofE (pe_slice sl_tupA (pe_c a) (po_c lo) (po_c hi)) (ha σ H O E _ fun x H1 dx px t1 r1 => by
    have px : dx = .tuple ds := px
    subst px
    refine hl σ H1 O (E.tr t1) _ fun H2 t2 => hh σ H2 O ((E.tr t1).tr t2) _ fun H3 t3 => ?_
    have E3 := ((E.tr t1).tr t2).tr t3
    have r1' := r1.mono ((t2.trans t3).cutS O)
    obtain ⟨q, vs, e1, h1, s1⟩ := r1'.tup_inv
    have tt := (t1.trans t2).trans t3
    have lv := s1.length
    refine ⟨q, vs, e1, SqT.of (cut_some h1).2, fun z => ?_, fun z p hp => ?_⟩
    · refine k _ H3 _ ?_ tt (e1 ▸ r1')
      rw [lv] at z
      show PyData.tuple ds = _
      unfold cutL
      rw [z.1, z.2, Nat.sub_zero, List.drop_zero, List.take_length]
    · refine k _ _ _ rfl (tt.trans (Tr.new hp)) (.obj ?_ (.tup ((cut_rep s1 l u).mono ((Tr.new (C := C) hp).cutS O))))
      rw [cut_out (by intro z; exact (List.mem_append.mp z).elim (E3.fresh hp).1 (E3.fresh hp).2), upd_same])
end
end DL
/-! Comprehensions with any target, with a test, with two sources. -/
namespace DL
open PySem PySem.Spec PyProof.Rows L2
/-! ### forgotten slots -/
theorem wipe_get (σ : L2.St) (i : Nat) : ∀ vs : List Nat, (wipe σ vs)[i]? = if i ∈ vs then (σ[i]?).map (fun _ => none) else σ[i]?
  | [] => by simp [wipe]
  | v :: vs => by
    unfold wipe
    have ih := wipe_get σ i vs
    by_cases e : v = i
    · subst e
      rw [if_pos List.mem_cons_self]
      by_cases h : v < (wipe σ vs).length
      · rw [List.getElem?_set_self h]
        rw [wipe_length] at h
        rw [List.getElem?_eq_getElem h]
        rfl
      · rw [List.getElem?_eq_none (by rw [List.length_set]; omega)]
        rw [wipe_length] at h
        rw [List.getElem?_eq_none (by omega)]
        rfl
    · rw [List.getElem?_set_ne e, ih]
      by_cases m : i ∈ vs
      · rw [if_pos m, if_pos (List.mem_cons_of_mem _ m)]
      · rw [if_neg m, if_neg (by simp [m, Ne.symm e])]
theorem wipe_set {σ : L2.St} {vs : List Nat} {n : Nat} {x : Option V} (h : n ∈ vs) : wipe (σ.set n x) vs = wipe σ vs := by
  refine List.ext_getElem? fun i => ?_
  rw [wipe_get, wipe_get]
  by_cases m : i ∈ vs
  · rw [if_pos m, if_pos m]
    by_cases e : n = i
    · subst e
      by_cases hl : n < σ.length
      · rw [List.getElem?_set_self hl, List.getElem?_eq_getElem hl]; rfl
      · rw [List.getElem?_eq_none (by rw [List.length_set]; omega), List.getElem?_eq_none (by omega)]
    · rw [List.getElem?_set_ne e]
  · rw [if_neg m, if_neg m, List.getElem?_set_ne (fun e => m (by rw [← e]; exact h))]
theorem wipe_wipe {σ : L2.St} {vs : List Nat} : wipe (wipe σ vs) vs = wipe σ vs := by
  refine List.ext_getElem? fun i => ?_
  rw [wipe_get, wipe_get]
  by_cases m : i ∈ vs
  · rw [if_pos m, if_pos m]
    cases σ[i]? <;> rfl
  · rw [if_neg m, if_neg m]
def wipeS (sl : List Sl) : List Nat → List Sl
  | [] => sl
  | v :: vs => (wipeS sl vs).set v .u
theorem EnvOk.wipe {K : PySem.W.Frag} {C : Cfg} {H : Hp} {σ : L2.St} {sl : List Sl} {O : List Addr} (E : EnvOk K C H σ sl O) : ∀ vs : List Nat, EnvOk K C H (wipe σ vs) (wipeS sl vs) O
  | [] => E
  | v :: vs => (E.wipe vs).setU none v
/-! ### targets -/
/-- d, stored by g: the slots are then sl2, but for those of vs all are as they were; so in every later heap -/
def TgOk (K : PySem.W.Frag) (C : Cfg) (g : TG) (vs : List Nat) (sl : List Sl) (d : PyData) (sl2 : List Sl) : Prop :=
  ∀ (σ : L2.St) (H : Hp) (O : List Addr) (v : V), EnvOk K C H σ sl O → Rep K (cut (O ++ C.M) H) v d → ∀ Q : L2.St → Hp → Prop,
    (∀ σ2, (∀ H' O', Same (cut (O ++ C.M) H) (cut (O' ++ C.M) H') → EnvOk K C H' σ sl O' → EnvOk K C H' σ2 sl2 O') → L2.wipe σ2 vs = L2.wipe σ vs → Q σ2 H) → g v σ H Q
section
variable {K : PySem.W.Frag} {C : Cfg} {sl sl2 sl3 : List Sl} {vs : List Nat} {d d1 d2 : PyData}
theorem tg_name (n : Nat) (h : n ∈ vs := by simp) : TgOk K C (gName n) vs sl d (sl.set n (.d d)) := fun σ H O v E r Q k => k _ (fun H' O' sm E' => E'.setD (r.mono sm) n) (wipe_set h)
theorem tg_pair {g1 g2 : TG} (h1 : TgOk K C g1 vs sl d1 sl2) (h2 : TgOk K C g2 vs sl2 d2 sl3) : TgOk K C (gTup K 2 (gCons g1 (gCons g2 gNil))) vs sl (.tuple [d1, d2]) sl3 := fun σ H O v E r Q k => by
  obtain ⟨a, xs, rfl, e, s⟩ := r.tup_inv
  cases s with
  | cons r1 s =>
    cases s with
    | cons r2 s =>
      cases s
      exact ⟨a, _, rfl, SqT.of (cut_some e).2, rfl, _, _, rfl, h1 σ H O _ E r1 _ fun σ2 E2 w2 => ⟨_, _, rfl, h2 σ2 H O _ (E2 H O (Same.refl _) E) r2 _ fun σ3 E3 w3 => ⟨rfl, k σ3 (fun H' O' sm E' => E3 H' O' sm (E2 H' O' sm E')) (w3.trans w2)⟩⟩⟩
theorem tg_three {g1 g2 g3 : TG} {d3 : PyData} {sl4 : List Sl} (h1 : TgOk K C g1 vs sl d1 sl2) (h2 : TgOk K C g2 vs sl2 d2 sl3) (h3 : TgOk K C g3 vs sl3 d3 sl4) : TgOk K C (gTup K 3 (gCons g1 (gCons g2 (gCons g3 gNil)))) vs sl (.tuple [d1, d2, d3]) sl4 := fun σ H O v E r Q k => by
  obtain ⟨a, xs, rfl, e, s⟩ := r.tup_inv
  cases s with
  | cons r1 s =>
    cases s with
    | cons r2 s =>
      cases s with
      | cons r3 s =>
        cases s
        exact ⟨a, _, rfl, SqT.of (cut_some e).2, rfl, _, _, rfl, h1 σ H O _ E r1 _ fun σ2 E2 w2 => ⟨_, _, rfl, h2 σ2 H O _ (E2 H O (Same.refl _) E) r2 _ fun σ3 E3 w3 => ⟨_, _, rfl, h3 σ3 H O _ (E3 H O (Same.refl _) (E2 H O (Same.refl _) E)) r3 _ fun σ4 E4 w4 => ⟨rfl, k σ4 (fun H' O' sm E' => E4 H' O' sm (E3 H' O' sm (E2 H' O' sm E'))) (w4.trans (w3.trans w2))⟩⟩⟩⟩
end
/-- a test's reading in all blocks -/
def TestOk (K : PySem.W.Frag) (C : Cfg) (tt : TT) (sl : List Sl) (b : Bool) : Prop :=
  ∀ (σ : L2.St) (H : Hp) (O : List Addr), EnvOk K C H σ sl O → ∀ Q : Bool → Hp → Prop, (∀ H', Tr C H H' → Q b H') → tt σ H Q
section
variable {C : Cfg} {X : Cx} {e a b c tg : Expr} {es : List Expr} {sl sl' : List Sl} {P P' Pa Pb Pc : PyData → Prop} {pos p p1 : Pos} {K : PySem.W.Frag} {H H' : Hp} {σ : L2.St} {O : List Addr} {i j : Int} {x : Str}
theorem test_yes : TestOk K C tYes sl true := fun σ H O E Q k => k H (Tr.refl H)
theorem test_if {scope : Scope} {b : Bool} (h : ∀ (s : Shared) (H : Hp) (L : Addr) (cl : List (Str × Addr)) (fp : List Addr), EVT C (X.blk s H scope (compEnvC scope cl L X.env) fp) c sl (isB b)) : TestOk X.K C (cBlkT X scope c) sl b := fun σ H O E Q k s H0 L cl fp =>
  h s H0 L cl fp σ H O E Q fun u H' pu t => by
    have pu : u = b := pu
    subst pu
    exact k H' t
/-- an element's reading in all blocks -/
def EltOk (K : PySem.W.Frag) (C : Cfg) (te : TE) (sl : List Sl) (d : PyData) : Prop :=
  ∀ (σ : L2.St) (H : Hp) (O : List Addr), EnvOk K C H σ sl O → ∀ Q : VK, (∀ v H', Tr C H H' → Rep K (cut (O ++ C.M) H') v d → Q v H') → te σ H Q
theorem elt_of {scope : Scope} {d : PyData} (h : ∀ (s : Shared) (H : Hp) (L : Addr) (cl : List (Str × Addr)) (fp : List Addr), EV C (X.blk s H scope (compEnvC scope cl L X.env) fp) e sl (is d)) : EltOk X.K C (cBlk X scope e) sl d := fun σ H O E Q k s H0 L cl fp =>
  h s H0 L cl fp σ H O E Q fun v H' z pz t r => by
    have pz : z = d := pz
    subst pz
    exact k v H' t r
/-- [elt for tg in iter if c], the items known -/
theorem lc_gen {α : Type} {iter : Expr} {g : TG} {tt : TT} {te : TE} {vs : List Nat} {ws : List α} {enc : α → PyData} (q : α → Bool) (g' : α → PyData) (slB : α → List Sl)
    (hi : IT C X tg iter sl (isL (ws.map enc))) (hT : ws.length ≤ 1000000)
    (hg : ∀ d, d ∈ ws → TgOk X.K C g vs (wipeS sl vs) (enc d) (slB d))
    (hc : ∀ d, d ∈ ws → TestOk X.K C tt (slB d) (q d))
    (he : ∀ d, d ∈ ws → q d = true → EltOk X.K C te (slB d) (g' d)) :
    RdN C X (tLc (cI X tg iter) g tt te vs) sl (is (.list ((ws.filter q).map g'))) := fun σ H O E Q k => by
  refine hi σ H O E _ fun J H1 ds' pT t1 w D hD => ?_
  have pT : ds' = ws.map enc := pT
  subst pT
  have hlen : (ws.map enc).length = ws.length := List.length_map _
  have E1 := E.tr t1
  have nst : ¬ C.vol D := fun e => (E1.fresh hD).2 (C.hst D e)
  refine ⟨fun i m H2 => m = ws.length - i ∧ i ≤ ws.length ∧ ∃ acc, H2 D = some (.lst acc) ∧ Reps X.K (cut (D :: (O ++ C.M)) H2) acc (((ws.take i).filter q).map g') ∧ Same (cut (O ++ C.M) H1) (cut (D :: (O ++ C.M)) H2) ∧ Tr C H1 H2,
    ⟨ws.length, by simp, Nat.zero_le _, [], upd_same, .nil, cut_same fun a o na h => ⟨fun z => ?_, ?_⟩, Tr.new hD⟩, ?_⟩
  · rcases List.mem_cons.mp z with rfl | z
    · rw [hD] at h; cases h
    · exact na z
  · rw [upd_ne (ne_of_none h hD)]; exact h
  rintro i m H2 ⟨rfl, hi2, acc, h1, h2, h5, h6⟩
  have E2 : EnvOk X.K C H2 σ sl (D :: O) := E1.within hD h1 h5 h6
  have hsame : Same (cut (O ++ C.M) H1) H2 := h5.trans (cut_le _ _)
  by_cases hlt : i < ws.length
  · refine .inr ⟨w.goes i H2 hsame (by rw [hlen]; exact hlt), fun H' => ∃ acc, H' D = some (.lst acc) ∧ Reps X.K (cut (D :: (O ++ C.M)) H') acc (((ws.take (i + 1)).filter q).map g') ∧ Same (cut (O ++ C.M) H1) (cut (D :: (O ++ C.M)) H') ∧ Tr C H1 H',
      fun H' ⟨acc', g1, g2, g5, g6⟩ => ⟨ws.length - (i + 1), by omega, rfl, hlt, acc', g1, g2, g5, g6⟩, fun v H3 yl => ?_⟩
    obtain ⟨d', hd', sm, rp⟩ := w.yields i H2 v H3 hsame (by rw [hlen]; exact hlt) yl
    rw [List.getElem?_map] at hd'
    obtain ⟨d, hd, rfl⟩ := Option.map_eq_some_iff.mp hd'
    have hmem : d ∈ ws := List.mem_of_getElem? hd
    have E3 := E2.tr (Tr.of sm)
    have rv : Rep X.K (cut ((D :: O) ++ C.M) H3) v (enc d) := rp _ (fun a h => by
      rcases List.mem_append.mp h with h | h
      · exact E2.to a h
      · exact E2.tm a h) h5
    have etake : ((ws.take (i + 1)).filter q).map g' = ((ws.take i).filter q).map g' ++ (if q d = true then [g' d] else []) := by
      rw [List.take_add_one, hd, List.filter_append, List.map_append]
      congr 1
      show ([d].filter q).map g' = _
      by_cases hq : q d = true
      · rw [if_pos hq, List.filter_cons_of_pos hq]; rfl
      · rw [if_neg hq, List.filter_cons_of_neg (by simpa using hq)]; rfl
    refine hg d hmem (L2.wipe σ vs) H3 (D :: O) v (E3.wipe vs) rv _ fun σ2 E4' w4 => ⟨w4.trans wipe_wipe, ?_⟩
    have E4 := E4' H3 (D :: O) (Same.refl _) (E3.wipe vs)
    refine hc d hmem σ2 H3 (D :: O) E4 _ fun H3' t3 => ?_
    have hD3 : H3' D = some (.lst acc) := t3.keep D _ nst (sm _ _ h1)
    have c3 : Same (cut (D :: (O ++ C.M)) H2) (cut (D :: (O ++ C.M)) H3') := cut_same fun a o na h => ⟨na, t3.keep a o (fun e => na (List.mem_cons_of_mem _ (List.mem_append_right _ (C.hst a e)))) (sm a o h)⟩
    by_cases hq : q d = true
    · rw [if_pos hq]
      refine he d hmem hq σ2 H3' (D :: O) (E4.tr t3) _ fun y H4 t4 r4 => ?_
      have hD4 : H4 D = some (.lst acc) := t4.keep D _ nst hD3
      have c4 : Same (cut (D :: (O ++ C.M)) H2) (cut (D :: (O ++ C.M)) H4) := c3.trans (cut_same fun a o na h => ⟨na, t4.keep a o (fun e => na (List.mem_cons_of_mem _ (List.mem_append_right _ (C.hst a e)))) h⟩)
      have eD : cut (D :: (O ++ C.M)) (upd H4 D (.lst (acc ++ [y]))) = cut (D :: (O ++ C.M)) H4 := cut_upd List.mem_cons_self
      refine ⟨acc, hD4, ?_, acc ++ [y], upd_same, ?_, ?_, (h6.trans ((Tr.of sm).trans (t3.trans t4))).within hD hD4⟩
      · rw [h2.length, List.length_map]
        refine Nat.lt_of_le_of_lt (List.length_filter_le _ _) ?_
        rw [List.length_take]
        exact Nat.lt_of_le_of_lt (Nat.min_le_right _ _) (Nat.lt_of_le_of_lt hT (by decide))
      · rw [eD, etake, if_pos hq]; exact (h2.mono c4).append (.cons r4 .nil)
      · rw [eD]; exact h5.trans c4
    · rw [if_neg hq]
      refine ⟨acc, hD3, ?_, h5.trans c3, h6.trans ((Tr.of sm).trans t3)⟩
      rw [etake, if_neg hq, List.append_nil]
      exact h2.mono c3
  · have ei : i = ws.length := by omega
    subst ei
    rw [List.take_length] at h2
    exact .inl ⟨(by rw [← hlen]; exact w.stops H2 hsame), k D _ H2 _ rfl (t1.trans h6) (t1.none hD nst) h1 (.lst h2)⟩
theorem en_lcG {iter elt : Expr} {scope : Scope} {own : List (Str × Nat)} {g : TG} (hc : X.calm = true) (hN : X.N.Nodup) (ok : BlkOk X.N X.env.scope scope own)
    (hg : ∀ (s : Shared) (H : Hp) (L : Addr) (cl : List (Str × Addr)) (fp : List Addr), PG (X.blk s H scope (compEnvC scope cl L X.env) fp) tg g) (h : RdN C X (tLc (cI X tg iter) g tYes (cBlk X scope elt) (own.map (·.2))) sl P)
    (hs : ∀ y, foldedSetIterable iter X.env y = pure y := by intro _; rfl) : EVN C X (.ListComp elt [⟨tg, iter, [], 0⟩] scope pos) sl P := fun σ H O E Q k =>
  ofE (pe_lc hc hN (pi_c _ _) ok hg (fun _ _ _ _ _ => pts_nil) (fun s H0 L cl fp => pe_blk s H0 L cl fp) hs) (h σ H O E Q k)
theorem en_lcGF {iter elt : Expr} {scope : Scope} {own : List (Str × Nat)} {g : TG} (hc : X.calm = true) (hN : X.N.Nodup) (ok : BlkOk X.N X.env.scope scope own)
    (hg : ∀ (s : Shared) (H : Hp) (L : Addr) (cl : List (Str × Addr)) (fp : List Addr), PG (X.blk s H scope (compEnvC scope cl L X.env) fp) tg g) (h : RdN C X (tLc (cI X tg iter) g (cBlkT X scope c) (cBlk X scope elt) (own.map (·.2))) sl P)
    (hs : ∀ y, foldedSetIterable iter X.env y = pure y := by intro _; rfl) : EVN C X (.ListComp elt [⟨tg, iter, [c], 0⟩] scope pos) sl P := fun σ H O E Q k =>
  ofE (pe_lc hc hN (pi_c _ _) ok hg (fun s H0 L cl fp => pts_one (pt_blk s H0 L cl fp)) (fun s H0 L cl fp => pe_blk s H0 L cl fp) hs) (h σ H O E Q k)
end
end DL
/-! Comprehensions with two sources. -/
namespace DL
open PySem PySem.Spec PyProof.Rows L2
def cBlkI (X : Cx) (scope : Scope) (tg iter : Expr) : TI := fun σ H R => ∀ (s : Shared) (H0 : Hp) (L : Addr) (cl : List (Str × Addr)) (fp : List Addr), cI (X.blk s H0 scope (compEnvC scope cl L X.env) fp) tg iter σ H R
section
variable {C : Cfg} {X : Cx} {e a b c tg tg1 : Expr} {es : List Expr} {sl sl' : List Sl} {P P' Pa Pb Pc : PyData → Prop} {pos p p1 : Pos} {K : PySem.W.Frag} {H H' : Hp} {σ : L2.St} {O : List Addr} {i j : Int} {x : Str}
theorem pi_blk {scope : Scope} {iter : Expr} (s : Shared) (H0 : Hp) (L : Addr) (cl : List (Str × Addr)) (fp : List Addr) : PI (X.blk s H0 scope (compEnvC scope cl L X.env) fp) tg iter (cBlkI X scope tg iter) := ⟨fun pins s1 σ H R I h => h s H0 L cl fp pins s1 I⟩
/-- the inner source, in all blocks -/
def SrcOk (K : PySem.W.Frag) (C : Cfg) (wi : TI) (sl : List Sl) (ds : List PyData) : Prop :=
  ∀ (σ : L2.St) (H : Hp) (O : List Addr), EnvOk K C H σ sl O → ∀ R : It → Hp → Prop, (∀ J H', Tr C H H' → WalkD K C O H' J ds → R J H') → wi σ H R
theorem src_of {scope : Scope} {iter : Expr} {ds : List PyData} (h : ∀ (s : Shared) (H : Hp) (L : Addr) (cl : List (Str × Addr)) (fp : List Addr), IT C (X.blk s H scope (compEnvC scope cl L X.env) fp) tg1 iter sl (isL ds)) : SrcOk X.K C (cBlkI X scope tg1 iter) sl ds := fun σ H O E R k s H0 L cl fp =>
  h s H0 L cl fp σ H O E R fun J H' z pz t w => by
    have pz : z = ds := pz
    subst pz
    exact k J H' t w
theorem TgOk.wipeS {K : PySem.W.Frag} {g : TG} {vs : List Nat} {sl sl2 : List Sl} {d : PyData} (h : TgOk K C g vs (wipeS sl vs) d sl2) {σ : L2.St} {H : Hp} {O : List Addr} {v : V} (E : EnvOk K C H σ sl O) (r : Rep K (cut (O ++ C.M) H) v d) (Q : L2.St → Hp → Prop)
    (k : ∀ σ2, (∀ H' O', Same (cut (O ++ C.M) H) (cut (O' ++ C.M) H') → EnvOk K C H' σ sl O' → EnvOk K C H' σ2 sl2 O') → L2.wipe σ2 vs = L2.wipe σ vs → Q σ2 H) : g v (L2.wipe σ vs) H Q :=
  h _ H O v (E.wipe vs) r Q fun σ2 E2 w => k σ2 (fun H' O' sm E' => E2 H' O' sm (E'.wipe vs)) (w.trans wipe_wipe)
/-- what has been put into the new list at D is laid in the heap H2 -/
structure Grow (K : PySem.W.Frag) (C : Cfg) (O : List Addr) (H1 : Hp) (D : Addr) (H2 : Hp) (ds : List PyData) : Prop where
  acc : ∃ vs, H2 D = some (.lst vs) ∧ Reps K (cut (D :: (O ++ C.M)) H2) vs ds
  sm : Same (cut (O ++ C.M) H1) (cut (D :: (O ++ C.M)) H2)
  tr : Tr C H1 H2
theorem Grow.start {D : Addr} {H1 : Hp} (hD : H1 D = none) : Grow K C O H1 D (upd H1 D (.lst [])) [] := by
  refine ⟨⟨[], upd_same, .nil⟩, cut_same fun a o na h => ⟨fun z => ?_, ?_⟩, Tr.new hD⟩
  · rcases List.mem_cons.mp z with rfl | z
    · rw [hD] at h; cases h
    · exact na z
  · rw [upd_ne (ne_of_none h hD)]; exact h
theorem Grow.env {sl : List Sl} {D : Addr} {H1 H2 : Hp} {ds : List PyData} (E1 : EnvOk K C H1 σ sl O) (hD : H1 D = none) (G : Grow K C O H1 D H2 ds) : EnvOk K C H2 σ sl (D :: O) := by
  obtain ⟨vs, h1, _⟩ := G.acc
  exact E1.within hD h1 G.sm G.tr
theorem Grow.go {D : Addr} {H1 H2 H3 : Hp} {ds : List PyData} (hD : ¬ C.vol D) (G : Grow K C O H1 D H2 ds) (t : Tr C H2 H3) : Grow K C O H1 D H3 ds := by
  obtain ⟨vs, h1, h2⟩ := G.acc
  have c3 : Same (cut (D :: (O ++ C.M)) H2) (cut (D :: (O ++ C.M)) H3) := cut_same fun a o na h => ⟨na, t.keep a o (fun e => na (List.mem_cons_of_mem _ (List.mem_append_right _ (C.hst a e)))) h⟩
  exact ⟨⟨vs, t.keep D _ hD h1, h2.mono c3⟩, G.sm.trans c3, G.tr.trans t⟩
theorem Grow.push {D : Addr} {H1 H2 : Hp} {ds : List PyData} {v : V} {d : PyData} (hD : H1 D = none) (G : Grow K C O H1 D H2 ds) (r : Rep K (cut ((D :: O) ++ C.M) H2) v d) : ∃ vs, H2 D = some (.lst vs) ∧ vs.length = ds.length ∧ Grow K C O H1 D (upd H2 D (.lst (vs ++ [v]))) (ds ++ [d]) := by
  obtain ⟨vs, h1, h2⟩ := G.acc
  have eD : cut (D :: (O ++ C.M)) (upd H2 D (.lst (vs ++ [v]))) = cut (D :: (O ++ C.M)) H2 := cut_upd List.mem_cons_self
  exact ⟨vs, h1, h2.length, ⟨_, upd_same, by rw [eD]; exact h2.append (.cons r .nil)⟩, by rw [eD]; exact G.sm, G.tr.within hD h1⟩
theorem WalkD.trk {H1 H2 : Hp} {J : It} {ds : List PyData} {O' : List Addr} (w : WalkD K C O H1 J ds) (s : Same (cut (O ++ C.M) H1) (cut (O' ++ C.M) H2)) : (∀ i, i < ds.length → J.go i H2) ∧ J.stop ds.length H2 ∧ ∀ i x H3, i < ds.length → J.yld i H2 x H3 → ∃ d, ds[i]? = some d ∧ Same H2 H3 ∧ ∀ M', (∀ a ∈ M', H2 a ≠ none) → Same (cut (O ++ C.M) H1) (cut M' H2) → Rep K (cut M' H3) x d :=
  ⟨fun i hi => w.goes i H2 (s.trans (cut_le _ _)) hi, w.stops H2 (s.trans (cut_le _ _)), fun i x H3 hi yl => w.yields i H2 x H3 (s.trans (cut_le _ _)) hi yl⟩
theorem flatMap_take {α β : Type} {f : α → List β} {ws : List α} {i : Nat} {d : α} (h : ws[i]? = some d) : (ws.take (i + 1)).flatMap f = (ws.take i).flatMap f ++ f d := by
  rw [List.take_add_one, h, List.flatMap_append]
  simp
theorem filter_take {α β : Type} {q : α → Bool} {g : α → β} {ws : List α} {i : Nat} {d : α} (h : ws[i]? = some d) : ((ws.take (i + 1)).filter q).map g = ((ws.take i).filter q).map g ++ (if q d = true then [g d] else []) := by
  rw [List.take_add_one, h, List.filter_append, List.map_append]
  congr 1
  show ([d].filter q).map g = _
  by_cases hq : q d = true
  · rw [if_pos hq, List.filter_cons_of_pos hq]; rfl
  · rw [if_neg hq, List.filter_cons_of_neg (by simpa using hq)]; rfl
/-- [elt for tg in iter for tg1 in iter1 if c] -/
theorem lc2_gen {α β : Type} {iter : Expr} {g g1 : TG} {wi1 : TI} {tt1 : TT} {te : TE} {vs vs1 : List Nat} {ws : List α} {enc : α → PyData} {us : α → List β} {enc1 : α → β → PyData} (q : α → β → Bool) (g' : α → β → PyData) (slB : α → List Sl) (slC : α → β → List Sl)
    (hi : IT C X tg iter sl (isL (ws.map enc))) (hT : ∀ l : List PyData, l = ws.flatMap (fun d => (us d).map (g' d)) → l.length ≤ 1000000)
    (hg : ∀ d, d ∈ ws → TgOk X.K C g vs (wipeS sl vs) (enc d) (slB d))
    (hi1 : ∀ d, d ∈ ws → SrcOk X.K C wi1 (slB d) ((us d).map (enc1 d)))
    (hg1 : ∀ d u, d ∈ ws → u ∈ us d → TgOk X.K C g1 vs1 (wipeS (slB d) vs1) (enc1 d u) (slC d u))
    (hc : ∀ d u, d ∈ ws → u ∈ us d → TestOk X.K C tt1 (slC d u) (q d u))
    (he : ∀ d u, d ∈ ws → u ∈ us d → q d u = true → EltOk X.K C te (slC d u) (g' d u)) :
    RdN C X (tLc2 (cI X tg iter) g tYes wi1 g1 tt1 te vs vs1) sl (is (.list (ws.flatMap fun d => ((us d).filter (q d)).map (g' d)))) := fun σ H O E Q k => by
  have hT := hT _ rfl
  refine hi σ H O E _ fun J H1 ds' pT t1 w D hD => ?_
  have pT : ds' = ws.map enc := pT
  subst pT
  have hlen : (ws.map enc).length = ws.length := List.length_map _
  have E1 := E.tr t1
  have nst : ¬ C.vol D := fun e => (E1.fresh hD).2 (C.hst D e)
  let f : α → List PyData := fun d => ((us d).filter (q d)).map (g' d)
  refine ⟨fun i m H2 => m = ws.length - i ∧ i ≤ ws.length ∧ Grow X.K C O H1 D H2 ((ws.take i).flatMap f), ⟨ws.length, by simp, Nat.zero_le _, Grow.start hD⟩, ?_⟩
  rintro i m H2 ⟨rfl, hi2, G⟩
  have E2 := G.env E1 hD
  have hsame : Same (cut (O ++ C.M) H1) H2 := G.sm.trans (cut_le _ _)
  by_cases hlt : i < ws.length
  · refine .inr ⟨w.goes i H2 hsame (by rw [hlen]; exact hlt), fun H' => Grow X.K C O H1 D H' ((ws.take (i + 1)).flatMap f), fun H' G' => ⟨ws.length - (i + 1), by omega, rfl, hlt, G'⟩, fun v H3 yl => ?_⟩
    obtain ⟨d', hd', sm, rp⟩ := w.yields i H2 v H3 hsame (by rw [hlen]; exact hlt) yl
    rw [List.getElem?_map] at hd'
    obtain ⟨d, hd, rfl⟩ := Option.map_eq_some_iff.mp hd'
    have hmem : d ∈ ws := List.mem_of_getElem? hd
    have tt := Tr.of (C := C) sm
    have E3 := E2.tr tt
    have G3 := G.go nst tt
    have rv : Rep X.K (cut ((D :: O) ++ C.M) H3) v (enc d) := rp _ (fun a h => by
      rcases List.mem_append.mp h with h | h
      · exact E2.to a h
      · exact E2.tm a h) G.sm
    refine (hg d hmem).wipeS E3 rv _ fun σ2 tp w4 => ⟨w4, ?_⟩
    have E4 := tp H3 (D :: O) (Same.refl _) E3
    unfold tYes
    dsimp only
    rw [if_pos rfl]
    refine hi1 d hmem σ2 H3 (D :: O) E4 _ fun J1 H4 t4 w1 => ?_
    have G4 := G3.go nst t4
    have E5 := E4.tr t4
    have hlen1 : ((us d).map (enc1 d)).length = (us d).length := List.length_map _
    rw [flatMap_take hd]
    -- the inner loop
    refine ⟨fun j m H5 => m = (us d).length - j ∧ j ≤ (us d).length ∧ Grow X.K C O H1 D H5 ((ws.take i).flatMap f ++ (((us d).take j).filter (q d)).map (g' d)) ∧ Same (cut ((D :: O) ++ C.M) H4) (cut ((D :: O) ++ C.M) H5), ⟨(us d).length, by simp, Nat.zero_le _, by rw [List.take_zero, List.filter_nil, List.map_nil, List.append_nil]; exact G4, fun _ _ h => h⟩, ?_⟩
    rintro j m H5 ⟨rfl, hj2, G5, sm5⟩
    have E6 := tp H5 (D :: O) ((t4.cutS (D :: O)).trans sm5) (G5.env E1 hD)
    have sm5' : Same (cut ((D :: O) ++ C.M) H4) H5 := sm5.trans (cut_le _ _)
    by_cases hjl : j < (us d).length
    · refine .inr ⟨w1.goes j H5 sm5' (by rw [hlen1]; exact hjl), fun H' => Grow X.K C O H1 D H' ((ws.take i).flatMap f ++ (((us d).take (j + 1)).filter (q d)).map (g' d)) ∧ Same (cut ((D :: O) ++ C.M) H4) (cut ((D :: O) ++ C.M) H'), fun H' ⟨a1, a3⟩ => ⟨(us d).length - (j + 1), by omega, rfl, hjl, a1, a3⟩, fun v1 H6 yl1 => ?_⟩
      obtain ⟨u', hu', sm6, rp1⟩ := w1.yields j H5 v1 H6 sm5' (by rw [hlen1]; exact hjl) yl1
      rw [List.getElem?_map] at hu'
      obtain ⟨u, hu, rfl⟩ := Option.map_eq_some_iff.mp hu'
      have umem : u ∈ us d := List.mem_of_getElem? hu
      have tt6 := Tr.of (C := C) sm6
      have E7 := E6.tr tt6
      have G7 := G5.go nst tt6
      have ru : Rep X.K (cut ((D :: O) ++ C.M) H6) v1 (enc1 d u) := rp1 _ (fun a h => by
        rcases List.mem_append.mp h with h | h
        · exact E6.to a h
        · exact E6.tm a h) sm5
      refine (hg1 d u hmem umem).wipeS E7 ru _ fun σ3 tp1 w8 => ⟨w8, ?_⟩
      have E8 := tp1 H6 (D :: O) (Same.refl _) E7
      refine hc d u hmem umem σ3 H6 (D :: O) E8 _ fun H7 t7 => ?_
      have G8 := G7.go nst t7
      have cS : ∀ {Ha Hb : Hp}, Tr C Ha Hb → Same (cut ((D :: O) ++ C.M) Ha) (cut ((D :: O) ++ C.M) Hb) := fun t => t.cutS (D :: O)
      rw [filter_take hu]
      by_cases hq : q d u = true
      · rw [if_pos hq, if_pos hq, ← List.append_assoc]
        refine he d u hmem umem hq σ3 H7 (D :: O) (E8.tr t7) _ fun y H8 t8 r8 => ?_
        have G9 := G8.go nst t8
        obtain ⟨acc, g1, g2, g3⟩ := G9.push hD r8
        refine ⟨acc, g1, ?_, g3, ?_⟩
        · rw [g2, List.length_append]
          have e1 : ((ws.take i).flatMap f).length ≤ ((ws.take i).flatMap fun d => (us d).map (g' d)).length := by
            generalize ws.take i = l
            induction l with
            | nil => simp
            | cons x l ih =>
              rw [List.flatMap_cons, List.flatMap_cons, List.length_append, List.length_append]
              have h1 : (f x).length ≤ ((us x).map (g' x)).length := by
                show (((us x).filter (q x)).map (g' x)).length ≤ _
                rw [List.length_map, List.length_map]
                exact List.length_filter_le _ _
              exact Nat.add_le_add h1 ih
          have e2 : ((((us d).take j).filter (q d)).map (g' d)).length ≤ j := by
            rw [List.length_map]
            refine Nat.le_trans (List.length_filter_le _ _) ?_
            rw [List.length_take]
            exact Nat.min_le_left _ _
          have e3 : ((ws.take (i + 1)).flatMap fun d => (us d).map (g' d)).length ≤ (ws.flatMap fun d => (us d).map (g' d)).length := by
            conv => rhs; rw [← List.take_append_drop (i + 1) ws, List.flatMap_append, List.length_append]
            omega
          rw [flatMap_take hd, List.length_append, List.length_map] at e3
          exact Nat.lt_of_le_of_lt (show _ ≤ 1000000 by omega) (by decide)
        · refine sm5.trans ((cS tt6).trans ((cS t7).trans ((cS t8).trans ?_)))
          have eD : cut ((D :: O) ++ C.M) (upd H8 D (.lst (acc ++ [y]))) = cut ((D :: O) ++ C.M) H8 := cut_upd (by simp)
          rw [eD]
          exact fun _ _ h => h
      · have hq' : q d u = false := by simpa using hq
        rw [hq', if_neg (by simp), if_neg (by simp), List.append_nil]
        exact ⟨G8, sm5.trans ((cS tt6).trans (cS t7))⟩
    · have ej : j = (us d).length := by omega
      subst ej
      rw [List.take_length] at G5
      exact .inl ⟨(by rw [← hlen1]; exact w1.stops H5 sm5'), G5⟩
  · have ei : i = ws.length := by omega
    subst ei
    rw [List.take_length] at G
    obtain ⟨acc, h1, h2⟩ := G.acc
    exact .inl ⟨(by rw [← hlen]; exact w.stops H2 hsame), k D _ H2 _ rfl (t1.trans G.tr) (t1.none hD nst) h1 (.lst h2)⟩
theorem en_lc2F {iter iter1 elt : Expr} {scope : Scope} {own : List (Str × Nat)} {vs1 : List Nat} {g g1 : TG} (hc : X.calm = true) (hN : X.N.Nodup) (ok : BlkOk X.N X.env.scope scope own) (hv : ∀ i ∈ vs1, i ∈ own.map (·.2))
    (hg : ∀ (s : Shared) (H : Hp) (L : Addr) (cl : List (Str × Addr)) (fp : List Addr), PG (X.blk s H scope (compEnvC scope cl L X.env) fp) tg g) (hg1 : ∀ (s : Shared) (H : Hp) (L : Addr) (cl : List (Str × Addr)) (fp : List Addr), PG (X.blk s H scope (compEnvC scope cl L X.env) fp) tg1 g1)
    (h : RdN C X (tLc2 (cI X tg iter) g tYes (cBlkI X scope tg1 iter1) g1 (cBlkT X scope c) (cBlk X scope elt) (own.map (·.2)) vs1) sl P)
    (hs : ∀ y, foldedSetIterable iter X.env y = pure y := by intro _; rfl) (hs1 : ∀ env y, foldedSetIterable iter1 env y = pure y := by intro _ _; rfl) : EVN C X (.ListComp elt [⟨tg, iter, [], 0⟩, ⟨tg1, iter1, [c], 0⟩] scope pos) sl P := fun σ H O E Q k =>
  ofE (pe_lc2 hc hN (pi_c _ _) ok hv hg (fun _ _ _ _ _ => pts_nil) (fun s H0 L cl fp => pi_blk s H0 L cl fp) hg1 (fun s H0 L cl fp => pts_one (pt_blk s H0 L cl fp)) (fun s H0 L cl fp => pe_blk s H0 L cl fp) hs hs1) (h σ H O E Q k)
theorem en_lc2 {iter iter1 elt : Expr} {scope : Scope} {own : List (Str × Nat)} {vs1 : List Nat} {g g1 : TG} (hc : X.calm = true) (hN : X.N.Nodup) (ok : BlkOk X.N X.env.scope scope own) (hv : ∀ i ∈ vs1, i ∈ own.map (·.2))
    (hg : ∀ (s : Shared) (H : Hp) (L : Addr) (cl : List (Str × Addr)) (fp : List Addr), PG (X.blk s H scope (compEnvC scope cl L X.env) fp) tg g) (hg1 : ∀ (s : Shared) (H : Hp) (L : Addr) (cl : List (Str × Addr)) (fp : List Addr), PG (X.blk s H scope (compEnvC scope cl L X.env) fp) tg1 g1)
    (h : RdN C X (tLc2 (cI X tg iter) g tYes (cBlkI X scope tg1 iter1) g1 tYes (cBlk X scope elt) (own.map (·.2)) vs1) sl P)
    (hs : ∀ y, foldedSetIterable iter X.env y = pure y := by intro _; rfl) (hs1 : ∀ env y, foldedSetIterable iter1 env y = pure y := by intro _ _; rfl) : EVN C X (.ListComp elt [⟨tg, iter, [], 0⟩, ⟨tg1, iter1, [], 0⟩] scope pos) sl P := fun σ H O E Q k =>
  ofE (pe_lc2 hc hN (pi_c _ _) ok hv hg (fun _ _ _ _ _ => pts_nil) (fun s H0 L cl fp => pi_blk s H0 L cl fp) hg1 (fun _ _ _ _ _ => pts_nil) (fun s H0 L cl fp => pe_blk s H0 L cl fp) hs hs1) (h σ H O E Q k)
end
end DL
/-! Chained comparisons, the order of tuples, is None, x += i; the items of a dict of the def's own. -/
namespace DL
open PySem PySem.Spec PyProof.Rows L2
section
variable {C : Cfg} {X : Cx} {e a b c tg : Expr} {es : List Expr} {sl sl' : List Sl} {P P' Pa Pb Pc : PyData → Prop} {pos p p1 : Pos} {K : PySem.W.Frag} {H H' : Hp} {σ : L2.St} {O : List Addr} {i j k : Int} {x : Str} {ss : List Stmt} {q : Ps}
theorem ev_chain {op op' : CmpOp} {g g' : Int → Int → Bool} (ho : OpR X (compareOp op) (rI0 fun i j => .bl (g i j))) (ho' : OpR X (compareOp op') (rI0 fun i j => .bl (g' i j))) (ha : EV C X a sl (is (.int i))) (hb : EV C X b sl (is (.int j))) (hc : EV C X c sl (is (.int k)))
    (hm : lastMarks [op, op'] [b, c] = false := by with_unfolding_all rfl) : EV C X (.Compare a [op, op'] [b, c] pos) sl (is (.bool (g i j && g' j k))) := fun σ H O E Q q =>
  ofE (pe_chain ho ho' (pe_c a) (pe_c b) (pe_c c) hm) (ha σ H O E _ fun x H1 dx px t1 r1 => hb σ H1 O (E.tr t1) _ fun y H2 dy py t2 r2 => by
    have px : dx = .int i := px
    have py : dy = .int j := py
    subst px py
    refine ⟨i, j, r1.int_inv, r2.int_inv, g i j, rfl, ?_⟩
    by_cases h : g i j = true
    · rw [if_pos h]
      refine hc σ H2 O ((E.tr t1).tr t2) _ fun z H3 dz pz t3 r3 => ?_
      have pz : dz = .int k := pz
      subst pz
      exact ⟨j, k, r2.int_inv, r3.int_inv, q _ H3 _ (by rw [h, Bool.true_and]) ((t1.trans t2).trans t3) (.bl _)⟩
    · rw [if_neg h]
      have h : g i j = false := by simpa using h
      exact q _ H2 _ (by rw [h, Bool.false_and]) (t1.trans t2) (.bl _))
theorem et_chain {op op' : CmpOp} {g g' : Int → Int → Bool} (ho : OpR X (compareOp op) (rI0 fun i j => .bl (g i j))) (ho' : OpR X (compareOp op') (rI0 fun i j => .bl (g' i j))) (ha : EV C X a sl (is (.int i))) (hb : EV C X b sl (is (.int j))) (hc : EV C X c sl (is (.int k)))
    (hm : lastMarks [op, op'] [b, c] = false := by with_unfolding_all rfl) : EVT C X (.Compare a [op, op'] [b, c] pos) sl (isB (g i j && g' j k)) := fun σ H O E Q q =>
  ofT (pt_chain ho ho' (pe_c a) (pe_c b) (pe_c c) hm) (ha σ H O E _ fun x H1 dx px t1 r1 => hb σ H1 O (E.tr t1) _ fun y H2 dy py t2 r2 => by
    have px : dx = .int i := px
    have py : dy = .int j := py
    subst px py
    refine ⟨i, j, r1.int_inv, r2.int_inv, g i j, rfl, ?_⟩
    by_cases h : g i j = true
    · rw [if_pos h]
      refine hc σ H2 O ((E.tr t1).tr t2) _ fun z H3 dz pz t3 r3 => ?_
      have pz : dz = .int k := pz
      subst pz
      exact ⟨j, k, r2.int_inv, r3.int_inv, _, rfl, q _ H3 (by rw [h, Bool.true_and]) ((t1.trans t2).trans t3)⟩
    · rw [if_neg h]
      have h : g i j = false := by simpa using h
      exact ⟨_, rfl, q _ H2 (by rw [h, Bool.false_and]) (t1.trans t2)⟩)
/-- lo <= x < hi -/
theorem ev_within (ha : EV C X a sl (is (.int i))) (hb : EV C X b sl (is (.int j))) (hc : EV C X c sl (is (.int k))) (hm : lastMarks [.LtE, .Lt] [b, c] = false := by with_unfolding_all rfl) : EV C X (.Compare a [.LtE, .Lt] [b, c] pos) sl (is (.bool (decide (i ≤ j) && decide (j < k)))) :=
  ev_chain (g := fun i j => decide (i ≤ j)) (g' := fun i j => decide (i < j)) op_le op_lt ha hb hc hm
theorem et_within (ha : EV C X a sl (is (.int i))) (hb : EV C X b sl (is (.int j))) (hc : EV C X c sl (is (.int k))) (hm : lastMarks [.LtE, .Lt] [b, c] = false := by with_unfolding_all rfl) : EVT C X (.Compare a [.LtE, .Lt] [b, c] pos) sl (isB (decide (i ≤ j) && decide (j < k))) :=
  et_chain (g := fun i j => decide (i ≤ j)) (g' := fun i j => decide (i < j)) op_le op_lt ha hb hc hm
theorem et_withinE (ha : EV C X a sl (is (.int i))) (hb : EV C X b sl (is (.int j))) (hc : EV C X c sl (is (.int k))) (hm : lastMarks [.LtE, .LtE] [b, c] = false := by with_unfolding_all rfl) : EVT C X (.Compare a [.LtE, .LtE] [b, c] pos) sl (isB (decide (i ≤ j) && decide (j ≤ k))) :=
  et_chain (g := fun i j => decide (i ≤ j)) (g' := fun i j => decide (i ≤ j)) op_le op_le ha hb hc hm
/-- one < two, tuples of ints -/
theorem ev_ltTup (hu : X.A.units < cLine) {ns ms : List Int} (ha : EV C X a sl (is (.tuple (ns.map .int)))) (hb : EV C X b sl (is (.tuple (ms.map .int)))) : EV C X (.Compare a [.Lt] [b] pos) sl (is (.bool (HT.lexLt ns ms))) :=
  (ev_cmp (T := isB (HT.lexLt ns ms)) (op_ltT hu) ha hb.bo (nomark _) (fun H x y dx dy px py rx ry => by
    have px : dx = .tuple (ns.map .int) := px
    have py : dy = .tuple (ms.map .int) := py
    subst px py
    obtain ⟨q1, vs, rfl, h1, s1⟩ := rx.tup_inv
    obtain ⟨q2, ws, rfl, h2, s2⟩ := ry.tup_inv
    rw [s1.ints] at h1
    rw [s2.ints] at h2
    exact ⟨_, rfl, fun Q q => ⟨q1, q2, ns, ms, rfl, rfl, SqT.of h1, SqT.of h2, q⟩⟩)).bool fun _ p => p
/-- e is None -/
def isNone : PyData → Bool
  | .none => true
  | _ => false
theorem rep_none {B : Hp} {v : V} {d : PyData} (r : Rep K B v d) : decide (v = .non) = isNone d := by
  cases r with
  | obj _ r => cases r <;> rfl
  | _ => rfl
theorem et_isNone {d : PyData} {jj : Nat} {p2 : Pos} (ha : EV C X a sl (is d)) : EVT C X (.Compare a [.Is] [.Constant .none jj p2] pos) sl (isB (isNone d)) :=
  et_cmp (T := isB (isNone d)) op_isN ha (ev_non (j := jj)).bo (nomark _) (fun H x y dx dy px py rx ry => by
    have px : dx = d := px
    have py : dy = .none := py
    subst px py
    exact ⟨_, rfl, fun Q q => ⟨ry.non_inv, by rw [rep_none rx]; exact q⟩⟩)
theorem et_notNone {d : PyData} {jj : Nat} {p2 : Pos} (ha : EV C X a sl (is d)) : EVT C X (.Compare a [.IsNot] [.Constant .none jj p2] pos) sl (isB (!isNone d)) :=
  et_cmp (T := isB (!isNone d)) op_notN ha (ev_non (j := jj)).bo (nomark _) (fun H x y dx dy px py rx ry => by
    have px : dx = d := px
    have py : dy = .none := py
    subst px py
    exact ⟨_, rfl, fun Q q => ⟨ry.non_inv, by rw [rep_none rx]; exact q⟩⟩)
/-- x += i -/
theorem sts_augI (n : Nat) (hN : X.N.Nodup) (h : EV C X e sl (is (.int j))) (kk : STs C X ss (sl.set n (.d (.int (i + j)))) q) (hs : sl[n]? = some (.d (.int i)) := by rfl) (hi : X.N[n]? = some x := by rfl) (hx : Loc X.env.scope x := by first | exact .inl rfl | exact .inr rfl)
    (hf : X.fn x = true ∨ X.env.scope.names.lookup x = some .local := by first | exact .inl rfl | exact .inr rfl) : STs C X (.AugAssign (.Name x p1) .Add e pos :: ss) sl q := fun σ H O E D f =>
  ofSs (pss_cons (ps_aug hN hi hx (pe_c e) ip_add hf) (pss_c ss)) (by
    obtain ⟨v, h1, r1⟩ := E.var hs
    refine ⟨v, h1, h σ H O E _ fun y H1 d pd t1 r => ?_⟩
    have pd : d = .int j := pd
    subst pd
    have E1 := E.tr t1
    exact ⟨i, j, r1.int_inv, r.int_inv, kk _ H1 O (E1.setD (.int (i + j)) n) D (f.step (Step.tr E t1))⟩)
end
end DL
/-! The items of a dict whose keys are tuples. -/
namespace DL
open PySem PySem.Spec PyProof.Rows L2
/-- the pairs of a locked dict, each a new tuple of the key's own tuple and the value -/
def ItiT (d : Addr) (o : Obj) (kvs : List (List Key × V)) : It :=
  ⟨fun i H => H d = some (.frz o (.dT kvs)) ∧ i < kvs.length, fun i H x H' => ∃ T q k v, kvs[i]? = some (k, v) ∧ x = .ref T ∧ H T = none ∧ H q = some (.tup (k.map kV)) ∧ H' = upd H T (.tup [.ref q, v]), fun i H => H d = some (.frz o (.dT kvs)) ∧ kvs.length ≤ i⟩
section
variable {X : Cx} {pins : List (Addr × Obj)} {σ : L2.St} {H : Hp} {s : Shared} {d : Addr} {o : Obj}
theorem frzTV {kvs : List (List Key × V)} (I : Inv X pins σ H s) (h : H d = some (.frz o (.dT kvs))) :
    (d == sysModules) = false ∧ s.heap.get? d = some o ∧ o.ExactDict ∧ ∃ (es : Array DictEntry) (ep : Nat), o.data = .dict es ep ∧ es.size = kvs.length ∧
      ∀ (i : Nat) (k : List Key) (v : V), kvs[i]? = some (k, v) → ∃ (en : DictEntry) (q : Addr), es[i]? = some en ∧ en.key = .ref q ∧ H q = some (.tup (k.map kV)) ∧ RelV v en.val := by
  obtain ⟨hd, z, hs, xs, pr, o', es, ep, ho, hx, hdt, he, _⟩ := I.hok d _ h
  rw [hd] at ho
  cases ho
  refine ⟨hs, hd, hx, es, ep, hdt, ?_, fun i k v e => ?_⟩
  · have l1 : es.size = xs.length := size_of_entries he
    have l2 : kvs.length = xs.length := Paired.length pr
    omega
  · obtain ⟨b, hb, e1, e2, e3⟩ := paired_get pr e
    have q := entry_at he i
    rw [hb] at q
    exact ⟨_, b.2.1, q, rfl, e2, e3⟩
end
section
variable {P : Program} {w : World} {K : PySem.W.Frag} {tg : Expr} {d : Addr} {o : Obj} {es : Array DictEntry} {ep : Nat}
theorem turn_itemsT {kvs : List (List Key × V)} {elts : List Expr} {kk : Nat} {tpos : Pos} (it : Addr) (hod : o.data = .dict es ep) :
    Turn P w K (.Tuple elts kk tpos) (ItiT d o kvs) [it] it (fun i h => ∃ ok ov, IsItemIter h it d i kvs.length ep ok ov) where
  mem := by simp
  obj := fun i h st b hb => by
    have e : b = it := by simpa using hb
    subst e
    obtain ⟨ok, ov, e⟩ := st
    exact ⟨_, e, fun v z => nomatch z⟩
  keep := fun i h h' st k => let ⟨ok, ov, e⟩ := st; ⟨ok, ov, k it (by simp) _ e⟩
  item := by
    intro X hP hw hK hc i pins s σ H E I hf st hg
    subst hP hw hK
    obtain ⟨hd, hi⟩ := hg
    obtain ⟨hs, hgd, hx, es', ep', hdt, hsz, ent⟩ := frzTV I hd
    obtain ⟨rfl, rfl⟩ := dict_ep hod hdt
    obtain ⟨⟨k, v⟩, hkv⟩ : ∃ p, kvs[i]? = some p := ⟨kvs[i], List.getElem?_eq_getElem hi⟩
    obtain ⟨en, q, hen, hkey, hq, ru⟩ := ent i k v hkv
    have hies : i < es'.size := by rw [hsz]; exact hi
    have een : es'[i] = en := by
      rw [Array.getElem?_eq_getElem hies] at hen
      exact Option.some.inj hen
    obtain ⟨ok, ov, he⟩ := st
    rw [← hsz] at he
    have hlt : it < s.heap.objs.size := Heap.lt_size he
    refine wpAny_pyNext_items_item_raw he ⟨o, hgd, hx, hdt⟩ hies fun h' ho hT hz hk => ?_
    rw [een, hkey] at ho hT
    refine ⟨_, rfl, wpAny_letOwnedTupleGo_items (s := { s with heap := h' }) ho fun h'' he' sb => ?_⟩
    have hT2 : h''.get? s.heap.objs.size = some { cls := .type "tuple", data := .seq #[.ref q, en.val] } := (sb.2 _ (Nat.ne_of_gt hlt)).trans hT
    have new : ObjOk X.prog X.w (upd H s.heap.objs.size (.tup [.ref q, v])) h'' s.heap.objs.size (.tup [.ref q, v]) :=
      ⟨by show 2 ≤ sizeLine; decide, [.ref q, en.val], .cons rfl (.cons ru .nil), ⟨_, hT2, rfl, _, rfl⟩⟩
    have I1 : Inv X pins σ (upd H s.heap.objs.size (.tup [.ref q, v])) { s with heap := h'' } :=
      I.turnedNew (t' := s.toks) (ch := [it]) (fun b ob hb e => (sb.2 b (by simpa using hb)).trans (hk b ob (by simpa using hb) e)) hf (Nat.le_refl _) new
    refine ⟨.ref s.heap.objs.size, _, I1, rfl, ⟨_, q, k, v, hkv, rfl, I.hok.fresh (Nat.le_refl _), hq, rfl⟩, ⟨.ref q, en.val, ?_⟩, fun b hb => ?_⟩
    · rw [← hsz]; exact he'
    · have e : b = it := by simpa using hb
      rw [e, upd_ne (Nat.ne_of_lt hlt)]
      exact (hf it (by simp)).1
  done := by
    intro X hP hw hK hc i pins s σ H E I hf st hg
    subst hP hw hK
    obtain ⟨hd, hi⟩ := hg
    obtain ⟨f0, f1, f2, f3, f4, f5⟩ := hf it (by simp)
    obtain ⟨hs, hgd, hx, es', ep', hdt, hsz, ent⟩ := frzTV I hd
    obtain ⟨rfl, rfl⟩ := dict_ep hod hdt
    obtain ⟨ok, ov, he⟩ := st
    rw [← hsz] at he
    exact wpAny_pyNext_items_end_raw (I.ok.hd hc) he ⟨o, hgd, hx, hdt⟩ (by rw [hsz]; exact hi) fun h' eb => ⟨rfl, I.turned (t' := s.toks) (fun b ob hb e => eb b ob hb e) f0 f1 f3 f4 f5⟩
  self := fun A i s Q E st h => let ⟨_, _, e⟩ := st; PySem.W.kcp_self e h
end
def iItemsT (td : TE) : TI := fun σ H R => td σ H fun x H1 => ∃ d o kvs, x = .ref d ∧ H1 d = some (.frz o (.dT kvs)) ∧ R (ItiT d o kvs) H1
section
variable {X : Cx} {tg e : Expr} {td : TE} {apos cpos : Pos}
theorem pi_itemsT {elts : List Expr} {kk : Nat} {tpos : Pos} (he : PE X e td) (hbase : attributeBase e "items" X.env (eval e X.env) = eval e X.env := by rfl) (hline : (apos.endLine == cpos.line) = true := by rfl) :
    PI X (.Tuple elts kk tpos) (.Call (.Attribute e "items" apos) [] [] cpos) (iItemsT td) := by
  refine ⟨fun pins s σ H R I h => ?_⟩
  refine wpAny_Call_method (T := "dict") (id := "dict.items") hbase rfl hline F.plainAttrs_dict F.slot_dict_items F.type_dict_items (thn (he.run pins s σ H _ I h) fun u s1 ⟨x, H1, I1, rx, d, o, kvs, ex, hd, q⟩ => ?_)
  subst ex
  obtain rfl : u = Value.ref d := rx
  obtain ⟨hs, hgd, hx, es, ep, hdt, hsz, ent⟩ := frzTV I1 hd
  have raw : s1.heap.DictRaw d es ep := ⟨o, hgd, hx, hdt⟩
  refine ⟨raw.typeIs, ?_, ?_⟩
  · intro a e
    cases e
    exact ⟨o, hgd, hx.2.1⟩
  have I2 : Inv X pins σ H1 { s1 with heap := s1.heap.push { cls := .type "dict_items", data := .fields #[.ref d] } } := I1.kept (t' := s1.toks) fun b ob q => Heap.get?_push_of_some _ q
  have fin : wpAny (model X.prog X.w) X.A (pyIter (.ref s1.heap.objs.size)) (PIE X pins σ (.Tuple elts kk tpos) R) X.xe { s1 with heap := s1.heap.push { cls := .type "dict_items", data := .fields #[.ref d] } } := by
    refine wpAny_pyIter_items_raw (d := d) (es := es) (ep := ep) ⟨_, Heap.get?_push_size _ rfl, rfl, rfl⟩ (raw.at fun o q => Heap.get?_push_of_some _ q) (pi_one (tk := s1.toks) I2 _ (turn_itemsT _ hdt) ⟨.none, .none, ?_⟩ q)
    rw [← hsz]
    exact Heap.get?_push_size _ rfl
  show wpAny _ _ (callWith cpos (.builtin "dict.items") [.ref d] [] []) _ X.xe s1
  exact method_meetsIn F.slot_dict_items F.entry_dict_items rfl (PySem.evalArgs_none ⟨rfl, raw.typeIs, F.args_dict_items_1 _, _, meets_dict_items_raw d hs, ⟨es, ep, raw⟩, fin⟩)
end
end DL
/-! A comprehension over the items of a dict of the def's own. -/
namespace DL
open PySem PySem.Spec PyProof.Rows L2
/-- an own object as a thing told by what is true of it -/
def ownS (K : PySem.W.Frag) (x : PyData) : SemR where
  R := fun B H v F => ∃ p o, v = .ref p ∧ F = [p] ∧ H p = some o ∧ ObjR K B o x
  stab := fun {B B' H H' v F} ⟨p, o, e1, e2, h, r⟩ e k => ⟨p, o, e1, e2, k p (by rw [e2]; exact List.mem_singleton_self _) _ h, r.mono e⟩
/-- a locked dict with tuple keys -/
def lockS (K : PySem.W.Frag) (kvs : List (List Key × PyData)) : SemR where
  R := fun B H v F => ∃ p o kv, v = .ref p ∧ F = [p] ∧ H p = some (.frz o (.dT kv)) ∧ RepT K B kv kvs
  stab := fun {B B' H H' v F} ⟨p, o, kv, e1, e2, h, r⟩ e k => ⟨p, o, kv, e1, e2, k p (by rw [e2]; exact List.mem_singleton_self _) _ h, r.mono e⟩
section
variable {K : PySem.W.Frag} {B H : Hp}
theorem Slots.ownSem {x : PyData} : ∀ {σ : L2.St} {sl : List Sl} {O : List Addr} {i : Nat}, Slots K B H σ sl O → sl[i]? = some (.own x) → Slots K B H σ (sl.set i (.sem (ownS K x))) O
  | _, _, _, _, .nil, h => by simp at h
  | _, _, _, 0, .cons a b, h => by
    simp at h
    subst h
    cases a with
    | own e r => exact .cons (F := [_]) (.sem ⟨_, _, rfl, rfl, e, r⟩ (by simp)) b
  | _, _, _, i + 1, .cons a b, h => .cons a (Slots.ownSem (i := i) b (by simpa using h))
theorem EnvOk.ownSem {C : Cfg} {σ : L2.St} {sl : List Sl} {O : List Addr} {x : PyData} {i : Nat} (E : EnvOk K C H σ sl O) (h : sl[i]? = some (.own x)) : EnvOk K C H σ (sl.set i (.sem (ownS K x))) O := by
  obtain ⟨O1, s, n, m⟩ := E.slots
  exact ⟨⟨O1, s.ownSem h, n, m⟩, E.dj, E.to, E.tm, E.ok, E.bg⟩
/-- an own thing, and what may be made of it -/
theorem EnvOk.reO {C : Cfg} {σ : L2.St} {sl : List Sl} {O : List Addr} {x : PyData} {i : Nat} (E : EnvOk K C H σ sl O) (hi : sl[i]? = some (.own x)) : ∃ p o, σ[i]? = some (some (.ref p)) ∧ H p = some o ∧ ObjR K (cut (O ++ C.M) H) o x ∧ p ∈ O ∧
    ∀ (H' : Hp) (s' : Sl) (F' : List Addr), (∀ a o, a ≠ p → H a = some o → H' a = some o) → (∀ a ∈ F', a = p ∨ H a = none) → (∀ a ∈ F', H' a ≠ none) → F'.Nodup →
      Slot K (cut (((O.filter fun a => decide (a ∉ [p])) ++ F') ++ C.M) H') H' (some (.ref p)) s' F' → EnvOk K C H' σ (sl.set i s') ((O.filter fun a => decide (a ∉ [p])) ++ F') ∧ Step C O H ((O.filter fun a => decide (a ∉ [p])) ++ F') H' := by
  have hl : i < sl.length := (List.getElem?_eq_some_iff.mp hi).1
  obtain ⟨v, F, h1, ⟨p, o, rfl, rfl, h2, h3⟩, h4, h5, h6⟩ := (E.ownSem hi).re (i := i) (S := ownS K x) (by rw [List.getElem?_set_self hl])
  refine ⟨p, o, h1, h2, h3, h5 p (by simp), fun H' s' F' k fr to nf q => ?_⟩
  have := h6 H' s' F' (fun a ha => by rw [List.mem_singleton.mp ha]; exact ⟨o, h2, h3.plain⟩) (fun a u na => k a u fun z => na (by rw [z]; exact List.mem_singleton_self _)) (fun a ha => (fr a ha).imp (fun z => by rw [z]; exact List.mem_singleton_self _) id) to nf q
  rw [List.set_set] at this
  exact this
end
/-- two ints as a key -/
abbrev k2 (i j : Int) : List Key := [.inl i, .inl j]
section
variable {C : Cfg} {X : Cx} {e elt tg : Expr} {sl : List Sl} {pos : Pos} {x : Str}
theorem repT_get {K : PySem.W.Frag} {B : Hp} : ∀ {kv : List (List Key × V)} {kvs : List (List Key × PyData)} {i : Nat} {k : List Key} {v : V}, RepT K B kv kvs → kv[i]? = some (k, v) → ∃ d, kvs[i]? = some (k, d) ∧ Rep K B v d
  | _, _, _, _, _, .nil, h => by simp at h
  | _, _, 0, _, _, .cons r _, h => by
    simp at h
    obtain ⟨rfl, rfl⟩ := h
    exact ⟨_, rfl, r⟩
  | _, _, i + 1, _, _, .cons _ t, h => by
    obtain ⟨d, h1, h2⟩ := repT_get (i := i) t (by simpa using h)
    exact ⟨d, by simpa using h1, h2⟩
/-- [elt for (a, b), c in d.items()], d the def's own, its keys pairs of ints -/
theorem en_lcItems {α : Type} {scope : Scope} {xa xb xc xd : Str} {pa pb pc pd pt pu ap cp : Pos} {kt ku : Nat} (n na nb nc : Nat) {ws : List α} {ka kb : α → Int} {vd : α → PyData} (g' : α → PyData) (hc : X.calm = true) (hN : X.N.Nodup) (ok : BlkOk X.N X.env.scope scope [(xa, na), (xb, nb), (xc, nc)])
    (hT : ws.length ≤ 1000000) (hs : sl[n]? = some (.own (dTD (ws.map fun w => (k2 (ka w) (kb w), vd w)))))
    (he : ∀ (s : Shared) (H : Hp) (L : Addr) (cl : List (Str × Addr)) (fp : List Addr) d, d ∈ ws → EV C (X.blk s H scope (compEnvC scope cl L X.env) fp) elt (((((((sl.set n .u).set nc .u).set nb .u).set na .u).set na (.d (.int (ka d)))).set nb (.d (.int (kb d)))).set nc (.d (vd d))) (is (g' d)))
    (hNd : X.N[n]? = some xd := by rfl) (hvd : Vis X.env.scope xd := by first | exact Or.inl rfl | exact Or.inr (Or.inl rfl) | exact Or.inr (Or.inr rfl))
    (hNa : X.N[na]? = some xa := by rfl) (hNb : X.N[nb]? = some xb := by rfl) (hNc : X.N[nc]? = some xc := by rfl)
    (la : ∀ (s : Shared) (H : Hp) (L : Addr) (cl : List (Str × Addr)) (fp : List Addr), Loc (compEnvC scope cl L X.env).scope xa := by first | exact fun _ _ _ _ _ => .inl rfl | exact fun _ _ _ _ _ => .inr rfl)
    (lb : ∀ (s : Shared) (H : Hp) (L : Addr) (cl : List (Str × Addr)) (fp : List Addr), Loc (compEnvC scope cl L X.env).scope xb := by first | exact fun _ _ _ _ _ => .inl rfl | exact fun _ _ _ _ _ => .inr rfl)
    (lc : ∀ (s : Shared) (H : Hp) (L : Addr) (cl : List (Str × Addr)) (fp : List Addr), Loc (compEnvC scope cl L X.env).scope xc := by first | exact fun _ _ _ _ _ => .inl rfl | exact fun _ _ _ _ _ => .inr rfl)
    (sa : ∀ (s : Shared) (H : Hp) (L : Addr) (cl : List (Str × Addr)) (fp : List Addr), (X.blk s H scope (compEnvC scope cl L X.env) fp).fn xa = true ∨ (compEnvC scope cl L X.env).scope.names.lookup xa = some .local := by first | exact fun _ _ _ _ _ => .inr rfl | exact fun _ _ _ _ _ => .inl rfl)
    (sb : ∀ (s : Shared) (H : Hp) (L : Addr) (cl : List (Str × Addr)) (fp : List Addr), (X.blk s H scope (compEnvC scope cl L X.env) fp).fn xb = true ∨ (compEnvC scope cl L X.env).scope.names.lookup xb = some .local := by first | exact fun _ _ _ _ _ => .inr rfl | exact fun _ _ _ _ _ => .inl rfl)
    (sc : ∀ (s : Shared) (H : Hp) (L : Addr) (cl : List (Str × Addr)) (fp : List Addr), (X.blk s H scope (compEnvC scope cl L X.env) fp).fn xc = true ∨ (compEnvC scope cl L X.env).scope.names.lookup xc = some .local := by first | exact fun _ _ _ _ _ => .inr rfl | exact fun _ _ _ _ _ => .inl rfl)
    (hd1 : (xd == ("__debug__" : Str)) = false := by decide) (hd2 : (xd == ("__classdict__" : Str)) = false := by decide)
    (hbase : attributeBase (.Name xd pd) "items" X.env (eval (.Name xd pd) X.env) = eval (.Name xd pd) X.env := by rfl) (hline : (ap.endLine == cp.line) = true := by rfl)
    (hs2 : ∀ y, foldedSetIterable (.Call (.Attribute (.Name xd pd) "items" ap) [] [] cp) X.env y = pure y := by intro _; rfl) :
    EVN C X (.ListComp elt [⟨.Tuple [.Tuple [.Name xa pa, .Name xb pb] kt pt, .Name xc pc] ku pu, .Call (.Attribute (.Name xd pd) "items" ap) [] [] cp, [], 0⟩] scope pos) sl (is (.list (ws.map g'))) := fun σ H O E Q k => by
  have hl : n < sl.length := (List.getElem?_eq_some_iff.mp hs).1
  obtain ⟨p, o, e1, e2, e3, e4, e5⟩ := E.reO hs
  obtain ⟨kv, rfl, r3⟩ := e3.dT_inv
  have npM : p ∉ C.M := E.dj p e4
  have hpg : ∀ (s : Shared) (H : Hp) (L : Addr) (cl : List (Str × Addr)) (fp : List Addr), PG (X.blk s H scope (compEnvC scope cl L X.env) fp) (.Tuple [.Tuple [.Name xa pa, .Name xb pb] kt pt, .Name xc pc] ku pu) (gTup X.K 2 (gCons (gTup X.K 2 (gCons (gName na) (gCons (gName nb) gNil))) (gCons (gName nc) gNil))) := fun s H L cl fp =>
    pg_tup (X := X.blk s H scope (compEnvC scope cl L X.env) fp) hc (pgs_cons (pg_tup (X := X.blk s H scope (compEnvC scope cl L X.env) fp) hc (pgs_cons (pg_name hN hNa (la s H L cl fp) (sa s H L cl fp)) (pgs_cons (pg_name hN hNb (lb s H L cl fp) (sb s H L cl fp)) pgs_nil))) (pgs_cons (pg_name hN hNc (lc s H L cl fp) (sc s H L cl fp)) pgs_nil))
  refine ofE (pe_lock (pe_lc (own := [(xa, na), (xb, nb), (xc, nc)]) hc hN (pi_itemsT (pe_var hNd hvd hd1 hd2) hbase hline) ok hpg (fun _ _ _ _ _ => pts_nil) (fun s H0 L cl fp => pe_blk s H0 L cl fp) hs2)) ?_
  refine ⟨p, _, e2, trivial, fun od => ?_⟩
  -- the locked heap
  have kp : ∀ a u, a ≠ p → H a = some u → upd H p (.frz od (.dT kv)) a = some u := fun a u na h => by rw [upd_ne na]; exact h
  have hp : upd H p (.frz od (.dT kv)) p = some (.frz od (.dT kv)) := upd_same
  obtain ⟨E1, st1⟩ := e5 (upd H p (.frz od (.dT kv))) (.sem (lockS X.K (ws.map fun w => (k2 (ka w) (kb w), vd w)))) [p] kp (fun a ha => .inl (List.mem_singleton.mp ha)) (fun a ha => by rw [List.mem_singleton.mp ha, hp]; simp) (by simp)
    (.sem ⟨p, od, kv, rfl, rfl, hp, r3.mono (cut_same fun a u na h => by
      have nap : a ≠ p := fun z => na (by rw [z]; exact List.mem_append_left _ e4)
      refine ⟨fun z => na ?_, kp a u nap h⟩
      rcases List.mem_append.mp z with z | z
      · rcases List.mem_append.mp z with z | z
        · exact List.mem_append_left _ (List.mem_filter.mp z).1
        · exact absurd (List.mem_singleton.mp z) nap
      · exact List.mem_append_right _ z)⟩ (by simp))
  have E1 := (E1.setU (some (.ref p)) n)
  have eσ : σ.set n (some (.ref p)) = σ := by
    refine List.ext_getElem? fun i => ?_
    by_cases h : n = i
    · subst h
      rw [List.getElem?_set_self (by rw [← E.slots.choose_spec.1.len] at hl; exact hl), e1]
    · rw [List.getElem?_set_ne h]
  rw [eσ, List.set_set] at E1
  clear e5 kp
  have inO' : p ∈ (O.filter fun a => decide (a ∉ [p])) ++ [p] := by simp
  generalize hO' : (O.filter fun a => decide (a ∉ [p])) ++ [p] = O' at E1 st1 inO'
  generalize hHL : upd H p (.frz od (.dT kv)) = HL at E1 st1 hp
  have r0 : RepT X.K (cut (O' ++ C.M) HL) kv (ws.map fun w => (k2 (ka w) (kb w), vd w)) := r3.mono (by
    have := st1.cutS
    exact this)
  refine ⟨.ref p, e1, p, od, kv, rfl, hp, fun D hD => ?_⟩
  have lkv : kv.length = ws.length := by rw [repT_len r0, List.length_map]
  have nst : ¬ C.vol D := fun e => (E1.fresh hD).2 (C.hst D e)
  have nDp : D ≠ p := fun z => by rw [z, hp] at hD; cases hD
  refine ⟨fun i m H2 => m = ws.length - i ∧ i ≤ ws.length ∧ Grow X.K C O' HL D H2 ((ws.take i).map g') ∧ H2 p = some (.frz od (.dT kv)), ⟨ws.length, by simp, Nat.zero_le _, Grow.start hD, by rw [upd_ne (Ne.symm nDp)]; exact hp⟩, ?_⟩
  rintro i m H2 ⟨rfl, hi2, G, hp2⟩
  have E2 := G.env E1 hD
  by_cases hlt : i < ws.length
  · refine .inr ⟨⟨hp2, by omega⟩, fun H' => Grow X.K C O' HL D H' ((ws.take (i + 1)).map g') ∧ H' p = some (.frz od (.dT kv)), fun H' ⟨G', h'⟩ => ⟨ws.length - (i + 1), by omega, rfl, hlt, G', h'⟩, fun v H3 yl => ?_⟩
    obtain ⟨T, q, key, val, g1, rfl, hT2, hq, rfl⟩ := yl
    have r2 := r0.mono G.sm
    obtain ⟨d0, g2, rv⟩ := repT_get r2 g1
    rw [List.getElem?_map] at g2
    obtain ⟨d, hd, ed⟩ := Option.map_eq_some_iff.mp g2
    have hmem : d ∈ ws := List.mem_of_getElem? hd
    obtain ⟨rfl, rfl⟩ : k2 (ka d) (kb d) = key ∧ vd d = d0 := by
      injection ed with a b
      exact ⟨a, b⟩
    have tt := Tr.new (C := C) (o := .tup [.ref q, val]) hT2
    have E3 := E2.tr tt
    have G3 := G.go nst tt
    have rv3 := rv.mono (tt.cutS (D :: O'))
    have nqT : q ≠ T := fun z => by rw [z, hT2] at hq; cases hq
    have s1 : SqT X.K (upd H2 T (.tup [.ref q, val])) T [.ref q, val] := SqT.of upd_same
    have s2 : SqT X.K (upd H2 T (.tup [.ref q, val])) q [.int (ka d), .int (kb d)] := SqT.of (by rw [upd_ne nqT]; exact hq)
    have hp3 : upd H2 T (.tup [.ref q, val]) p = some (.frz od (.dT kv)) := by rw [upd_ne (fun z => by rw [← z, hp2] at hT2; cases hT2)]; exact hp2
    have E4 := ((((((E3.setU none nc).setU none nb).setU none na).setD (.int (ka d)) na).setD (.int (kb d)) nb).setD rv3 nc)
    refine ⟨T, _, rfl, s1, rfl, _, _, rfl, ⟨q, _, rfl, s2, rfl, _, _, rfl, _, _, rfl, rfl, _, _, rfl, rfl, ?_, ?_⟩⟩
    · show L2.wipe _ [na, nb, nc] = L2.wipe σ [na, nb, nc]
      rw [wipe_set (by simp), wipe_set (by simp), wipe_set (by simp)]
      exact wipe_wipe
    · unfold tYes
      dsimp only
      rw [if_pos rfl]
      intro s H0 L cl fp
      refine he s H0 L cl fp d hmem _ _ (D :: O') E4 _ fun y H4 z pz t4 r4 => ?_
      have pz : z = g' d := pz
      subst pz
      have G4 := G3.go nst t4
      obtain ⟨acc, a1, a2, a3⟩ := G4.push hD r4
      refine ⟨acc, a1, ?_, ?_, ?_⟩
      · rw [a2, List.length_map, List.length_take]
        exact Nat.lt_of_le_of_lt (Nat.min_le_right _ _) (Nat.lt_of_le_of_lt hT (by decide))
      · rw [List.take_add_one, hd, List.map_append]
        exact a3
      · rw [upd_ne (Ne.symm nDp)]
        exact t4.keep p _ (E1.notSt inO') hp3
  · have ei : i = ws.length := by omega
    subst ei
    rw [List.take_length] at G
    obtain ⟨acc, h1, h2⟩ := G.acc
    refine .inl ⟨⟨hp2, by omega⟩, hp2, ?_⟩
    -- unlocked again
    have nl : ∀ {a : Addr} {xs : List V}, H2 a = some (.lst xs) → a ≠ p := fun e z => by
      rw [z, hp2] at e
      cases e
    have oO : ∀ a, a ∉ O' → a ∉ O := fun a h z => h (by
      rw [← hO']
      by_cases ap : a = p
      · rw [ap]; exact List.mem_append_right _ (List.mem_singleton_self _)
      · exact List.mem_append_left _ (List.mem_filter.mpr ⟨z, decide_eq_true (fun y => ap (List.mem_singleton.mp y))⟩))
    have tr : Tr C H (upd H2 p (.dT kv)) := by
      refine ⟨fun a u nv h => ?_, fun a e Ox h => ?_, fun h => ?_⟩
      · by_cases ap : a = p
        · rw [ap] at h ⊢
          rw [e2] at h
          rw [← Option.some.inj h]
          exact upd_same
        · rw [upd_ne ap]
          exact G.tr.keep a u nv (by rw [← hHL, upd_ne ap]; exact h)
      · obtain ⟨x1, p1, L1, z1, ns1, q1, q2, q3⟩ := G.tr.ok a e Ox (st1.ok a e Ox h)
        refine ⟨x1, p1, L1, z1, ns1, ?_, ?_, q3⟩
        · rw [cut_out (cut_some q1).1, upd_ne (nl (cut_some q1).2)]; exact (cut_some q1).2
        · rw [cut_out (cut_some q2).1, upd_ne (nl (cut_some q2).2)]; exact (cut_some q2).2
      · exact tabs_ch (F := [p]) (fun b hb => by rw [List.mem_singleton.mp hb]; exact ⟨_, hp2, rfl⟩) (fun b u hb e => by rw [upd_ne (fun z => hb (by rw [z]; exact List.mem_singleton_self _))]; exact e) (G.tr.tab (st1.tab h))
    refine k D _ (upd H2 p (.dT kv)) _ rfl tr ?_ (by rw [upd_ne nDp]; exact h1) (.lst (h2.mono ?_))
    · rw [← hHL, upd_ne nDp] at hD
      exact hD
    · refine cut_same fun a u na h => ?_
      have ap : a ≠ p := fun z => na (by rw [z]; exact List.mem_cons_of_mem _ (List.mem_append_left _ inO'))
      refine ⟨fun z => na ?_, by rw [upd_ne ap]; exact h⟩
      rcases List.mem_cons.mp z with z | z
      · rw [z]; exact List.mem_cons_self
      · rcases List.mem_append.mp z with z | z
        · refine List.mem_cons_of_mem _ (List.mem_append_left _ ?_)
          exact Classical.byContradiction fun y => oO a y z
        · exact List.mem_cons_of_mem _ (List.mem_append_right _ z)
end
end DL
/-! A list of lists of the def's own. -/
namespace DL
open PySem PySem.Spec PyProof.Rows L2
section
variable {K : PySem.W.Frag} {C : Cfg} {H H' H1 H2 : Hp} {σ : L2.St} {sl : List Sl} {O O1 O2 : List Addr}
/-- a slot is set to a new thing of the def's own -/
theorem EnvOk.setS (E : EnvOk K C H σ sl O) (t : Tr C H H1) {F : List Addr} {v : V} {S : SemR} (hF : ∀ a ∈ F, H a = none ∧ H1 a ≠ none) (nF : F.Nodup) (r : S.R (cut ((F ++ O) ++ C.M) H1) H1 v F) (i : Nat) :
    EnvOk K C H1 (σ.set i (some v)) (sl.set i (.sem S)) (F ++ O) ∧ Step C O H (F ++ O) H1 := by
  have fr : ∀ a ∈ F, a ∉ O ∧ a ∉ C.M := fun a h => E.fresh (hF a h).1
  have E1 := E.tr t
  obtain ⟨O1, s, n, m⟩ := E.slots
  have sm : Same (cut (O ++ C.M) H) (cut ((F ++ O) ++ C.M) H1) := cut_same fun a u na e => by
    refine ⟨fun z => ?_, t.keep a u (fun e => na (List.mem_append_right _ (C.hst a e))) e⟩
    rcases List.mem_append.mp z with z | z
    · rcases List.mem_append.mp z with z | z
      · rw [(hF a z).1] at e; cases e
      · exact na (List.mem_append_left _ z)
    · exact na (List.mem_append_right _ z)
  have s1 : Slots K (cut ((F ++ O) ++ C.M) H1) H1 σ sl O1 := s.mono sm (fun a h x e => t.keep a x (E.notSt (m a h)) e)
  obtain ⟨O2, s2, nd2, m2⟩ := Slots.set (F := F) (.sem r nF) nF s1 i (fun a h z => (fr a h).1 (m _ z)) n
  refine ⟨⟨⟨O2, s2, nd2, fun a h => ?_⟩, fun a h => ?_, fun a h => ?_, E1.tm, fun a e => ?_, E.bg.go t.tab (fun a o _ n h => t.keep a o n h) sm⟩, ⟨fun a u n _ h => t.keep a u n h, fun a h => ?_, fun a e Ox h => t.ok a e Ox h, fun a h => ?_, t.tab⟩⟩
  · rcases m2 a h with z | z
    · exact List.mem_append_right _ (m a z)
    · exact List.mem_append_left _ z
  · rcases List.mem_append.mp h with z | z
    · exact (fr a z).2
    · exact E.dj a z
  · rcases List.mem_append.mp h with z | z
    · exact (hF a z).2
    · exact E1.to a z
  · refine t.ok a e _ ((E.ok a e).mono (cut_same fun b u nb q => ⟨fun z => ?_, q⟩))
    rcases List.mem_append.mp z with z | z
    · rw [(hF b z).1] at q; cases q
    · exact nb z
  · rcases List.mem_append.mp h with z | z
    · exact .inr (hF a z).1
    · exact .inl z
  · rcases List.mem_append.mp h with z | z
    · exact fun e => (fr a z).2 (C.hst a e)
    · exact E.notSt z
end
/-- the rows of a list of lists -/
inductive Rows2 (K : PySem.W.Frag) (B H : Hp) : List Addr → List (List PyData) → Prop
  | nil : Rows2 K B H [] []
  | cons {q : Addr} {vs : List V} {ds : List PyData} {qs : List Addr} {rs : List (List PyData)} : H q = some (.lst vs) → Reps K B vs ds → Rows2 K B H qs rs → Rows2 K B H (q :: qs) (ds :: rs)
section
variable {K : PySem.W.Frag} {B B' H H' : Hp}
theorem Rows2.mono (e : Same B B') : ∀ {qs : List Addr} {rs : List (List PyData)}, (∀ a ∈ qs, ∀ x, H a = some x → H' a = some x) → Rows2 K B H qs rs → Rows2 K B' H' qs rs
  | _, _, _, .nil => .nil
  | _, _, k, .cons h r t => .cons (k _ List.mem_cons_self _ h) (r.mono e) (Rows2.mono e (fun a m => k a (List.mem_cons_of_mem _ m)) t)
theorem Rows2.length : ∀ {qs : List Addr} {rs : List (List PyData)}, Rows2 K B H qs rs → qs.length = rs.length
  | _, _, .nil => rfl
  | _, _, .cons _ _ t => by rw [List.length_cons, List.length_cons, t.length]
theorem Rows2.get : ∀ {qs : List Addr} {rs : List (List PyData)} {i : Nat} {ds : List PyData}, Rows2 K B H qs rs → rs[i]? = some ds → ∃ q vs, qs[i]? = some q ∧ H q = some (.lst vs) ∧ Reps K B vs ds
  | _, _, _, _, .nil, h => by simp at h
  | _, _, 0, _, .cons h r _, e => by
    simp at e
    subst e
    exact ⟨_, _, rfl, h, r⟩
  | _, _, i + 1, _, .cons _ _ t, e => by
    obtain ⟨q, vs, h1, h2, h3⟩ := Rows2.get (i := i) t (by simpa using e)
    exact ⟨q, vs, by simpa using h1, h2, h3⟩
theorem Rows2.snoc : ∀ {qs : List Addr} {rs : List (List PyData)} {q : Addr} {vs : List V} {ds : List PyData}, Rows2 K B H qs rs → H q = some (.lst vs) → Reps K B vs ds → Rows2 K B H (qs ++ [q]) (rs ++ [ds])
  | _, _, _, _, _, .nil, h, r => .cons h r .nil
  | _, _, _, _, _, .cons h0 r0 t, h, r => .cons h0 r0 (t.snoc h r)
theorem Rows2.set : ∀ {qs : List Addr} {rs : List (List PyData)} {i : Nat} {q : Addr} {vs : List V} {ds : List PyData}, Rows2 K B H qs rs → qs.Nodup → qs[i]? = some q → Reps K B vs ds → Rows2 K B (upd H q (.lst vs)) qs (rs.set i ds)
  | _, _, _, _, _, _, .nil, _, h, _ => by simp at h
  | _, _, 0, _, _, _, .cons h0 r0 t, n, e, r => by
    simp at e
    subst e
    exact .cons upd_same r (t.mono (Same.refl _) fun a m x hx => by rw [upd_ne (fun z => (List.nodup_cons.mp n).1 (by rw [← z]; exact m))]; exact hx)
  | q0 :: qs, _, i + 1, q, _, _, .cons h0 r0 t, n, e, r => by
    have e' : qs[i]? = some q := by simpa using e
    have m : q ∈ qs := List.mem_of_getElem? e'
    exact .cons (by rw [upd_ne (fun z => (List.nodup_cons.mp n).1 (by rw [z]; exact m))]; exact h0) r0 (t.set (List.nodup_cons.mp n).2 e' r)
/-- as data, where its lists are no longer its own -/
theorem Rows2.reps : ∀ {qs : List Addr} {rs : List (List PyData)}, Rows2 K B H qs rs → (∀ a ∈ qs, ∀ x, H a = some x → B a = some x) → Reps K B (qs.map V.ref) (rs.map PyData.list)
  | _, _, .nil, _ => .nil
  | _, _, .cons h r t, k => .cons (.obj (k _ List.mem_cons_self _ h) (.lst r)) (t.reps fun a m => k a (List.mem_cons_of_mem _ m))
end
/-- a list of lists of the def's own -/
def nestS (K : PySem.W.Frag) (rs : List (List PyData)) : SemR where
  R := fun B H v F => ∃ p qs, v = .ref p ∧ F = p :: qs ∧ H p = some (.lst (qs.map V.ref)) ∧ Rows2 K B H qs rs
  stab := fun {B B' H H' v F} ⟨p, qs, e1, e2, h, r⟩ e k => ⟨p, qs, e1, e2, k p (by rw [e2]; exact List.mem_cons_self) _ h, r.mono e fun a m => k a (by rw [e2]; exact List.mem_cons_of_mem _ m)⟩
theorem mem_snoc {α : Type} {a D q : α} {qs O M : List α} (h : a ∈ (D :: (qs ++ [q]) ++ O) ++ M) : a = q ∨ a ∈ (D :: qs ++ O) ++ M := by
  rcases List.mem_append.mp h with h | h
  · rcases List.mem_append.mp h with h | h
    · rcases List.mem_cons.mp h with h | h
      · rw [h]; exact .inr (List.mem_append_left _ (List.mem_append_left _ List.mem_cons_self))
      · rcases List.mem_append.mp h with h | h
        · exact .inr (List.mem_append_left _ (List.mem_append_left _ (List.mem_cons_of_mem _ h)))
        · exact .inl (List.mem_singleton.mp h)
    · exact .inr (List.mem_append_left _ (List.mem_append_right _ h))
  · exact .inr (List.mem_append_right _ h)
def RdS (C : Cfg) (X : Cx) (t : TE) (sl : List Sl) (S : SemR) : Prop :=
  ∀ (σ : L2.St) (H : Hp) (O : List Addr), EnvOk X.K C H σ sl O → ∀ Q : VK, (∀ v F H', Tr C H H' → S.R (cut ((F ++ O) ++ C.M) H') H' v F → F.Nodup → (∀ a ∈ F, H a = none ∧ H' a ≠ none) → Q v H') → t σ H Q
section
variable {C : Cfg} {X : Cx} {e elt tg : Expr} {ss : List Stmt} {sl : List Sl} {p : Ps} {pos p1 : Pos} {x : Str} {i j : Int}
/-- [elt for x in iter], each element a new list -/
theorem lc_nest {iter : Expr} {scope : Scope} {n : Nat} {xs : Str} {px : Pos} {ds : List PyData} {rows : List (List PyData)} (hi : IT C X (.Name xs px) iter sl (isL ds)) (hT : ds.length ≤ 1000000) (hl : rows.length = ds.length)
    (he : ∀ (s : Shared) (H : Hp) (L : Addr) (cl : List (Str × Addr)) (fp : List Addr) (k : Nat) d z, ds[k]? = some d → rows[k]? = some z → EVN C (X.blk s H scope (compEnvC scope cl L X.env) fp) elt ((sl.set n .u).set n (.d d)) (is (.list z))) :
    RdS C X (tLc (cI X (.Name xs px) iter) (gName n) tYes (cBlk X scope elt) [n]) sl (nestS X.K rows) := fun σ H O E Q k => by
  refine hi σ H O E _ fun J H1 ds' pT t1 w D hD => ?_
  have pT : ds' = ds := pT
  subst pT
  have E1 := E.tr t1
  have nst : ¬ C.vol D := fun e => (E1.fresh hD).2 (C.hst D e)
  -- D, and the lists that were made
  refine ⟨fun i m H2 => m = ds'.length - i ∧ i ≤ ds'.length ∧ ∃ qs, H2 D = some (.lst (qs.map V.ref)) ∧ Rows2 X.K (cut ((D :: qs ++ O) ++ C.M) H2) H2 qs (rows.take i) ∧ (D :: qs).Nodup ∧ (∀ a ∈ qs, H1 a = none) ∧ Tr C H1 H2,
    ⟨ds'.length, by simp, Nat.zero_le _, [], upd_same, .nil, by simp, fun a h => absurd h (by simp), Tr.new hD⟩, ?_⟩
  rintro i m H2 ⟨rfl, hi2, qs, h1, h2, nd, fr, t12⟩
  have hF : ∀ a ∈ D :: qs, H1 a = none ∧ H2 a ≠ none := fun a h => by
    rcases List.mem_cons.mp h with rfl | h
    · exact ⟨hD, by rw [h1]; simp⟩
    · refine ⟨fr a h, ?_⟩
      obtain ⟨i', hi'⟩ := List.mem_iff_getElem?.mp h
      have hlt : i' < (rows.take i).length := by rw [← h2.length]; exact (List.getElem?_eq_some_iff.mp hi').1
      obtain ⟨q, vs, g1, g2, _⟩ := h2.get (List.getElem?_eq_getElem hlt)
      rw [hi'] at g1
      cases g1
      rw [g2]
      simp
  have Es := (E1.setS t12 hF nd (S := nestS X.K (rows.take i)) (v := .ref D) ⟨D, qs, rfl, rfl, h1, h2⟩ n)
  have E2 : EnvOk X.K C H2 (σ.set n none) (sl.set n .u) (D :: qs ++ O) := by
    have := Es.1.setU none n
    rw [List.set_set, List.set_set] at this
    exact this
  have sm1 : Same (cut (O ++ C.M) H1) (cut ((D :: qs ++ O) ++ C.M) H2) := Es.2.cutS
  have hsame : Same (cut (O ++ C.M) H1) H2 := sm1.trans (cut_le _ _)
  by_cases hlt : i < ds'.length
  · refine .inr ⟨w.goes i H2 hsame hlt, fun H' => ∃ qs, H' D = some (.lst (qs.map V.ref)) ∧ Rows2 X.K (cut ((D :: qs ++ O) ++ C.M) H') H' qs (rows.take (i + 1)) ∧ (D :: qs).Nodup ∧ (∀ a ∈ qs, H1 a = none) ∧ Tr C H1 H',
      fun H' ⟨qs', g⟩ => ⟨ds'.length - (i + 1), by omega, rfl, hlt, qs', g⟩, fun v H3 yl => ?_⟩
    obtain ⟨d, hd, sm, rp⟩ := w.yields i H2 v H3 hsame hlt yl
    have E3 := E2.tr (Tr.of sm)
    have rv : Rep X.K (cut ((D :: qs ++ O) ++ C.M) H3) v d := rp _ (fun a h => by
      rcases List.mem_append.mp h with h | h
      · exact E2.to a h
      · exact E2.tm a h) sm1
    have E4 := E3.setD rv n
    have hz : rows[i]? = some (rows[i]'(by omega)) := List.getElem?_eq_getElem (by omega)
    refine ⟨?_, fun s H0 L cl fp => ?_⟩
    · show ((σ.set n none).set n (some v)).set n none = σ.set n none
      rw [List.set_set, List.set_set]
    · refine he s H0 L cl fp i d _ hd hz ((σ.set n none).set n (some v)) H3 _ E4 _ fun q o H4 z pz t4 hq ho ro => ?_
      have pz : z = .list (rows[i]'(by omega)) := pz
      subst pz
      cases ro with
      | @lst vs _ rv2 =>
        have t24 := (Tr.of (C := C) sm).trans t4
        have nv : ∀ a ∈ D :: qs, ¬ C.vol a := fun a h => fun e => (E1.fresh (hF a h).1).2 (C.hst a e)
        have kq : ∀ a ∈ D :: qs, ∀ u, H2 a = some u → H4 a = some u := fun a h u e => t24.keep a u (nv a h) e
        have hD4 : H4 D = some (.lst (qs.map V.ref)) := kq D List.mem_cons_self _ h1
        have nqs : q ∉ D :: qs := fun h => by
          have := (hF q h).2
          cases e : H2 q with
          | none => exact this e
          | some u => rw [sm _ _ e] at hq; cases hq
        have nqO : q ∉ O := fun h => by
          have hm : q ∈ D :: qs ++ O := List.mem_append_right _ h
          exact E3.to q hm hq
        have h1q : H1 q = none := by
          cases e : H1 q with
          | none => rfl
          | some u =>
            exfalso
            by_cases hv : C.vol q
            · exact E3.tm q (C.hst q hv) hq
            · have := (t12.trans (Tr.of sm)).keep q u hv e
              rw [this] at hq; cases hq
        have up : ∀ a, a ≠ D → upd H4 D (.lst ((qs ++ [q]).map V.ref)) a = H4 a := fun a h => upd_ne h
        have neD : ∀ a ∈ qs ++ [q], a ≠ D := fun a h z => by
          rcases List.mem_append.mp h with h | h
          · exact (List.nodup_cons.mp nd).1 (by rw [← z]; exact h)
          · rw [List.mem_singleton.mp h] at z
            exact nqs (by rw [z]; exact List.mem_cons_self)
        have cS : Same (cut ((D :: qs ++ O) ++ C.M) H2) (cut ((D :: (qs ++ [q]) ++ O) ++ C.M) (upd H4 D (.lst ((qs ++ [q]).map V.ref)))) := cut_same fun a u na e => by
          have aD : a ≠ D := fun z => na (by rw [z]; simp)
          have aq : a ≠ q := fun z => by
            rw [z] at e
            rw [sm _ _ e] at hq; cases hq
          exact ⟨fun z => (mem_snoc z).elim aq na, by rw [up a aD]; exact t24.keep a u (fun e => na (List.mem_append_right _ (C.hst a e))) e⟩
        refine ⟨qs.map V.ref, hD4, ?_, qs ++ [q], by rw [List.map_append]; exact upd_same, ?_, ?_, fun a h => ?_, (t12.trans t24).within hD hD4⟩
        · rw [List.length_map, h2.length, List.length_take]
          exact Nat.lt_of_le_of_lt (Nat.min_le_left _ _) (Nat.lt_of_lt_of_le hlt (Nat.le_trans hT (by decide)))
        · rw [List.take_add_one, hz]
          show Rows2 X.K _ _ _ (rows.take i ++ [rows[i]'(by omega)])
          have em : qs.map V.ref ++ [V.ref q] = (qs ++ [q]).map V.ref := by simp
          rw [em]
          refine (h2.mono cS fun a h u e => ?_).snoc (vs := vs) ?_ (rv2.mono ?_)
          · rw [up a (neD a (List.mem_append_left _ h))]
            exact kq a (List.mem_cons_of_mem _ h) u e
          · rw [up q (neD q (by simp))]; exact ho
          · refine cut_same fun a u na e => ?_
            have aD : a ≠ D := fun z => na (by rw [z]; simp)
            exact ⟨fun z => na ((mem_snoc z).elim (fun z => by rw [z]; exact List.mem_cons_self) fun z => List.mem_cons_of_mem _ z), by rw [up a aD]; exact e⟩
        · rw [← List.cons_append, List.nodup_append]
          exact ⟨nd, by simp, fun a ha b hb e => nqs (by rw [← List.mem_singleton.mp hb, ← e]; exact ha)⟩
        · rcases List.mem_append.mp h with h | h
          · exact fr a h
          · rw [List.mem_singleton.mp h]; exact h1q
  · have ei : i = ds'.length := by omega
    subst ei
    rw [List.take_of_length_le (by omega)] at h2
    refine .inl ⟨w.stops H2 hsame, k _ (D :: qs) H2 (t1.trans t12) ⟨D, qs, rfl, rfl, h1, h2⟩ nd fun a h => ⟨t1.none (hF a h).1 fun e => (E1.fresh (hF a h).1).2 (C.hst a e), (hF a h).2⟩⟩
/-- y = [elt for x in iter], y a plain local name -/
theorem sts_lcS (n : Nat) {S : SemR} {m : Nat} {xs : Str} {px sp : Pos} {iter elt : Expr} {scope : Scope} (hc : X.calm = true) (hN : X.N.Nodup) (ok : LcOk X scope m xs) (h : RdS C X (tLc (cI X (.Name xs px) iter) (gName m) tYes (cBlk X scope elt) [m]) sl S)
    (k : STs C X ss (sl.set n (.sem S)) p) (hi : X.N[n]? = some x := by rfl) (hyl : X.env.scope.names.lookup x = some .local := by rfl)
    (hsw : swapsWith (.ListComp elt [⟨.Name xs px, iter, [], 0⟩] scope pos) (some (.Name x p1)) sp.line X.env = pure true := by exact sw_true rfl rfl rfl (by decide +kernel))
    (hs : ∀ y, foldedSetIterable iter X.env y = pure y := by intro _; rfl) : STs C X (.Assign [.Name x p1] (.ListComp elt [⟨.Name xs px, iter, [], 0⟩] scope pos) sp :: ss) sl p := fun σ H O E D f =>
  ofSs (pss_cons (ps_setLc (i := n) (own := [(xs, m)]) hc hN hi hyl hsw (pi_c _ _) ok.ok (fun s H L cl fp => pg_name hN ok.ix (ok.loc s H L cl fp) (ok.st s H L cl fp)) (fun _ _ _ _ _ => pts_nil) (fun s H0 L cl fp => pe_blk s H0 L cl fp) hs) (pss_c ss))
    (h σ H O E (fun v H1 => cSs X ss D (σ.set n (some v)) H1) fun v F H1 t1 r nF hF => by
      obtain ⟨E1, st⟩ := E.setS t1 hF nF r n
      exact k _ H1 _ E1 D (f.step st))
end
end DL
/-! A list of lists of the def's own: written, and let go. -/
namespace DL
open PySem PySem.Spec PyProof.Rows L2
theorem ixN_nat {n i : Nat} (h : i < n) : ixN n (i : Int) = some i := by
  unfold ixN
  rw [if_pos (by omega), if_pos (by omega), Int.toNat_natCast]
section
variable {C : Cfg} {X : Cx} {e ei ej elt tg a b : Expr} {ss : List Stmt} {sl : List Sl} {p : Ps} {pos p1 px p2 p3 : Pos} {x : Str} {i j : Nat}
/-- x[i][j] = e -/
theorem sts_nestSet (n : Nat) {rows : List (List PyData)} {d : PyData} (hv : EV C X e sl (is d)) (hi : EV C X ei sl (is (.int (i : Nat)))) (hj : EV C X ej sl (is (.int (j : Nat)))) {row : List PyData} (hr : rows[i]? = some row) (hjl : j < row.length)
    (k : STs C X ss (sl.set n (.sem (nestS X.K (rows.set i (row.set j d))))) p) (hs : sl[n]? = some (.sem (nestS X.K rows)) := by rfl) (hN : X.N[n]? = some x := by rfl)
    (hvis : Vis X.env.scope x := by first | exact Or.inl rfl | exact Or.inr (Or.inl rfl) | exact Or.inr (Or.inr rfl)) (hd : (x == ("__debug__" : Str)) = false := by decide) (hcd : (x == ("__classdict__" : Str)) = false := by decide)
    (hpi : PlainIx ei := by exact fun _ _ => rfl)
    (hsw : swapsWithSole [.Subscript (.Subscript (.Name x px) ei p2) ej p3] e pos.line X.env = pure false := by rfl) (hw : swappedStores [.Subscript (.Subscript (.Name x px) ei p2) ej p3] e X.env = pure none := by rfl)
    (ha : ∀ v, assign (.Subscript (.Subscript (.Name x px) ei p2) ej p3) X.env v = (do
      let ov ← holding [v] (eval (.Subscript (.Name x px) ei p2) X.env)
      let iv ← holding [v, ov] (eval ej X.env)
      standAt p3
      holding [v, ov, iv] (setItem ov iv v)
      release [v, ov, iv] []) := by intro _; rfl)
    (h1 : (assignEach [.Subscript (.Subscript (.Name x px) ei p2) ej p3] X.env).map (·.2) = [assign (.Subscript (.Subscript (.Name x px) ei p2) ej p3) X.env] := by rfl) :
    STs C X (.Assign [.Subscript (.Subscript (.Name x px) ei p2) ej p3] e pos :: ss) sl p := fun σ H O E D f =>
  ofSs (pss_cons (ps_asg (pe_c e) (pg_sub (pe_ix ix_list (pe_var hN hvis hd hcd) (pe_c ei) hpi) (pe_c ej) set_list ha) hsw hw h1) (pss_c ss)) (hv σ H O E _ fun v H1 dv pv t1 rv => by
    have pv : dv = d := pv
    subst pv
    have E1 := E.tr t1
    obtain ⟨v0, F, e1, ⟨q0, qs, rfl, rfl, hp, rw2⟩, _, sub, _⟩ := E1.re hs
    have keep : ∀ {Ha Hb : Hp}, Tr C Ha Hb → ∀ a ∈ q0 :: qs, ∀ u, Ha a = some u → Hb a = some u := fun t a m u h => t.keep a u (E.notSt (sub a m)) h
    obtain ⟨q, vs, g1, g2, g3⟩ := rw2.get hr
    have qm : q ∈ qs := List.mem_of_getElem? g1
    refine ⟨.ref q0, e1, hi σ H1 O E1 _ fun y H2 dy py t2 ry => ?_⟩
    have py : dy = .int (i : Nat) := py
    subst py
    refine ⟨q0, qs.map V.ref, (i : Int), .ref q, rfl, ry.int_inv, SqL.of (keep t2 q0 List.mem_cons_self _ hp), atI_nat (by rw [List.getElem?_map, g1]; rfl), hj σ H2 O (E1.tr t2) _ fun y' H3 dy' py' t3 ry' => ?_⟩
    have py' : dy' = .int (j : Nat) := py'
    subst py'
    have t23 := t2.trans t3
    have E3 := E1.tr t23
    have g2' := keep t23 q (List.mem_cons_of_mem _ qm) _ g2
    have hp' := keep t23 q0 List.mem_cons_self _ hp
    have lv := g3.length
    refine ⟨q, vs, (j : Int), j, rfl, ry'.int_inv, g2', ixN_nat (by omega), ?_⟩
    obtain ⟨v1, F1, f1, ⟨q1, qs1, rfl, rfl, hp1, rw1⟩, nd1, sub1, go⟩ := E3.re hs
    obtain rfl : q1 = q0 := by rw [e1] at f1; simpa using f1.symm
    obtain rfl : qs1 = qs := by
      rw [hp'] at hp1
      injection hp1 with hp1
      injection hp1 with hp1
      exact ((List.map_inj_right fun a b h => by injection h).mp hp1).symm
    have nq : q1 ≠ q := fun z => (List.nodup_cons.mp nd1).1 (by rw [z]; exact qm)
    have qF : q ∈ q1 :: qs1 := List.mem_cons_of_mem _ qm
    have kp : ∀ a o, a ∉ q1 :: qs1 → H3 a = some o → upd H3 q (.lst (vs.set j v)) a = some o := fun a o na h => by rw [upd_ne (fun z => na (by rw [z]; exact qF))]; exact h
    have sm := cut_re (O := O) (F' := q1 :: qs1) C.M sub1 kp fun a h => .inl h
    have inL : ∀ a ∈ q1 :: qs1, ∃ xs, H3 a = some (.lst xs) := fun a h => by
      rcases List.mem_cons.mp h with rfl | h
      · exact ⟨_, hp'⟩
      · obtain ⟨i', hi'⟩ := List.mem_iff_getElem?.mp h
        have hlt : i' < rows.length := by rw [← rw1.length]; exact (List.getElem?_eq_some_iff.mp hi').1
        obtain ⟨q', vs', k1, k2, _⟩ := rw1.get (List.getElem?_eq_getElem hlt)
        rw [hi'] at k1
        cases k1
        exact ⟨_, k2⟩
    obtain ⟨E4, st4⟩ := go (upd H3 q (.lst (vs.set j v))) (.sem (nestS X.K (rows.set i (row.set j dv)))) (q1 :: qs1) (fun a h => let ⟨xs, z⟩ := inL a h; ⟨_, z, rfl⟩) kp (fun a h => .inl h) (fun a h => by
        by_cases z : a = q
        · rw [z, upd_same]; simp
        · rw [upd_ne z]
          obtain ⟨xs, y⟩ := inL a h
          rw [y]; simp) nd1
      (.sem ⟨q1, qs1, rfl, rfl, by rw [upd_ne nq]; exact hp', (rw1.mono sm fun _ _ _ h => h).set (List.nodup_cons.mp nd1).2 g1 (((g3.mono (t23.cutS O)).mono sm).set j ((rv.mono (t23.cutS O)).mono sm))⟩ nd1)
    exact k σ _ _ E4 D (f.step ((Step.tr E (t1.trans t23)).trans st4)))
/-- the list of lists becomes data, never to be changed again -/
theorem sts_nestFreeze (n : Nat) {rows : List (List PyData)} (k : STs C X ss (sl.set n (.d (.list (rows.map PyData.list)))) p) (hs : sl[n]? = some (.sem (nestS X.K rows)) := by rfl) : STs C X ss sl p := fun σ H O E D f => by
  obtain ⟨v1, F1, f1, ⟨q1, qs1, rfl, rfl, hp1, rw1⟩, nd1, sub1, go⟩ := E.re hs
  have inL : ∀ a ∈ q1 :: qs1, ∃ xs, H a = some (.lst xs) := fun a h => by
    rcases List.mem_cons.mp h with rfl | h
    · exact ⟨_, hp1⟩
    · obtain ⟨i', hi'⟩ := List.mem_iff_getElem?.mp h
      have hlt : i' < rows.length := by rw [← rw1.length]; exact (List.getElem?_eq_some_iff.mp hi').1
      obtain ⟨q', vs', k1, k2, _⟩ := rw1.get (List.getElem?_eq_getElem hlt)
      rw [hi'] at k1
      cases k1
      exact ⟨_, k2⟩
  have sm := cut_re (O := O) (F := q1 :: qs1) (F' := []) (H := H) (H' := H) C.M sub1 (fun _ _ _ h => h) fun a h => absurd h (by simp)
  have out : ∀ a ∈ q1 :: qs1, ∀ x, H a = some x → cut (((O.filter fun a => decide (a ∉ q1 :: qs1)) ++ []) ++ C.M) H a = some x := fun a h x e => by
    rw [cut_out]
    · exact e
    · intro z
      rcases List.mem_append.mp z with z | z
      · rw [List.append_nil] at z
        exact of_decide_eq_true (List.mem_filter.mp z).2 h
      · exact E.dj a (sub1 a h) z
  obtain ⟨E4, st4⟩ := go H (.d (.list (rows.map PyData.list))) [] (fun a h => let ⟨xs, z⟩ := inL a h; ⟨_, z, rfl⟩) (fun _ _ _ h => h) (fun a h => absurd h (by simp)) (fun a h => absurd h (by simp)) (by simp)
    (.d (.obj (out q1 List.mem_cons_self _ hp1) (.lst ((rw1.mono sm fun _ _ _ h => h).reps fun a m => out a (List.mem_cons_of_mem _ m)))))
  exact k σ H _ E4 D (f.step st4)
/-- a list times an int -/
theorem en_rep {ds : List PyData} {m : Nat} (ha : EV C X a sl (is (.list ds))) (hb : EV C X b sl (is (.int (m : Nat)))) (h1 : m < 2 ^ 62) (h2 : ds.length * m ≤ 1000000) : EVN C X (.BinOp a .Mult b pos) sl (is (.list (List.replicate m ds).flatten)) :=
  (en_repP (P := fun k => k = m) ha (hb.imp fun d q => ⟨m, q, h1, h2, rfl⟩)).imp fun d ⟨k, e, q⟩ => by rw [e, q]
end
end DL
/-! Loops with pairs and triples; targets of two names in a comprehension; ints of the top. -/
namespace DL
open PySem PySem.Spec PyProof.Rows L2
section
variable {C : Cfg} {X : Cx} {e elt tg a b iter : Expr} {ss body : List Stmt} {sl : List Sl} {p : Ps} {pos p1 px py pz pt : Pos} {kk : Nat} {x y z : Str} {i j : Int} {ds : List PyData}
/-- for x, y in .. -/
theorem sts_for2 (n m : Nat) (Inv : Nat → List Sl → Prop) (s0 : List Sl) (hc : X.calm = true) (hN : X.N.Nodup) (hi : IT C X (.Tuple [.Name x px, .Name y py] kk pt) iter sl (isL ds)) (h0 : Inv 0 s0) (hd : ∀ d ∈ ds, ∃ d1 d2, d = .tuple [d1, d2])
    (hb : ∀ k d1 d2 sl', ds[k]? = some (.tuple [d1, d2]) → Inv k sl' → STs C X body ((sl'.set n (.d d1)).set m (.d d2)) { p with nx := Inv (k + 1), ct := Inv (k + 1), bk := fun _ => False })
    (k : ∀ sl', Inv ds.length sl' → STs C X ss sl' p) (w : Wk sl s0 := by repeat (first | exact trivial | refine ⟨by first | exact .inr rfl | exact .inl rfl, ?_⟩))
    (h1 : X.N[n]? = some x := by rfl) (h2 : X.N[m]? = some y := by rfl) (hx : Loc X.env.scope x := by first | exact .inl rfl | exact .inr rfl) (hy : Loc X.env.scope y := by first | exact .inl rfl | exact .inr rfl)
    (hf : X.fn x = true ∨ X.env.scope.names.lookup x = some .local := by first | exact .inl rfl | exact .inr rfl) (hg : X.fn y = true ∨ X.env.scope.names.lookup y = some .local := by first | exact .inl rfl | exact .inr rfl)
    (a1 : (assignEach [.Name x px, .Name y py] X.env).map (·.2) = assign (.Name x px) X.env :: (assignEach [.Name y py] X.env).map (·.2) := by rfl) (a2 : (assignEach [Expr.Name y py] X.env).map (·.2) = assign (.Name y py) X.env :: (assignEach [] X.env).map (·.2) := by rfl)
    (hn : (assignEach [.Name x px, .Name y py] X.env).length = 2 := by rfl) (hst : (assignEach [.Name x px, .Name y py] X.env).findIdx? (·.1) = none := by rfl)
    (hp : PassesOwn (model X.prog X.w) X.A X.env X.xe := by exact PassesOwn.never) (hs : ∀ y, foldedSetIterable iter X.env y = pure y := by intro _; rfl) : STs C X (.For (.Tuple [.Name x px, .Name y py] kk pt) iter body [] pos :: ss) sl p :=
  sts_forG (fun k s => (k = 0 ∧ s = sl) ∨ Inv k s) hc hi (.inl ⟨rfl, rfl⟩) (fun k d sl' hd' hI => by
    obtain ⟨d1, d2, rfl⟩ := hd d (List.mem_of_getElem? hd')
    have im : ∀ {s}, STs C X body s { p with nx := Inv (k + 1), ct := Inv (k + 1), bk := fun _ => False } → STs C X body s { p with nx := fun s => (k + 1 = 0 ∧ s = sl) ∨ Inv (k + 1) s, ct := fun s => (k + 1 = 0 ∧ s = sl) ∨ Inv (k + 1) s, bk := fun _ => False } :=
      fun h => h.imp (fun _ h => .inr h) (fun _ h => h) (fun _ h => h) (fun _ h => .inr h)
    refine ⟨_, ga_t2 n m hc hN h1 h2 hx hy hf hg a1 a2 hn hst, fun sl2 e => ?_⟩
    rw [show sl2 = _ from e]
    rcases hI with ⟨rfl, rfl⟩ | hI
    · exact im (sts_wk (hb 0 d1 d2 s0 hd' h0) ((w.set n _).set m _))
    · exact im (hb k d1 d2 sl' hd' hI)) (fun sl' hI => by
    rcases hI with ⟨h, rfl⟩ | hI
    · exact sts_wk (k s0 (by rw [h]; exact h0)) w
    · exact k sl' hI) hp hs
/-- for x, y, z in .. -/
theorem sts_for3 (n m l : Nat) (Inv : Nat → List Sl → Prop) (s0 : List Sl) (hc : X.calm = true) (hN : X.N.Nodup) (hi : IT C X (.Tuple [.Name x px, .Name y py, .Name z pz] kk pt) iter sl (isL ds)) (h0 : Inv 0 s0) (hd : ∀ d ∈ ds, ∃ d1 d2 d3, d = .tuple [d1, d2, d3])
    (hb : ∀ k d1 d2 d3 sl', ds[k]? = some (.tuple [d1, d2, d3]) → Inv k sl' → STs C X body (((sl'.set n (.d d1)).set m (.d d2)).set l (.d d3)) { p with nx := Inv (k + 1), ct := Inv (k + 1), bk := fun _ => False })
    (k : ∀ sl', Inv ds.length sl' → STs C X ss sl' p) (w : Wk sl s0 := by repeat (first | exact trivial | refine ⟨by first | exact .inr rfl | exact .inl rfl, ?_⟩))
    (h1 : X.N[n]? = some x := by rfl) (h2 : X.N[m]? = some y := by rfl) (h3 : X.N[l]? = some z := by rfl) (hx : Loc X.env.scope x := by first | exact .inl rfl | exact .inr rfl) (hy : Loc X.env.scope y := by first | exact .inl rfl | exact .inr rfl) (hz : Loc X.env.scope z := by first | exact .inl rfl | exact .inr rfl)
    (hf : X.fn x = true ∨ X.env.scope.names.lookup x = some .local := by first | exact .inl rfl | exact .inr rfl) (hg : X.fn y = true ∨ X.env.scope.names.lookup y = some .local := by first | exact .inl rfl | exact .inr rfl) (hh : X.fn z = true ∨ X.env.scope.names.lookup z = some .local := by first | exact .inl rfl | exact .inr rfl)
    (a1 : (assignEach [.Name x px, .Name y py, .Name z pz] X.env).map (·.2) = assign (.Name x px) X.env :: (assignEach [.Name y py, .Name z pz] X.env).map (·.2) := by rfl)
    (a2 : (assignEach [.Name y py, .Name z pz] X.env).map (·.2) = assign (.Name y py) X.env :: (assignEach [.Name z pz] X.env).map (·.2) := by rfl) (a3 : (assignEach [Expr.Name z pz] X.env).map (·.2) = assign (.Name z pz) X.env :: (assignEach [] X.env).map (·.2) := by rfl)
    (hn : (assignEach [.Name x px, .Name y py, .Name z pz] X.env).length = 3 := by rfl) (hst : (assignEach [.Name x px, .Name y py, .Name z pz] X.env).findIdx? (·.1) = none := by rfl)
    (hp : PassesOwn (model X.prog X.w) X.A X.env X.xe := by exact PassesOwn.never) (hs : ∀ y, foldedSetIterable iter X.env y = pure y := by intro _; rfl) : STs C X (.For (.Tuple [.Name x px, .Name y py, .Name z pz] kk pt) iter body [] pos :: ss) sl p :=
  sts_forG (fun k s => (k = 0 ∧ s = sl) ∨ Inv k s) hc hi (.inl ⟨rfl, rfl⟩) (fun k d sl' hd' hI => by
    obtain ⟨d1, d2, d3, rfl⟩ := hd d (List.mem_of_getElem? hd')
    have im : ∀ {s}, STs C X body s { p with nx := Inv (k + 1), ct := Inv (k + 1), bk := fun _ => False } → STs C X body s { p with nx := fun s => (k + 1 = 0 ∧ s = sl) ∨ Inv (k + 1) s, ct := fun s => (k + 1 = 0 ∧ s = sl) ∨ Inv (k + 1) s, bk := fun _ => False } :=
      fun h => h.imp (fun _ h => .inr h) (fun _ h => h) (fun _ h => h) (fun _ h => .inr h)
    refine ⟨_, ga_t3 n m l hc hN h1 h2 h3 hx hy hz hf hg hh a1 a2 a3 hn hst, fun sl2 e => ?_⟩
    rw [show sl2 = _ from e]
    rcases hI with ⟨rfl, rfl⟩ | hI
    · exact im (sts_wk (hb 0 d1 d2 d3 s0 hd' h0) (((w.set n _).set m _).set l _))
    · exact im (hb k d1 d2 d3 sl' hd' hI)) (fun sl' hI => by
    rcases hI with ⟨h, rfl⟩ | hI
    · exact sts_wk (k s0 (by rw [h]; exact h0)) w
    · exact k sl' hI) hp hs
theorem enumD_pairs {ds : List PyData} : ∀ d ∈ enumD ds, ∃ d1 d2, d = .tuple [d1, d2] := fun d h => by
  unfold enumD at h
  obtain ⟨k, hk⟩ := List.mem_iff_getElem?.mp h
  rw [List.getElem?_mapIdx] at hk
  obtain ⟨d0, _, rfl⟩ := Option.map_eq_some_iff.mp hk
  exact ⟨_, _, rfl⟩
theorem enumD_inv {ds : List PyData} {k : Nat} {d1 d2 : PyData} (h : (enumD ds)[k]? = some (.tuple [d1, d2])) : d1 = .int (k : Nat) ∧ ds[k]? = some d2 := by
  unfold enumD at h
  rw [List.getElem?_mapIdx] at h
  obtain ⟨d0, h0, e⟩ := Option.map_eq_some_iff.mp h
  injection e with e
  injection e with e1 e
  injection e with e2 _
  exact ⟨e1.symm, by rw [h0, e2]⟩
/-- a, b as a comprehension's target -/
theorem pgb2 {scope : Scope} {xa xb : Str} {pa pb : Pos} (na nb : Nat) (hc : X.calm = true) (hN : X.N.Nodup) (hNa : X.N[na]? = some xa := by rfl) (hNb : X.N[nb]? = some xb := by rfl)
    (la : ∀ (s : Shared) (H : Hp) (L : Addr) (cl : List (Str × Addr)) (fp : List Addr), Loc (compEnvC scope cl L X.env).scope xa := by first | exact fun _ _ _ _ _ => .inl rfl | exact fun _ _ _ _ _ => .inr rfl)
    (lb : ∀ (s : Shared) (H : Hp) (L : Addr) (cl : List (Str × Addr)) (fp : List Addr), Loc (compEnvC scope cl L X.env).scope xb := by first | exact fun _ _ _ _ _ => .inl rfl | exact fun _ _ _ _ _ => .inr rfl)
    (sa : ∀ (s : Shared) (H : Hp) (L : Addr) (cl : List (Str × Addr)) (fp : List Addr), (X.blk s H scope (compEnvC scope cl L X.env) fp).fn xa = true ∨ (compEnvC scope cl L X.env).scope.names.lookup xa = some .local := by first | exact fun _ _ _ _ _ => .inr rfl | exact fun _ _ _ _ _ => .inl rfl)
    (sb : ∀ (s : Shared) (H : Hp) (L : Addr) (cl : List (Str × Addr)) (fp : List Addr), (X.blk s H scope (compEnvC scope cl L X.env) fp).fn xb = true ∨ (compEnvC scope cl L X.env).scope.names.lookup xb = some .local := by first | exact fun _ _ _ _ _ => .inr rfl | exact fun _ _ _ _ _ => .inl rfl) :
    ∀ (s : Shared) (H : Hp) (L : Addr) (cl : List (Str × Addr)) (fp : List Addr), PG (X.blk s H scope (compEnvC scope cl L X.env) fp) (.Tuple [.Name xa pa, .Name xb pb] kk pt) (gTup X.K 2 (gCons (gName na) (gCons (gName nb) gNil))) := fun s H L cl fp =>
  pg_tup (X := X.blk s H scope (compEnvC scope cl L X.env) fp) hc (pgs_cons (pg_name hN hNa (la s H L cl fp) (sa s H L cl fp)) (pgs_cons (pg_name hN hNb (lb s H L cl fp) (sb s H L cl fp)) pgs_nil))
theorem pgb1 {scope : Scope} {xa : Str} {pa : Pos} (na : Nat) (hN : X.N.Nodup) (hNa : X.N[na]? = some xa := by rfl)
    (la : ∀ (s : Shared) (H : Hp) (L : Addr) (cl : List (Str × Addr)) (fp : List Addr), Loc (compEnvC scope cl L X.env).scope xa := by first | exact fun _ _ _ _ _ => .inl rfl | exact fun _ _ _ _ _ => .inr rfl)
    (sa : ∀ (s : Shared) (H : Hp) (L : Addr) (cl : List (Str × Addr)) (fp : List Addr), (X.blk s H scope (compEnvC scope cl L X.env) fp).fn xa = true ∨ (compEnvC scope cl L X.env).scope.names.lookup xa = some .local := by first | exact fun _ _ _ _ _ => .inr rfl | exact fun _ _ _ _ _ => .inl rfl) :
    ∀ (s : Shared) (H : Hp) (L : Addr) (cl : List (Str × Addr)) (fp : List Addr), PG (X.blk s H scope (compEnvC scope cl L X.env) fp) (.Name xa pa) (gName na) := fun s H L cl fp => pg_name hN hNa (la s H L cl fp) (sa s H L cl fp)
/-- an int of the top -/
theorem ev_topInt {t : Tok} (hm : X.mg x = some (.int i t)) (hg : Gl X x := by rfl) (hd : (x == ("__debug__" : Str)) = false := by decide) : EV C X (.Name x p1) sl (is (.int i)) := fun σ H O E Q k => ofE (pe_glob hg hm (v := .int i) ⟨t, rfl⟩ hd) (k _ H _ rfl (Tr.refl H) (.int i))
end
theorem IT.eq {C : Cfg} {X : Cx} {tg e : Expr} {sl : List Sl} {ds ds' : List PyData} (h : IT C X tg e sl (isL ds)) (k : ds = ds') : IT C X tg e sl (isL ds') := k ▸ h
theorem zipD_map {α β : Type} {f : α → PyData} {g : β → PyData} : ∀ (xs : List α) (ys : List β), zipD (xs.map f) (ys.map g) = (xs.zip ys).map fun p => .tuple [f p.1, g p.2]
  | [], _ => by simp [zipD]
  | _ :: _, [] => by simp [zipD]
  | x :: xs, y :: ys => by
    show PyData.tuple [f x, g y] :: zipD (xs.map f) (ys.map g) = _
    rw [zipD_map xs ys]
    rfl
end DL
/-! Comprehensions with a drawn test. -/
namespace DL
open PySem PySem.Spec PyProof.Rows L2
section
variable {C : Cfg} {X : Cx} {e a b c : Expr} {es : List Expr} {sl sl' : List Sl} {P P' Pa Pb Pc : PyData → Prop} {pos p1 : Pos} {K : PySem.W.Frag} {H H' : Hp} {σ : L2.St} {O : List Addr} {i j : Int} {x : Str} {p : Ps} {ss : List Stmt}
/-- [elt for x in iter if c], the test drawn -/
theorem lc_readD {α : Type} {iter elt : Expr} {scope : Scope} {n : Nat} {xs : Str} {px : Pos} {ws : List α} {enc : α → PyData} (g : α → PyData)
    (hi : IT C X (.Name xs px) iter sl (isL (ws.map enc))) (hT : ws.length ≤ 1000000)
    (hc : ∀ (s : Shared) (H : Hp) (L : Addr) (cl : List (Str × Addr)) (fp : List Addr) d, d ∈ ws → EVT C (X.blk s H scope (compEnvC scope cl L X.env) fp) c ((sl.set n .u).set n (.d (enc d))) (fun _ => True))
    (he : ∀ (s : Shared) (H : Hp) (L : Addr) (cl : List (Str × Addr)) (fp : List Addr) d, d ∈ ws → EV C (X.blk s H scope (compEnvC scope cl L X.env) fp) elt ((sl.set n .u).set n (.d (enc d))) (is (g d))) :
    RdN C X (tLc (cI X (.Name xs px) iter) (gName n) (cBlkT X scope c) (cBlk X scope elt) [n]) sl (fun d => ∃ us : List α, us.Sublist ws ∧ d = .list (us.map g)) := fun σ H O E Q k => by
  refine hi σ H O E _ fun J H1 ds' pT t1 w D hD => ?_
  have pT : ds' = ws.map enc := pT
  subst pT
  have hlen : (ws.map enc).length = ws.length := List.length_map _
  have E1 := E.tr t1
  have nst : ¬ C.vol D := fun e => (E1.fresh hD).2 (C.hst D e)
  refine ⟨fun i m H2 => m = ws.length - i ∧ i ≤ ws.length ∧ ∃ acc us, us.Sublist (ws.take i) ∧ H2 D = some (.lst acc) ∧ Reps X.K (cut (D :: (O ++ C.M)) H2) acc (us.map g) ∧ Same (cut (O ++ C.M) H1) (cut (D :: (O ++ C.M)) H2) ∧ Tr C H1 H2,
    ⟨ws.length, by simp, Nat.zero_le _, [], [], List.Sublist.refl _, upd_same, .nil, cut_same fun a o na h => ⟨fun z => ?_, ?_⟩, Tr.new hD⟩, ?_⟩
  · rcases List.mem_cons.mp z with rfl | z
    · rw [hD] at h; cases h
    · exact na z
  · rw [upd_ne (ne_of_none h hD)]; exact h
  rintro i m H2 ⟨rfl, hi2, acc, us, hu, h1, h2, h5, h6⟩
  have E2 : EnvOk X.K C H2 σ sl (D :: O) := E1.within hD h1 h5 h6
  have hsame : Same (cut (O ++ C.M) H1) H2 := h5.trans (cut_le _ _)
  by_cases hlt : i < ws.length
  · refine .inr ⟨w.goes i H2 hsame (by rw [hlen]; exact hlt), fun H' => ∃ acc us, us.Sublist (ws.take (i + 1)) ∧ H' D = some (.lst acc) ∧ Reps X.K (cut (D :: (O ++ C.M)) H') acc (us.map g) ∧ Same (cut (O ++ C.M) H1) (cut (D :: (O ++ C.M)) H') ∧ Tr C H1 H',
      fun H' ⟨acc', us', g0, g1, g2, g5, g6⟩ => ⟨ws.length - (i + 1), by omega, rfl, hlt, acc', us', g0, g1, g2, g5, g6⟩, fun v H3 yl => ?_⟩
    obtain ⟨d', hd', sm, rp⟩ := w.yields i H2 v H3 hsame (by rw [hlen]; exact hlt) yl
    rw [List.getElem?_map] at hd'
    obtain ⟨d, hd, rfl⟩ := Option.map_eq_some_iff.mp hd'
    have hmem : d ∈ ws := List.mem_of_getElem? hd
    have E3 := E2.tr (Tr.of sm)
    have rv : Rep X.K (cut ((D :: O) ++ C.M) H3) v (enc d) := rp _ (fun a h => by
      rcases List.mem_append.mp h with h | h
      · exact E2.to a h
      · exact E2.tm a h) h5
    have E4 := (E3.setU none n).setD rv n
    have e1 : ws.take (i + 1) = ws.take i ++ [d] := by rw [List.take_add_one, hd]; rfl
    have lu : us.length ≤ ws.length := Nat.le_trans hu.length_le (by rw [List.length_take]; omega)
    refine ⟨?_, fun s H0 L cl fp => ?_⟩
    · show ((σ.set n none).set n (some v)).set n none = σ.set n none
      rw [List.set_set, List.set_set]
    · refine hc s H0 L cl fp d hmem ((σ.set n none).set n (some v)) H3 (D :: O) E4 _ fun tb H3' ptb t3 => ?_
      have hD3 : H3' D = some (.lst acc) := t3.keep D _ nst (sm _ _ h1)
      have c3 : Same (cut (D :: (O ++ C.M)) H2) (cut (D :: (O ++ C.M)) H3') := cut_same fun a o na h => ⟨na, t3.keep a o (fun e => na (List.mem_cons_of_mem _ (List.mem_append_right _ (C.hst a e)))) (sm a o h)⟩
      cases tb with
      | true =>
        rw [if_pos rfl]
        intro s H0 L cl fp
        refine he s H0 L cl fp d hmem ((σ.set n none).set n (some v)) H3' (D :: O) (E4.tr t3) _ fun y H4 z pz t4 r4 => ?_
        have pz : z = g d := pz
        subst pz
        have hD4 : H4 D = some (.lst acc) := t4.keep D _ nst hD3
        have c4 : Same (cut (D :: (O ++ C.M)) H2) (cut (D :: (O ++ C.M)) H4) := c3.trans (cut_same fun a o na h => ⟨na, t4.keep a o (fun e => na (List.mem_cons_of_mem _ (List.mem_append_right _ (C.hst a e)))) h⟩)
        have eD : cut (D :: (O ++ C.M)) (upd H4 D (.lst (acc ++ [y]))) = cut (D :: (O ++ C.M)) H4 := cut_upd List.mem_cons_self
        refine ⟨acc, hD4, ?_, acc ++ [y], us ++ [d], by rw [e1]; exact hu.append (List.Sublist.refl _), upd_same, ?_, ?_, (h6.trans ((Tr.of sm).trans (t3.trans t4))).within hD hD4⟩
        · rw [h2.length, List.length_map]
          exact Nat.lt_of_le_of_lt lu (Nat.lt_of_le_of_lt hT (by decide))
        · rw [eD, List.map_append]; exact (h2.mono c4).append (.cons r4 .nil)
        · rw [eD]; exact h5.trans c4
      | false =>
        rw [if_neg (by decide)]
        refine ⟨acc, us, by rw [e1]; exact hu.trans (List.sublist_append_left _ _), hD3, ?_, h5.trans c3, h6.trans ((Tr.of sm).trans t3)⟩
        exact h2.mono c3
  · have ei : i = ws.length := by omega
    subst ei
    rw [List.take_length] at hu
    exact .inl ⟨(by rw [← hlen]; exact w.stops H2 hsame), k D _ H2 _ ⟨us, hu, rfl⟩ (t1.trans h6) (t1.none hD nst) h1 (.lst h2)⟩
end
end DL
/-! is not; tuples of four and five names. -/
namespace DL
open PySem PySem.Spec PyProof.Rows L2
section
variable {C : Cfg} {X : Cx} {e a b c : Expr} {es : List Expr} {sl sl' : List Sl} {P P' Pa Pb Pc : PyData → Prop} {pos p1 : Pos} {K : PySem.W.Frag} {H H' : Hp} {σ : L2.St} {O : List Addr} {i j : Int} {x : Str} {p : Ps} {ss : List Stmt}
theorem not_dec (t u : Bool) : (!decide (t = u)) = decide (t ≠ u) := by cases t <;> cases u <;> rfl
theorem ev_notB {t u : Bool} (ha : EV C X a sl (is (.bool t))) (hb : EV C X b sl (is (.bool u))) : EV C X (.Compare a [.IsNot] [b] pos) sl (is (.bool (decide (t ≠ u)))) := (ev_cmp (T := isB (decide (t ≠ u))) op_isnot_bl ha hb.bo (nomark _) (fun H x y dx dy px py rx ry => by
  have px : dx = .bool t := px
  have py : dy = .bool u := py
  subst px py
  exact ⟨_, rfl, fun Q q => ⟨t, u, rx.bl_inv, ry.bl_inv, by rw [not_dec]; exact q⟩⟩)).bool fun _ p => p
theorem et_notB {t u : Bool} (ha : EV C X a sl (is (.bool t))) (hb : EV C X b sl (is (.bool u))) : EVT C X (.Compare a [.IsNot] [b] pos) sl (isB (decide (t ≠ u))) := et_cmp (T := isB (decide (t ≠ u))) op_isnot_bl ha hb.bo (nomark _) (fun H x y dx dy px py rx ry => by
  have px : dx = .bool t := px
  have py : dy = .bool u := py
  subst px py
  exact ⟨_, rfl, fun Q q => ⟨t, u, rx.bl_inv, ry.bl_inv, by rw [not_dec]; exact q⟩⟩)
theorem ev_withinE (ha : EV C X a sl (is (.int i))) (hb : EV C X b sl (is (.int j))) {k : Int} (hc : EV C X c sl (is (.int k))) (hm : lastMarks [.LtE, .LtE] [b, c] = false := by with_unfolding_all rfl) : EV C X (.Compare a [.LtE, .LtE] [b, c] pos) sl (is (.bool (decide (i ≤ j) && decide (j ≤ k)))) :=
  ev_chain op_le op_le ha hb hc hm
theorem sts_unpack4 (n0 n1 n2 n3 : Nat) {x0 x1 x2 x3 : Str} {q0 q1 q2 q3 pt : Pos} {kk : Nat} {d0 d1 d2 d3 : PyData} (hc : X.calm = true) (hN : X.N.Nodup) (h : EV C X e sl (is (.tuple [d0, d1, d2, d3]))) (k : STs C X ss ((((sl.set n0 (.d d0)).set n1 (.d d1)).set n2 (.d d2)).set n3 (.d d3)) p)
    (hi0 : X.N[n0]? = some x0 := by rfl)    (hi1 : X.N[n1]? = some x1 := by rfl)    (hi2 : X.N[n2]? = some x2 := by rfl)    (hi3 : X.N[n3]? = some x3 := by rfl)
    (hx0 : Loc X.env.scope x0 := by first | exact .inl rfl | exact .inr rfl)    (hx1 : Loc X.env.scope x1 := by first | exact .inl rfl | exact .inr rfl)    (hx2 : Loc X.env.scope x2 := by first | exact .inl rfl | exact .inr rfl)    (hx3 : Loc X.env.scope x3 := by first | exact .inl rfl | exact .inr rfl)
    (hf0 : X.fn x0 = true ∨ X.env.scope.names.lookup x0 = some .local := by first | exact .inl rfl | exact .inr rfl)    (hf1 : X.fn x1 = true ∨ X.env.scope.names.lookup x1 = some .local := by first | exact .inl rfl | exact .inr rfl)    (hf2 : X.fn x2 = true ∨ X.env.scope.names.lookup x2 = some .local := by first | exact .inl rfl | exact .inr rfl)    (hf3 : X.fn x3 = true ∨ X.env.scope.names.lookup x3 = some .local := by first | exact .inl rfl | exact .inr rfl)
    (hs : swapsWithSole [.Tuple [.Name x0 q0, .Name x1 q1, .Name x2 q2, .Name x3 q3] kk pt] e pos.line X.env = pure false := by rfl) (hw : swappedStores [.Tuple [.Name x0 q0, .Name x1 q1, .Name x2 q2, .Name x3 q3] kk pt] e X.env = pure none := by rfl)
    (h1 : (assignEach [.Tuple [.Name x0 q0, .Name x1 q1, .Name x2 q2, .Name x3 q3] kk pt] X.env).map (·.2) = [assign (.Tuple [.Name x0 q0, .Name x1 q1, .Name x2 q2, .Name x3 q3] kk pt) X.env] := by rfl)
    (a0 : (assignEach [.Name x0 q0, .Name x1 q1, .Name x2 q2, .Name x3 q3] X.env).map (·.2) = assign (.Name x0 q0) X.env :: (assignEach [.Name x1 q1, .Name x2 q2, .Name x3 q3] X.env).map (·.2) := by rfl)
    (a1 : (assignEach [.Name x1 q1, .Name x2 q2, .Name x3 q3] X.env).map (·.2) = assign (.Name x1 q1) X.env :: (assignEach [.Name x2 q2, .Name x3 q3] X.env).map (·.2) := by rfl)
    (a2 : (assignEach [.Name x2 q2, .Name x3 q3] X.env).map (·.2) = assign (.Name x2 q2) X.env :: (assignEach [Expr.Name x3 q3] X.env).map (·.2) := by rfl)
    (a3 : (assignEach [Expr.Name x3 q3] X.env).map (·.2) = assign (.Name x3 q3) X.env :: (assignEach [] X.env).map (·.2) := by rfl)
    (hn : (assignEach [.Name x0 q0, .Name x1 q1, .Name x2 q2, .Name x3 q3] X.env).length = 4 := by rfl) (hst : (assignEach [.Name x0 q0, .Name x1 q1, .Name x2 q2, .Name x3 q3] X.env).findIdx? (·.1) = none := by rfl) :
    STs C X (.Assign [.Tuple [.Name x0 q0, .Name x1 q1, .Name x2 q2, .Name x3 q3] kk pt] e pos :: ss) sl p :=
  sts_asg (N := fun _ s => s = (((sl.set n0 (.d d0)).set n1 (.d d1)).set n2 (.d d2)).set n3 (.d d3)) h (fun d pd => by
    rw [show d = _ from pd]
    exact ga_tup hc (gas_cons (ga_name n0 hN hi0 hx0 hf0) (fun sl' e => by rw [show sl' = _ from e]; exact gas_cons (ga_name n1 hN hi1 hx1 hf1) (fun sl' e => by rw [show sl' = _ from e]; exact gas_cons (ga_name n2 hN hi2 hx2 hf2) (fun sl' e => by rw [show sl' = _ from e]; exact gas_n1 n3 hN hi3 hx3 hf3 a3) a2) a1) a0) hn hst) (fun d sl' pd n => by rw [n]; exact k) hs hw h1
theorem sts_unpack5 (n0 n1 n2 n3 n4 : Nat) {x0 x1 x2 x3 x4 : Str} {q0 q1 q2 q3 q4 pt : Pos} {kk : Nat} {d0 d1 d2 d3 d4 : PyData} (hc : X.calm = true) (hN : X.N.Nodup) (h : EV C X e sl (is (.tuple [d0, d1, d2, d3, d4]))) (k : STs C X ss (((((sl.set n0 (.d d0)).set n1 (.d d1)).set n2 (.d d2)).set n3 (.d d3)).set n4 (.d d4)) p)
    (hi0 : X.N[n0]? = some x0 := by rfl)    (hi1 : X.N[n1]? = some x1 := by rfl)    (hi2 : X.N[n2]? = some x2 := by rfl)    (hi3 : X.N[n3]? = some x3 := by rfl)    (hi4 : X.N[n4]? = some x4 := by rfl)
    (hx0 : Loc X.env.scope x0 := by first | exact .inl rfl | exact .inr rfl)    (hx1 : Loc X.env.scope x1 := by first | exact .inl rfl | exact .inr rfl)    (hx2 : Loc X.env.scope x2 := by first | exact .inl rfl | exact .inr rfl)    (hx3 : Loc X.env.scope x3 := by first | exact .inl rfl | exact .inr rfl)    (hx4 : Loc X.env.scope x4 := by first | exact .inl rfl | exact .inr rfl)
    (hf0 : X.fn x0 = true ∨ X.env.scope.names.lookup x0 = some .local := by first | exact .inl rfl | exact .inr rfl)    (hf1 : X.fn x1 = true ∨ X.env.scope.names.lookup x1 = some .local := by first | exact .inl rfl | exact .inr rfl)    (hf2 : X.fn x2 = true ∨ X.env.scope.names.lookup x2 = some .local := by first | exact .inl rfl | exact .inr rfl)    (hf3 : X.fn x3 = true ∨ X.env.scope.names.lookup x3 = some .local := by first | exact .inl rfl | exact .inr rfl)    (hf4 : X.fn x4 = true ∨ X.env.scope.names.lookup x4 = some .local := by first | exact .inl rfl | exact .inr rfl)
    (hs : swapsWithSole [.Tuple [.Name x0 q0, .Name x1 q1, .Name x2 q2, .Name x3 q3, .Name x4 q4] kk pt] e pos.line X.env = pure false := by rfl) (hw : swappedStores [.Tuple [.Name x0 q0, .Name x1 q1, .Name x2 q2, .Name x3 q3, .Name x4 q4] kk pt] e X.env = pure none := by rfl)
    (h1 : (assignEach [.Tuple [.Name x0 q0, .Name x1 q1, .Name x2 q2, .Name x3 q3, .Name x4 q4] kk pt] X.env).map (·.2) = [assign (.Tuple [.Name x0 q0, .Name x1 q1, .Name x2 q2, .Name x3 q3, .Name x4 q4] kk pt) X.env] := by rfl)
    (a0 : (assignEach [.Name x0 q0, .Name x1 q1, .Name x2 q2, .Name x3 q3, .Name x4 q4] X.env).map (·.2) = assign (.Name x0 q0) X.env :: (assignEach [.Name x1 q1, .Name x2 q2, .Name x3 q3, .Name x4 q4] X.env).map (·.2) := by rfl)
    (a1 : (assignEach [.Name x1 q1, .Name x2 q2, .Name x3 q3, .Name x4 q4] X.env).map (·.2) = assign (.Name x1 q1) X.env :: (assignEach [.Name x2 q2, .Name x3 q3, .Name x4 q4] X.env).map (·.2) := by rfl)
    (a2 : (assignEach [.Name x2 q2, .Name x3 q3, .Name x4 q4] X.env).map (·.2) = assign (.Name x2 q2) X.env :: (assignEach [.Name x3 q3, .Name x4 q4] X.env).map (·.2) := by rfl)
    (a3 : (assignEach [.Name x3 q3, .Name x4 q4] X.env).map (·.2) = assign (.Name x3 q3) X.env :: (assignEach [Expr.Name x4 q4] X.env).map (·.2) := by rfl)
    (a4 : (assignEach [Expr.Name x4 q4] X.env).map (·.2) = assign (.Name x4 q4) X.env :: (assignEach [] X.env).map (·.2) := by rfl)
    (hn : (assignEach [.Name x0 q0, .Name x1 q1, .Name x2 q2, .Name x3 q3, .Name x4 q4] X.env).length = 5 := by rfl) (hst : (assignEach [.Name x0 q0, .Name x1 q1, .Name x2 q2, .Name x3 q3, .Name x4 q4] X.env).findIdx? (·.1) = none := by rfl) :
    STs C X (.Assign [.Tuple [.Name x0 q0, .Name x1 q1, .Name x2 q2, .Name x3 q3, .Name x4 q4] kk pt] e pos :: ss) sl p :=
  sts_asg (N := fun _ s => s = ((((sl.set n0 (.d d0)).set n1 (.d d1)).set n2 (.d d2)).set n3 (.d d3)).set n4 (.d d4)) h (fun d pd => by
    rw [show d = _ from pd]
    exact ga_tup hc (gas_cons (ga_name n0 hN hi0 hx0 hf0) (fun sl' e => by rw [show sl' = _ from e]; exact gas_cons (ga_name n1 hN hi1 hx1 hf1) (fun sl' e => by rw [show sl' = _ from e]; exact gas_cons (ga_name n2 hN hi2 hx2 hf2) (fun sl' e => by rw [show sl' = _ from e]; exact gas_cons (ga_name n3 hN hi3 hx3 hf3) (fun sl' e => by rw [show sl' = _ from e]; exact gas_n1 n4 hN hi4 hx4 hf4 a4) a3) a2) a1) a0) hn hst) (fun d sl' pd n => by rw [n]; exact k) hs hw h1
end
end DL
/-! Tuples of ints, within bounds and ascending. -/
namespace AC
open PySem PySem.Spec PyProof.Rows L2 DL
abbrev tI (ns : List Int) : PyData := .tuple (ns.map .int)
def inB (m x : Int) : Bool := decide (0 ≤ x) && decide (x < m)
theorem inB_iff {m x : Int} : inB m x = true ↔ 0 ≤ x ∧ x < m := by
  unfold inB
  rw [Bool.and_eq_true, decide_eq_true_eq, decide_eq_true_eq]
def ascI (ns : List Int) : Bool := (ns.zip ns.tail).all fun p => decide (p.1 < p.2)
def ascT (ps : List (List Int)) : Bool := (ps.zip ps.tail).all fun p => HT.lexLt p.1 p.2
theorem zip_tail_pw {α : Type} {r : α → α → Bool} : ∀ {xs : List α}, xs.Pairwise (fun a b => r a b = true) → (xs.zip xs.tail).all (fun p => r p.1 p.2) = true
  | [], _ => rfl
  | [_], _ => rfl
  | a :: b :: xs, h => by
    have h1 := List.pairwise_cons.mp h
    have ih := zip_tail_pw h1.2
    show (r a b && ((b :: xs).zip xs).all fun p => r p.1 p.2) = true
    rw [h1.1 b (by simp)]
    exact ih
theorem ascI_pw {ns : List Int} (h : ns.Pairwise (· < ·)) : ascI ns = true := zip_tail_pw (r := fun a b => decide (a < b)) (h.imp fun q => decide_eq_true q)
theorem ascT_pw {ps : List (List Int)} (h : ps.Pairwise fun a b => HT.lexLt a b = true) : ascT ps = true := zip_tail_pw (r := HT.lexLt) h
abbrev Tri := Int × Int × Int
def triD (t : Tri) : PyData := .tuple [.int t.1, .int t.2.1, .int t.2.2]
def triL (t : Tri) : List Int := [t.1, t.2.1, t.2.2]
/-- rows: of ints, or of tuples of ints -/
abbrev IRow := List Int ⊕ List (List Int)
def rowD : IRow → PyData
  | .inl ns => tI ns
  | .inr ps => .tuple (ps.map tI)
def rowA : IRow → Bool
  | .inl ns => ascI ns
  | .inr ps => ascT ps
def rowL : IRow → Nat
  | .inl ns => ns.length
  | .inr ps => ps.length
def stOk (m : Int) (row : List Int) : Bool := row.all (inB m) && ascI row
theorem cut_tail (xs : List PyData) : cutL xs (some 1) none = xs.tail := by
  have := cutL_from xs 1
  rw [show ((1 : Nat) : Int) = 1 from rfl] at this
  rw [this, List.drop_one]
theorem cut_one (xs : List PyData) : cutL xs none (some 1) = xs.take 1 := cutL_to xs 1
/-! what is drawn: a row of numbers, some of those of a range -/
def SubR (m : Nat) (ns : List Int) : Prop := ns.Pairwise (· < ·) ∧ ns.length ≤ m ∧ ∀ x ∈ ns, 0 ≤ x ∧ x < m
theorem subR_of {m : Nat} {us : List Nat} (h : us.Sublist (List.range m)) : SubR m (us.map fun n : Nat => (n : Int)) := by
  refine ⟨?_, ?_, ?_⟩
  · rw [List.pairwise_map]
    exact (List.Pairwise.sublist h List.pairwise_lt_range).imp fun q => by omega
  · rw [List.length_map]
    have := h.length_le
    rwa [List.length_range] at this
  · intro x hx
    obtain ⟨n, hn, rfl⟩ := List.mem_map.mp hx
    have := List.mem_range.mp (h.subset hn)
    omega
theorem SubR.ok {m : Nat} {ns : List Int} (h : SubR m ns) : stOk m ns = true := by
  unfold stOk
  rw [Bool.and_eq_true]
  exact ⟨List.all_eq_true.mpr fun x hx => inB_iff.mpr (h.2.2 x hx), ascI_pw h.1⟩
theorem stOk_bad {m : Int} {ns : List Int} {x : Int} (hx : x ∈ ns) (h : ¬ (0 ≤ x ∧ x < m)) : stOk m ns = false := by
  unfold stOk
  rw [Bool.and_eq_false_iff]
  left
  rw [List.all_eq_false]
  exact ⟨x, hx, fun q => h (inB_iff.mp q)⟩
theorem stOk_00 (m : Int) (a b : Int) (h : ¬ a < b) : stOk m [a, b] = false := by
  unfold stOk
  rw [Bool.and_eq_false_iff]
  right
  show (decide (a < b) && true) = false
  rw [decide_eq_false h]
  rfl
end AC
/-! Draws, and tests of what is drawn. -/
namespace DL
open PySem PySem.Spec PyProof.Rows L2
def dI (Q : Int → Prop) : PyData → Prop := fun d => ∃ j : Int, d = .int j ∧ Q j
section
variable {C : Cfg} {X : Cx} {e a b c : Expr} {es : List Expr} {sl sl' : List Sl} {P P' Pa Pb Pc : PyData → Prop} {pos p1 : Pos} {K : PySem.W.Frag} {H H' : Hp} {σ : L2.St} {O : List Addr} {i j : Int} {x : Str} {p : Ps} {ss : List Stmt} {Q : Int → Prop} {m : Int}
theorem i2d {T : Bool → Prop} {r : R2} (h : ∀ (H : Hp) (j : Int) (x y : V) (dx dy : PyData), Q j → is (.int j) dx → is (.int m) dy → Rep X.K H x dx → Rep X.K H y dy → ∃ t, T t ∧ ∀ Q' : VK, Q' (.bl t) H → r x y H Q') : ∀ (H : Hp) (x y : V) (dx dy : PyData), dI Q dx → is (.int m) dy → Rep X.K H x dx → Rep X.K H y dy → ∃ t, T t ∧ ∀ Q' : VK, Q' (.bl t) H → r x y H Q' := fun H x y dx dy ⟨j, e, q⟩ py rx ry => h H j x y dx dy q e py rx ry
theorem et_gtD (ha : EV C X a sl (dI Q)) (hb : EV C X b sl (is (.int m))) : EVT C X (.Compare a [.Gt] [b] pos) sl (fun t => ∃ j, Q j ∧ t = decide (m < j)) := et_cmp op_gt ha hb.bo (nomark _) (i2d fun H j x y dx dy q px py rx ry => by
  obtain ⟨t, pt, k⟩ := i2b (X := X) (g := fun i j => decide (j < i)) H x y dx dy px py rx ry
  exact ⟨t, ⟨j, q, pt⟩, k⟩)
theorem et_ltD (ha : EV C X a sl (dI Q)) (hb : EV C X b sl (is (.int m))) : EVT C X (.Compare a [.Lt] [b] pos) sl (fun t => ∃ j, Q j ∧ t = decide (j < m)) := et_cmp op_lt ha hb.bo (nomark _) (i2d fun H j x y dx dy q px py rx ry => by
  obtain ⟨t, pt, k⟩ := i2b (X := X) (g := fun i j => decide (i < j)) H x y dx dy px py rx ry
  exact ⟨t, ⟨j, q, pt⟩, k⟩)
theorem et_eqD (ha : EV C X a sl (dI Q)) (hb : EV C X b sl (is (.int m))) : EVT C X (.Compare a [.Eq] [b] pos) sl (fun t => ∃ j, Q j ∧ t = decide (j = m)) := et_cmp op_eq ha hb.bo (nomark _) (i2d fun H j x y dx dy q px py rx ry => by
  obtain ⟨t, pt, k⟩ := i2eq (X := X) H x y dx dy px py rx ry
  exact ⟨t, ⟨j, q, pt⟩, k⟩)
theorem et_neD (ha : EV C X a sl (dI Q)) (hb : EV C X b sl (is (.int m))) : EVT C X (.Compare a [.NotEq] [b] pos) sl (fun t => ∃ j, Q j ∧ t = decide (j ≠ m)) := et_cmp op_ne ha hb.bo (nomark _) (i2d fun H j x y dx dy q px py rx ry => by
  obtain ⟨t, pt, k⟩ := i2ne (X := X) H x y dx dy px py rx ry
  exact ⟨t, ⟨j, q, pt⟩, k⟩)
theorem ev_eqD (ha : EV C X a sl (dI Q)) (hb : EV C X b sl (is (.int m))) : EV C X (.Compare a [.Eq] [b] pos) sl (fun d => ∃ t, (∃ j, Q j ∧ t = decide (j = m)) ∧ d = .bool t) := ev_cmp op_eq ha hb.bo (nomark _) (i2d fun H j x y dx dy q px py rx ry => by
  obtain ⟨t, pt, k⟩ := i2eq (X := X) H x y dx dy px py rx ry
  exact ⟨t, ⟨j, q, pt⟩, k⟩)
theorem EVT.imp' {T T' : Bool → Prop} (h : EVT C X e sl T) (k : ∀ t, T t → T' t) : EVT C X e sl T' := h.imp k
theorem EVT.tt {T : Bool → Prop} (h : EVT C X e sl T) : EVT C X e sl (fun _ => True) := h.imp fun _ _ => trivial
/-- _law_draw(state, e), e known -/
theorem ev_draw {f : Addr} {fd : FuncData} {k : Nat} {st : Addr} {sx : Str} {sp q1 q2 : Pos} (n : Nat) (GD : FnOk X.prog X.w X.K X.mg X.base CX0 k f fd ["state", "limit"] (SpDraw X.K)) (hr : Room k X.A) (hm : X.mg "_law_draw" = some (.ref f)) (hk : PySem.W.keepIn X.K (.ref f) = true) (hb : Binds X.K fd ["state", "limit"] []) (hst : C.st = some st)
    (ha : EV C X a sl (is (.int m))) (h1 : 0 < m ∧ m ≤ 1000000)
    (hs : sl[n]? = some (.r (.ref st)) := by rfl) (hN : X.N[n]? = some sx := by rfl) (hv : Vis X.env.scope sx := by first | exact Or.inl rfl | exact Or.inr (Or.inl rfl) | exact Or.inr (Or.inr rfl)) (hd : (sx == ("__debug__" : Str)) = false := by decide) (hcd : (sx == ("__classdict__" : Str)) = false := by decide)
    (hg : Gl X "_law_draw" := by rfl) (hdb : (("_law_draw" : Str) == ("__debug__" : Str)) = false := by decide)
    (he0 : starEach [a] X.env = (false, eval a X.env) :: starEach [] X.env := by rfl)
    (he : starEach (.Name sx sp :: [a]) X.env = (false, eval (.Name sx sp) X.env) :: starEach [a] X.env := by rfl) (hpl : (backTo q2 (starEach [a] X.env)).any (·.1) = false := by rfl) : EV C X (.Call (.Name "_law_draw" q1) [.Name sx sp, a] [] q2) sl (dI fun j => 0 ≤ j ∧ j < m) :=
  ev_callS n GD hr hm hk hb hst (ea_cons ha ea_nil he0) (fun ds p => ⟨m, p, h1, fun d q => q⟩) hs hN hv hg hdb hd hcd he hpl
end
end DL
namespace DL
open PySem PySem.Spec PyProof.Rows L2
section
variable {C : Cfg} {X : Cx} {e a b c elt : Expr} {es : List Expr} {sl sl' : List Sl} {P P' Pa Pb Pc : PyData → Prop} {pos p1 p2 q1 : Pos} {K : PySem.W.Frag} {H H' : Hp} {σ : L2.St} {O : List Addr} {i j : Int} {x : Str} {p : Ps} {ss : List Stmt}
theorem rgD_nat0 (m : Nat) : rgD 0 (m : Nat) = (List.range m).map fun k : Nat => PyData.int (k : Nat) := by
  unfold rgD
  rw [Int.sub_zero, Int.toNat_natCast]
  refine List.map_congr_left fun k _ => ?_
  rw [Int.zero_add]
/-- for x in range(e) -/
theorem sts_forR (n : Nat) {m : Nat} {body : List Stmt} (Inv : Nat → List Sl → Prop) (s0 : List Sl) (hc : X.calm = true) (hN : X.N.Nodup) (hm : X.mg "range" = none) (h : EV C X e sl (is (.int (m : Nat)))) (hz : m < 2 ^ 62) (h0 : Inv 0 s0)
    (hb : ∀ (k : Nat) sl', k < m → Inv k sl' → STs C X body (sl'.set n (.d (.int (k : Nat)))) { p with nx := Inv (k + 1), ct := Inv (k + 1), bk := fun _ => False })
    (k : ∀ sl', Inv m sl' → STs C X ss sl' p) (w : Wk sl s0 := by repeat (first | exact trivial | refine ⟨by first | exact .inr rfl | exact .inl rfl, ?_⟩))
    (hx1 : X.N[n]? = some x := by rfl) (hx : Loc X.env.scope x := by first | exact .inl rfl | exact .inr rfl) (hf : X.fn x = true ∨ X.env.scope.names.lookup x = some .local := by first | exact .inl rfl | exact .inr rfl)
    (hg : Gl X "range" := by rfl) (he : starEach [e] X.env = [(false, eval e X.env)] := by rfl)
    (hp : PassesOwn (model X.prog X.w) X.A X.env X.xe := by exact PassesOwn.never) (hs : ∀ y, foldedSetIterable (.Call (.Name "range" p2) [e] [] q1) X.env y = pure y := by intro _; rfl) : STs C X (.For (.Name x p1) (.Call (.Name "range" p2) [e] [] q1) body [] pos :: ss) sl p :=
  sts_forI n Inv s0 hc hN ((it_range1 hm h (by omega) (by omega) hg he).eq (rgD_nat0 m)) h0 (fun k d sl' hd hI => by
    rw [List.getElem?_map] at hd
    obtain ⟨j, hj, rfl⟩ := Option.map_eq_some_iff.mp hd
    have hk := (List.getElem?_eq_some_iff.mp hj).1
    rw [List.length_range] at hk
    rw [List.getElem?_range hk] at hj
    injection hj with hj
    subst hj
    exact hb k sl' hk hI) (fun sl' hI => by
    rw [List.length_map, List.length_range] at hI
    exact k sl' hI) w hx1 hx hf hp hs
/-- [x for x in range(e) if drawn] -/
theorem en_lcD (n : Nat) {m : Nat} {scope : Scope} {xs : Str} {px : Pos} (g : Nat → PyData) (hc : X.calm = true) (hN : X.N.Nodup) (ok : LcOk X scope n xs) (hm : X.mg "range" = none) (h : EV C X e sl (is (.int (m : Nat)))) (hz : m ≤ 1000000)
    (ht : ∀ (s : Shared) (H : Hp) (L : Addr) (cl : List (Str × Addr)) (fp : List Addr) k, k < m → EVT C (X.blk s H scope (compEnvC scope cl L X.env) fp) c ((sl.set n .u).set n (.d (.int (k : Nat)))) (fun _ => True))
    (he : ∀ (s : Shared) (H : Hp) (L : Addr) (cl : List (Str × Addr)) (fp : List Addr) k, k < m → EV C (X.blk s H scope (compEnvC scope cl L X.env) fp) elt ((sl.set n .u).set n (.d (.int (k : Nat)))) (is (g k)))
    (hg : Gl X "range" := by rfl) (hst : starEach [e] X.env = [(false, eval e X.env)] := by rfl)
    (hs : ∀ y, foldedSetIterable (.Call (.Name "range" p2) [e] [] q1) X.env y = pure y := by intro _; rfl) :
    EVN C X (.ListComp elt [⟨.Name xs px, .Call (.Name "range" p2) [e] [] q1, [c], 0⟩] scope pos) sl (fun d => ∃ us : List Nat, us.Sublist (List.range m) ∧ d = .list (us.map g)) :=
  en_lcF hc hN ok (lc_readD (ws := List.range m) (enc := fun k : Nat => PyData.int (k : Nat)) g ((it_range1 hm h (by omega) (by omega) hg hst).eq (rgD_nat0 m)) (by rw [List.length_range]; exact hz)
    (fun s H L cl fp d hd => ht s H L cl fp d (List.mem_range.mp hd)) (fun s H L cl fp d hd => he s H L cl fp d (List.mem_range.mp hd))) hs
end
end DL
namespace DL
open PySem PySem.Spec PyProof.Rows L2
/-- no starred expression -/
def plainE : Expr → Bool
  | .Starred .. => false
  | _ => true
theorem starEach_plain {e : Expr} {es : List Expr} {env : PySem.Env} (h : plainE e = true) : starEach (e :: es) env = (false, eval e env) :: starEach es env := by
  cases e <;> first | rfl | cases h
section
variable {C : Cfg} {X : Cx} {e : Expr} {es : List Expr} {sl : List Sl} {P : PyData → Prop}
theorem ea_c {d : PyData} {ds : List PyData} (h : EV C X e sl (is d)) (ht : EVA C X es sl (isL ds)) (hp : plainE e = true := by rfl) : EVA C X (e :: es) sl (isL (d :: ds)) := ea_cons h ht (starEach_plain hp)
theorem ea_cP {T : List PyData → Prop} (h : EV C X e sl P) (ht : EVA C X es sl T) (hp : plainE e = true := by rfl) : EVA C X (e :: es) sl (fun l => ∃ d ds, l = d :: ds ∧ P d ∧ T ds) := ea_consP h ht (starEach_plain hp)
end
end DL
namespace DL
open PySem PySem.Spec PyProof.Rows L2
theorem back_plain {pos : Pos} {env : PySem.Env} : ∀ {es : List Expr}, es.all plainE = true → (backTo pos (starEach es env)).any (·.1) = false := by
  intro es
  unfold backTo
  rw [List.any_map]
  induction es with
  | nil => intro _; rfl
  | cons e es ih =>
    intro h
    rw [List.all_cons, Bool.and_eq_true] at h
    rw [starEach_plain h.1, List.any_cons, ih h.2]
    rfl
section
variable {C : Cfg} {X : Cx} {e : Expr} {es : List Expr} {sl : List Sl} {P : PyData → Prop} {pos p : Pos} {x : Str}
theorem ev_callc {α : Type} {args : α → List PyData} {pre : α → Prop} {post : α → PyData → Prop} {f : Addr} {fd : FuncData} {k : Nat} {ps : List Str} {T : List PyData → Prop}
    (F : FnOk X.prog X.w X.K X.mg X.base CX0 k f fd ps (SpD X.K args pre post)) (hr : Room k X.A) (hm : X.mg x = some (.ref f)) (hk : PySem.W.keepIn X.K (.ref f) = true) (hb : Binds X.K fd ps [])
    (ha : EVA C X (e :: es) sl T) (hp : ∀ ds, T ds → ∃ y, ds = args y ∧ pre y ∧ ∀ d, post y d → P d) (hg : Gl X x := by rfl) (hdb : (x == ("__debug__" : Str)) = false := by decide)
    (he : plainE e = true := by rfl) (hpl : es.all plainE = true := by rfl) : EV C X (.Call (.Name x p) (e :: es) [] pos) sl P :=
  ev_call F hr hm hk hb ha hp hg hdb (starEach_plain he) (back_plain hpl)
end
end DL
/-! Names whose being seen is known at once; literals. -/
namespace DL
open PySem PySem.Spec PyProof.Rows L2
def visB (sc : Scope) (xs : List Str) : Bool := xs.all fun x => (decide (sc.names.lookup x = some .local) || decide (sc.names.lookup x = some .cell) || decide (sc.names.lookup x = some .free)) && !(x == ("__debug__" : Str)) && !(x == ("__classdict__" : Str))
structure VisL (X : Cx) (xs : List Str) : Prop where
  all : ∀ x ∈ xs, Vis X.env.scope x ∧ (x == ("__debug__" : Str)) = false ∧ (x == ("__classdict__" : Str)) = false
theorem visL_of {X : Cx} {sc : Scope} {xs : List Str} (h : visB sc xs = true) (e : X.env.scope = sc := by rfl) : VisL X xs := ⟨fun x hx => by
  have := List.all_eq_true.mp h x hx
  rw [Bool.and_eq_true, Bool.and_eq_true, Bool.or_eq_true, Bool.or_eq_true, decide_eq_true_eq, decide_eq_true_eq, decide_eq_true_eq] at this
  rw [e]
  exact ⟨or_assoc.mp this.1.1, by simpa using this.1.2, by simpa using this.2⟩⟩
theorem size_le {α : Type} {xs : List α} (n : Nat) (h : xs.length = n) (hn : Nat.ble n 100000 = true) : xs.length ≤ 100000 := by rw [h]; exact Nat.le_of_ble_eq_true hn
section
variable {C : Cfg} {X : Cx} {e a b : Expr} {es : List Expr} {sl : List Sl} {P : PyData → Prop} {pos p : Pos} {x : Str} {xs : List Str}
theorem ev_v (V : VisL X xs) (i : Nat) {d : PyData} (hs : sl[i]? = some (.d d) := by rfl) (hN : X.N[i]? = some x := by rfl) (hx : xs[i]? = some x := by rfl) : EV C X (.Name x pos) sl (is d) :=
  have h := V.all x (List.mem_of_getElem? hx)
  ev_var i hs hN h.1 h.2.1 h.2.2
theorem ev_tupN (n : Nat) {ds : List PyData} {x1 : Nat} (h : EVA C X es sl (isL ds)) (hl : ds.length = n := by rfl) (hn : Nat.ble n 100000 = true := by rfl) : EV C X (.Tuple es x1 pos) sl (is (.tuple ds)) := ev_tup h (size_le n hl hn)
theorem en_lstN (n : Nat) {ds : List PyData} (h : EVA C X es sl (isL ds)) (hl : ds.length = n := by rfl) (hn : Nat.ble n 100000 = true := by rfl) : EVN C X (.List es pos) sl (is (.list ds)) := en_lst h (size_le n hl hn)
end
end DL
/-! Steps in ascending order. -/
namespace AC
open PySem PySem.Spec PyProof.Rows L2 DL
theorem div_lex {x y r r' m : Nat} (h : x * m + r < y * m + r') (hr : r < m) (hr' : r' < m) : x < y ∨ (x = y ∧ r < r') := by
  rcases Nat.lt_trichotomy x y with h1 | h1 | h1
  · exact .inl h1
  · subst h1; exact .inr ⟨rfl, by omega⟩
  · exfalso
    have : (y + 1) * m ≤ x * m := Nat.mul_le_mul_right m h1
    rw [Nat.add_mul] at this
    omega
theorem lex2 {a b c d : Int} (h : a < c ∨ (a = c ∧ b < d)) : HT.lexLt [a, b] [c, d] = true := by
  rw [HT.lexLt_cons, HT.lexLt_cons, HT.lexLt_nil_nil]
  rcases h with h | ⟨rfl, h⟩
  · rw [if_neg (by omega)]; exact decide_eq_true h
  · rw [if_pos rfl, if_neg (by omega)]; exact decide_eq_true h
theorem lex3 {a b e c d f : Int} (h : a < c ∨ (a = c ∧ (b < d ∨ (b = d ∧ e < f)))) : HT.lexLt [a, b, e] [c, d, f] = true := by
  rw [HT.lexLt_cons]
  rcases h with h | ⟨rfl, h⟩
  · rw [if_neg (by omega)]; exact decide_eq_true h
  · rw [if_pos rfl]; exact lex2 h
abbrev NTri := Nat × Nat × Nat
def ntri (t : NTri) : Tri := (t.1, t.2.1, t.2.2)
def code3 (l n : Nat) (t : NTri) : Nat := (t.1 * l + t.2.1) * n + t.2.2
/-- drawn steps: ascending, within bounds, with codes below c -/
structure St3 (l n c : Nat) (us : List NTri) : Prop where
  pw : us.Pairwise fun a b => code3 l n a < code3 l n b
  bd : ∀ t ∈ us, t.1 < n ∧ t.2.1 < l ∧ t.2.2 < n ∧ code3 l n t < c
  len : us.length ≤ c
theorem St3.nil (l n c : Nat) : St3 l n c [] := ⟨.nil, fun t h => absurd h (by simp), Nat.zero_le _⟩
theorem St3.mono {l n c c' : Nat} {us : List NTri} (h : St3 l n c us) (e : c ≤ c') : St3 l n c' us := ⟨h.pw, fun t q => by have := h.bd t q; omega, Nat.le_trans h.len e⟩
theorem St3.snoc {l n p a q : Nat} {us : List NTri} (h : St3 l n (code3 l n (p, a, q)) us) (hp : p < n) (ha : a < l) (hq : q < n) : St3 l n (code3 l n (p, a, q) + 1) (us ++ [(p, a, q)]) := by
  refine ⟨?_, ?_, ?_⟩
  · rw [List.pairwise_append]
    exact ⟨h.pw, List.pairwise_singleton _ _, fun x hx y hy => by rw [List.mem_singleton.mp hy]; exact (h.bd x hx).2.2.2⟩
  · intro t ht
    rcases List.mem_append.mp ht with ht | ht
    · have := h.bd t ht; omega
    · rw [List.mem_singleton.mp ht]; exact ⟨hp, ha, hq, Nat.lt_succ_self _⟩
  · rw [List.length_append]; have := h.len; simp; exact this
theorem St3.asc {l n c : Nat} {us : List NTri} (h : St3 l n c us) : ascT ((us.map ntri).map triL) = true := by
  refine ascT_pw ?_
  rw [List.pairwise_map, List.pairwise_map]
  refine h.pw.imp_of_mem ?_
  intro x y hx hy q
  obtain ⟨x1, x2, x3, _⟩ := h.bd x hx
  obtain ⟨y1, y2, y3, _⟩ := h.bd y hy
  refine lex3 ?_
  show ((x.1 : Int) < y.1) ∨ ((x.1 : Int) = y.1 ∧ (((x.2.1 : Int) < y.2.1) ∨ ((x.2.1 : Int) = y.2.1 ∧ (x.2.2 : Int) < y.2.2)))
  rcases div_lex q x3 y3 with r | ⟨r, r'⟩
  · rcases div_lex r x2 y2 with r | ⟨r, r'⟩
    · left; omega
    · right; exact ⟨by omega, .inl (by omega)⟩
  · have : x.1 = y.1 ∧ x.2.1 = y.2.1 := by
      rcases Nat.lt_trichotomy x.1 y.1 with r1 | r1 | r1
      · have : (x.1 + 1) * l ≤ y.1 * l := Nat.mul_le_mul_right l r1
        rw [Nat.add_mul] at this
        omega
      · rw [r1] at r; exact ⟨r1, by omega⟩
      · have : (y.1 + 1) * l ≤ x.1 * l := Nat.mul_le_mul_right l r1
        rw [Nat.add_mul] at this
        omega
    right; exact ⟨by omega, .inr ⟨by omega, by omega⟩⟩
end AC
namespace K09
open PySem PySem.Spec PyProof.Rows L2 DL AC
def topS (i : Nat) : Stmt := PySem.Challenge.pw_unendtold_k09_acceptors.main.body.getD i (.Pass ⟨0, 0, 0, 0⟩)
abbrev sBelow : Stmt := topS 1
abbrev sAsc : Stmt := topS 2
abbrev sIsAcc : Stmt := topS 6
abbrev sStates : Stmt := topS 7
abbrev sDraw : Stmt := topS 9
abbrev sAccept : Stmt := topS 10
abbrev sLaw : Stmt := topS 11
theorem scDraw : FnScope ["state", "limit", "position", "cell", "mixed", "digit"] ["state", "limit"] (defScope sDraw) := ⟨rfl, rfl, rfl, by decide +kernel, rfl, by decide +kernel, by decide +kernel⟩
theorem scStates : FnScope ["row", "states"] ["row", "states"] (defScope sStates) := ⟨rfl, rfl, rfl, by decide +kernel, rfl, by decide +kernel, by decide +kernel⟩
abbrev accN : List Str := ["acceptor", "letters", "states", "firsts", "steps", "again", "p", "a", "q"]
theorem scIsAcc : FnScope accN ["acceptor"] (defScope sIsAcc) := ⟨rfl, rfl, rfl, by decide +kernel, rfl, by decide +kernel, by decide +kernel⟩
abbrev acN : List Str := ["state", "letters", "most", "states", "p", "firsts", "again", "steps", "a", "q"]
theorem scAccept : FnScope acN ["state", "letters", "most"] (defScope sAccept) := ⟨rfl, rfl, rfl, by decide +kernel, rfl, by decide +kernel, by decide +kernel⟩
abbrev lawN : List Str := ["script", "state", "letters", "acceptor", "states", "firsts", "steps", "again", "wrong", "other"]
theorem scLaw : FnScope lawN ["script"] (defScope sLaw) := ⟨rfl, rfl, rfl, by decide +kernel, rfl, by decide +kernel, by decide +kernel⟩
abbrev lawV : List Str := ["script", "state", "letters", "acceptor", "states", "firsts", "steps", "again", "wrong"]
theorem scBelow : FnScope ["row", "many", "v"] ["row", "many"] (defScope sBelow) := ⟨rfl, rfl, rfl, by decide +kernel, rfl, by decide +kernel, by decide +kernel⟩
theorem scAsc : FnScope ["row", "one", "two"] ["row"] (defScope sAsc) := ⟨rfl, rfl, rfl, by decide +kernel, rfl, by decide +kernel, by decide +kernel⟩
section
variable {P : Program} {w : World} {K : PySem.W.Frag} {mg : Str → Option Value} {base : Heap} {f : Addr} {fd : FuncData} {k : Nat}
abbrev SpBelow (K : PySem.W.Frag) : Sp := SpD K (fun y : List Int × Int => [tI y.1, .int y.2]) (fun y => y.1.length ≤ 1000) (fun y d => d = .bool (y.1.all (inB y.2)))
theorem ok_below (F : Fun K "are_below" "are_below" sBelow f fd) (mal : mg "all" = none) : FnOk P w K mg base CX0 (k + 1) f fd ["row", "many"] (SpBelow K) := by
  refine fn_D F scBelow (fun _ => rfl) fun cdv A outer s H E ⟨ns, m⟩ hr hpre C hC => ?_
  have hl : ns.length ≤ 1000 := hpre
  have nd := scBelow.nd
  show STs C _ _ [.d (tI ns), .d (.int m), .u] _
  refine sts_ret (ev_all (bs := ns.map (inB m)) rfl mal (en_lc rfl nd (lcok 2 (blkOk_by (N := ["row", "many", "v"]) (sc := defScope sBelow) (by decide +kernel))) (lc_readm (out := (ns.map (inB m)).map PyData.bool) (it_t (ds := ns.map .int) (ev_var 0)) (by rw [List.length_map]; omega) (by simp) fun s0 H0 L cl fp i d z hd hz => ?_)).ev.bo) fun d q => ?_
  · rw [List.getElem?_map] at hd
    obtain ⟨x, hx, rfl⟩ := Option.map_eq_some_iff.mp hd
    have ez : z = .bool (inB m x) := by
      rw [List.getElem?_map, List.getElem?_map, hx] at hz
      exact (Option.some.inj hz).symm
    subst ez
    exact ev_within ev_int (ev_var 2) (ev_var 1)
  · rw [show d = _ from q, List.all_map]
    rfl
abbrev SpAsc (K : PySem.W.Frag) : Sp := SpD K (fun y : IRow => [rowD y]) (fun y => rowL y ≤ 1000) (fun y d => d = .bool (rowA y))
theorem ok_asc (F : Fun K "is_ascending" "is_ascending" sAsc f fd) (mal : mg "all" = none) (mz : mg "zip" = none) : FnOk P w K mg base CX0 (k + 1) f fd ["row"] (SpAsc K) := by
  refine fn_D F scAsc (fun _ => rfl) fun cdv A outer s H E y hr hpre C hC => ?_
  have nd := scAsc.nd
  have hu : (A.deeper (envOfC "is_ascending" (defScope sAsc) s.heap.objs.size f cdv)).units < cLine := by have := hr.un; omega
  cases y with
  | inl ns =>
    have hl : ns.length ≤ 1000 := hpre
    show STs C _ _ [.d (.tuple (ns.map PyData.int)), .u, .u] _
    have lz : (ns.zip ns.tail).length ≤ 1000 := by rw [List.length_zip]; omega
    refine sts_ret (ev_all (bs := (ns.zip ns.tail).map fun p => decide (p.1 < p.2)) rfl mal (EV.eq (en_lcG rfl nd (own := [("one", 1), ("two", 2)]) (blkOk_by (N := ["row", "one", "two"]) (sc := defScope sAsc) (by decide +kernel)) (pgb2 1 2 rfl nd)
      (lc_gen (ws := ns.zip ns.tail) (enc := fun p => .tuple [.int p.1, .int p.2]) (fun _ => true) (fun p => .bool (decide (p.1 < p.2))) (fun p => [.d (.tuple (ns.map PyData.int)), .d (.int p.1), .d (.int p.2)])
        ((it_zipT (ds := ns.map PyData.int) (es := ns.tail.map PyData.int) mz (ev_var 0) (EV.eq (ev_sliceT (ds := ns.map PyData.int) (ev_var 0) (eo_some ev_int) eo_none) (by rw [cut_tail, ← List.map_tail]))).eq (zipD_map _ _)) (by omega) (fun p hp => tg_pair (tg_name 1) (tg_name 2)) (fun p hp => test_yes) (fun p hp _ => elt_of fun s0 H0 L cl fp => ev_lt (ev_var 1) (ev_var 2)))).ev (by rw [List.filter_eq_self.mpr (fun _ _ => rfl), List.map_map]; rfl)).bo) fun d q => ?_
    rw [show d = _ from q, List.all_map]
    rfl
  | inr ps =>
    have hl : ps.length ≤ 1000 := hpre
    show STs C _ _ [.d (.tuple (ps.map tI)), .u, .u] _
    have lz : (ps.zip ps.tail).length ≤ 1000 := by rw [List.length_zip]; omega
    refine sts_ret (ev_all (bs := (ps.zip ps.tail).map fun p => HT.lexLt p.1 p.2) rfl mal (EV.eq (en_lcG rfl nd (own := [("one", 1), ("two", 2)]) (blkOk_by (N := ["row", "one", "two"]) (sc := defScope sAsc) (by decide +kernel)) (pgb2 1 2 rfl nd)
      (lc_gen (ws := ps.zip ps.tail) (enc := fun p => .tuple [tI p.1, tI p.2]) (fun _ => true) (fun p => .bool (HT.lexLt p.1 p.2)) (fun p => [.d (.tuple (ps.map tI)), .d (tI p.1), .d (tI p.2)])
        ((it_zipT (ds := ps.map tI) (es := ps.tail.map tI) mz (ev_var 0) (EV.eq (ev_sliceT (ds := ps.map tI) (ev_var 0) (eo_some ev_int) eo_none) (by rw [cut_tail, ← List.map_tail]))).eq (zipD_map _ _)) (by omega) (fun p hp => tg_pair (tg_name 1) (tg_name 2)) (fun p hp => test_yes) (fun p hp _ => elt_of fun s0 H0 L cl fp => ev_ltTup hu (ev_var 1) (ev_var 2)))).ev (by rw [List.filter_eq_self.mpr (fun _ _ => rfl), List.map_map]; rfl)).bo) fun d q => ?_
    rw [show d = _ from q, List.all_map]
    rfl
abbrev SpStates (K : PySem.W.Frag) : Sp := SpD K (fun y : List Int × Int => [tI y.1, .int y.2]) (fun y => y.1.length ≤ 1000) (fun y d => d = .bool (stOk y.2 y.1))
theorem ok_states {fb fa : Addr} {db da : FuncData} (F : Fun K "_are_states" "_are_states" sStates f fd) (FB : Fun K "are_below" "are_below" sBelow fb db) (FA : Fun K "is_ascending" "is_ascending" sAsc fa da) (bb : Binds K db ["row", "many"] []) (ba : Binds K da ["row"] [])
    (gb : mg "are_below" = some (.ref fb)) (ga : mg "is_ascending" = some (.ref fa)) (mal : mg "all" = none) (mz : mg "zip" = none) : FnOk P w K mg base CX0 2 f fd ["row", "states"] (SpStates K) := by
  have GB : FnOk P w K mg base CX0 1 fb db ["row", "many"] (SpBelow K) := ok_below FB mal
  have GA : FnOk P w K mg base CX0 1 fa da ["row"] (SpAsc K) := ok_asc FA mal mz
  refine fn_D F scStates (fun _ => rfl) fun cdv A outer s H E ⟨ns, m⟩ hr hpre C hC => ?_
  have hl : ns.length ≤ 1000 := hpre
  show STs C _ _ [.d (tI ns), .d (.int m)] _
  refine sts_ret (ev_and (ev_call GB hr gb FB.kp bb (P := is (.bool (ns.all (inB m)))) (ea_cons (ev_var 0) (ea_cons (ev_var 1) ea_nil)) fun ds q => ⟨(ns, m), q, hl, fun d q => q⟩) fun _ => ev_one (ev_call GA hr ga FA.kp ba (P := is (.bool (ascI ns))) (ea_cons (ev_var 0) ea_nil) fun ds q => ⟨.inl ns, q, hl, fun d q => q⟩)) fun d q => q
/-- an acceptor's form -/
structure Ac where
  l : Int
  n : Int
  fs : List Int
  st : List Tri
  ag : List Int
def acD (y : Ac) : PyData := .tuple [.int y.l, .int y.n, tI y.fs, .tuple (y.st.map triD), tI y.ag]
def stepB (l n : Int) (t : Tri) : Bool := (inB n t.1 && inB n t.2.2) && inB l t.2.1
def acB (y : Ac) : Bool := (decide (1 ≤ y.l) && decide (y.l ≤ 64)) && (decide (1 ≤ y.n) && decide (y.n ≤ 12)) && y.st.all (stepB y.l y.n) && ascT (y.st.map triL) && stOk y.n y.fs && stOk y.n y.ag
structure AcL (y : Ac) : Prop where
  fs : y.fs.length ≤ 1000
  st : y.st.length ≤ 1000
  ag : y.ag.length ≤ 1000
abbrev SpIsAcc (K : PySem.W.Frag) : Sp := SpD K (fun y : Ac => [acD y]) (fun y => AcL y) (fun y d => d = .bool (acB y))
theorem ok_isacc {fb fa fs : Addr} {db da ds : FuncData} {tk1 tk2 : Tok} (F : Fun K "is_acceptor" "is_acceptor" sIsAcc f fd) (FB : Fun K "are_below" "are_below" sBelow fb db) (FA : Fun K "is_ascending" "is_ascending" sAsc fa da) (FS : Fun K "_are_states" "_are_states" sStates fs ds) (bb : Binds K db ["row", "many"] []) (ba : Binds K da ["row"] []) (bs : Binds K ds ["row", "states"] [])
    (gb : mg "are_below" = some (.ref fb)) (ga : mg "is_ascending" = some (.ref fa)) (gs : mg "_are_states" = some (.ref fs)) (mL : mg "MOST_LETTERS" = some (.int 64 tk1)) (mS : mg "MOST_STATES" = some (.int 12 tk2)) (mal : mg "all" = none) (mz : mg "zip" = none) : FnOk P w K mg base CX0 3 f fd ["acceptor"] (SpIsAcc K) := by
  have GB : FnOk P w K mg base CX0 1 fb db ["row", "many"] (SpBelow K) := ok_below FB mal
  have GA : FnOk P w K mg base CX0 1 fa da ["row"] (SpAsc K) := ok_asc FA mal mz
  have GS : FnOk P w K mg base CX0 2 fs ds ["row", "states"] (SpStates K) := ok_states FS FB FA bb ba gb ga mal mz
  refine fn_D F scIsAcc (fun _ => rfl) fun cdv A outer s H E ⟨l, n, fs, st, ag⟩ hr hpre C hC => ?_
  have nd := scIsAcc.nd
  obtain ⟨(h1 : fs.length ≤ 1000), (h2 : st.length ≤ 1000), (h3 : ag.length ≤ 1000)⟩ := hpre
  show STs C _ _ [.d (acD ⟨l, n, fs, st, ag⟩), .u, .u, .u, .u, .u, .u, .u, .u] _
  refine sts_unpack5 1 2 3 4 5 rfl nd (ev_var 0) ?_
  refine sts_ifR (EVW.t (ew_or (et_not (et_withinE ev_int (ev_var 1) (ev_topInt mL))) fun _ => ew_or1 (et_not (et_withinE ev_int (ev_var 2) (ev_topInt mS))))) (fun h => ?_) (fun h => ?_)
  · have h : true = (!(decide (1 ≤ l) && decide (l ≤ 64)) || !(decide (1 ≤ n) && decide (n ≤ 12))) := h
    refine sts_ret ev_bl fun d q => ?_
    rw [show d = _ from q]
    show PyData.bool false = .bool (acB ⟨l, n, fs, st, ag⟩)
    congr 1
    unfold acB
    rw [← Bool.not_and] at h
    rw [show ((decide (1 ≤ l) && decide (l ≤ 64)) && (decide (1 ≤ n) && decide (n ≤ 12))) = false from (Bool.not_eq_true' _).mp h.symm]
    rfl
  have h : false = (!(decide (1 ≤ l) && decide (l ≤ 64)) || !(decide (1 ≤ n) && decide (n ≤ 12))) := h
  rw [← Bool.not_and] at h
  have h0 : ((decide (1 ≤ l) && decide (l ≤ 64)) && (decide (1 ≤ n) && decide (n ≤ 12))) = true := (Bool.not_eq_false' _).mp h.symm
  clear h
  have no : ∀ t ∈ st, stepB l n t = false → acB ⟨l, n, fs, st, ag⟩ = false := fun t ht h => by
    unfold acB
    rw [show st.all (stepB l n) = false from List.all_eq_false.mpr ⟨t, ht, by rw [h]; decide⟩, Bool.and_false]
    rfl
  refine sts_for3 6 7 8 (fun k sl => (st.take k).all (stepB l n) = true ∧ ∃ x6 x7 x8, sl = [.d (acD ⟨l, n, fs, st, ag⟩), .d (.int l), .d (.int n), .d (tI fs), .d (.tuple (st.map triD)), .d (tI ag), x6, x7, x8]) [.d (acD ⟨l, n, fs, st, ag⟩), .d (.int l), .d (.int n), .d (tI fs), .d (.tuple (st.map triD)), .d (tI ag), .u, .u, .u] rfl nd (it_t (ev_var 4)) ⟨rfl, _, _, _, rfl⟩ (fun d hd => ?_) (fun k d1 d2 d3 sl' hd hI => ?_) (fun sl' hI => ?_)
  · obtain ⟨t, _, rfl⟩ := List.mem_map.mp hd
    exact ⟨_, _, _, rfl⟩
  · obtain ⟨hk, x6, x7, x8, rfl⟩ := hI
    rw [List.getElem?_map] at hd
    obtain ⟨t, ht, e⟩ := Option.map_eq_some_iff.mp hd
    obtain ⟨p, a, q⟩ := t
    unfold triD at e
    injection e with e
    injection e with e1 e
    injection e with e2 e
    injection e with e3 e
    subst e1 e2 e3
    have tm : (p, a, q) ∈ st := List.mem_of_getElem? ht
    refine sts_ifR (EVW.t (ew_or (et_not (et_val (ev_call GB (hr.mono (by decide)) gb FB.kp bb (P := is (.bool ([p, q].all (inB n)))) (ea_cons (ev_tup (ea_cons (ev_var 6) (ea_cons (ev_var 8) ea_nil))) (ea_cons (ev_var 2) ea_nil)) fun ds z => ⟨([p, q], n), z, by show 2 ≤ 1000; decide, fun d z => z⟩))) fun _ =>
      ew_or1 (et_not (et_val (ev_call GB (hr.mono (by decide)) gb FB.kp bb (P := is (.bool ([a].all (inB l)))) (ea_cons (ev_tup (ea_cons (ev_var 7) ea_nil)) (ea_cons (ev_var 1) ea_nil)) fun ds z => ⟨([a], l), z, by show 1 ≤ 1000; decide, fun d z => z⟩))))) (fun h => ?_) (fun h => ?_)
    · have h : true = (!([p, q].all (inB n)) || !([a].all (inB l))) := h
      refine sts_ret ev_bl fun d z => ?_
      rw [show d = _ from z]
      show PyData.bool false = .bool (acB ⟨l, n, fs, st, ag⟩)
      rw [no _ tm]
      rw [← Bool.not_and] at h
      have h := (Bool.not_eq_true' _).mp h.symm
      simpa [stepB] using h
    · have h : false = (!([p, q].all (inB n)) || !([a].all (inB l))) := h
      rw [← Bool.not_and] at h
      have h := (Bool.not_eq_false' _).mp h.symm
      refine sts_nil ⟨?_, _, _, _, rfl⟩
      rw [List.take_add_one, ht, List.all_append, hk]
      simpa [stepB] using h
  · obtain ⟨hk, x6, x7, x8, rfl⟩ := hI
    rw [List.length_map, List.take_length] at hk
    have lt : (st.map triL).length = st.length := List.length_map _
    refine sts_ret (ev_and (ev_call GA (hr.mono (by decide)) ga FA.kp ba (P := is (.bool (ascT (st.map triL)))) (ea_cons (ev_var 4) ea_nil) fun ds z => ⟨.inr (st.map triL), by rw [show ds = _ from z]; show _ = [PyData.tuple _]; rw [List.map_map]; rfl, by show (st.map triL).length ≤ 1000; omega, fun d z => z⟩) fun _ =>
      ev_and (ev_call GS hr gs FS.kp bs (P := is (.bool (stOk n fs))) (ea_cons (ev_var 3) (ea_cons (ev_var 2) ea_nil)) fun ds z => ⟨(fs, n), z, h1, fun d z => z⟩) fun _ =>
      ev_one (ev_call GS hr gs FS.kp bs (P := is (.bool (stOk n ag))) (ea_cons (ev_var 5) (ea_cons (ev_var 2) ea_nil)) fun ds z => ⟨(ag, n), z, h3, fun d z => z⟩)) fun d z => ?_
    rw [show d = _ from z]
    show PyData.bool _ = .bool (acB ⟨l, n, fs, st, ag⟩)
    unfold acB
    rw [hk, h0]
    simp only [Bool.true_and, Bool.and_assoc]
theorem ok_draw (F : Fun K "_law_draw" "_law_draw" sDraw f fd) (ml : mg "len" = none) (mi : mg "int" = none) : FnOk P w K mg base CX0 (k + 1) f fd ["state", "limit"] (SpDraw K) := by
  have nd := scDraw.nd
  refine F.ok scDraw (fun vs H Q E h => ?_) (fun cdv A outer s H vs Q E hr h => ?_)
  · obtain ⟨M, a, vs', y, _, _, _, e, r, _⟩ := h
    rw [e, List.length_cons, r.length]
    rfl
  · obtain ⟨M, a, vs', m, ha, hM, ⟨x, p, L, z, ns, h1, h2, hx, hp, hz0, hz1, hn⟩, rfl, r, ⟨hm0, hm1⟩, q⟩ := h
    obtain ⟨v, rfl⟩ : ∃ v, vs' = [v] := by
      cases r with
      | cons _ r => cases r; exact ⟨_, rfl⟩
    obtain rfl : v = .int m := by
      cases r with
      | cons r _ => exact r.int_inv
    clear r
    refine ⟨_, pss_c _, ?_⟩
    have h1 : H a = some (stL x p L z) := h1
    have pl : ∀ {b : Expr}, (∀ o i, subscripted b false o i = operate [o, i] (getItem o i)) → PlainIx b := fun h => h
    have gi : ∀ {H' : Hp} {x p z : Int}, H' a = some (stL x p L z) → SqL K H' a [.int x, .int p, .ref L, .int z] := fun h => SqL.of h
    -- what holds behind the first if
    refine cSs_mid (fun σ' H' => ∃ y2 y3 y4 y5 x' p' z', σ' = [some (.ref a), some (.int m), y2, y3, y4, y5] ∧ H' = upd H a (stL x' p' L z') ∧ 0 ≤ x' ∧ 0 ≤ p' ∧ 0 ≤ z' ∧ z' < 2147483647) ?_ ?_
    · refine ofS (ps_if (pt_cmpR op_lt (pe_ix ix_list (pv 0) pe_int (fun _ _ => rfl)) (pv 1) (nomark _)) (pss_c _) pss_nil) ?_
      refine ⟨_, rfl, a, _, 0, _, rfl, rfl, gi h1, rfl, _, rfl, _, _, rfl, rfl, _, rfl, ite2 (fun _ => ?_) (fun _ => ?_)⟩
      · refine cSs_cons (ps_set (i := 2) nd rfl (.inl rfl) (pe_ix ix_list (pv 0) pe_int (fun _ _ => rfl))) ?_
        refine ⟨_, rfl, a, _, 1, _, rfl, rfl, gi h1, rfl, ?_⟩
        refine cSs_cons (ps_asg (pe_op op_add (pv 2) pe_int) (pg_sub (pv 0) pe_int set_list)) ?_
        refine ⟨_, rfl, p, 1, rfl, rfl, _, rfl, a, _, 1, 1, rfl, rfl, h1, rfl, ?_⟩
        refine cSs_cons (ps_set (i := 3) nd rfl (.inl rfl) pe_int) ?_
        have e1 : upd H a (.lst (List.set [V.int x, V.int p, V.ref L, V.int z] 1 (V.int (p + 1)))) a = some (stL x (p + 1) L z) := upd_same
        have e2 : upd H a (.lst (List.set [V.int x, V.int p, V.ref L, V.int z] 1 (V.int (p + 1)))) L = some (.lst (ns.map V.int)) := by
          rw [upd_ne]
          · exact h2
          · intro q
            rw [q, h1] at h2
            injection h2 with h2
            injection h2 with h2
            cases ns with
            | nil => simp at h2
            | cons n1 ns =>
              cases ns with
              | nil => simp at h2
              | cons n2 ns =>
                cases ns with
                | nil => simp at h2
                | cons n3 ns => simp at h2
        generalize hG : upd H a (.lst (List.set [V.int x, V.int p, V.ref L, V.int z] 1 (V.int (p + 1)))) = G at e1 e2
        refine cSs_mid (fun σ' H' => ∃ c : Int, σ' = [some (.ref a), some (.int m), some (.int p), some (.int c), none, none] ∧ G = H') ?_ ?_
        · refine ofS (ps_if (pt_cmpR op_lt (pv 2) (pe_callB call_len_seq (by rfl) ml PySem.boot_len (pa_cons (pe_ix ix_list (pv 0) pe_int (fun _ _ => rfl)) pa_nil)) (nomark _)) (pss_c _) pss_nil) ?_
          refine ⟨_, rfl, _, rfl, a, _, 2, _, rfl, rfl, gi e1, rfl, L, _, rfl, .inl (SqL.of e2), _, _, rfl, rfl, _, rfl, ite2 (fun hc => ?_) (fun hc => ?_)⟩
          · have hlt : p < ((ns.map V.int).length : Nat) := of_decide_eq_true hc
            rw [List.length_map] at hlt
            refine cSs_one (ps_set (i := 3) nd rfl (.inl rfl) (pe_ix ix_list (pe_ix ix_list (pv 0) pe_int (fun _ _ => rfl)) (pv 2) (fun _ _ => rfl))) ?_
            obtain ⟨pn, epn⟩ := Int.eq_ofNat_of_zero_le hp
            have hpn : pn < ns.length := by omega
            refine ⟨_, rfl, a, _, 2, _, rfl, rfl, gi e1, rfl, _, rfl, L, _, p, .int ns[pn], rfl, rfl, SqL.of e2, ?_, _, rfl, rfl⟩
            rw [epn]
            refine atI_nat ?_
            rw [List.getElem?_map, List.getElem?_eq_getElem hpn]
            rfl
          · exact ⟨0, rfl, rfl⟩
        · rintro σ' H' ⟨c, rfl, rfl⟩
          refine cSs_one (ps_if (pt_cmpR op_ge (pv 3) (pe_op op_pow pe_int pe_int) (nomark _)) (pss_c _) (pss_c _)) ?_
          refine ⟨_, rfl, _, _, rfl, rfl, ⟨by decide, by decide, by decide⟩, _, _, rfl, rfl, _, rfl, ite2 (fun hc => ?_) (fun hc => ?_)⟩
          · have hc : (1000000000000000000 : Int) ≤ c := of_decide_eq_true hc
            refine cSs_one (ps_asg (pv 3) (pg_sub (pv 0) pe_int set_list)) ?_
            refine ⟨_, rfl, _, rfl, a, _, 0, 0, rfl, rfl, e1, rfl, _, _, _, _, c, p + 1, z, rfl, ?_, by omega, by omega, hz0, hz1⟩
            rw [← hG, upd_upd]
            rfl
          · refine cSs_cons (ps_asg (pe_op op_mod (pe_callTy call_int1 (by rfl) mi boot_int (pa_cons (pe_op op_mul (pe_op op_add (pe_op op_add (pe_op op_add (pe_ix ix_list (pv 0) pe_int (fun _ _ => rfl)) (pe_op op_mod (pe_callTy call_int1 (by rfl) mi boot_int (pa_cons (pv 3) pa_nil)) pe_int)) (pv 2)) pe_int) pe_int) pa_nil)) pe_int) (pg_sub (pv 0) pe_int set_list)) ?_
            refine ⟨_, rfl, a, _, 3, _, rfl, rfl, gi e1, rfl, _, rfl, .inl ⟨c, rfl, _, _, rfl, rfl, (by show (0 : Int) < _; decide), _, _, rfl, rfl, _, rfl, _, _, rfl, rfl, _, _, rfl, rfl, _, _, rfl, rfl, .inr (by decide), .inl ⟨_, rfl, _, _, rfl, rfl, (by show (0 : Int) < _; decide), _, rfl, a, _, 3, 3, rfl, rfl, e1, rfl, ?_⟩⟩⟩
            dsimp only
            generalize hz2 : (z + c % 2147483629 + p + 1) * 48271 % 2147483647 = z2
            have b2 : 0 ≤ z2 ∧ z2 < 2147483647 := by rw [← hz2]; exact ⟨Int.emod_nonneg _ (by decide), Int.emod_lt_of_pos _ (by decide)⟩
            have e3 : upd G a (.lst (List.set [V.int x, V.int (p + 1), V.ref L, V.int z] 3 (V.int z2))) a = some (stL x (p + 1) L z2) := upd_same
            refine cSs_cons (ps_set (i := 4) nd rfl (.inl rfl) (pe_op op_mod (pe_callTy call_int1 (by rfl) mi boot_int (pa_cons (pe_op op_add (pe_op op_mul (pe_ix ix_list (pv 0) pe_int (fun _ _ => rfl)) pe_int) pe_int) pa_nil)) pe_int)) ?_
            refine ⟨_, rfl, a, _, 3, _, rfl, rfl, gi e3, rfl, _, _, rfl, rfl, .inr (by decide), _, _, rfl, rfl, .inl ⟨_, rfl, _, _, rfl, rfl, (by show (0 : Int) < _; decide), ?_⟩⟩
            dsimp only
            generalize hw : (z2 * 69621 + 11) % 2147483629 = mx
            have b3 : 0 ≤ mx ∧ mx < 2147483629 := by rw [← hw]; exact ⟨Int.emod_nonneg _ (by decide), Int.emod_lt_of_pos _ (by decide)⟩
            refine cSs_one (ps_asg (pe_op op_add (pe_op op_mul (pv 4) pe_int) (pe_op op_mod (pe_callTy call_int1 (by rfl) mi boot_int (pa_cons (pe_op op_add (pe_op op_mul (pv 4) pe_int) (pe_ix ix_list (pv 0) pe_int (fun _ _ => rfl))) pa_nil)) pe_int)) (pg_sub (pv 0) pe_int set_list)) ?_
            refine ⟨_, rfl, _, _, rfl, rfl, .inr (by decide), _, rfl, _, _, rfl, rfl, .inr (by decide), _, rfl, a, _, 3, _, rfl, rfl, gi e3, rfl, _, _, rfl, rfl, .inl ⟨_, rfl, _, _, rfl, rfl, (by show (0 : Int) < _; decide), _, _, rfl, rfl, _, rfl, a, _, 0, 0, rfl, rfl, e3, rfl, ?_⟩⟩
            have g1 : 0 ≤ (mx * 30011 + z2) % 2147483587 := Int.emod_nonneg _ (by decide)
            refine ⟨_, _, _, _, mx * 2147483647 + (mx * 30011 + z2) % 2147483587, p + 1, z2, rfl, ?_, by omega, by omega, b2.1, b2.2⟩
            rw [← hG, upd_upd, upd_upd]
            rfl
      · exact ⟨_, _, _, _, x, p, z, rfl, by
          funext b
          by_cases e : b = a
          · subst e; rw [upd_same, h1]
          · rw [upd_ne e], hx, hp, hz0, hz1⟩
    · rintro σ' H' ⟨y2, y3, y4, y5, x', p', z', rfl, rfl, hx', hp', hz0', hz1'⟩
      have e1 : upd H a (stL x' p' L z') a = some (stL x' p' L z') := upd_same
      refine cSs_cons (ps_set (i := 5) nd rfl (.inl rfl) (pe_op op_mod (pe_callTy call_int1 (by rfl) mi boot_int (pa_cons (pe_ix ix_list (pv 0) pe_int (fun _ _ => rfl)) pa_nil)) (pv 1))) ?_
      refine ⟨_, rfl, a, _, 0, _, rfl, rfl, gi e1, rfl, .inl ⟨_, rfl, _, rfl, _, _, rfl, rfl, hm0, ?_⟩⟩
      refine cSs_cons (ps_asg (pe_op op_fdivW (pe_ix ix_list (pv 0) pe_int (fun _ _ => rfl)) (pv 1)) (pg_sub (pv 0) pe_int set_list)) ?_
      refine ⟨_, rfl, a, _, 0, _, rfl, rfl, gi e1, rfl, _, rfl, _, _, rfl, rfl, wide_div (b := 64) hm0 (by omega) (by decide) (by decide), _, rfl, a, _, 0, 0, rfl, rfl, e1, rfl, ?_⟩
      refine cSs_one (ps_ret (pv 5)) ?_
      refine ⟨_, rfl, ?_⟩
      rw [upd_upd]
      refine q _ _ (.int (x' % m)) ⟨x' % m, rfl, Int.emod_nonneg _ (by omega), Int.emod_lt_of_pos _ hm0⟩ (fun C e => st_tr h1 h2 ⟨Int.ediv_nonneg hx' (by omega), hp', hz0', hz1'⟩ e) (.int _)
structure AcOk (l : Nat) (most : Nat) (y : Ac) (n : Nat) (fs ag : List Int) (us : List NTri) : Prop where
  e : y = ⟨l, n, fs, us.map ntri, ag⟩
  n1 : 1 ≤ n
  n2 : n ≤ most
  fs : SubR n fs
  ag : SubR n ag
  st : St3 l n (n * l * n) us
abbrev SpAccept (K : PySem.W.Frag) : Sp := SpS K (fun y : Nat × Nat => [.int (y.1 : Nat), .int (y.2 : Nat)]) (fun y => 1 ≤ y.1 ∧ y.1 ≤ 8 ∧ 1 ≤ y.2 ∧ y.2 ≤ 8) (fun y d => ∃ z n fs ag us, d = acD z ∧ AcOk y.1 y.2 z n fs ag us)
set_option maxHeartbeats 1000000 in
theorem ok_accept {fd' : Addr} {fdd : FuncData} (F : Fun K "_law_acceptor" "_law_acceptor" sAccept f fd) (FD : Fun K "_law_draw" "_law_draw" sDraw fd' fdd) (bd : Binds K fdd ["state", "limit"] []) (gd : mg "_law_draw" = some (.ref fd')) (ml : mg "len" = none) (mi : mg "int" = none) (mr : mg "range" = none) (mt : mg "tuple" = none) :
    FnOk P w K mg base CX0 2 f fd ["state", "letters", "most"] (SpAccept K) := by
  have GD : FnOk P w K mg base CX0 1 fd' fdd ["state", "limit"] (SpDraw K) := ok_draw FD ml mi
  refine fn_S F scAccept (fun _ => rfl) fun cdv A outer s H E ⟨l, most⟩ a hr hpre C hC => ?_
  obtain ⟨(l1 : 1 ≤ l), (l8 : l ≤ 8), (m1 : 1 ≤ most), (m8 : most ≤ 8)⟩ := hpre
  have nd := scAccept.nd
  show STs C _ _ [.r (.ref a), .d (.int (l : Nat)), .d (.int (most : Nat)), .u, .u, .u, .u, .u, .u, .u] _
  refine sts_set 3 nd (P := fun d => ∃ n : Nat, d = .int (n : Nat) ∧ 1 ≤ n ∧ n ≤ most) (ev_i2 op_add ev_int (ev_draw 0 GD hr gd FD.kp bd hC (ev_var 2) (by omega)) fun dx dy px py => ?_) ?_
  · obtain ⟨j, rfl, j0, j1⟩ := py
    exact ⟨1, j, px, rfl, (1 + j).toNat, by congr 1; omega, by omega, by omega⟩
  rintro _ ⟨n, rfl, n1, n2⟩
  refine sts_set 5 nd (P := fun d => ∃ fs, d = tI fs ∧ SubR n fs) (EV.imp (ev_tupleLP mt (T := fun ds => ∃ fs, ds = fs.map PyData.int ∧ SubR n fs) (EV.imp (EVN.ev (en_lcD 4 (m := n) (fun k => PyData.int (k : Nat)) rfl nd (lcok 4 (blkOk_by (N := acN) (sc := defScope sAccept) (by decide +kernel))) mr (ev_var 3) (by omega)
    (fun s0 H0 L cl fp k hk => (et_gtD (ev_draw 0 GD hr gd FD.kp bd hC ev_int (by omega)) ev_int).tt) (fun s0 H0 L cl fp k hk => ev_var 4))) fun d q => ?_)) fun d q => ?_) ?_
  · obtain ⟨us, h1, rfl⟩ := q
    exact ⟨_, rfl, _, by rw [List.map_map]; rfl, subR_of h1⟩
  · obtain ⟨ds, rfl, fs, rfl, h⟩ := q
    exact ⟨fs, rfl, h⟩
  rintro _ ⟨fs, rfl, hfs⟩
  refine sts_set 6 nd (P := fun d => ∃ fs, d = tI fs ∧ SubR n fs) (EV.imp (ev_tupleLP mt (T := fun ds => ∃ fs, ds = fs.map PyData.int ∧ SubR n fs) (EV.imp (EVN.ev (en_lcD 4 (m := n) (fun k => PyData.int (k : Nat)) rfl nd (lcok 4 (blkOk_by (N := acN) (sc := defScope sAccept) (by decide +kernel))) mr (ev_var 3) (by omega)
    (fun s0 H0 L cl fp k hk => (et_eqD (ev_draw 0 GD hr gd FD.kp bd hC ev_int (by omega)) ev_int).tt) (fun s0 H0 L cl fp k hk => ev_var 4))) fun d q => ?_)) fun d q => ?_) ?_
  · obtain ⟨us, h1, rfl⟩ := q
    exact ⟨_, rfl, _, by rw [List.map_map]; rfl, subR_of h1⟩
  · obtain ⟨ds, rfl, fs, rfl, h⟩ := q
    exact ⟨fs, rfl, h⟩
  rintro _ ⟨ag, rfl, hag⟩
  refine sts_setO 7 nd (en_lst ea_nil) fun d q => ?_
  rw [show d = _ from q]
  have bz : n * l * n ≤ 8 * 8 * 8 := Nat.mul_le_mul (Nat.mul_le_mul (by omega) l8) (by omega)
  have L2 : ∀ {p a : Nat}, p < n → a < l → (p * l + a) * n + n ≤ n * l * n := fun {p a} hp ha => by
    have h1 : p * l + a + 1 ≤ n * l := by
      have := Nat.mul_le_mul_right l (show p + 1 ≤ n from hp)
      rw [Nat.add_mul] at this
      omega
    have := Nat.mul_le_mul_right n h1
    rw [Nat.add_mul] at this
    omega
  refine sts_forR 4 (m := n) (fun k sl => ∃ us x4 x8 x9, St3 l n (k * l * n) us ∧ sl = [.r (.ref a), .d (.int (l : Nat)), .d (.int (most : Nat)), .d (.int (n : Nat)), x4, .d (tI fs), .d (tI ag), .own (.list ((us.map ntri).map triD)), x8, x9]) _ rfl nd mr (ev_var 3) (by omega) ⟨[], .u, .u, .u, St3.nil _ _ _, rfl⟩ (fun p sl' hp hI => ?_) (fun sl' hI => ?_)
  · obtain ⟨us, x4, x8, x9, hus, rfl⟩ := hI
    refine sts_forR 8 (m := l) (fun k sl => ∃ us x8 x9, St3 l n ((p * l + k) * n) us ∧ sl = [.r (.ref a), .d (.int (l : Nat)), .d (.int (most : Nat)), .d (.int (n : Nat)), .d (.int (p : Nat)), .d (tI fs), .d (tI ag), .own (.list ((us.map ntri).map triD)), x8, x9]) [.r (.ref a), .d (.int (l : Nat)), .d (.int (most : Nat)), .d (.int (n : Nat)), .d (.int (p : Nat)), .d (tI fs), .d (tI ag), .own (.list ((us.map ntri).map triD)), x8, x9] rfl nd mr (ev_var 1) (by omega) ⟨us, x8, x9, by rw [Nat.add_zero]; exact hus, rfl⟩ (fun b sl' hb hI => ?_) (fun sl' hI => ?_)
    · obtain ⟨us, x8, x9, hus, rfl⟩ := hI
      refine sts_forR 9 (m := n) (fun k sl => ∃ us x9, St3 l n ((p * l + b) * n + k) us ∧ sl = [.r (.ref a), .d (.int (l : Nat)), .d (.int (most : Nat)), .d (.int (n : Nat)), .d (.int (p : Nat)), .d (tI fs), .d (tI ag), .own (.list ((us.map ntri).map triD)), .d (.int (b : Nat)), x9]) [.r (.ref a), .d (.int (l : Nat)), .d (.int (most : Nat)), .d (.int (n : Nat)), .d (.int (p : Nat)), .d (tI fs), .d (tI ag), .own (.list ((us.map ntri).map triD)), .d (.int (b : Nat)), x9] rfl nd mr (ev_var 3) (by omega) ⟨us, x9, hus, rfl⟩ (fun c sl' hc hI => ?_) (fun sl' hI => ?_)
      · obtain ⟨us, x9, hus, rfl⟩ := hI
        have bus : us.length < 1000 := by have := hus.len; have := L2 hp hb; omega
        refine sts_if (N := fun sl => ∃ us, St3 l n ((p * l + b) * n + (c + 1)) us ∧ sl = [.r (.ref a), .d (.int (l : Nat)), .d (.int (most : Nat)), .d (.int (n : Nat)), .d (.int (p : Nat)), .d (tI fs), .d (tI ag), .own (.list ((us.map ntri).map triD)), .d (.int (b : Nat)), .d (.int (c : Nat))]) (et_ltD (ev_draw 0 GD hr gd FD.kp bd hC ev_int (by omega)) ev_int).tt (fun _ => ?_) (fun _ => ?_) (fun sl' h => ?_)
        · refine sts_append 7 (xs := (us.map ntri).map triD) (ev_tup (ea_cons (ev_var 4) (ea_cons (ev_var 8) (ea_cons (ev_var 9) ea_nil)))) (by rw [List.length_map, List.length_map]; omega) fun d q => ?_
          rw [show d = _ from q]
          refine sts_nil ⟨us ++ [(p, b, c)], hus.snoc hp hb hc, ?_⟩
          rw [List.map_append, List.map_append]
          rfl
        · exact sts_nil ⟨us, hus.mono (by omega), rfl⟩
        · obtain ⟨us, h, rfl⟩ := h
          exact sts_nil ⟨us, _, h, rfl⟩
      · obtain ⟨us, x9, hus, rfl⟩ := hI
        refine sts_nil ⟨us, _, _, ?_, rfl⟩
        rw [show (p * l + (b + 1)) * n = (p * l + b) * n + n by rw [← Nat.add_assoc, Nat.add_mul, Nat.one_mul]]
        exact hus
    · obtain ⟨us, x8, x9, hus, rfl⟩ := hI
      refine sts_nil ⟨us, _, _, _, ?_, rfl⟩
      rw [show (p + 1) * l * n = (p * l + l) * n by rw [Nat.add_mul, Nat.one_mul]]
      exact hus
  · obtain ⟨us, x4, x8, x9, hus, rfl⟩ := hI
    refine sts_freeze 7 ?_
    refine sts_ret (ev_tup (ea_cons (ev_var 1) (ea_cons (ev_var 3) (ea_cons (ev_var 5) (ea_cons (ev_tupleL mt (ev_var 7)) (ea_cons (ev_var 6) ea_nil)))))) fun d q => ?_
    exact ⟨⟨l, n, fs, us.map ntri, ag⟩, n, fs, ag, us, q, rfl, n1, n2, hfs, hag, hus⟩
/-! ### the law -/
theorem acB_l {y : Ac} (h : ¬ (1 ≤ y.l ∧ y.l ≤ 64)) : acB y = false := by
  unfold acB
  rw [show (decide (1 ≤ y.l) && decide (y.l ≤ 64)) = false by rw [← Bool.decide_and]; exact decide_eq_false h]
  rfl
theorem acB_n {y : Ac} (h : ¬ (1 ≤ y.n ∧ y.n ≤ 12)) : acB y = false := by
  unfold acB
  rw [show (decide (1 ≤ y.n) && decide (y.n ≤ 12)) = false by rw [← Bool.decide_and]; exact decide_eq_false h, Bool.and_false]
  rfl
theorem acB_fs {y : Ac} (h : stOk y.n y.fs = false) : acB y = false := by
  unfold acB
  rw [h, Bool.and_false, Bool.false_and]
theorem acB_ag {y : Ac} (h : stOk y.n y.ag = false) : acB y = false := by
  unfold acB
  rw [h, Bool.and_false]
theorem acB_st {y : Ac} {t : Tri} (ht : t ∈ y.st) (h : ¬ ((0 ≤ t.1 ∧ t.1 < y.n) ∧ (0 ≤ t.2.2 ∧ t.2.2 < y.n) ∧ (0 ≤ t.2.1 ∧ t.2.1 < y.l))) : acB y = false := by
  unfold acB
  have e : stepB y.l y.n t = false := by
    unfold stepB
    rw [Bool.eq_false_iff]
    intro q
    rw [Bool.and_eq_true, Bool.and_eq_true, inB_iff, inB_iff, inB_iff] at q
    exact h ⟨q.1.1, q.1.2, q.2⟩
  rw [show y.st.all (stepB y.l y.n) = false from List.all_eq_false.mpr ⟨t, ht, by rw [e]; decide⟩, Bool.and_false]
  rfl
theorem acB_or {y : Ac} (h : ascT (y.st.map triL) = false) : acB y = false := by
  unfold acB
  rw [h, Bool.and_false]
  rfl
def wrongs (l n : Int) (fs ag : List Int) (st : List Tri) : List Ac := [⟨0, n, fs, [], ag⟩, ⟨65, n, fs, st, ag⟩, ⟨l, 0, [], [], []⟩, ⟨l, 13, fs, st, ag⟩, ⟨l, n, fs ++ [n], st, ag⟩, ⟨l, n, [0, 0], st, ag⟩, ⟨l, n, fs, st, ag ++ [0 - 1]⟩,
  ⟨l, n, fs, st ++ [(0, l, 0)], ag⟩, ⟨l, n, fs, [(n, 0, 0)], ag⟩, ⟨l, n, fs, [(0, 0, n)], ag⟩, ⟨l, n, fs, [(0, 0 - 1, 0)], ag⟩, ⟨l, n, fs, st, [0, 0]⟩, ⟨l, 3, [2, 1], [], []⟩, ⟨l, 3, [0], [], [1, 0]⟩, ⟨l, n, fs, st, [n]⟩, ⟨l, n, [0 - 1], st, ag⟩,
  ⟨l, n, fs, [(0 - 1, 0, 0)], ag⟩, ⟨l, n, fs, [(0, 0, 0 - 1)], ag⟩, ⟨l, 2, fs.take 1, [(1, 0, 0), (0, 0, 0)], []⟩, ⟨l, 1, [0], [(0, 0, 0), (0, 0, 0)], []⟩]
theorem wrongs_bad {l n : Int} {fs ag : List Int} {st : List Tri} : ∀ y ∈ wrongs l n fs ag st, acB y = false := by
  intro y hy
  unfold wrongs at hy
  simp only [List.mem_cons, List.not_mem_nil, or_false] at hy
  rcases hy with rfl | rfl | rfl | rfl | rfl | rfl | rfl | rfl | rfl | rfl | rfl | rfl | rfl | rfl | rfl | rfl | rfl | rfl | rfl | rfl
  · exact acB_l (by show ¬ ((1 : Int) ≤ 0 ∧ _); omega)
  · exact acB_l (by show ¬ ((1 : Int) ≤ 65 ∧ (65 : Int) ≤ 64); omega)
  · exact acB_n (by show ¬ ((1 : Int) ≤ 0 ∧ _); omega)
  · exact acB_n (by show ¬ ((1 : Int) ≤ 13 ∧ (13 : Int) ≤ 12); omega)
  · exact acB_fs (stOk_bad (x := n) (by simp) (by show ¬ (0 ≤ n ∧ n < n); omega))
  · exact acB_fs (stOk_00 _ _ _ (by omega))
  · exact acB_ag (stOk_bad (x := 0 - 1) (by simp) (by show ¬ ((0 : Int) ≤ 0 - 1 ∧ _); omega))
  · exact acB_st (t := (0, l, 0)) (by simp) (by show ¬ (_ ∧ _ ∧ (0 ≤ l ∧ l < l)); omega)
  · exact acB_st (t := (n, 0, 0)) (by simp) (by show ¬ ((0 ≤ n ∧ n < n) ∧ _); omega)
  · exact acB_st (t := (0, 0, n)) (by simp) (by show ¬ (_ ∧ (0 ≤ n ∧ n < n) ∧ _); omega)
  · exact acB_st (t := (0, 0 - 1, 0)) (by simp) (by show ¬ (_ ∧ _ ∧ ((0 : Int) ≤ 0 - 1 ∧ _)); omega)
  · exact acB_ag (stOk_00 _ _ _ (by omega))
  · exact acB_fs (stOk_00 _ _ _ (by omega))
  · exact acB_ag (stOk_00 _ _ _ (by omega))
  · exact acB_ag (stOk_bad (x := n) (by simp) (by show ¬ (0 ≤ n ∧ n < n); omega))
  · exact acB_fs (stOk_bad (x := 0 - 1) (by simp) (by show ¬ ((0 : Int) ≤ 0 - 1 ∧ _); omega))
  · exact acB_st (t := (0 - 1, 0, 0)) (by simp) (by show ¬ (((0 : Int) ≤ 0 - 1 ∧ _) ∧ _); omega)
  · exact acB_st (t := (0, 0, 0 - 1)) (by simp) (by show ¬ (_ ∧ ((0 : Int) ≤ 0 - 1 ∧ _) ∧ _); omega)
  · exact acB_or (by show ascT [[1, 0, 0], [0, 0, 0]] = false; decide +kernel)
  · exact acB_or (by show ascT [[0, 0, 0], [0, 0, 0]] = false; decide +kernel)
theorem wrongs_len {l n : Int} {fs ag : List Int} {st : List Tri} (h1 : fs.length ≤ 500) (h2 : ag.length ≤ 500) (h3 : st.length ≤ 600) : ∀ y ∈ wrongs l n fs ag st, AcL y := by
  intro y hy
  unfold wrongs at hy
  simp only [List.mem_cons, List.not_mem_nil, or_false] at hy
  rcases hy with rfl | rfl | rfl | rfl | rfl | rfl | rfl | rfl | rfl | rfl | rfl | rfl | rfl | rfl | rfl | rfl | rfl | rfl | rfl | rfl <;>
    refine ⟨?_, ?_, ?_⟩ <;> simp only [List.length_append, List.length_cons, List.length_nil, List.length_take] <;> omega
theorem good_ok {l most n : Nat} {z : Ac} {fs ag : List Int} {us : List NTri} (h : AcOk l most z n fs ag us) (l1 : 1 ≤ l) (l8 : l ≤ 8) (m8 : most ≤ 8) : acB z = true := by
  obtain ⟨rfl, n1, n2, hfs, hag, hus⟩ := h
  unfold acB
  have e1 : (us.map ntri).all (stepB l n) = true := by
    rw [List.all_map, List.all_eq_true]
    intro t ht
    obtain ⟨q1, q2, q3, _⟩ := hus.bd t ht
    show stepB l n (ntri t) = true
    unfold stepB
    rw [Bool.and_eq_true, Bool.and_eq_true, inB_iff, inB_iff, inB_iff]
    show ((0 ≤ (t.1 : Int) ∧ (t.1 : Int) < n) ∧ (0 ≤ (t.2.2 : Int) ∧ (t.2.2 : Int) < n)) ∧ (0 ≤ (t.2.1 : Int) ∧ (t.2.1 : Int) < l)
    omega
  dsimp only
  rw [e1, hus.asc, hfs.ok, hag.ok, decide_eq_true (show (1 : Int) ≤ l by omega), decide_eq_true (show (l : Int) ≤ 64 by omega), decide_eq_true (show (1 : Int) ≤ n by omega), decide_eq_true (show (n : Int) ≤ 12 by omega)]
  rfl
end
end K09
namespace K09
open PySem PySem.Spec PyProof.Rows L2 DL AC
section
variable {P : Program} {w : World} {K : PySem.W.Frag} {mg : Str → Option Value} {base : Heap} {f : Addr} {fd : FuncData} {k : Nat}
structure Tx (K : PySem.W.Frag) (mg : Str → Option Value) (f_below f_asc f_isacc f_states f_draw f_accept : Addr) (d_below d_asc d_isacc d_states d_draw d_accept : FuncData) : Prop where
  F_below : Fun K "are_below" "are_below" sBelow f_below d_below
  F_asc : Fun K "is_ascending" "is_ascending" sAsc f_asc d_asc
  F_isacc : Fun K "is_acceptor" "is_acceptor" sIsAcc f_isacc d_isacc
  F_states : Fun K "_are_states" "_are_states" sStates f_states d_states
  F_draw : Fun K "_law_draw" "_law_draw" sDraw f_draw d_draw
  F_accept : Fun K "_law_acceptor" "_law_acceptor" sAccept f_accept d_accept
  b_below : Binds K d_below ["row", "many"] []
  b_asc : Binds K d_asc ["row"] []
  b_isacc : Binds K d_isacc ["acceptor"] []
  b_states : Binds K d_states ["row", "states"] []
  b_draw : Binds K d_draw ["state", "limit"] []
  b_accept : Binds K d_accept ["state", "letters", "most"] []
  g_below : mg "are_below" = some (.ref f_below)
  g_asc : mg "is_ascending" = some (.ref f_asc)
  g_isacc : mg "is_acceptor" = some (.ref f_isacc)
  g_states : mg "_are_states" = some (.ref f_states)
  g_draw : mg "_law_draw" = some (.ref f_draw)
  g_accept : mg "_law_acceptor" = some (.ref f_accept)
  m_len : mg "len" = none
  m_int : mg "int" = none
  m_range : mg "range" = none
  m_tuple : mg "tuple" = none
  m_list : mg "list" = none
  m_all : mg "all" = none
  m_zip : mg "zip" = none
  i_letters : ∃ t, mg "MOST_LETTERS" = some (.int 64 t)
  i_states : ∃ t, mg "MOST_STATES" = some (.int 12 t)
set_option maxHeartbeats 1000000 in
theorem ok_law {f_below f_asc f_isacc f_states f_draw f_accept : Addr} {d_below d_asc d_isacc d_states d_draw d_accept : FuncData} (F : Fun K "law" "law" sLaw f fd) (T : Tx K mg f_below f_asc f_isacc f_states f_draw f_accept d_below d_asc d_isacc d_states d_draw d_accept) : FnOk P w K mg base CX0 4 f fd ["script"] (spLaw K) := by
  have GD : FnOk P w K mg base CX0 1 f_draw d_draw ["state", "limit"] (SpDraw K) := ok_draw T.F_draw T.m_len T.m_int
  obtain ⟨tk1, mL⟩ := T.i_letters
  obtain ⟨tk2, mS⟩ := T.i_states
  have GI : FnOk P w K mg base CX0 3 f_isacc d_isacc ["acceptor"] (SpIsAcc K) := ok_isacc T.F_isacc T.F_below T.F_asc T.F_states T.b_below T.b_asc T.b_states T.g_below T.g_asc T.g_states mL mS T.m_all T.m_zip
  have GA : FnOk P w K mg base CX0 2 f_accept d_accept ["state", "letters", "most"] (SpAccept K) := ok_accept T.F_accept T.F_draw T.b_draw T.g_draw T.m_len T.m_int T.m_range T.m_tuple
  have nd := scLaw.nd
  refine F.ok scLaw (fun vs H Q E h => ?_) (fun cdv A outer s H vs Q E hr h => ?_)
  · obtain ⟨a, ns, rfl, _⟩ := h
    rfl
  obtain ⟨a, ns, rfl, hS, hn, q⟩ := h
  refine ⟨_, pss_c _, law_open (n := 8) nd rfl rfl (.inl rfl) (.inl rfl) (.inl rfl) rfl T.m_list hS hn q fun sa C hC => ?_⟩
  show STs C _ _ [.u, .r (.ref sa), .u, .u, .u, .u, .u, .u, .u, .u] _
  refine sts_set 2 nd (P := fun d => ∃ n : Nat, d = .int (n : Nat) ∧ 1 ≤ n ∧ n ≤ 4) (ev_i2 op_add ev_int (ev_draw 1 GD (hr.mono (by decide)) T.g_draw T.F_draw.kp T.b_draw hC ev_int (by omega)) fun dx dy px py => ?_) ?_
  · obtain ⟨j, rfl, j0, j1⟩ := py
    exact ⟨1, j, px, rfl, (1 + j).toNat, by congr 1; omega, by omega, by omega⟩
  rintro _ ⟨l, rfl, l1, l4⟩
  refine sts_set 3 nd (P := fun d => ∃ z n fs ag us, d = acD z ∧ AcOk l 4 z n fs ag us) (ev_callS 1 GA (hr.mono (by decide)) T.g_accept T.F_accept.kp T.b_accept hC (ea_c (ev_var 2) (ea_c ev_int ea_nil)) fun ds p => ⟨(l, 4), p, ⟨l1, by show l ≤ 8; omega, by show 1 ≤ 4; decide, by show 4 ≤ 8; decide⟩, fun d q => q⟩) ?_
  rintro _ ⟨z, n, fs, ag, us, rfl, hz⟩
  have gz := good_ok hz l1 (by omega) (by decide)
  obtain ⟨rfl, n1, n4, hfs, hag, hus⟩ := hz
  have bz : n * l * n ≤ 4 * 4 * 4 := Nat.mul_le_mul (Nat.mul_le_mul n4 l4) n4
  have bus := hus.len
  have bfs := hfs.2.1
  have bag := hag.2.1
  generalize hst : us.map ntri = st at *
  have bst : st.length ≤ 64 := by rw [← hst, List.length_map]; omega
  generalize hl : (l : Int) = li at *
  generalize hn' : (n : Int) = ni at *
  have V : VisL (cxOf CX0 P w K mg base lawN "law" (defScope sLaw) f cdv A outer s H E).nox lawV := visL_of (sc := defScope sLaw) (by decide +kernel)
  have ge : acB ⟨li, ni, [], [], []⟩ = true := by
    unfold acB
    dsimp only
    rw [decide_eq_true (show (1 : Int) ≤ li by omega), decide_eq_true (show li ≤ 64 by omega), decide_eq_true (show (1 : Int) ≤ ni by omega), decide_eq_true (show ni ≤ 12 by omega)]
    rfl
  have eg : acB ⟨64, 12, [0, 11], [(0, 63, 11)], []⟩ = true := by decide +kernel
  -- the good ones
  refine sts_ifR (T := fun t => t = false) (EVT.imp (EVW.t (ew_or (t := false) (u := false) ?A fun _ => ew_or1 ?B)) (fun t h => h)) (fun t => ?_) (fun _ => ?_)
  case A =>
    exact et_notB (t := true) (u := true) (ev_callc GI (hr.mono (by decide)) T.g_isacc T.F_isacc.kp T.b_isacc (ea_c (d := acD ⟨li, ni, fs, st, ag⟩) (ev_var 3) ea_nil) fun ds p => ⟨⟨li, ni, fs, st, ag⟩, p, ⟨by show fs.length ≤ 1000; omega, by show st.length ≤ 1000; omega, by show ag.length ≤ 1000; omega⟩, fun d q => by rw [show d = _ from q, gz]⟩) ev_bl
  case B =>
    refine et_notB (t := true) (u := true) (ev_callc GI (hr.mono (by decide)) T.g_isacc T.F_isacc.kp T.b_isacc (T := isL [(PyData.tuple [(PyData.int 64), (PyData.int 12), (PyData.tuple [(PyData.int 0), (PyData.int 11)]), (PyData.tuple [(PyData.tuple [(PyData.int 0), (PyData.int 63), (PyData.int 11)])]), (PyData.tuple [])])]) ?L fun ds p => ⟨⟨64, 12, [0, 11], [(0, 63, 11)], []⟩, p, ⟨by show 2 ≤ 1000; decide, by show 1 ≤ 1000; decide, by show 0 ≤ 1000; decide⟩, fun d q => by rw [show d = _ from q, eg]⟩) ev_bl
    refine ea_c ?_ ?_
    · refine ev_tupN (n := 5) (ds := [(PyData.int 64), (PyData.int 12), (PyData.tuple [(PyData.int 0), (PyData.int 11)]), (PyData.tuple [(PyData.tuple [(PyData.int 0), (PyData.int 63), (PyData.int 11)])]), (PyData.tuple [])]) ?_
      refine ea_c (d := (PyData.int 64)) (ds := [(PyData.int 12), (PyData.tuple [(PyData.int 0), (PyData.int 11)]), (PyData.tuple [(PyData.tuple [(PyData.int 0), (PyData.int 63), (PyData.int 11)])]), (PyData.tuple [])]) ?_ ?_
      · exact ev_int
      · refine ea_c (d := (PyData.int 12)) (ds := [(PyData.tuple [(PyData.int 0), (PyData.int 11)]), (PyData.tuple [(PyData.tuple [(PyData.int 0), (PyData.int 63), (PyData.int 11)])]), (PyData.tuple [])]) ?_ ?_
        · exact ev_int
        · refine ea_c (d := (PyData.tuple [(PyData.int 0), (PyData.int 11)])) (ds := [(PyData.tuple [(PyData.tuple [(PyData.int 0), (PyData.int 63), (PyData.int 11)])]), (PyData.tuple [])]) ?_ ?_
          · refine ev_tupN (n := 2) (ds := [(PyData.int 0), (PyData.int 11)]) ?_
            refine ea_c (d := (PyData.int 0)) (ds := [(PyData.int 11)]) ?_ ?_
            · exact ev_int
            · refine ea_c (d := (PyData.int 11)) (ds := []) ?_ ?_
              · exact ev_int
              · exact ea_nil
          · refine ea_c (d := (PyData.tuple [(PyData.tuple [(PyData.int 0), (PyData.int 63), (PyData.int 11)])])) (ds := [(PyData.tuple [])]) ?_ ?_
            · refine ev_tupN (n := 1) (ds := [(PyData.tuple [(PyData.int 0), (PyData.int 63), (PyData.int 11)])]) ?_
              refine ea_c (d := (PyData.tuple [(PyData.int 0), (PyData.int 63), (PyData.int 11)])) (ds := []) ?_ ?_
              · refine ev_tupN (n := 3) (ds := [(PyData.int 0), (PyData.int 63), (PyData.int 11)]) ?_
                refine ea_c (d := (PyData.int 0)) (ds := [(PyData.int 63), (PyData.int 11)]) ?_ ?_
                · exact ev_int
                · refine ea_c (d := (PyData.int 63)) (ds := [(PyData.int 11)]) ?_ ?_
                  · exact ev_int
                  · refine ea_c (d := (PyData.int 11)) (ds := []) ?_ ?_
                    · exact ev_int
                    · exact ea_nil
              · exact ea_nil
            · refine ea_c (d := (PyData.tuple [])) (ds := []) ?_ ?_
              · refine ev_tupN (n := 0) (ds := []) ?_
                exact ea_nil
              · exact ea_nil
    · exact ea_nil
  · cases t
  refine sts_unpack5 2 4 5 6 7 rfl nd (ev_var 3) ?_
  refine sts_set 8 nd (P := is (.list ((wrongs li ni fs ag st).map acD))) (EV.eq (d := (PyData.list [(PyData.tuple [(PyData.int 0), (PyData.int ni), (tI fs), (PyData.tuple []), (tI ag)]), (PyData.tuple [(PyData.int 65), (PyData.int ni), (tI fs), (PyData.tuple (st.map triD)), (tI ag)]), (PyData.tuple [(PyData.int li), (PyData.int 0), (PyData.tuple []), (PyData.tuple []), (PyData.tuple [])]), (PyData.tuple [(PyData.int li), (PyData.int 13), (tI fs), (PyData.tuple (st.map triD)), (tI ag)]), (PyData.tuple [(PyData.int li), (PyData.int ni), (PyData.tuple ((List.map PyData.int fs) ++ [(PyData.int ni)])), (PyData.tuple (st.map triD)), (tI ag)]), (PyData.tuple [(PyData.int li), (PyData.int ni), (PyData.tuple [(PyData.int 0), (PyData.int 0)]), (PyData.tuple (st.map triD)), (tI ag)]), (PyData.tuple [(PyData.int li), (PyData.int ni), (tI fs), (PyData.tuple (st.map triD)), (PyData.tuple ((List.map PyData.int ag) ++ [(PyData.int ((0) - (1)))]))]), (PyData.tuple [(PyData.int li), (PyData.int ni), (tI fs), (PyData.tuple ((st.map triD) ++ [(PyData.tuple [(PyData.int 0), (PyData.int li), (PyData.int 0)])])), (tI ag)]), (PyData.tuple [(PyData.int li), (PyData.int ni), (tI fs), (PyData.tuple [(PyData.tuple [(PyData.int ni), (PyData.int 0), (PyData.int 0)])]), (tI ag)]), (PyData.tuple [(PyData.int li), (PyData.int ni), (tI fs), (PyData.tuple [(PyData.tuple [(PyData.int 0), (PyData.int 0), (PyData.int ni)])]), (tI ag)]), (PyData.tuple [(PyData.int li), (PyData.int ni), (tI fs), (PyData.tuple [(PyData.tuple [(PyData.int 0), (PyData.int ((0) - (1))), (PyData.int 0)])]), (tI ag)]), (PyData.tuple [(PyData.int li), (PyData.int ni), (tI fs), (PyData.tuple (st.map triD)), (PyData.tuple [(PyData.int 0), (PyData.int 0)])]), (PyData.tuple [(PyData.int li), (PyData.int 3), (PyData.tuple [(PyData.int 2), (PyData.int 1)]), (PyData.tuple []), (PyData.tuple [])]), (PyData.tuple [(PyData.int li), (PyData.int 3), (PyData.tuple [(PyData.int 0)]), (PyData.tuple []), (PyData.tuple [(PyData.int 1), (PyData.int 0)])]), (PyData.tuple [(PyData.int li), (PyData.int ni), (tI fs), (PyData.tuple (st.map triD)), (PyData.tuple [(PyData.int ni)])]), (PyData.tuple [(PyData.int li), (PyData.int ni), (PyData.tuple [(PyData.int ((0) - (1)))]), (PyData.tuple (st.map triD)), (tI ag)]), (PyData.tuple [(PyData.int li), (PyData.int ni), (tI fs), (PyData.tuple [(PyData.tuple [(PyData.int ((0) - (1))), (PyData.int 0), (PyData.int 0)])]), (tI ag)]), (PyData.tuple [(PyData.int li), (PyData.int ni), (tI fs), (PyData.tuple [(PyData.tuple [(PyData.int 0), (PyData.int 0), (PyData.int ((0) - (1)))])]), (tI ag)]), (PyData.tuple [(PyData.int li), (PyData.int 2), (PyData.tuple (cutL (List.map PyData.int fs) none (some (1)))), (PyData.tuple [(PyData.tuple [(PyData.int 1), (PyData.int 0), (PyData.int 0)]), (PyData.tuple [(PyData.int 0), (PyData.int 0), (PyData.int 0)])]), (PyData.tuple [])]), (PyData.tuple [(PyData.int li), (PyData.int 1), (PyData.tuple [(PyData.int 0)]), (PyData.tuple [(PyData.tuple [(PyData.int 0), (PyData.int 0), (PyData.int 0)]), (PyData.tuple [(PyData.int 0), (PyData.int 0), (PyData.int 0)])]), (PyData.tuple [])])])) ?_ ?_) fun d p => ?_
  · refine EVN.ev ?_
    refine en_lstN (n := 20) (ds := [(PyData.tuple [(PyData.int 0), (PyData.int ni), (tI fs), (PyData.tuple []), (tI ag)]), (PyData.tuple [(PyData.int 65), (PyData.int ni), (tI fs), (PyData.tuple (st.map triD)), (tI ag)]), (PyData.tuple [(PyData.int li), (PyData.int 0), (PyData.tuple []), (PyData.tuple []), (PyData.tuple [])]), (PyData.tuple [(PyData.int li), (PyData.int 13), (tI fs), (PyData.tuple (st.map triD)), (tI ag)]), (PyData.tuple [(PyData.int li), (PyData.int ni), (PyData.tuple ((List.map PyData.int fs) ++ [(PyData.int ni)])), (PyData.tuple (st.map triD)), (tI ag)]), (PyData.tuple [(PyData.int li), (PyData.int ni), (PyData.tuple [(PyData.int 0), (PyData.int 0)]), (PyData.tuple (st.map triD)), (tI ag)]), (PyData.tuple [(PyData.int li), (PyData.int ni), (tI fs), (PyData.tuple (st.map triD)), (PyData.tuple ((List.map PyData.int ag) ++ [(PyData.int ((0) - (1)))]))]), (PyData.tuple [(PyData.int li), (PyData.int ni), (tI fs), (PyData.tuple ((st.map triD) ++ [(PyData.tuple [(PyData.int 0), (PyData.int li), (PyData.int 0)])])), (tI ag)]), (PyData.tuple [(PyData.int li), (PyData.int ni), (tI fs), (PyData.tuple [(PyData.tuple [(PyData.int ni), (PyData.int 0), (PyData.int 0)])]), (tI ag)]), (PyData.tuple [(PyData.int li), (PyData.int ni), (tI fs), (PyData.tuple [(PyData.tuple [(PyData.int 0), (PyData.int 0), (PyData.int ni)])]), (tI ag)]), (PyData.tuple [(PyData.int li), (PyData.int ni), (tI fs), (PyData.tuple [(PyData.tuple [(PyData.int 0), (PyData.int ((0) - (1))), (PyData.int 0)])]), (tI ag)]), (PyData.tuple [(PyData.int li), (PyData.int ni), (tI fs), (PyData.tuple (st.map triD)), (PyData.tuple [(PyData.int 0), (PyData.int 0)])]), (PyData.tuple [(PyData.int li), (PyData.int 3), (PyData.tuple [(PyData.int 2), (PyData.int 1)]), (PyData.tuple []), (PyData.tuple [])]), (PyData.tuple [(PyData.int li), (PyData.int 3), (PyData.tuple [(PyData.int 0)]), (PyData.tuple []), (PyData.tuple [(PyData.int 1), (PyData.int 0)])]), (PyData.tuple [(PyData.int li), (PyData.int ni), (tI fs), (PyData.tuple (st.map triD)), (PyData.tuple [(PyData.int ni)])]), (PyData.tuple [(PyData.int li), (PyData.int ni), (PyData.tuple [(PyData.int ((0) - (1)))]), (PyData.tuple (st.map triD)), (tI ag)]), (PyData.tuple [(PyData.int li), (PyData.int ni), (tI fs), (PyData.tuple [(PyData.tuple [(PyData.int ((0) - (1))), (PyData.int 0), (PyData.int 0)])]), (tI ag)]), (PyData.tuple [(PyData.int li), (PyData.int ni), (tI fs), (PyData.tuple [(PyData.tuple [(PyData.int 0), (PyData.int 0), (PyData.int ((0) - (1)))])]), (tI ag)]), (PyData.tuple [(PyData.int li), (PyData.int 2), (PyData.tuple (cutL (List.map PyData.int fs) none (some (1)))), (PyData.tuple [(PyData.tuple [(PyData.int 1), (PyData.int 0), (PyData.int 0)]), (PyData.tuple [(PyData.int 0), (PyData.int 0), (PyData.int 0)])]), (PyData.tuple [])]), (PyData.tuple [(PyData.int li), (PyData.int 1), (PyData.tuple [(PyData.int 0)]), (PyData.tuple [(PyData.tuple [(PyData.int 0), (PyData.int 0), (PyData.int 0)]), (PyData.tuple [(PyData.int 0), (PyData.int 0), (PyData.int 0)])]), (PyData.tuple [])])]) ?_
    refine ea_c (d := (PyData.tuple [(PyData.int 0), (PyData.int ni), (tI fs), (PyData.tuple []), (tI ag)])) (ds := [(PyData.tuple [(PyData.int 65), (PyData.int ni), (tI fs), (PyData.tuple (st.map triD)), (tI ag)]), (PyData.tuple [(PyData.int li), (PyData.int 0), (PyData.tuple []), (PyData.tuple []), (PyData.tuple [])]), (PyData.tuple [(PyData.int li), (PyData.int 13), (tI fs), (PyData.tuple (st.map triD)), (tI ag)]), (PyData.tuple [(PyData.int li), (PyData.int ni), (PyData.tuple ((List.map PyData.int fs) ++ [(PyData.int ni)])), (PyData.tuple (st.map triD)), (tI ag)]), (PyData.tuple [(PyData.int li), (PyData.int ni), (PyData.tuple [(PyData.int 0), (PyData.int 0)]), (PyData.tuple (st.map triD)), (tI ag)]), (PyData.tuple [(PyData.int li), (PyData.int ni), (tI fs), (PyData.tuple (st.map triD)), (PyData.tuple ((List.map PyData.int ag) ++ [(PyData.int ((0) - (1)))]))]), (PyData.tuple [(PyData.int li), (PyData.int ni), (tI fs), (PyData.tuple ((st.map triD) ++ [(PyData.tuple [(PyData.int 0), (PyData.int li), (PyData.int 0)])])), (tI ag)]), (PyData.tuple [(PyData.int li), (PyData.int ni), (tI fs), (PyData.tuple [(PyData.tuple [(PyData.int ni), (PyData.int 0), (PyData.int 0)])]), (tI ag)]), (PyData.tuple [(PyData.int li), (PyData.int ni), (tI fs), (PyData.tuple [(PyData.tuple [(PyData.int 0), (PyData.int 0), (PyData.int ni)])]), (tI ag)]), (PyData.tuple [(PyData.int li), (PyData.int ni), (tI fs), (PyData.tuple [(PyData.tuple [(PyData.int 0), (PyData.int ((0) - (1))), (PyData.int 0)])]), (tI ag)]), (PyData.tuple [(PyData.int li), (PyData.int ni), (tI fs), (PyData.tuple (st.map triD)), (PyData.tuple [(PyData.int 0), (PyData.int 0)])]), (PyData.tuple [(PyData.int li), (PyData.int 3), (PyData.tuple [(PyData.int 2), (PyData.int 1)]), (PyData.tuple []), (PyData.tuple [])]), (PyData.tuple [(PyData.int li), (PyData.int 3), (PyData.tuple [(PyData.int 0)]), (PyData.tuple []), (PyData.tuple [(PyData.int 1), (PyData.int 0)])]), (PyData.tuple [(PyData.int li), (PyData.int ni), (tI fs), (PyData.tuple (st.map triD)), (PyData.tuple [(PyData.int ni)])]), (PyData.tuple [(PyData.int li), (PyData.int ni), (PyData.tuple [(PyData.int ((0) - (1)))]), (PyData.tuple (st.map triD)), (tI ag)]), (PyData.tuple [(PyData.int li), (PyData.int ni), (tI fs), (PyData.tuple [(PyData.tuple [(PyData.int ((0) - (1))), (PyData.int 0), (PyData.int 0)])]), (tI ag)]), (PyData.tuple [(PyData.int li), (PyData.int ni), (tI fs), (PyData.tuple [(PyData.tuple [(PyData.int 0), (PyData.int 0), (PyData.int ((0) - (1)))])]), (tI ag)]), (PyData.tuple [(PyData.int li), (PyData.int 2), (PyData.tuple (cutL (List.map PyData.int fs) none (some (1)))), (PyData.tuple [(PyData.tuple [(PyData.int 1), (PyData.int 0), (PyData.int 0)]), (PyData.tuple [(PyData.int 0), (PyData.int 0), (PyData.int 0)])]), (PyData.tuple [])]), (PyData.tuple [(PyData.int li), (PyData.int 1), (PyData.tuple [(PyData.int 0)]), (PyData.tuple [(PyData.tuple [(PyData.int 0), (PyData.int 0), (PyData.int 0)]), (PyData.tuple [(PyData.int 0), (PyData.int 0), (PyData.int 0)])]), (PyData.tuple [])])]) ?_ ?_
    · refine ev_tupN (n := 5) (ds := [(PyData.int 0), (PyData.int ni), (tI fs), (PyData.tuple []), (tI ag)]) ?_
      refine ea_c (d := (PyData.int 0)) (ds := [(PyData.int ni), (tI fs), (PyData.tuple []), (tI ag)]) ?_ ?_
      · exact ev_int
      · refine ea_c (d := (PyData.int ni)) (ds := [(tI fs), (PyData.tuple []), (tI ag)]) ?_ ?_
        · exact ev_v V 4
        · refine ea_c (d := (tI fs)) (ds := [(PyData.tuple []), (tI ag)]) ?_ ?_
          · exact ev_v V 5
          · refine ea_c (d := (PyData.tuple [])) (ds := [(tI ag)]) ?_ ?_
            · refine ev_tupN (n := 0) (ds := []) ?_
              exact ea_nil
            · refine ea_c (d := (tI ag)) (ds := []) ?_ ?_
              · exact ev_v V 7
              · exact ea_nil
    · refine ea_c (d := (PyData.tuple [(PyData.int 65), (PyData.int ni), (tI fs), (PyData.tuple (st.map triD)), (tI ag)])) (ds := [(PyData.tuple [(PyData.int li), (PyData.int 0), (PyData.tuple []), (PyData.tuple []), (PyData.tuple [])]), (PyData.tuple [(PyData.int li), (PyData.int 13), (tI fs), (PyData.tuple (st.map triD)), (tI ag)]), (PyData.tuple [(PyData.int li), (PyData.int ni), (PyData.tuple ((List.map PyData.int fs) ++ [(PyData.int ni)])), (PyData.tuple (st.map triD)), (tI ag)]), (PyData.tuple [(PyData.int li), (PyData.int ni), (PyData.tuple [(PyData.int 0), (PyData.int 0)]), (PyData.tuple (st.map triD)), (tI ag)]), (PyData.tuple [(PyData.int li), (PyData.int ni), (tI fs), (PyData.tuple (st.map triD)), (PyData.tuple ((List.map PyData.int ag) ++ [(PyData.int ((0) - (1)))]))]), (PyData.tuple [(PyData.int li), (PyData.int ni), (tI fs), (PyData.tuple ((st.map triD) ++ [(PyData.tuple [(PyData.int 0), (PyData.int li), (PyData.int 0)])])), (tI ag)]), (PyData.tuple [(PyData.int li), (PyData.int ni), (tI fs), (PyData.tuple [(PyData.tuple [(PyData.int ni), (PyData.int 0), (PyData.int 0)])]), (tI ag)]), (PyData.tuple [(PyData.int li), (PyData.int ni), (tI fs), (PyData.tuple [(PyData.tuple [(PyData.int 0), (PyData.int 0), (PyData.int ni)])]), (tI ag)]), (PyData.tuple [(PyData.int li), (PyData.int ni), (tI fs), (PyData.tuple [(PyData.tuple [(PyData.int 0), (PyData.int ((0) - (1))), (PyData.int 0)])]), (tI ag)]), (PyData.tuple [(PyData.int li), (PyData.int ni), (tI fs), (PyData.tuple (st.map triD)), (PyData.tuple [(PyData.int 0), (PyData.int 0)])]), (PyData.tuple [(PyData.int li), (PyData.int 3), (PyData.tuple [(PyData.int 2), (PyData.int 1)]), (PyData.tuple []), (PyData.tuple [])]), (PyData.tuple [(PyData.int li), (PyData.int 3), (PyData.tuple [(PyData.int 0)]), (PyData.tuple []), (PyData.tuple [(PyData.int 1), (PyData.int 0)])]), (PyData.tuple [(PyData.int li), (PyData.int ni), (tI fs), (PyData.tuple (st.map triD)), (PyData.tuple [(PyData.int ni)])]), (PyData.tuple [(PyData.int li), (PyData.int ni), (PyData.tuple [(PyData.int ((0) - (1)))]), (PyData.tuple (st.map triD)), (tI ag)]), (PyData.tuple [(PyData.int li), (PyData.int ni), (tI fs), (PyData.tuple [(PyData.tuple [(PyData.int ((0) - (1))), (PyData.int 0), (PyData.int 0)])]), (tI ag)]), (PyData.tuple [(PyData.int li), (PyData.int ni), (tI fs), (PyData.tuple [(PyData.tuple [(PyData.int 0), (PyData.int 0), (PyData.int ((0) - (1)))])]), (tI ag)]), (PyData.tuple [(PyData.int li), (PyData.int 2), (PyData.tuple (cutL (List.map PyData.int fs) none (some (1)))), (PyData.tuple [(PyData.tuple [(PyData.int 1), (PyData.int 0), (PyData.int 0)]), (PyData.tuple [(PyData.int 0), (PyData.int 0), (PyData.int 0)])]), (PyData.tuple [])]), (PyData.tuple [(PyData.int li), (PyData.int 1), (PyData.tuple [(PyData.int 0)]), (PyData.tuple [(PyData.tuple [(PyData.int 0), (PyData.int 0), (PyData.int 0)]), (PyData.tuple [(PyData.int 0), (PyData.int 0), (PyData.int 0)])]), (PyData.tuple [])])]) ?_ ?_
      · refine ev_tupN (n := 5) (ds := [(PyData.int 65), (PyData.int ni), (tI fs), (PyData.tuple (st.map triD)), (tI ag)]) ?_
        refine ea_c (d := (PyData.int 65)) (ds := [(PyData.int ni), (tI fs), (PyData.tuple (st.map triD)), (tI ag)]) ?_ ?_
        · exact ev_int
        · refine ea_c (d := (PyData.int ni)) (ds := [(tI fs), (PyData.tuple (st.map triD)), (tI ag)]) ?_ ?_
          · exact ev_v V 4
          · refine ea_c (d := (tI fs)) (ds := [(PyData.tuple (st.map triD)), (tI ag)]) ?_ ?_
            · exact ev_v V 5
            · refine ea_c (d := (PyData.tuple (st.map triD))) (ds := [(tI ag)]) ?_ ?_
              · exact ev_v V 6
              · refine ea_c (d := (tI ag)) (ds := []) ?_ ?_
                · exact ev_v V 7
                · exact ea_nil
      · refine ea_c (d := (PyData.tuple [(PyData.int li), (PyData.int 0), (PyData.tuple []), (PyData.tuple []), (PyData.tuple [])])) (ds := [(PyData.tuple [(PyData.int li), (PyData.int 13), (tI fs), (PyData.tuple (st.map triD)), (tI ag)]), (PyData.tuple [(PyData.int li), (PyData.int ni), (PyData.tuple ((List.map PyData.int fs) ++ [(PyData.int ni)])), (PyData.tuple (st.map triD)), (tI ag)]), (PyData.tuple [(PyData.int li), (PyData.int ni), (PyData.tuple [(PyData.int 0), (PyData.int 0)]), (PyData.tuple (st.map triD)), (tI ag)]), (PyData.tuple [(PyData.int li), (PyData.int ni), (tI fs), (PyData.tuple (st.map triD)), (PyData.tuple ((List.map PyData.int ag) ++ [(PyData.int ((0) - (1)))]))]), (PyData.tuple [(PyData.int li), (PyData.int ni), (tI fs), (PyData.tuple ((st.map triD) ++ [(PyData.tuple [(PyData.int 0), (PyData.int li), (PyData.int 0)])])), (tI ag)]), (PyData.tuple [(PyData.int li), (PyData.int ni), (tI fs), (PyData.tuple [(PyData.tuple [(PyData.int ni), (PyData.int 0), (PyData.int 0)])]), (tI ag)]), (PyData.tuple [(PyData.int li), (PyData.int ni), (tI fs), (PyData.tuple [(PyData.tuple [(PyData.int 0), (PyData.int 0), (PyData.int ni)])]), (tI ag)]), (PyData.tuple [(PyData.int li), (PyData.int ni), (tI fs), (PyData.tuple [(PyData.tuple [(PyData.int 0), (PyData.int ((0) - (1))), (PyData.int 0)])]), (tI ag)]), (PyData.tuple [(PyData.int li), (PyData.int ni), (tI fs), (PyData.tuple (st.map triD)), (PyData.tuple [(PyData.int 0), (PyData.int 0)])]), (PyData.tuple [(PyData.int li), (PyData.int 3), (PyData.tuple [(PyData.int 2), (PyData.int 1)]), (PyData.tuple []), (PyData.tuple [])]), (PyData.tuple [(PyData.int li), (PyData.int 3), (PyData.tuple [(PyData.int 0)]), (PyData.tuple []), (PyData.tuple [(PyData.int 1), (PyData.int 0)])]), (PyData.tuple [(PyData.int li), (PyData.int ni), (tI fs), (PyData.tuple (st.map triD)), (PyData.tuple [(PyData.int ni)])]), (PyData.tuple [(PyData.int li), (PyData.int ni), (PyData.tuple [(PyData.int ((0) - (1)))]), (PyData.tuple (st.map triD)), (tI ag)]), (PyData.tuple [(PyData.int li), (PyData.int ni), (tI fs), (PyData.tuple [(PyData.tuple [(PyData.int ((0) - (1))), (PyData.int 0), (PyData.int 0)])]), (tI ag)]), (PyData.tuple [(PyData.int li), (PyData.int ni), (tI fs), (PyData.tuple [(PyData.tuple [(PyData.int 0), (PyData.int 0), (PyData.int ((0) - (1)))])]), (tI ag)]), (PyData.tuple [(PyData.int li), (PyData.int 2), (PyData.tuple (cutL (List.map PyData.int fs) none (some (1)))), (PyData.tuple [(PyData.tuple [(PyData.int 1), (PyData.int 0), (PyData.int 0)]), (PyData.tuple [(PyData.int 0), (PyData.int 0), (PyData.int 0)])]), (PyData.tuple [])]), (PyData.tuple [(PyData.int li), (PyData.int 1), (PyData.tuple [(PyData.int 0)]), (PyData.tuple [(PyData.tuple [(PyData.int 0), (PyData.int 0), (PyData.int 0)]), (PyData.tuple [(PyData.int 0), (PyData.int 0), (PyData.int 0)])]), (PyData.tuple [])])]) ?_ ?_
        · refine ev_tupN (n := 5) (ds := [(PyData.int li), (PyData.int 0), (PyData.tuple []), (PyData.tuple []), (PyData.tuple [])]) ?_
          refine ea_c (d := (PyData.int li)) (ds := [(PyData.int 0), (PyData.tuple []), (PyData.tuple []), (PyData.tuple [])]) ?_ ?_
          · exact ev_v V 2
          · refine ea_c (d := (PyData.int 0)) (ds := [(PyData.tuple []), (PyData.tuple []), (PyData.tuple [])]) ?_ ?_
            · exact ev_int
            · refine ea_c (d := (PyData.tuple [])) (ds := [(PyData.tuple []), (PyData.tuple [])]) ?_ ?_
              · refine ev_tupN (n := 0) (ds := []) ?_
                exact ea_nil
              · refine ea_c (d := (PyData.tuple [])) (ds := [(PyData.tuple [])]) ?_ ?_
                · refine ev_tupN (n := 0) (ds := []) ?_
                  exact ea_nil
                · refine ea_c (d := (PyData.tuple [])) (ds := []) ?_ ?_
                  · refine ev_tupN (n := 0) (ds := []) ?_
                    exact ea_nil
                  · exact ea_nil
        · refine ea_c (d := (PyData.tuple [(PyData.int li), (PyData.int 13), (tI fs), (PyData.tuple (st.map triD)), (tI ag)])) (ds := [(PyData.tuple [(PyData.int li), (PyData.int ni), (PyData.tuple ((List.map PyData.int fs) ++ [(PyData.int ni)])), (PyData.tuple (st.map triD)), (tI ag)]), (PyData.tuple [(PyData.int li), (PyData.int ni), (PyData.tuple [(PyData.int 0), (PyData.int 0)]), (PyData.tuple (st.map triD)), (tI ag)]), (PyData.tuple [(PyData.int li), (PyData.int ni), (tI fs), (PyData.tuple (st.map triD)), (PyData.tuple ((List.map PyData.int ag) ++ [(PyData.int ((0) - (1)))]))]), (PyData.tuple [(PyData.int li), (PyData.int ni), (tI fs), (PyData.tuple ((st.map triD) ++ [(PyData.tuple [(PyData.int 0), (PyData.int li), (PyData.int 0)])])), (tI ag)]), (PyData.tuple [(PyData.int li), (PyData.int ni), (tI fs), (PyData.tuple [(PyData.tuple [(PyData.int ni), (PyData.int 0), (PyData.int 0)])]), (tI ag)]), (PyData.tuple [(PyData.int li), (PyData.int ni), (tI fs), (PyData.tuple [(PyData.tuple [(PyData.int 0), (PyData.int 0), (PyData.int ni)])]), (tI ag)]), (PyData.tuple [(PyData.int li), (PyData.int ni), (tI fs), (PyData.tuple [(PyData.tuple [(PyData.int 0), (PyData.int ((0) - (1))), (PyData.int 0)])]), (tI ag)]), (PyData.tuple [(PyData.int li), (PyData.int ni), (tI fs), (PyData.tuple (st.map triD)), (PyData.tuple [(PyData.int 0), (PyData.int 0)])]), (PyData.tuple [(PyData.int li), (PyData.int 3), (PyData.tuple [(PyData.int 2), (PyData.int 1)]), (PyData.tuple []), (PyData.tuple [])]), (PyData.tuple [(PyData.int li), (PyData.int 3), (PyData.tuple [(PyData.int 0)]), (PyData.tuple []), (PyData.tuple [(PyData.int 1), (PyData.int 0)])]), (PyData.tuple [(PyData.int li), (PyData.int ni), (tI fs), (PyData.tuple (st.map triD)), (PyData.tuple [(PyData.int ni)])]), (PyData.tuple [(PyData.int li), (PyData.int ni), (PyData.tuple [(PyData.int ((0) - (1)))]), (PyData.tuple (st.map triD)), (tI ag)]), (PyData.tuple [(PyData.int li), (PyData.int ni), (tI fs), (PyData.tuple [(PyData.tuple [(PyData.int ((0) - (1))), (PyData.int 0), (PyData.int 0)])]), (tI ag)]), (PyData.tuple [(PyData.int li), (PyData.int ni), (tI fs), (PyData.tuple [(PyData.tuple [(PyData.int 0), (PyData.int 0), (PyData.int ((0) - (1)))])]), (tI ag)]), (PyData.tuple [(PyData.int li), (PyData.int 2), (PyData.tuple (cutL (List.map PyData.int fs) none (some (1)))), (PyData.tuple [(PyData.tuple [(PyData.int 1), (PyData.int 0), (PyData.int 0)]), (PyData.tuple [(PyData.int 0), (PyData.int 0), (PyData.int 0)])]), (PyData.tuple [])]), (PyData.tuple [(PyData.int li), (PyData.int 1), (PyData.tuple [(PyData.int 0)]), (PyData.tuple [(PyData.tuple [(PyData.int 0), (PyData.int 0), (PyData.int 0)]), (PyData.tuple [(PyData.int 0), (PyData.int 0), (PyData.int 0)])]), (PyData.tuple [])])]) ?_ ?_
          · refine ev_tupN (n := 5) (ds := [(PyData.int li), (PyData.int 13), (tI fs), (PyData.tuple (st.map triD)), (tI ag)]) ?_
            refine ea_c (d := (PyData.int li)) (ds := [(PyData.int 13), (tI fs), (PyData.tuple (st.map triD)), (tI ag)]) ?_ ?_
            · exact ev_v V 2
            · refine ea_c (d := (PyData.int 13)) (ds := [(tI fs), (PyData.tuple (st.map triD)), (tI ag)]) ?_ ?_
              · exact ev_int
              · refine ea_c (d := (tI fs)) (ds := [(PyData.tuple (st.map triD)), (tI ag)]) ?_ ?_
                · exact ev_v V 5
                · refine ea_c (d := (PyData.tuple (st.map triD))) (ds := [(tI ag)]) ?_ ?_
                  · exact ev_v V 6
                  · refine ea_c (d := (tI ag)) (ds := []) ?_ ?_
                    · exact ev_v V 7
                    · exact ea_nil
          · refine ea_c (d := (PyData.tuple [(PyData.int li), (PyData.int ni), (PyData.tuple ((List.map PyData.int fs) ++ [(PyData.int ni)])), (PyData.tuple (st.map triD)), (tI ag)])) (ds := [(PyData.tuple [(PyData.int li), (PyData.int ni), (PyData.tuple [(PyData.int 0), (PyData.int 0)]), (PyData.tuple (st.map triD)), (tI ag)]), (PyData.tuple [(PyData.int li), (PyData.int ni), (tI fs), (PyData.tuple (st.map triD)), (PyData.tuple ((List.map PyData.int ag) ++ [(PyData.int ((0) - (1)))]))]), (PyData.tuple [(PyData.int li), (PyData.int ni), (tI fs), (PyData.tuple ((st.map triD) ++ [(PyData.tuple [(PyData.int 0), (PyData.int li), (PyData.int 0)])])), (tI ag)]), (PyData.tuple [(PyData.int li), (PyData.int ni), (tI fs), (PyData.tuple [(PyData.tuple [(PyData.int ni), (PyData.int 0), (PyData.int 0)])]), (tI ag)]), (PyData.tuple [(PyData.int li), (PyData.int ni), (tI fs), (PyData.tuple [(PyData.tuple [(PyData.int 0), (PyData.int 0), (PyData.int ni)])]), (tI ag)]), (PyData.tuple [(PyData.int li), (PyData.int ni), (tI fs), (PyData.tuple [(PyData.tuple [(PyData.int 0), (PyData.int ((0) - (1))), (PyData.int 0)])]), (tI ag)]), (PyData.tuple [(PyData.int li), (PyData.int ni), (tI fs), (PyData.tuple (st.map triD)), (PyData.tuple [(PyData.int 0), (PyData.int 0)])]), (PyData.tuple [(PyData.int li), (PyData.int 3), (PyData.tuple [(PyData.int 2), (PyData.int 1)]), (PyData.tuple []), (PyData.tuple [])]), (PyData.tuple [(PyData.int li), (PyData.int 3), (PyData.tuple [(PyData.int 0)]), (PyData.tuple []), (PyData.tuple [(PyData.int 1), (PyData.int 0)])]), (PyData.tuple [(PyData.int li), (PyData.int ni), (tI fs), (PyData.tuple (st.map triD)), (PyData.tuple [(PyData.int ni)])]), (PyData.tuple [(PyData.int li), (PyData.int ni), (PyData.tuple [(PyData.int ((0) - (1)))]), (PyData.tuple (st.map triD)), (tI ag)]), (PyData.tuple [(PyData.int li), (PyData.int ni), (tI fs), (PyData.tuple [(PyData.tuple [(PyData.int ((0) - (1))), (PyData.int 0), (PyData.int 0)])]), (tI ag)]), (PyData.tuple [(PyData.int li), (PyData.int ni), (tI fs), (PyData.tuple [(PyData.tuple [(PyData.int 0), (PyData.int 0), (PyData.int ((0) - (1)))])]), (tI ag)]), (PyData.tuple [(PyData.int li), (PyData.int 2), (PyData.tuple (cutL (List.map PyData.int fs) none (some (1)))), (PyData.tuple [(PyData.tuple [(PyData.int 1), (PyData.int 0), (PyData.int 0)]), (PyData.tuple [(PyData.int 0), (PyData.int 0), (PyData.int 0)])]), (PyData.tuple [])]), (PyData.tuple [(PyData.int li), (PyData.int 1), (PyData.tuple [(PyData.int 0)]), (PyData.tuple [(PyData.tuple [(PyData.int 0), (PyData.int 0), (PyData.int 0)]), (PyData.tuple [(PyData.int 0), (PyData.int 0), (PyData.int 0)])]), (PyData.tuple [])])]) ?_ ?_
            · refine ev_tupN (n := 5) (ds := [(PyData.int li), (PyData.int ni), (PyData.tuple ((List.map PyData.int fs) ++ [(PyData.int ni)])), (PyData.tuple (st.map triD)), (tI ag)]) ?_
              refine ea_c (d := (PyData.int li)) (ds := [(PyData.int ni), (PyData.tuple ((List.map PyData.int fs) ++ [(PyData.int ni)])), (PyData.tuple (st.map triD)), (tI ag)]) ?_ ?_
              · exact ev_v V 2
              · refine ea_c (d := (PyData.int ni)) (ds := [(PyData.tuple ((List.map PyData.int fs) ++ [(PyData.int ni)])), (PyData.tuple (st.map triD)), (tI ag)]) ?_ ?_
                · exact ev_v V 4
                · refine ea_c (d := (PyData.tuple ((List.map PyData.int fs) ++ [(PyData.int ni)]))) (ds := [(PyData.tuple (st.map triD)), (tI ag)]) ?_ ?_
                  · refine ev_catTA (xs := (List.map PyData.int fs)) (ys := [(PyData.int ni)]) ?_ ?_ ?_
                    · exact ev_v V 5
                    · refine ev_tupN (n := 1) (ds := [(PyData.int ni)]) ?_
                      refine ea_c (d := (PyData.int ni)) (ds := []) ?_ ?_
                      · exact ev_v V 4
                      · exact ea_nil
                    · (simp only [List.length_append, List.length_map, List.length_cons, List.length_nil, List.length_take, List.length_drop, List.length_tail]; omega)
                  · refine ea_c (d := (PyData.tuple (st.map triD))) (ds := [(tI ag)]) ?_ ?_
                    · exact ev_v V 6
                    · refine ea_c (d := (tI ag)) (ds := []) ?_ ?_
                      · exact ev_v V 7
                      · exact ea_nil
            · refine ea_c (d := (PyData.tuple [(PyData.int li), (PyData.int ni), (PyData.tuple [(PyData.int 0), (PyData.int 0)]), (PyData.tuple (st.map triD)), (tI ag)])) (ds := [(PyData.tuple [(PyData.int li), (PyData.int ni), (tI fs), (PyData.tuple (st.map triD)), (PyData.tuple ((List.map PyData.int ag) ++ [(PyData.int ((0) - (1)))]))]), (PyData.tuple [(PyData.int li), (PyData.int ni), (tI fs), (PyData.tuple ((st.map triD) ++ [(PyData.tuple [(PyData.int 0), (PyData.int li), (PyData.int 0)])])), (tI ag)]), (PyData.tuple [(PyData.int li), (PyData.int ni), (tI fs), (PyData.tuple [(PyData.tuple [(PyData.int ni), (PyData.int 0), (PyData.int 0)])]), (tI ag)]), (PyData.tuple [(PyData.int li), (PyData.int ni), (tI fs), (PyData.tuple [(PyData.tuple [(PyData.int 0), (PyData.int 0), (PyData.int ni)])]), (tI ag)]), (PyData.tuple [(PyData.int li), (PyData.int ni), (tI fs), (PyData.tuple [(PyData.tuple [(PyData.int 0), (PyData.int ((0) - (1))), (PyData.int 0)])]), (tI ag)]), (PyData.tuple [(PyData.int li), (PyData.int ni), (tI fs), (PyData.tuple (st.map triD)), (PyData.tuple [(PyData.int 0), (PyData.int 0)])]), (PyData.tuple [(PyData.int li), (PyData.int 3), (PyData.tuple [(PyData.int 2), (PyData.int 1)]), (PyData.tuple []), (PyData.tuple [])]), (PyData.tuple [(PyData.int li), (PyData.int 3), (PyData.tuple [(PyData.int 0)]), (PyData.tuple []), (PyData.tuple [(PyData.int 1), (PyData.int 0)])]), (PyData.tuple [(PyData.int li), (PyData.int ni), (tI fs), (PyData.tuple (st.map triD)), (PyData.tuple [(PyData.int ni)])]), (PyData.tuple [(PyData.int li), (PyData.int ni), (PyData.tuple [(PyData.int ((0) - (1)))]), (PyData.tuple (st.map triD)), (tI ag)]), (PyData.tuple [(PyData.int li), (PyData.int ni), (tI fs), (PyData.tuple [(PyData.tuple [(PyData.int ((0) - (1))), (PyData.int 0), (PyData.int 0)])]), (tI ag)]), (PyData.tuple [(PyData.int li), (PyData.int ni), (tI fs), (PyData.tuple [(PyData.tuple [(PyData.int 0), (PyData.int 0), (PyData.int ((0) - (1)))])]), (tI ag)]), (PyData.tuple [(PyData.int li), (PyData.int 2), (PyData.tuple (cutL (List.map PyData.int fs) none (some (1)))), (PyData.tuple [(PyData.tuple [(PyData.int 1), (PyData.int 0), (PyData.int 0)]), (PyData.tuple [(PyData.int 0), (PyData.int 0), (PyData.int 0)])]), (PyData.tuple [])]), (PyData.tuple [(PyData.int li), (PyData.int 1), (PyData.tuple [(PyData.int 0)]), (PyData.tuple [(PyData.tuple [(PyData.int 0), (PyData.int 0), (PyData.int 0)]), (PyData.tuple [(PyData.int 0), (PyData.int 0), (PyData.int 0)])]), (PyData.tuple [])])]) ?_ ?_
              · refine ev_tupN (n := 5) (ds := [(PyData.int li), (PyData.int ni), (PyData.tuple [(PyData.int 0), (PyData.int 0)]), (PyData.tuple (st.map triD)), (tI ag)]) ?_
                refine ea_c (d := (PyData.int li)) (ds := [(PyData.int ni), (PyData.tuple [(PyData.int 0), (PyData.int 0)]), (PyData.tuple (st.map triD)), (tI ag)]) ?_ ?_
                · exact ev_v V 2
                · refine ea_c (d := (PyData.int ni)) (ds := [(PyData.tuple [(PyData.int 0), (PyData.int 0)]), (PyData.tuple (st.map triD)), (tI ag)]) ?_ ?_
                  · exact ev_v V 4
                  · refine ea_c (d := (PyData.tuple [(PyData.int 0), (PyData.int 0)])) (ds := [(PyData.tuple (st.map triD)), (tI ag)]) ?_ ?_
                    · refine ev_tupN (n := 2) (ds := [(PyData.int 0), (PyData.int 0)]) ?_
                      refine ea_c (d := (PyData.int 0)) (ds := [(PyData.int 0)]) ?_ ?_
                      · exact ev_int
                      · refine ea_c (d := (PyData.int 0)) (ds := []) ?_ ?_
                        · exact ev_int
                        · exact ea_nil
                    · refine ea_c (d := (PyData.tuple (st.map triD))) (ds := [(tI ag)]) ?_ ?_
                      · exact ev_v V 6
                      · refine ea_c (d := (tI ag)) (ds := []) ?_ ?_
                        · exact ev_v V 7
                        · exact ea_nil
              · refine ea_c (d := (PyData.tuple [(PyData.int li), (PyData.int ni), (tI fs), (PyData.tuple (st.map triD)), (PyData.tuple ((List.map PyData.int ag) ++ [(PyData.int ((0) - (1)))]))])) (ds := [(PyData.tuple [(PyData.int li), (PyData.int ni), (tI fs), (PyData.tuple ((st.map triD) ++ [(PyData.tuple [(PyData.int 0), (PyData.int li), (PyData.int 0)])])), (tI ag)]), (PyData.tuple [(PyData.int li), (PyData.int ni), (tI fs), (PyData.tuple [(PyData.tuple [(PyData.int ni), (PyData.int 0), (PyData.int 0)])]), (tI ag)]), (PyData.tuple [(PyData.int li), (PyData.int ni), (tI fs), (PyData.tuple [(PyData.tuple [(PyData.int 0), (PyData.int 0), (PyData.int ni)])]), (tI ag)]), (PyData.tuple [(PyData.int li), (PyData.int ni), (tI fs), (PyData.tuple [(PyData.tuple [(PyData.int 0), (PyData.int ((0) - (1))), (PyData.int 0)])]), (tI ag)]), (PyData.tuple [(PyData.int li), (PyData.int ni), (tI fs), (PyData.tuple (st.map triD)), (PyData.tuple [(PyData.int 0), (PyData.int 0)])]), (PyData.tuple [(PyData.int li), (PyData.int 3), (PyData.tuple [(PyData.int 2), (PyData.int 1)]), (PyData.tuple []), (PyData.tuple [])]), (PyData.tuple [(PyData.int li), (PyData.int 3), (PyData.tuple [(PyData.int 0)]), (PyData.tuple []), (PyData.tuple [(PyData.int 1), (PyData.int 0)])]), (PyData.tuple [(PyData.int li), (PyData.int ni), (tI fs), (PyData.tuple (st.map triD)), (PyData.tuple [(PyData.int ni)])]), (PyData.tuple [(PyData.int li), (PyData.int ni), (PyData.tuple [(PyData.int ((0) - (1)))]), (PyData.tuple (st.map triD)), (tI ag)]), (PyData.tuple [(PyData.int li), (PyData.int ni), (tI fs), (PyData.tuple [(PyData.tuple [(PyData.int ((0) - (1))), (PyData.int 0), (PyData.int 0)])]), (tI ag)]), (PyData.tuple [(PyData.int li), (PyData.int ni), (tI fs), (PyData.tuple [(PyData.tuple [(PyData.int 0), (PyData.int 0), (PyData.int ((0) - (1)))])]), (tI ag)]), (PyData.tuple [(PyData.int li), (PyData.int 2), (PyData.tuple (cutL (List.map PyData.int fs) none (some (1)))), (PyData.tuple [(PyData.tuple [(PyData.int 1), (PyData.int 0), (PyData.int 0)]), (PyData.tuple [(PyData.int 0), (PyData.int 0), (PyData.int 0)])]), (PyData.tuple [])]), (PyData.tuple [(PyData.int li), (PyData.int 1), (PyData.tuple [(PyData.int 0)]), (PyData.tuple [(PyData.tuple [(PyData.int 0), (PyData.int 0), (PyData.int 0)]), (PyData.tuple [(PyData.int 0), (PyData.int 0), (PyData.int 0)])]), (PyData.tuple [])])]) ?_ ?_
                · refine ev_tupN (n := 5) (ds := [(PyData.int li), (PyData.int ni), (tI fs), (PyData.tuple (st.map triD)), (PyData.tuple ((List.map PyData.int ag) ++ [(PyData.int ((0) - (1)))]))]) ?_
                  refine ea_c (d := (PyData.int li)) (ds := [(PyData.int ni), (tI fs), (PyData.tuple (st.map triD)), (PyData.tuple ((List.map PyData.int ag) ++ [(PyData.int ((0) - (1)))]))]) ?_ ?_
                  · exact ev_v V 2
                  · refine ea_c (d := (PyData.int ni)) (ds := [(tI fs), (PyData.tuple (st.map triD)), (PyData.tuple ((List.map PyData.int ag) ++ [(PyData.int ((0) - (1)))]))]) ?_ ?_
                    · exact ev_v V 4
                    · refine ea_c (d := (tI fs)) (ds := [(PyData.tuple (st.map triD)), (PyData.tuple ((List.map PyData.int ag) ++ [(PyData.int ((0) - (1)))]))]) ?_ ?_
                      · exact ev_v V 5
                      · refine ea_c (d := (PyData.tuple (st.map triD))) (ds := [(PyData.tuple ((List.map PyData.int ag) ++ [(PyData.int ((0) - (1)))]))]) ?_ ?_
                        · exact ev_v V 6
                        · refine ea_c (d := (PyData.tuple ((List.map PyData.int ag) ++ [(PyData.int ((0) - (1)))]))) (ds := []) ?_ ?_
                          · refine ev_catTA (xs := (List.map PyData.int ag)) (ys := [(PyData.int ((0) - (1)))]) ?_ ?_ ?_
                            · exact ev_v V 7
                            · refine ev_tupN (n := 1) (ds := [(PyData.int ((0) - (1)))]) ?_
                              refine ea_c (d := (PyData.int ((0) - (1)))) (ds := []) ?_ ?_
                              · refine ev_sub ?_ ?_
                                · exact ev_int
                                · exact ev_int
                              · exact ea_nil
                            · (simp only [List.length_append, List.length_map, List.length_cons, List.length_nil, List.length_take, List.length_drop, List.length_tail]; omega)
                          · exact ea_nil
                · refine ea_c (d := (PyData.tuple [(PyData.int li), (PyData.int ni), (tI fs), (PyData.tuple ((st.map triD) ++ [(PyData.tuple [(PyData.int 0), (PyData.int li), (PyData.int 0)])])), (tI ag)])) (ds := [(PyData.tuple [(PyData.int li), (PyData.int ni), (tI fs), (PyData.tuple [(PyData.tuple [(PyData.int ni), (PyData.int 0), (PyData.int 0)])]), (tI ag)]), (PyData.tuple [(PyData.int li), (PyData.int ni), (tI fs), (PyData.tuple [(PyData.tuple [(PyData.int 0), (PyData.int 0), (PyData.int ni)])]), (tI ag)]), (PyData.tuple [(PyData.int li), (PyData.int ni), (tI fs), (PyData.tuple [(PyData.tuple [(PyData.int 0), (PyData.int ((0) - (1))), (PyData.int 0)])]), (tI ag)]), (PyData.tuple [(PyData.int li), (PyData.int ni), (tI fs), (PyData.tuple (st.map triD)), (PyData.tuple [(PyData.int 0), (PyData.int 0)])]), (PyData.tuple [(PyData.int li), (PyData.int 3), (PyData.tuple [(PyData.int 2), (PyData.int 1)]), (PyData.tuple []), (PyData.tuple [])]), (PyData.tuple [(PyData.int li), (PyData.int 3), (PyData.tuple [(PyData.int 0)]), (PyData.tuple []), (PyData.tuple [(PyData.int 1), (PyData.int 0)])]), (PyData.tuple [(PyData.int li), (PyData.int ni), (tI fs), (PyData.tuple (st.map triD)), (PyData.tuple [(PyData.int ni)])]), (PyData.tuple [(PyData.int li), (PyData.int ni), (PyData.tuple [(PyData.int ((0) - (1)))]), (PyData.tuple (st.map triD)), (tI ag)]), (PyData.tuple [(PyData.int li), (PyData.int ni), (tI fs), (PyData.tuple [(PyData.tuple [(PyData.int ((0) - (1))), (PyData.int 0), (PyData.int 0)])]), (tI ag)]), (PyData.tuple [(PyData.int li), (PyData.int ni), (tI fs), (PyData.tuple [(PyData.tuple [(PyData.int 0), (PyData.int 0), (PyData.int ((0) - (1)))])]), (tI ag)]), (PyData.tuple [(PyData.int li), (PyData.int 2), (PyData.tuple (cutL (List.map PyData.int fs) none (some (1)))), (PyData.tuple [(PyData.tuple [(PyData.int 1), (PyData.int 0), (PyData.int 0)]), (PyData.tuple [(PyData.int 0), (PyData.int 0), (PyData.int 0)])]), (PyData.tuple [])]), (PyData.tuple [(PyData.int li), (PyData.int 1), (PyData.tuple [(PyData.int 0)]), (PyData.tuple [(PyData.tuple [(PyData.int 0), (PyData.int 0), (PyData.int 0)]), (PyData.tuple [(PyData.int 0), (PyData.int 0), (PyData.int 0)])]), (PyData.tuple [])])]) ?_ ?_
                  · refine ev_tupN (n := 5) (ds := [(PyData.int li), (PyData.int ni), (tI fs), (PyData.tuple ((st.map triD) ++ [(PyData.tuple [(PyData.int 0), (PyData.int li), (PyData.int 0)])])), (tI ag)]) ?_
                    refine ea_c (d := (PyData.int li)) (ds := [(PyData.int ni), (tI fs), (PyData.tuple ((st.map triD) ++ [(PyData.tuple [(PyData.int 0), (PyData.int li), (PyData.int 0)])])), (tI ag)]) ?_ ?_
                    · exact ev_v V 2
                    · refine ea_c (d := (PyData.int ni)) (ds := [(tI fs), (PyData.tuple ((st.map triD) ++ [(PyData.tuple [(PyData.int 0), (PyData.int li), (PyData.int 0)])])), (tI ag)]) ?_ ?_
                      · exact ev_v V 4
                      · refine ea_c (d := (tI fs)) (ds := [(PyData.tuple ((st.map triD) ++ [(PyData.tuple [(PyData.int 0), (PyData.int li), (PyData.int 0)])])), (tI ag)]) ?_ ?_
                        · exact ev_v V 5
                        · refine ea_c (d := (PyData.tuple ((st.map triD) ++ [(PyData.tuple [(PyData.int 0), (PyData.int li), (PyData.int 0)])]))) (ds := [(tI ag)]) ?_ ?_
                          · refine ev_catTA (xs := (st.map triD)) (ys := [(PyData.tuple [(PyData.int 0), (PyData.int li), (PyData.int 0)])]) ?_ ?_ ?_
                            · exact ev_v V 6
                            · refine ev_tupN (n := 1) (ds := [(PyData.tuple [(PyData.int 0), (PyData.int li), (PyData.int 0)])]) ?_
                              refine ea_c (d := (PyData.tuple [(PyData.int 0), (PyData.int li), (PyData.int 0)])) (ds := []) ?_ ?_
                              · refine ev_tupN (n := 3) (ds := [(PyData.int 0), (PyData.int li), (PyData.int 0)]) ?_
                                refine ea_c (d := (PyData.int 0)) (ds := [(PyData.int li), (PyData.int 0)]) ?_ ?_
                                · exact ev_int
                                · refine ea_c (d := (PyData.int li)) (ds := [(PyData.int 0)]) ?_ ?_
                                  · exact ev_v V 2
                                  · refine ea_c (d := (PyData.int 0)) (ds := []) ?_ ?_
                                    · exact ev_int
                                    · exact ea_nil
                              · exact ea_nil
                            · (simp only [List.length_append, List.length_map, List.length_cons, List.length_nil, List.length_take, List.length_drop, List.length_tail]; omega)
                          · refine ea_c (d := (tI ag)) (ds := []) ?_ ?_
                            · exact ev_v V 7
                            · exact ea_nil
                  · refine ea_c (d := (PyData.tuple [(PyData.int li), (PyData.int ni), (tI fs), (PyData.tuple [(PyData.tuple [(PyData.int ni), (PyData.int 0), (PyData.int 0)])]), (tI ag)])) (ds := [(PyData.tuple [(PyData.int li), (PyData.int ni), (tI fs), (PyData.tuple [(PyData.tuple [(PyData.int 0), (PyData.int 0), (PyData.int ni)])]), (tI ag)]), (PyData.tuple [(PyData.int li), (PyData.int ni), (tI fs), (PyData.tuple [(PyData.tuple [(PyData.int 0), (PyData.int ((0) - (1))), (PyData.int 0)])]), (tI ag)]), (PyData.tuple [(PyData.int li), (PyData.int ni), (tI fs), (PyData.tuple (st.map triD)), (PyData.tuple [(PyData.int 0), (PyData.int 0)])]), (PyData.tuple [(PyData.int li), (PyData.int 3), (PyData.tuple [(PyData.int 2), (PyData.int 1)]), (PyData.tuple []), (PyData.tuple [])]), (PyData.tuple [(PyData.int li), (PyData.int 3), (PyData.tuple [(PyData.int 0)]), (PyData.tuple []), (PyData.tuple [(PyData.int 1), (PyData.int 0)])]), (PyData.tuple [(PyData.int li), (PyData.int ni), (tI fs), (PyData.tuple (st.map triD)), (PyData.tuple [(PyData.int ni)])]), (PyData.tuple [(PyData.int li), (PyData.int ni), (PyData.tuple [(PyData.int ((0) - (1)))]), (PyData.tuple (st.map triD)), (tI ag)]), (PyData.tuple [(PyData.int li), (PyData.int ni), (tI fs), (PyData.tuple [(PyData.tuple [(PyData.int ((0) - (1))), (PyData.int 0), (PyData.int 0)])]), (tI ag)]), (PyData.tuple [(PyData.int li), (PyData.int ni), (tI fs), (PyData.tuple [(PyData.tuple [(PyData.int 0), (PyData.int 0), (PyData.int ((0) - (1)))])]), (tI ag)]), (PyData.tuple [(PyData.int li), (PyData.int 2), (PyData.tuple (cutL (List.map PyData.int fs) none (some (1)))), (PyData.tuple [(PyData.tuple [(PyData.int 1), (PyData.int 0), (PyData.int 0)]), (PyData.tuple [(PyData.int 0), (PyData.int 0), (PyData.int 0)])]), (PyData.tuple [])]), (PyData.tuple [(PyData.int li), (PyData.int 1), (PyData.tuple [(PyData.int 0)]), (PyData.tuple [(PyData.tuple [(PyData.int 0), (PyData.int 0), (PyData.int 0)]), (PyData.tuple [(PyData.int 0), (PyData.int 0), (PyData.int 0)])]), (PyData.tuple [])])]) ?_ ?_
                    · refine ev_tupN (n := 5) (ds := [(PyData.int li), (PyData.int ni), (tI fs), (PyData.tuple [(PyData.tuple [(PyData.int ni), (PyData.int 0), (PyData.int 0)])]), (tI ag)]) ?_
                      refine ea_c (d := (PyData.int li)) (ds := [(PyData.int ni), (tI fs), (PyData.tuple [(PyData.tuple [(PyData.int ni), (PyData.int 0), (PyData.int 0)])]), (tI ag)]) ?_ ?_
                      · exact ev_v V 2
                      · refine ea_c (d := (PyData.int ni)) (ds := [(tI fs), (PyData.tuple [(PyData.tuple [(PyData.int ni), (PyData.int 0), (PyData.int 0)])]), (tI ag)]) ?_ ?_
                        · exact ev_v V 4
                        · refine ea_c (d := (tI fs)) (ds := [(PyData.tuple [(PyData.tuple [(PyData.int ni), (PyData.int 0), (PyData.int 0)])]), (tI ag)]) ?_ ?_
                          · exact ev_v V 5
                          · refine ea_c (d := (PyData.tuple [(PyData.tuple [(PyData.int ni), (PyData.int 0), (PyData.int 0)])])) (ds := [(tI ag)]) ?_ ?_
                            · refine ev_tupN (n := 1) (ds := [(PyData.tuple [(PyData.int ni), (PyData.int 0), (PyData.int 0)])]) ?_
                              refine ea_c (d := (PyData.tuple [(PyData.int ni), (PyData.int 0), (PyData.int 0)])) (ds := []) ?_ ?_
                              · refine ev_tupN (n := 3) (ds := [(PyData.int ni), (PyData.int 0), (PyData.int 0)]) ?_
                                refine ea_c (d := (PyData.int ni)) (ds := [(PyData.int 0), (PyData.int 0)]) ?_ ?_
                                · exact ev_v V 4
                                · refine ea_c (d := (PyData.int 0)) (ds := [(PyData.int 0)]) ?_ ?_
                                  · exact ev_int
                                  · refine ea_c (d := (PyData.int 0)) (ds := []) ?_ ?_
                                    · exact ev_int
                                    · exact ea_nil
                              · exact ea_nil
                            · refine ea_c (d := (tI ag)) (ds := []) ?_ ?_
                              · exact ev_v V 7
                              · exact ea_nil
                    · refine ea_c (d := (PyData.tuple [(PyData.int li), (PyData.int ni), (tI fs), (PyData.tuple [(PyData.tuple [(PyData.int 0), (PyData.int 0), (PyData.int ni)])]), (tI ag)])) (ds := [(PyData.tuple [(PyData.int li), (PyData.int ni), (tI fs), (PyData.tuple [(PyData.tuple [(PyData.int 0), (PyData.int ((0) - (1))), (PyData.int 0)])]), (tI ag)]), (PyData.tuple [(PyData.int li), (PyData.int ni), (tI fs), (PyData.tuple (st.map triD)), (PyData.tuple [(PyData.int 0), (PyData.int 0)])]), (PyData.tuple [(PyData.int li), (PyData.int 3), (PyData.tuple [(PyData.int 2), (PyData.int 1)]), (PyData.tuple []), (PyData.tuple [])]), (PyData.tuple [(PyData.int li), (PyData.int 3), (PyData.tuple [(PyData.int 0)]), (PyData.tuple []), (PyData.tuple [(PyData.int 1), (PyData.int 0)])]), (PyData.tuple [(PyData.int li), (PyData.int ni), (tI fs), (PyData.tuple (st.map triD)), (PyData.tuple [(PyData.int ni)])]), (PyData.tuple [(PyData.int li), (PyData.int ni), (PyData.tuple [(PyData.int ((0) - (1)))]), (PyData.tuple (st.map triD)), (tI ag)]), (PyData.tuple [(PyData.int li), (PyData.int ni), (tI fs), (PyData.tuple [(PyData.tuple [(PyData.int ((0) - (1))), (PyData.int 0), (PyData.int 0)])]), (tI ag)]), (PyData.tuple [(PyData.int li), (PyData.int ni), (tI fs), (PyData.tuple [(PyData.tuple [(PyData.int 0), (PyData.int 0), (PyData.int ((0) - (1)))])]), (tI ag)]), (PyData.tuple [(PyData.int li), (PyData.int 2), (PyData.tuple (cutL (List.map PyData.int fs) none (some (1)))), (PyData.tuple [(PyData.tuple [(PyData.int 1), (PyData.int 0), (PyData.int 0)]), (PyData.tuple [(PyData.int 0), (PyData.int 0), (PyData.int 0)])]), (PyData.tuple [])]), (PyData.tuple [(PyData.int li), (PyData.int 1), (PyData.tuple [(PyData.int 0)]), (PyData.tuple [(PyData.tuple [(PyData.int 0), (PyData.int 0), (PyData.int 0)]), (PyData.tuple [(PyData.int 0), (PyData.int 0), (PyData.int 0)])]), (PyData.tuple [])])]) ?_ ?_
                      · refine ev_tupN (n := 5) (ds := [(PyData.int li), (PyData.int ni), (tI fs), (PyData.tuple [(PyData.tuple [(PyData.int 0), (PyData.int 0), (PyData.int ni)])]), (tI ag)]) ?_
                        refine ea_c (d := (PyData.int li)) (ds := [(PyData.int ni), (tI fs), (PyData.tuple [(PyData.tuple [(PyData.int 0), (PyData.int 0), (PyData.int ni)])]), (tI ag)]) ?_ ?_
                        · exact ev_v V 2
                        · refine ea_c (d := (PyData.int ni)) (ds := [(tI fs), (PyData.tuple [(PyData.tuple [(PyData.int 0), (PyData.int 0), (PyData.int ni)])]), (tI ag)]) ?_ ?_
                          · exact ev_v V 4
                          · refine ea_c (d := (tI fs)) (ds := [(PyData.tuple [(PyData.tuple [(PyData.int 0), (PyData.int 0), (PyData.int ni)])]), (tI ag)]) ?_ ?_
                            · exact ev_v V 5
                            · refine ea_c (d := (PyData.tuple [(PyData.tuple [(PyData.int 0), (PyData.int 0), (PyData.int ni)])])) (ds := [(tI ag)]) ?_ ?_
                              · refine ev_tupN (n := 1) (ds := [(PyData.tuple [(PyData.int 0), (PyData.int 0), (PyData.int ni)])]) ?_
                                refine ea_c (d := (PyData.tuple [(PyData.int 0), (PyData.int 0), (PyData.int ni)])) (ds := []) ?_ ?_
                                · refine ev_tupN (n := 3) (ds := [(PyData.int 0), (PyData.int 0), (PyData.int ni)]) ?_
                                  refine ea_c (d := (PyData.int 0)) (ds := [(PyData.int 0), (PyData.int ni)]) ?_ ?_
                                  · exact ev_int
                                  · refine ea_c (d := (PyData.int 0)) (ds := [(PyData.int ni)]) ?_ ?_
                                    · exact ev_int
                                    · refine ea_c (d := (PyData.int ni)) (ds := []) ?_ ?_
                                      · exact ev_v V 4
                                      · exact ea_nil
                                · exact ea_nil
                              · refine ea_c (d := (tI ag)) (ds := []) ?_ ?_
                                · exact ev_v V 7
                                · exact ea_nil
                      · refine ea_c (d := (PyData.tuple [(PyData.int li), (PyData.int ni), (tI fs), (PyData.tuple [(PyData.tuple [(PyData.int 0), (PyData.int ((0) - (1))), (PyData.int 0)])]), (tI ag)])) (ds := [(PyData.tuple [(PyData.int li), (PyData.int ni), (tI fs), (PyData.tuple (st.map triD)), (PyData.tuple [(PyData.int 0), (PyData.int 0)])]), (PyData.tuple [(PyData.int li), (PyData.int 3), (PyData.tuple [(PyData.int 2), (PyData.int 1)]), (PyData.tuple []), (PyData.tuple [])]), (PyData.tuple [(PyData.int li), (PyData.int 3), (PyData.tuple [(PyData.int 0)]), (PyData.tuple []), (PyData.tuple [(PyData.int 1), (PyData.int 0)])]), (PyData.tuple [(PyData.int li), (PyData.int ni), (tI fs), (PyData.tuple (st.map triD)), (PyData.tuple [(PyData.int ni)])]), (PyData.tuple [(PyData.int li), (PyData.int ni), (PyData.tuple [(PyData.int ((0) - (1)))]), (PyData.tuple (st.map triD)), (tI ag)]), (PyData.tuple [(PyData.int li), (PyData.int ni), (tI fs), (PyData.tuple [(PyData.tuple [(PyData.int ((0) - (1))), (PyData.int 0), (PyData.int 0)])]), (tI ag)]), (PyData.tuple [(PyData.int li), (PyData.int ni), (tI fs), (PyData.tuple [(PyData.tuple [(PyData.int 0), (PyData.int 0), (PyData.int ((0) - (1)))])]), (tI ag)]), (PyData.tuple [(PyData.int li), (PyData.int 2), (PyData.tuple (cutL (List.map PyData.int fs) none (some (1)))), (PyData.tuple [(PyData.tuple [(PyData.int 1), (PyData.int 0), (PyData.int 0)]), (PyData.tuple [(PyData.int 0), (PyData.int 0), (PyData.int 0)])]), (PyData.tuple [])]), (PyData.tuple [(PyData.int li), (PyData.int 1), (PyData.tuple [(PyData.int 0)]), (PyData.tuple [(PyData.tuple [(PyData.int 0), (PyData.int 0), (PyData.int 0)]), (PyData.tuple [(PyData.int 0), (PyData.int 0), (PyData.int 0)])]), (PyData.tuple [])])]) ?_ ?_
                        · refine ev_tupN (n := 5) (ds := [(PyData.int li), (PyData.int ni), (tI fs), (PyData.tuple [(PyData.tuple [(PyData.int 0), (PyData.int ((0) - (1))), (PyData.int 0)])]), (tI ag)]) ?_
                          refine ea_c (d := (PyData.int li)) (ds := [(PyData.int ni), (tI fs), (PyData.tuple [(PyData.tuple [(PyData.int 0), (PyData.int ((0) - (1))), (PyData.int 0)])]), (tI ag)]) ?_ ?_
                          · exact ev_v V 2
                          · refine ea_c (d := (PyData.int ni)) (ds := [(tI fs), (PyData.tuple [(PyData.tuple [(PyData.int 0), (PyData.int ((0) - (1))), (PyData.int 0)])]), (tI ag)]) ?_ ?_
                            · exact ev_v V 4
                            · refine ea_c (d := (tI fs)) (ds := [(PyData.tuple [(PyData.tuple [(PyData.int 0), (PyData.int ((0) - (1))), (PyData.int 0)])]), (tI ag)]) ?_ ?_
                              · exact ev_v V 5
                              · refine ea_c (d := (PyData.tuple [(PyData.tuple [(PyData.int 0), (PyData.int ((0) - (1))), (PyData.int 0)])])) (ds := [(tI ag)]) ?_ ?_
                                · refine ev_tupN (n := 1) (ds := [(PyData.tuple [(PyData.int 0), (PyData.int ((0) - (1))), (PyData.int 0)])]) ?_
                                  refine ea_c (d := (PyData.tuple [(PyData.int 0), (PyData.int ((0) - (1))), (PyData.int 0)])) (ds := []) ?_ ?_
                                  · refine ev_tupN (n := 3) (ds := [(PyData.int 0), (PyData.int ((0) - (1))), (PyData.int 0)]) ?_
                                    refine ea_c (d := (PyData.int 0)) (ds := [(PyData.int ((0) - (1))), (PyData.int 0)]) ?_ ?_
                                    · exact ev_int
                                    · refine ea_c (d := (PyData.int ((0) - (1)))) (ds := [(PyData.int 0)]) ?_ ?_
                                      · refine ev_sub ?_ ?_
                                        · exact ev_int
                                        · exact ev_int
                                      · refine ea_c (d := (PyData.int 0)) (ds := []) ?_ ?_
                                        · exact ev_int
                                        · exact ea_nil
                                  · exact ea_nil
                                · refine ea_c (d := (tI ag)) (ds := []) ?_ ?_
                                  · exact ev_v V 7
                                  · exact ea_nil
                        · refine ea_c (d := (PyData.tuple [(PyData.int li), (PyData.int ni), (tI fs), (PyData.tuple (st.map triD)), (PyData.tuple [(PyData.int 0), (PyData.int 0)])])) (ds := [(PyData.tuple [(PyData.int li), (PyData.int 3), (PyData.tuple [(PyData.int 2), (PyData.int 1)]), (PyData.tuple []), (PyData.tuple [])]), (PyData.tuple [(PyData.int li), (PyData.int 3), (PyData.tuple [(PyData.int 0)]), (PyData.tuple []), (PyData.tuple [(PyData.int 1), (PyData.int 0)])]), (PyData.tuple [(PyData.int li), (PyData.int ni), (tI fs), (PyData.tuple (st.map triD)), (PyData.tuple [(PyData.int ni)])]), (PyData.tuple [(PyData.int li), (PyData.int ni), (PyData.tuple [(PyData.int ((0) - (1)))]), (PyData.tuple (st.map triD)), (tI ag)]), (PyData.tuple [(PyData.int li), (PyData.int ni), (tI fs), (PyData.tuple [(PyData.tuple [(PyData.int ((0) - (1))), (PyData.int 0), (PyData.int 0)])]), (tI ag)]), (PyData.tuple [(PyData.int li), (PyData.int ni), (tI fs), (PyData.tuple [(PyData.tuple [(PyData.int 0), (PyData.int 0), (PyData.int ((0) - (1)))])]), (tI ag)]), (PyData.tuple [(PyData.int li), (PyData.int 2), (PyData.tuple (cutL (List.map PyData.int fs) none (some (1)))), (PyData.tuple [(PyData.tuple [(PyData.int 1), (PyData.int 0), (PyData.int 0)]), (PyData.tuple [(PyData.int 0), (PyData.int 0), (PyData.int 0)])]), (PyData.tuple [])]), (PyData.tuple [(PyData.int li), (PyData.int 1), (PyData.tuple [(PyData.int 0)]), (PyData.tuple [(PyData.tuple [(PyData.int 0), (PyData.int 0), (PyData.int 0)]), (PyData.tuple [(PyData.int 0), (PyData.int 0), (PyData.int 0)])]), (PyData.tuple [])])]) ?_ ?_
                          · refine ev_tupN (n := 5) (ds := [(PyData.int li), (PyData.int ni), (tI fs), (PyData.tuple (st.map triD)), (PyData.tuple [(PyData.int 0), (PyData.int 0)])]) ?_
                            refine ea_c (d := (PyData.int li)) (ds := [(PyData.int ni), (tI fs), (PyData.tuple (st.map triD)), (PyData.tuple [(PyData.int 0), (PyData.int 0)])]) ?_ ?_
                            · exact ev_v V 2
                            · refine ea_c (d := (PyData.int ni)) (ds := [(tI fs), (PyData.tuple (st.map triD)), (PyData.tuple [(PyData.int 0), (PyData.int 0)])]) ?_ ?_
                              · exact ev_v V 4
                              · refine ea_c (d := (tI fs)) (ds := [(PyData.tuple (st.map triD)), (PyData.tuple [(PyData.int 0), (PyData.int 0)])]) ?_ ?_
                                · exact ev_v V 5
                                · refine ea_c (d := (PyData.tuple (st.map triD))) (ds := [(PyData.tuple [(PyData.int 0), (PyData.int 0)])]) ?_ ?_
                                  · exact ev_v V 6
                                  · refine ea_c (d := (PyData.tuple [(PyData.int 0), (PyData.int 0)])) (ds := []) ?_ ?_
                                    · refine ev_tupN (n := 2) (ds := [(PyData.int 0), (PyData.int 0)]) ?_
                                      refine ea_c (d := (PyData.int 0)) (ds := [(PyData.int 0)]) ?_ ?_
                                      · exact ev_int
                                      · refine ea_c (d := (PyData.int 0)) (ds := []) ?_ ?_
                                        · exact ev_int
                                        · exact ea_nil
                                    · exact ea_nil
                          · refine ea_c (d := (PyData.tuple [(PyData.int li), (PyData.int 3), (PyData.tuple [(PyData.int 2), (PyData.int 1)]), (PyData.tuple []), (PyData.tuple [])])) (ds := [(PyData.tuple [(PyData.int li), (PyData.int 3), (PyData.tuple [(PyData.int 0)]), (PyData.tuple []), (PyData.tuple [(PyData.int 1), (PyData.int 0)])]), (PyData.tuple [(PyData.int li), (PyData.int ni), (tI fs), (PyData.tuple (st.map triD)), (PyData.tuple [(PyData.int ni)])]), (PyData.tuple [(PyData.int li), (PyData.int ni), (PyData.tuple [(PyData.int ((0) - (1)))]), (PyData.tuple (st.map triD)), (tI ag)]), (PyData.tuple [(PyData.int li), (PyData.int ni), (tI fs), (PyData.tuple [(PyData.tuple [(PyData.int ((0) - (1))), (PyData.int 0), (PyData.int 0)])]), (tI ag)]), (PyData.tuple [(PyData.int li), (PyData.int ni), (tI fs), (PyData.tuple [(PyData.tuple [(PyData.int 0), (PyData.int 0), (PyData.int ((0) - (1)))])]), (tI ag)]), (PyData.tuple [(PyData.int li), (PyData.int 2), (PyData.tuple (cutL (List.map PyData.int fs) none (some (1)))), (PyData.tuple [(PyData.tuple [(PyData.int 1), (PyData.int 0), (PyData.int 0)]), (PyData.tuple [(PyData.int 0), (PyData.int 0), (PyData.int 0)])]), (PyData.tuple [])]), (PyData.tuple [(PyData.int li), (PyData.int 1), (PyData.tuple [(PyData.int 0)]), (PyData.tuple [(PyData.tuple [(PyData.int 0), (PyData.int 0), (PyData.int 0)]), (PyData.tuple [(PyData.int 0), (PyData.int 0), (PyData.int 0)])]), (PyData.tuple [])])]) ?_ ?_
                            · refine ev_tupN (n := 5) (ds := [(PyData.int li), (PyData.int 3), (PyData.tuple [(PyData.int 2), (PyData.int 1)]), (PyData.tuple []), (PyData.tuple [])]) ?_
                              refine ea_c (d := (PyData.int li)) (ds := [(PyData.int 3), (PyData.tuple [(PyData.int 2), (PyData.int 1)]), (PyData.tuple []), (PyData.tuple [])]) ?_ ?_
                              · exact ev_v V 2
                              · refine ea_c (d := (PyData.int 3)) (ds := [(PyData.tuple [(PyData.int 2), (PyData.int 1)]), (PyData.tuple []), (PyData.tuple [])]) ?_ ?_
                                · exact ev_int
                                · refine ea_c (d := (PyData.tuple [(PyData.int 2), (PyData.int 1)])) (ds := [(PyData.tuple []), (PyData.tuple [])]) ?_ ?_
                                  · refine ev_tupN (n := 2) (ds := [(PyData.int 2), (PyData.int 1)]) ?_
                                    refine ea_c (d := (PyData.int 2)) (ds := [(PyData.int 1)]) ?_ ?_
                                    · exact ev_int
                                    · refine ea_c (d := (PyData.int 1)) (ds := []) ?_ ?_
                                      · exact ev_int
                                      · exact ea_nil
                                  · refine ea_c (d := (PyData.tuple [])) (ds := [(PyData.tuple [])]) ?_ ?_
                                    · refine ev_tupN (n := 0) (ds := []) ?_
                                      exact ea_nil
                                    · refine ea_c (d := (PyData.tuple [])) (ds := []) ?_ ?_
                                      · refine ev_tupN (n := 0) (ds := []) ?_
                                        exact ea_nil
                                      · exact ea_nil
                            · refine ea_c (d := (PyData.tuple [(PyData.int li), (PyData.int 3), (PyData.tuple [(PyData.int 0)]), (PyData.tuple []), (PyData.tuple [(PyData.int 1), (PyData.int 0)])])) (ds := [(PyData.tuple [(PyData.int li), (PyData.int ni), (tI fs), (PyData.tuple (st.map triD)), (PyData.tuple [(PyData.int ni)])]), (PyData.tuple [(PyData.int li), (PyData.int ni), (PyData.tuple [(PyData.int ((0) - (1)))]), (PyData.tuple (st.map triD)), (tI ag)]), (PyData.tuple [(PyData.int li), (PyData.int ni), (tI fs), (PyData.tuple [(PyData.tuple [(PyData.int ((0) - (1))), (PyData.int 0), (PyData.int 0)])]), (tI ag)]), (PyData.tuple [(PyData.int li), (PyData.int ni), (tI fs), (PyData.tuple [(PyData.tuple [(PyData.int 0), (PyData.int 0), (PyData.int ((0) - (1)))])]), (tI ag)]), (PyData.tuple [(PyData.int li), (PyData.int 2), (PyData.tuple (cutL (List.map PyData.int fs) none (some (1)))), (PyData.tuple [(PyData.tuple [(PyData.int 1), (PyData.int 0), (PyData.int 0)]), (PyData.tuple [(PyData.int 0), (PyData.int 0), (PyData.int 0)])]), (PyData.tuple [])]), (PyData.tuple [(PyData.int li), (PyData.int 1), (PyData.tuple [(PyData.int 0)]), (PyData.tuple [(PyData.tuple [(PyData.int 0), (PyData.int 0), (PyData.int 0)]), (PyData.tuple [(PyData.int 0), (PyData.int 0), (PyData.int 0)])]), (PyData.tuple [])])]) ?_ ?_
                              · refine ev_tupN (n := 5) (ds := [(PyData.int li), (PyData.int 3), (PyData.tuple [(PyData.int 0)]), (PyData.tuple []), (PyData.tuple [(PyData.int 1), (PyData.int 0)])]) ?_
                                refine ea_c (d := (PyData.int li)) (ds := [(PyData.int 3), (PyData.tuple [(PyData.int 0)]), (PyData.tuple []), (PyData.tuple [(PyData.int 1), (PyData.int 0)])]) ?_ ?_
                                · exact ev_v V 2
                                · refine ea_c (d := (PyData.int 3)) (ds := [(PyData.tuple [(PyData.int 0)]), (PyData.tuple []), (PyData.tuple [(PyData.int 1), (PyData.int 0)])]) ?_ ?_
                                  · exact ev_int
                                  · refine ea_c (d := (PyData.tuple [(PyData.int 0)])) (ds := [(PyData.tuple []), (PyData.tuple [(PyData.int 1), (PyData.int 0)])]) ?_ ?_
                                    · refine ev_tupN (n := 1) (ds := [(PyData.int 0)]) ?_
                                      refine ea_c (d := (PyData.int 0)) (ds := []) ?_ ?_
                                      · exact ev_int
                                      · exact ea_nil
                                    · refine ea_c (d := (PyData.tuple [])) (ds := [(PyData.tuple [(PyData.int 1), (PyData.int 0)])]) ?_ ?_
                                      · refine ev_tupN (n := 0) (ds := []) ?_
                                        exact ea_nil
                                      · refine ea_c (d := (PyData.tuple [(PyData.int 1), (PyData.int 0)])) (ds := []) ?_ ?_
                                        · refine ev_tupN (n := 2) (ds := [(PyData.int 1), (PyData.int 0)]) ?_
                                          refine ea_c (d := (PyData.int 1)) (ds := [(PyData.int 0)]) ?_ ?_
                                          · exact ev_int
                                          · refine ea_c (d := (PyData.int 0)) (ds := []) ?_ ?_
                                            · exact ev_int
                                            · exact ea_nil
                                        · exact ea_nil
                              · refine ea_c (d := (PyData.tuple [(PyData.int li), (PyData.int ni), (tI fs), (PyData.tuple (st.map triD)), (PyData.tuple [(PyData.int ni)])])) (ds := [(PyData.tuple [(PyData.int li), (PyData.int ni), (PyData.tuple [(PyData.int ((0) - (1)))]), (PyData.tuple (st.map triD)), (tI ag)]), (PyData.tuple [(PyData.int li), (PyData.int ni), (tI fs), (PyData.tuple [(PyData.tuple [(PyData.int ((0) - (1))), (PyData.int 0), (PyData.int 0)])]), (tI ag)]), (PyData.tuple [(PyData.int li), (PyData.int ni), (tI fs), (PyData.tuple [(PyData.tuple [(PyData.int 0), (PyData.int 0), (PyData.int ((0) - (1)))])]), (tI ag)]), (PyData.tuple [(PyData.int li), (PyData.int 2), (PyData.tuple (cutL (List.map PyData.int fs) none (some (1)))), (PyData.tuple [(PyData.tuple [(PyData.int 1), (PyData.int 0), (PyData.int 0)]), (PyData.tuple [(PyData.int 0), (PyData.int 0), (PyData.int 0)])]), (PyData.tuple [])]), (PyData.tuple [(PyData.int li), (PyData.int 1), (PyData.tuple [(PyData.int 0)]), (PyData.tuple [(PyData.tuple [(PyData.int 0), (PyData.int 0), (PyData.int 0)]), (PyData.tuple [(PyData.int 0), (PyData.int 0), (PyData.int 0)])]), (PyData.tuple [])])]) ?_ ?_
                                · refine ev_tupN (n := 5) (ds := [(PyData.int li), (PyData.int ni), (tI fs), (PyData.tuple (st.map triD)), (PyData.tuple [(PyData.int ni)])]) ?_
                                  refine ea_c (d := (PyData.int li)) (ds := [(PyData.int ni), (tI fs), (PyData.tuple (st.map triD)), (PyData.tuple [(PyData.int ni)])]) ?_ ?_
                                  · exact ev_v V 2
                                  · refine ea_c (d := (PyData.int ni)) (ds := [(tI fs), (PyData.tuple (st.map triD)), (PyData.tuple [(PyData.int ni)])]) ?_ ?_
                                    · exact ev_v V 4
                                    · refine ea_c (d := (tI fs)) (ds := [(PyData.tuple (st.map triD)), (PyData.tuple [(PyData.int ni)])]) ?_ ?_
                                      · exact ev_v V 5
                                      · refine ea_c (d := (PyData.tuple (st.map triD))) (ds := [(PyData.tuple [(PyData.int ni)])]) ?_ ?_
                                        · exact ev_v V 6
                                        · refine ea_c (d := (PyData.tuple [(PyData.int ni)])) (ds := []) ?_ ?_
                                          · refine ev_tupN (n := 1) (ds := [(PyData.int ni)]) ?_
                                            refine ea_c (d := (PyData.int ni)) (ds := []) ?_ ?_
                                            · exact ev_v V 4
                                            · exact ea_nil
                                          · exact ea_nil
                                · refine ea_c (d := (PyData.tuple [(PyData.int li), (PyData.int ni), (PyData.tuple [(PyData.int ((0) - (1)))]), (PyData.tuple (st.map triD)), (tI ag)])) (ds := [(PyData.tuple [(PyData.int li), (PyData.int ni), (tI fs), (PyData.tuple [(PyData.tuple [(PyData.int ((0) - (1))), (PyData.int 0), (PyData.int 0)])]), (tI ag)]), (PyData.tuple [(PyData.int li), (PyData.int ni), (tI fs), (PyData.tuple [(PyData.tuple [(PyData.int 0), (PyData.int 0), (PyData.int ((0) - (1)))])]), (tI ag)]), (PyData.tuple [(PyData.int li), (PyData.int 2), (PyData.tuple (cutL (List.map PyData.int fs) none (some (1)))), (PyData.tuple [(PyData.tuple [(PyData.int 1), (PyData.int 0), (PyData.int 0)]), (PyData.tuple [(PyData.int 0), (PyData.int 0), (PyData.int 0)])]), (PyData.tuple [])]), (PyData.tuple [(PyData.int li), (PyData.int 1), (PyData.tuple [(PyData.int 0)]), (PyData.tuple [(PyData.tuple [(PyData.int 0), (PyData.int 0), (PyData.int 0)]), (PyData.tuple [(PyData.int 0), (PyData.int 0), (PyData.int 0)])]), (PyData.tuple [])])]) ?_ ?_
                                  · refine ev_tupN (n := 5) (ds := [(PyData.int li), (PyData.int ni), (PyData.tuple [(PyData.int ((0) - (1)))]), (PyData.tuple (st.map triD)), (tI ag)]) ?_
                                    refine ea_c (d := (PyData.int li)) (ds := [(PyData.int ni), (PyData.tuple [(PyData.int ((0) - (1)))]), (PyData.tuple (st.map triD)), (tI ag)]) ?_ ?_
                                    · exact ev_v V 2
                                    · refine ea_c (d := (PyData.int ni)) (ds := [(PyData.tuple [(PyData.int ((0) - (1)))]), (PyData.tuple (st.map triD)), (tI ag)]) ?_ ?_
                                      · exact ev_v V 4
                                      · refine ea_c (d := (PyData.tuple [(PyData.int ((0) - (1)))])) (ds := [(PyData.tuple (st.map triD)), (tI ag)]) ?_ ?_
                                        · refine ev_tupN (n := 1) (ds := [(PyData.int ((0) - (1)))]) ?_
                                          refine ea_c (d := (PyData.int ((0) - (1)))) (ds := []) ?_ ?_
                                          · refine ev_sub ?_ ?_
                                            · exact ev_int
                                            · exact ev_int
                                          · exact ea_nil
                                        · refine ea_c (d := (PyData.tuple (st.map triD))) (ds := [(tI ag)]) ?_ ?_
                                          · exact ev_v V 6
                                          · refine ea_c (d := (tI ag)) (ds := []) ?_ ?_
                                            · exact ev_v V 7
                                            · exact ea_nil
                                  · refine ea_c (d := (PyData.tuple [(PyData.int li), (PyData.int ni), (tI fs), (PyData.tuple [(PyData.tuple [(PyData.int ((0) - (1))), (PyData.int 0), (PyData.int 0)])]), (tI ag)])) (ds := [(PyData.tuple [(PyData.int li), (PyData.int ni), (tI fs), (PyData.tuple [(PyData.tuple [(PyData.int 0), (PyData.int 0), (PyData.int ((0) - (1)))])]), (tI ag)]), (PyData.tuple [(PyData.int li), (PyData.int 2), (PyData.tuple (cutL (List.map PyData.int fs) none (some (1)))), (PyData.tuple [(PyData.tuple [(PyData.int 1), (PyData.int 0), (PyData.int 0)]), (PyData.tuple [(PyData.int 0), (PyData.int 0), (PyData.int 0)])]), (PyData.tuple [])]), (PyData.tuple [(PyData.int li), (PyData.int 1), (PyData.tuple [(PyData.int 0)]), (PyData.tuple [(PyData.tuple [(PyData.int 0), (PyData.int 0), (PyData.int 0)]), (PyData.tuple [(PyData.int 0), (PyData.int 0), (PyData.int 0)])]), (PyData.tuple [])])]) ?_ ?_
                                    · refine ev_tupN (n := 5) (ds := [(PyData.int li), (PyData.int ni), (tI fs), (PyData.tuple [(PyData.tuple [(PyData.int ((0) - (1))), (PyData.int 0), (PyData.int 0)])]), (tI ag)]) ?_
                                      refine ea_c (d := (PyData.int li)) (ds := [(PyData.int ni), (tI fs), (PyData.tuple [(PyData.tuple [(PyData.int ((0) - (1))), (PyData.int 0), (PyData.int 0)])]), (tI ag)]) ?_ ?_
                                      · exact ev_v V 2
                                      · refine ea_c (d := (PyData.int ni)) (ds := [(tI fs), (PyData.tuple [(PyData.tuple [(PyData.int ((0) - (1))), (PyData.int 0), (PyData.int 0)])]), (tI ag)]) ?_ ?_
                                        · exact ev_v V 4
                                        · refine ea_c (d := (tI fs)) (ds := [(PyData.tuple [(PyData.tuple [(PyData.int ((0) - (1))), (PyData.int 0), (PyData.int 0)])]), (tI ag)]) ?_ ?_
                                          · exact ev_v V 5
                                          · refine ea_c (d := (PyData.tuple [(PyData.tuple [(PyData.int ((0) - (1))), (PyData.int 0), (PyData.int 0)])])) (ds := [(tI ag)]) ?_ ?_
                                            · refine ev_tupN (n := 1) (ds := [(PyData.tuple [(PyData.int ((0) - (1))), (PyData.int 0), (PyData.int 0)])]) ?_
                                              refine ea_c (d := (PyData.tuple [(PyData.int ((0) - (1))), (PyData.int 0), (PyData.int 0)])) (ds := []) ?_ ?_
                                              · refine ev_tupN (n := 3) (ds := [(PyData.int ((0) - (1))), (PyData.int 0), (PyData.int 0)]) ?_
                                                refine ea_c (d := (PyData.int ((0) - (1)))) (ds := [(PyData.int 0), (PyData.int 0)]) ?_ ?_
                                                · refine ev_sub ?_ ?_
                                                  · exact ev_int
                                                  · exact ev_int
                                                · refine ea_c (d := (PyData.int 0)) (ds := [(PyData.int 0)]) ?_ ?_
                                                  · exact ev_int
                                                  · refine ea_c (d := (PyData.int 0)) (ds := []) ?_ ?_
                                                    · exact ev_int
                                                    · exact ea_nil
                                              · exact ea_nil
                                            · refine ea_c (d := (tI ag)) (ds := []) ?_ ?_
                                              · exact ev_v V 7
                                              · exact ea_nil
                                    · refine ea_c (d := (PyData.tuple [(PyData.int li), (PyData.int ni), (tI fs), (PyData.tuple [(PyData.tuple [(PyData.int 0), (PyData.int 0), (PyData.int ((0) - (1)))])]), (tI ag)])) (ds := [(PyData.tuple [(PyData.int li), (PyData.int 2), (PyData.tuple (cutL (List.map PyData.int fs) none (some (1)))), (PyData.tuple [(PyData.tuple [(PyData.int 1), (PyData.int 0), (PyData.int 0)]), (PyData.tuple [(PyData.int 0), (PyData.int 0), (PyData.int 0)])]), (PyData.tuple [])]), (PyData.tuple [(PyData.int li), (PyData.int 1), (PyData.tuple [(PyData.int 0)]), (PyData.tuple [(PyData.tuple [(PyData.int 0), (PyData.int 0), (PyData.int 0)]), (PyData.tuple [(PyData.int 0), (PyData.int 0), (PyData.int 0)])]), (PyData.tuple [])])]) ?_ ?_
                                      · refine ev_tupN (n := 5) (ds := [(PyData.int li), (PyData.int ni), (tI fs), (PyData.tuple [(PyData.tuple [(PyData.int 0), (PyData.int 0), (PyData.int ((0) - (1)))])]), (tI ag)]) ?_
                                        refine ea_c (d := (PyData.int li)) (ds := [(PyData.int ni), (tI fs), (PyData.tuple [(PyData.tuple [(PyData.int 0), (PyData.int 0), (PyData.int ((0) - (1)))])]), (tI ag)]) ?_ ?_
                                        · exact ev_v V 2
                                        · refine ea_c (d := (PyData.int ni)) (ds := [(tI fs), (PyData.tuple [(PyData.tuple [(PyData.int 0), (PyData.int 0), (PyData.int ((0) - (1)))])]), (tI ag)]) ?_ ?_
                                          · exact ev_v V 4
                                          · refine ea_c (d := (tI fs)) (ds := [(PyData.tuple [(PyData.tuple [(PyData.int 0), (PyData.int 0), (PyData.int ((0) - (1)))])]), (tI ag)]) ?_ ?_
                                            · exact ev_v V 5
                                            · refine ea_c (d := (PyData.tuple [(PyData.tuple [(PyData.int 0), (PyData.int 0), (PyData.int ((0) - (1)))])])) (ds := [(tI ag)]) ?_ ?_
                                              · refine ev_tupN (n := 1) (ds := [(PyData.tuple [(PyData.int 0), (PyData.int 0), (PyData.int ((0) - (1)))])]) ?_
                                                refine ea_c (d := (PyData.tuple [(PyData.int 0), (PyData.int 0), (PyData.int ((0) - (1)))])) (ds := []) ?_ ?_
                                                · refine ev_tupN (n := 3) (ds := [(PyData.int 0), (PyData.int 0), (PyData.int ((0) - (1)))]) ?_
                                                  refine ea_c (d := (PyData.int 0)) (ds := [(PyData.int 0), (PyData.int ((0) - (1)))]) ?_ ?_
                                                  · exact ev_int
                                                  · refine ea_c (d := (PyData.int 0)) (ds := [(PyData.int ((0) - (1)))]) ?_ ?_
                                                    · exact ev_int
                                                    · refine ea_c (d := (PyData.int ((0) - (1)))) (ds := []) ?_ ?_
                                                      · refine ev_sub ?_ ?_
                                                        · exact ev_int
                                                        · exact ev_int
                                                      · exact ea_nil
                                                · exact ea_nil
                                              · refine ea_c (d := (tI ag)) (ds := []) ?_ ?_
                                                · exact ev_v V 7
                                                · exact ea_nil
                                      · refine ea_c (d := (PyData.tuple [(PyData.int li), (PyData.int 2), (PyData.tuple (cutL (List.map PyData.int fs) none (some (1)))), (PyData.tuple [(PyData.tuple [(PyData.int 1), (PyData.int 0), (PyData.int 0)]), (PyData.tuple [(PyData.int 0), (PyData.int 0), (PyData.int 0)])]), (PyData.tuple [])])) (ds := [(PyData.tuple [(PyData.int li), (PyData.int 1), (PyData.tuple [(PyData.int 0)]), (PyData.tuple [(PyData.tuple [(PyData.int 0), (PyData.int 0), (PyData.int 0)]), (PyData.tuple [(PyData.int 0), (PyData.int 0), (PyData.int 0)])]), (PyData.tuple [])])]) ?_ ?_
                                        · refine ev_tupN (n := 5) (ds := [(PyData.int li), (PyData.int 2), (PyData.tuple (cutL (List.map PyData.int fs) none (some (1)))), (PyData.tuple [(PyData.tuple [(PyData.int 1), (PyData.int 0), (PyData.int 0)]), (PyData.tuple [(PyData.int 0), (PyData.int 0), (PyData.int 0)])]), (PyData.tuple [])]) ?_
                                          refine ea_c (d := (PyData.int li)) (ds := [(PyData.int 2), (PyData.tuple (cutL (List.map PyData.int fs) none (some (1)))), (PyData.tuple [(PyData.tuple [(PyData.int 1), (PyData.int 0), (PyData.int 0)]), (PyData.tuple [(PyData.int 0), (PyData.int 0), (PyData.int 0)])]), (PyData.tuple [])]) ?_ ?_
                                          · exact ev_v V 2
                                          · refine ea_c (d := (PyData.int 2)) (ds := [(PyData.tuple (cutL (List.map PyData.int fs) none (some (1)))), (PyData.tuple [(PyData.tuple [(PyData.int 1), (PyData.int 0), (PyData.int 0)]), (PyData.tuple [(PyData.int 0), (PyData.int 0), (PyData.int 0)])]), (PyData.tuple [])]) ?_ ?_
                                            · exact ev_int
                                            · refine ea_c (d := (PyData.tuple (cutL (List.map PyData.int fs) none (some (1))))) (ds := [(PyData.tuple [(PyData.tuple [(PyData.int 1), (PyData.int 0), (PyData.int 0)]), (PyData.tuple [(PyData.int 0), (PyData.int 0), (PyData.int 0)])]), (PyData.tuple [])]) ?_ ?_
                                              · refine ev_sliceT (ds := (List.map PyData.int fs)) (l := none) (u := (some (1))) ?_ ?_ ?_
                                                · exact ev_v V 5
                                                · exact eo_none
                                                · refine eo_some ?_
                                                  exact ev_int
                                              · refine ea_c (d := (PyData.tuple [(PyData.tuple [(PyData.int 1), (PyData.int 0), (PyData.int 0)]), (PyData.tuple [(PyData.int 0), (PyData.int 0), (PyData.int 0)])])) (ds := [(PyData.tuple [])]) ?_ ?_
                                                · refine ev_tupN (n := 2) (ds := [(PyData.tuple [(PyData.int 1), (PyData.int 0), (PyData.int 0)]), (PyData.tuple [(PyData.int 0), (PyData.int 0), (PyData.int 0)])]) ?_
                                                  refine ea_c (d := (PyData.tuple [(PyData.int 1), (PyData.int 0), (PyData.int 0)])) (ds := [(PyData.tuple [(PyData.int 0), (PyData.int 0), (PyData.int 0)])]) ?_ ?_
                                                  · refine ev_tupN (n := 3) (ds := [(PyData.int 1), (PyData.int 0), (PyData.int 0)]) ?_
                                                    refine ea_c (d := (PyData.int 1)) (ds := [(PyData.int 0), (PyData.int 0)]) ?_ ?_
                                                    · exact ev_int
                                                    · refine ea_c (d := (PyData.int 0)) (ds := [(PyData.int 0)]) ?_ ?_
                                                      · exact ev_int
                                                      · refine ea_c (d := (PyData.int 0)) (ds := []) ?_ ?_
                                                        · exact ev_int
                                                        · exact ea_nil
                                                  · refine ea_c (d := (PyData.tuple [(PyData.int 0), (PyData.int 0), (PyData.int 0)])) (ds := []) ?_ ?_
                                                    · refine ev_tupN (n := 3) (ds := [(PyData.int 0), (PyData.int 0), (PyData.int 0)]) ?_
                                                      refine ea_c (d := (PyData.int 0)) (ds := [(PyData.int 0), (PyData.int 0)]) ?_ ?_
                                                      · exact ev_int
                                                      · refine ea_c (d := (PyData.int 0)) (ds := [(PyData.int 0)]) ?_ ?_
                                                        · exact ev_int
                                                        · refine ea_c (d := (PyData.int 0)) (ds := []) ?_ ?_
                                                          · exact ev_int
                                                          · exact ea_nil
                                                    · exact ea_nil
                                                · refine ea_c (d := (PyData.tuple [])) (ds := []) ?_ ?_
                                                  · refine ev_tupN (n := 0) (ds := []) ?_
                                                    exact ea_nil
                                                  · exact ea_nil
                                        · refine ea_c (d := (PyData.tuple [(PyData.int li), (PyData.int 1), (PyData.tuple [(PyData.int 0)]), (PyData.tuple [(PyData.tuple [(PyData.int 0), (PyData.int 0), (PyData.int 0)]), (PyData.tuple [(PyData.int 0), (PyData.int 0), (PyData.int 0)])]), (PyData.tuple [])])) (ds := []) ?_ ?_
                                          · refine ev_tupN (n := 5) (ds := [(PyData.int li), (PyData.int 1), (PyData.tuple [(PyData.int 0)]), (PyData.tuple [(PyData.tuple [(PyData.int 0), (PyData.int 0), (PyData.int 0)]), (PyData.tuple [(PyData.int 0), (PyData.int 0), (PyData.int 0)])]), (PyData.tuple [])]) ?_
                                            refine ea_c (d := (PyData.int li)) (ds := [(PyData.int 1), (PyData.tuple [(PyData.int 0)]), (PyData.tuple [(PyData.tuple [(PyData.int 0), (PyData.int 0), (PyData.int 0)]), (PyData.tuple [(PyData.int 0), (PyData.int 0), (PyData.int 0)])]), (PyData.tuple [])]) ?_ ?_
                                            · exact ev_v V 2
                                            · refine ea_c (d := (PyData.int 1)) (ds := [(PyData.tuple [(PyData.int 0)]), (PyData.tuple [(PyData.tuple [(PyData.int 0), (PyData.int 0), (PyData.int 0)]), (PyData.tuple [(PyData.int 0), (PyData.int 0), (PyData.int 0)])]), (PyData.tuple [])]) ?_ ?_
                                              · exact ev_int
                                              · refine ea_c (d := (PyData.tuple [(PyData.int 0)])) (ds := [(PyData.tuple [(PyData.tuple [(PyData.int 0), (PyData.int 0), (PyData.int 0)]), (PyData.tuple [(PyData.int 0), (PyData.int 0), (PyData.int 0)])]), (PyData.tuple [])]) ?_ ?_
                                                · refine ev_tupN (n := 1) (ds := [(PyData.int 0)]) ?_
                                                  refine ea_c (d := (PyData.int 0)) (ds := []) ?_ ?_
                                                  · exact ev_int
                                                  · exact ea_nil
                                                · refine ea_c (d := (PyData.tuple [(PyData.tuple [(PyData.int 0), (PyData.int 0), (PyData.int 0)]), (PyData.tuple [(PyData.int 0), (PyData.int 0), (PyData.int 0)])])) (ds := [(PyData.tuple [])]) ?_ ?_
                                                  · refine ev_tupN (n := 2) (ds := [(PyData.tuple [(PyData.int 0), (PyData.int 0), (PyData.int 0)]), (PyData.tuple [(PyData.int 0), (PyData.int 0), (PyData.int 0)])]) ?_
                                                    refine ea_c (d := (PyData.tuple [(PyData.int 0), (PyData.int 0), (PyData.int 0)])) (ds := [(PyData.tuple [(PyData.int 0), (PyData.int 0), (PyData.int 0)])]) ?_ ?_
                                                    · refine ev_tupN (n := 3) (ds := [(PyData.int 0), (PyData.int 0), (PyData.int 0)]) ?_
                                                      refine ea_c (d := (PyData.int 0)) (ds := [(PyData.int 0), (PyData.int 0)]) ?_ ?_
                                                      · exact ev_int
                                                      · refine ea_c (d := (PyData.int 0)) (ds := [(PyData.int 0)]) ?_ ?_
                                                        · exact ev_int
                                                        · refine ea_c (d := (PyData.int 0)) (ds := []) ?_ ?_
                                                          · exact ev_int
                                                          · exact ea_nil
                                                    · refine ea_c (d := (PyData.tuple [(PyData.int 0), (PyData.int 0), (PyData.int 0)])) (ds := []) ?_ ?_
                                                      · refine ev_tupN (n := 3) (ds := [(PyData.int 0), (PyData.int 0), (PyData.int 0)]) ?_
                                                        refine ea_c (d := (PyData.int 0)) (ds := [(PyData.int 0), (PyData.int 0)]) ?_ ?_
                                                        · exact ev_int
                                                        · refine ea_c (d := (PyData.int 0)) (ds := [(PyData.int 0)]) ?_ ?_
                                                          · exact ev_int
                                                          · refine ea_c (d := (PyData.int 0)) (ds := []) ?_ ?_
                                                            · exact ev_int
                                                            · exact ea_nil
                                                      · exact ea_nil
                                                  · refine ea_c (d := (PyData.tuple [])) (ds := []) ?_ ?_
                                                    · refine ev_tupN (n := 0) (ds := []) ?_
                                                      exact ea_nil
                                                    · exact ea_nil
                                          · exact ea_nil
  · simp only [wrongs, List.map_cons, List.map_nil, acD, tI, List.map_append, List.map_take, triD, cut_one]
  rw [show d = _ from p]
  clear p d
  refine sts_ret (ev_and (ev_all (bs := (wrongs li ni fs ag st).map fun _ => true) rfl T.m_all (en_lc rfl nd (lcok 9 (blkOk_by (N := lawN) (sc := defScope sLaw) (by decide +kernel))) (lc_readm (out := ((wrongs li ni fs ag st).map fun _ => true).map PyData.bool) (it_l (ds := (wrongs li ni fs ag st).map acD) (ev_v V 8)) (by show 20 ≤ 1000000; decide) rfl fun s0 H0 L cl fp i d z hd hz => ?_)).ev.bo)
    fun _ => ev_one (ev_isB (t := true) (u := true) (ev_callc GI (hr.mono (by decide)) T.g_isacc T.F_isacc.kp T.b_isacc (T := isL [(PyData.tuple [(PyData.int li), (PyData.int ni), (PyData.tuple []), (PyData.tuple []), (PyData.tuple [])])]) ?L2 fun ds p => ⟨⟨li, ni, [], [], []⟩, p, ⟨Nat.zero_le _, Nat.zero_le _, Nat.zero_le _⟩, fun d q => by rw [show d = _ from q, ge]⟩) ev_bl)) fun d p => ?_
  case L2 =>
    refine ea_c ?_ ?_
    · refine ev_tupN (n := 5) (ds := [(PyData.int li), (PyData.int ni), (PyData.tuple []), (PyData.tuple []), (PyData.tuple [])]) ?_
      refine ea_c (d := (PyData.int li)) (ds := [(PyData.int ni), (PyData.tuple []), (PyData.tuple []), (PyData.tuple [])]) ?_ ?_
      · exact ev_v V 2
      · refine ea_c (d := (PyData.int ni)) (ds := [(PyData.tuple []), (PyData.tuple []), (PyData.tuple [])]) ?_ ?_
        · exact ev_v V 4
        · refine ea_c (d := (PyData.tuple [])) (ds := [(PyData.tuple []), (PyData.tuple [])]) ?_ ?_
          · refine ev_tupN (n := 0) (ds := []) ?_
            exact ea_nil
          · refine ea_c (d := (PyData.tuple [])) (ds := [(PyData.tuple [])]) ?_ ?_
            · refine ev_tupN (n := 0) (ds := []) ?_
              exact ea_nil
            · refine ea_c (d := (PyData.tuple [])) (ds := []) ?_ ?_
              · refine ev_tupN (n := 0) (ds := []) ?_
                exact ea_nil
              · exact ea_nil
    · exact ea_nil
  · rw [List.getElem?_map] at hd
    obtain ⟨y, hy, rfl⟩ := Option.map_eq_some_iff.mp hd
    have ym : y ∈ wrongs li ni fs ag st := List.mem_of_getElem? hy
    have ez : z = .bool true := by
      rw [List.getElem?_map, List.getElem?_map, hy] at hz
      exact (Option.some.inj hz).symm
    subst ez
    exact EV.eq (ev_isB (t := false) (u := false) (ev_callc GI (hr.mono (by decide)) T.g_isacc T.F_isacc.kp T.b_isacc (ea_c (d := acD y) (ev_var 9) ea_nil) fun ds p => ⟨y, p, wrongs_len (by omega) (by omega) (by omega) y ym, fun d q => by rw [show d = _ from q, wrongs_bad y ym]⟩) ev_bl) rfl
  · rw [show d = _ from p, List.all_map]
    rfl
end
end K09
namespace K09
open PySem PySem.Spec PyProof.Rows L2 DL AC
/-! ### what the top leaves -/
theorem all_mk {l : PySem.W.OpenLaw} {w : World} {K : PySem.W.Frag} {h : Heap} {mg : Str → Option Value} {fa f1 f2 f3 f4 f5 f6 f7 : Addr} (X : K.In h) (G : h.Ns mainGlobals mg) (hfa : mg "law" = some (.ref fa))
    {od1 an1 od2 an2 od3 an3 od4 an4 od5 an5 od6 an6 od7 an7 : Option Addr} {sl1 sl2 sl3 sl4 sl5 sl6 sl7 : Array (Option Value)} {oc1 kV1 dc1 pm1 cd1 ct1 oc2 kV2 dc2 pm2 cd2 ct2 oc3 kV3 dc3 pm3 cd3 ct3 oc4 kV4 dc4 pm4 cd4 ct4 oc5 kV5 dc5 pm5 cd5 ct5 oc6 kV6 dc6 pm6 cd6 ct6 oc7 kV7 dc7 pm7 cd7 ct7 : Value}
    (a1 : PySem.W.nsIn K mainGlobals "are_below" = some (some (.ref f1))) (l1 : K.lookup f1 = some ⟨oc1, od1, .func (PySem.W.fnOf "are_below" "are_below" (defArgs sBelow) (defBody sBelow) (defScope sBelow) .none kV1 dc1 pm1 an1 cd1 ct1), sl1⟩) (c1 : PySem.W.codeIn K cd1 "are_below" = true) (k1 : PySem.W.keepIn K (.ref f1) = true)
    (a2 : PySem.W.nsIn K mainGlobals "is_ascending" = some (some (.ref f2))) (l2 : K.lookup f2 = some ⟨oc2, od2, .func (PySem.W.fnOf "is_ascending" "is_ascending" (defArgs sAsc) (defBody sAsc) (defScope sAsc) .none kV2 dc2 pm2 an2 cd2 ct2), sl2⟩) (c2 : PySem.W.codeIn K cd2 "is_ascending" = true) (k2 : PySem.W.keepIn K (.ref f2) = true)
    (a3 : PySem.W.nsIn K mainGlobals "is_acceptor" = some (some (.ref f3))) (l3 : K.lookup f3 = some ⟨oc3, od3, .func (PySem.W.fnOf "is_acceptor" "is_acceptor" (defArgs sIsAcc) (defBody sIsAcc) (defScope sIsAcc) .none kV3 dc3 pm3 an3 cd3 ct3), sl3⟩) (c3 : PySem.W.codeIn K cd3 "is_acceptor" = true) (k3 : PySem.W.keepIn K (.ref f3) = true)
    (a4 : PySem.W.nsIn K mainGlobals "_are_states" = some (some (.ref f4))) (l4 : K.lookup f4 = some ⟨oc4, od4, .func (PySem.W.fnOf "_are_states" "_are_states" (defArgs sStates) (defBody sStates) (defScope sStates) .none kV4 dc4 pm4 an4 cd4 ct4), sl4⟩) (c4 : PySem.W.codeIn K cd4 "_are_states" = true) (k4 : PySem.W.keepIn K (.ref f4) = true)
    (a5 : PySem.W.nsIn K mainGlobals "_law_draw" = some (some (.ref f5))) (l5 : K.lookup f5 = some ⟨oc5, od5, .func (PySem.W.fnOf "_law_draw" "_law_draw" (defArgs sDraw) (defBody sDraw) (defScope sDraw) .none kV5 dc5 pm5 an5 cd5 ct5), sl5⟩) (c5 : PySem.W.codeIn K cd5 "_law_draw" = true) (k5 : PySem.W.keepIn K (.ref f5) = true)
    (a6 : PySem.W.nsIn K mainGlobals "_law_acceptor" = some (some (.ref f6))) (l6 : K.lookup f6 = some ⟨oc6, od6, .func (PySem.W.fnOf "_law_acceptor" "_law_acceptor" (defArgs sAccept) (defBody sAccept) (defScope sAccept) .none kV6 dc6 pm6 an6 cd6 ct6), sl6⟩) (c6 : PySem.W.codeIn K cd6 "_law_acceptor" = true) (k6 : PySem.W.keepIn K (.ref f6) = true)
    (a7 : PySem.W.nsIn K mainGlobals "law" = some (some (.ref f7))) (l7 : K.lookup f7 = some ⟨oc7, od7, .func (PySem.W.fnOf "law" "law" (defArgs sLaw) (defBody sLaw) (defScope sLaw) .none kV7 dc7 pm7 an7 cd7 ct7), sl7⟩) (c7 : PySem.W.codeIn K cd7 "law" = true) (k7 : PySem.W.keepIn K (.ref f7) = true)
    (z1 : PySem.W.nsIn K mainGlobals "len" = some none)
    (z2 : PySem.W.nsIn K mainGlobals "int" = some none)
    (z3 : PySem.W.nsIn K mainGlobals "range" = some none)
    (z4 : PySem.W.nsIn K mainGlobals "tuple" = some none)
    (z5 : PySem.W.nsIn K mainGlobals "list" = some none)
    (z6 : PySem.W.nsIn K mainGlobals "all" = some none)
    (z7 : PySem.W.nsIn K mainGlobals "zip" = some none)
    {tk1 : Tok} (x1 : PySem.W.nsIn K mainGlobals "MOST_LETTERS" = some (some (.int 64 tk1)))
    {tk2 : Tok} (x2 : PySem.W.nsIn K mainGlobals "MOST_STATES" = some (some (.int 12 tk2)))
    : ∃ fd : FuncData, (∀ (s : Shared) (v : Value), BindsTo s fd ⟨[v], []⟩ [("script", v)]) ∧ ∀ base : Heap, K.In base → base.Ns mainGlobals mg → FnOk l.prog w K mg base CX0 4 fa fd ["script"] (spLaw K) := by
  have e := hfa.symm.trans (PySem.W.mg_of X G a7)
  cases e
  have F1 := fun_mk (st := sBelow) l1 c1 k1
  have F2 := fun_mk (st := sAsc) l2 c2 k2
  have F3 := fun_mk (st := sIsAcc) l3 c3 k3
  have F4 := fun_mk (st := sStates) l4 c4 k4
  have F5 := fun_mk (st := sDraw) l5 c5 k5
  have F6 := fun_mk (st := sAccept) l6 c6 k6
  have F7 := fun_mk (st := sLaw) l7 c7 k7
  have b1 := F1.binds (ps := ["row", "many"]) fun _ _ _ _ _ _ us hl => match us, hl with | [_, _], _ => rfl
  have b2 := F2.binds (ps := ["row"]) fun _ _ _ _ _ _ us hl => match us, hl with | [_], _ => rfl
  have b3 := F3.binds (ps := ["acceptor"]) fun _ _ _ _ _ _ us hl => match us, hl with | [_], _ => rfl
  have b4 := F4.binds (ps := ["row", "states"]) fun _ _ _ _ _ _ us hl => match us, hl with | [_, _], _ => rfl
  have b5 := F5.binds (ps := ["state", "limit"]) fun _ _ _ _ _ _ us hl => match us, hl with | [_, _], _ => rfl
  have b6 := F6.binds (ps := ["state", "letters", "most"]) fun _ _ _ _ _ _ us hl => match us, hl with | [_, _, _], _ => rfl
  have T : Tx K mg _ _ _ _ _ _ _ _ _ _ _ _ := ⟨F1, F2, F3, F4, F5, F6, b1, b2, b3, b4, b5, b6, PySem.W.mg_of X G a1, PySem.W.mg_of X G a2, PySem.W.mg_of X G a3, PySem.W.mg_of X G a4, PySem.W.mg_of X G a5, PySem.W.mg_of X G a6, PySem.W.mg_none_of X G z1, PySem.W.mg_none_of X G z2, PySem.W.mg_none_of X G z3, PySem.W.mg_none_of X G z4, PySem.W.mg_none_of X G z5, PySem.W.mg_none_of X G z6, PySem.W.mg_none_of X G z7, ⟨_, PySem.W.mg_of X G x1⟩, ⟨_, PySem.W.mg_of X G x2⟩⟩
  exact ⟨PySem.W.fnOf "law" "law" (defArgs sLaw) (defBody sLaw) (defScope sLaw) .none kV7 dc7 pm7 an7 cd7 ct7, fun s v => .of_eq rfl, fun base _ _ => ok_law F7 T⟩
end K09
open PySem PySem.W PyProof.Rows
set_option maxHeartbeats 0 in
theorem PySem.Challenge.cw_unendtold_k09_acceptors_holds : PySem.Challenge.rw_unendtold_k09_acceptors.Holds := by
  w_on; o_law; k_head; (case hw => w_witness2)
  k_fill
  refine L2.walk_of (l := PySem.Challenge.rw_unendtold_k09_acceptors) (n := 63) (k := 4) (x := "script") (CX := fun _ => L2.CX0) (sp := fun w => DL.spLaw _) rfl (by decide) rfl ⟨rfl, by decide, by decide⟩ (fun w h Y => PySem.W.kIn_of Y) ?F (fun _ _ a ns hl _ hS => ⟨a, ns, rfl, hS, hl, fun _ => rfl⟩) (fun _ _ _ _ _ h => h)
  case F =>
    intro w mg fa h KX G hmg
    refine' K09.all_mk KX G hmg ?a1 ?l1 ?c1 ?k1 ?a2 ?l2 ?c2 ?k2 ?a3 ?l3 ?c3 ?k3 ?a4 ?l4 ?c4 ?k4 ?a5 ?l5 ?c5 ?k5 ?a6 ?l6 ?c6 ?k6 ?a7 ?l7 ?c7 ?k7 ?z1 ?z2 ?z3 ?z4 ?z5 ?z6 ?z7 ?x1 ?x2
    (case a1 => k_is); (case l1 => k_is); (case c1 => k_is); (case k1 => k_is); (case a2 => k_is); (case l2 => k_is); (case c2 => k_is); (case k2 => k_is); (case a3 => k_is); (case l3 => k_is); (case c3 => k_is); (case k3 => k_is); (case a4 => k_is); (case l4 => k_is); (case c4 => k_is); (case k4 => k_is); (case a5 => k_is); (case l5 => k_is); (case c5 => k_is); (case k5 => k_is); (case a6 => k_is); (case l6 => k_is); (case c6 => k_is); (case k6 => k_is); (case a7 => k_is); (case l7 => k_is); (case c7 => k_is); (case k7 => k_is); (case z1 => k_is); (case z2 => k_is); (case z3 => k_is); (case z4 => k_is); (case z5 => k_is); (case z6 => k_is); (case z7 => k_is); (case x1 => k_is); (case x2 => k_is)

