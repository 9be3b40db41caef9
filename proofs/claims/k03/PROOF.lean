import PyProof.Rows.All
import Wide.All
import OpenK.AllK
import Wide.FinOn
import HandS.ForMost
import HandS.Wide
import HandS.Style
import HandS.Conv
import HandS.Gcd
import KE.KMathG
import KE.KMathGC
import HandS.Deep
import PyProof.Rows.InDataRows
import HandS.IsInst
import PySem.Challenge.RW_unendtold_k03_whole_words_written_otherw
set_option Elab.async false
set_option linter.all false
set_option maxRecDepth 100000
/-! A logic of data over the hand layer: expressions and statements speak of trees of data, the heap stays behind. -/
namespace DL
open PySem PySem.Spec PyProof.Rows L2

/-! ### readings as such -/
section
variable {X : Cx}
def cE (X : Cx) (e : Expr) : TE := fun σ H Q => ∀ (pins : List (Addr × Obj)) (s : Shared), Inv X pins σ H s → wpAny (model X.prog X.w) X.A (eval e X.env) (EP X pins σ Q) X.xe s
def cT (X : Cx) (e : Expr) : TT := fun σ H Q => ∀ (pins : List (Addr × Obj)) (s : Shared), Inv X pins σ H s → wpAny (model X.prog X.w) X.A (isTrue e X.env (eval e X.env)) (TP X pins σ Q) X.xe s
def cA (X : Cx) (es : List Expr) : TA := fun σ H Q => ∀ (pos : Pos) (pins : List (Addr × Obj)) (s : Shared), Inv X pins σ H s → wpAny (model X.prog X.w) X.A (spliced (backTo pos (starEach es X.env))) (AP X pins σ Q) X.xe s
def cS (X : Cx) (st : Stmt) : TS := fun D σ H => ∀ (pins : List (Addr × Obj)) (s : Shared), Inv X pins σ H s → wpAny (model X.prog X.w) X.A (exec st X.env) (SP X pins D) X.xe s
def cSs (X : Cx) (st : List Stmt) : TS := fun D σ H => ∀ (pins : List (Addr × Obj)) (s : Shared), Inv X pins σ H s → wpAny (model X.prog X.w) X.A (execs st X.env) (SP X pins D) X.xe s
def cG (X : Cx) (tg : Expr) : TG := fun v σ H Q => ∀ (pins : List (Addr × Obj)) (s : Shared) (u : Value), Inv X pins σ H s → RelV v u →
  wpAny (model X.prog X.w) X.A (assign tg X.env u) (fun _ s' => ∃ σ' H', Inv X pins σ' H' s' ∧ Q σ' H') X.xe s
def cI (X : Cx) (tg iter : Expr) : TI := fun σ H R => ∀ (pins : List (Addr × Obj)) (s : Shared), Inv X pins σ H s →
  wpAny (model X.prog X.w) X.A (eval iter X.env) (fun v s1 => wpAny (model X.prog X.w) X.A (pyIter v) (PIE X pins σ tg R) X.xe s1) X.xe s
theorem pe_c (e : Expr) : PE X e (cE X e) := ⟨fun pins s _ _ _ I h => h pins s I⟩
theorem pt_c (e : Expr) : PT X e (cT X e) := ⟨fun pins s _ _ _ I h => h pins s I⟩
theorem pa_c (es : List Expr) : PA X es (cA X es) := ⟨fun pos pins s _ _ _ I h => h pos pins s I⟩
theorem ps_c (st : Stmt) : PS X st (cS X st) := ⟨fun pins s _ _ _ I h => h pins s I⟩
theorem pss_c (st : List Stmt) : PSs X st (cSs X st) := ⟨fun pins s _ _ _ I h => h pins s I⟩
theorem pg_c (tg : Expr) : PG X tg (cG X tg) := ⟨fun pins s _ _ _ u _ I r h => h pins s u I r⟩
theorem pi_c (tg iter : Expr) : PI X tg iter (cI X tg iter) := ⟨fun pins s _ _ _ I h => h pins s I⟩
theorem ofE {e : Expr} {t : TE} {σ : L2.St} {H : Hp} {Q : VK} (p : PE X e t) (h : t σ H Q) : cE X e σ H Q := fun pins s I => p.run pins s σ H Q I h
theorem ofT {e : Expr} {t : TT} {σ : L2.St} {H : Hp} {Q : Bool → Hp → Prop} (p : PT X e t) (h : t σ H Q) : cT X e σ H Q := fun pins s I => p.run pins s σ H Q I h
theorem ofA {es : List Expr} {t : TA} {σ : L2.St} {H : Hp} {Q : List V → Hp → Prop} (p : PA X es t) (h : t σ H Q) : cA X es σ H Q := fun pos pins s I => p.run pos pins s σ H Q I h
theorem ofS {st : Stmt} {t : TS} {σ : L2.St} {H : Hp} {D : Ends} (p : PS X st t) (h : t D σ H) : cS X st D σ H := fun pins s I => p.run pins s σ H D I h
theorem ofSs {st : List Stmt} {t : TS} {σ : L2.St} {H : Hp} {D : Ends} (p : PSs X st t) (h : t D σ H) : cSs X st D σ H := fun pins s I => p.run pins s σ H D I h
theorem ofG {tg : Expr} {t : TG} {v : V} {σ : L2.St} {H : Hp} {Q : L2.St → Hp → Prop} (p : PG X tg t) (h : t v σ H Q) : cG X tg v σ H Q := fun pins s u I r => p.run pins s σ H v u Q I r h
theorem ofI {tg iter : Expr} {t : TI} {σ : L2.St} {H : Hp} {R : It → Hp → Prop} (p : PI X tg iter t) (h : t σ H R) : cI X tg iter σ H R := fun pins s I => p.run pins s σ H R I h
end

/-! ### data and what stands for it -/
def keyD : Key → PyData
  | .inl i => .int i
  | .inr x => .str x
/-- dicts: a first pair tells the kind of their keys -/
def dTD (kvs : List (List Key × PyData)) : PyData := .dict ((.none, .none) :: kvs.map fun p => (.tuple (p.1.map keyD), p.2))
def dKD (kvs : List (Key × PyData)) : PyData := .dict ((.none, .bool true) :: kvs.map fun p => (keyD p.1, p.2))
theorem keyD_inj : ∀ {a b : Key}, keyD a = keyD b → a = b
  | .inl _, .inl _, h => by injection h with h; rw [h]
  | .inr _, .inr _, h => by injection h with h; rw [h]
  | .inl _, .inr _, h => by cases h
  | .inr _, .inl _, h => by cases h
theorem keys_inj : ∀ {a b : List Key}, a.map keyD = b.map keyD → a = b
  | [], [], _ => rfl
  | [], _ :: _, h => by cases h
  | _ :: _, [], h => by cases h
  | x :: a, y :: b, h => by
    injection h with h1 h2
    rw [keyD_inj h1, keys_inj h2]
theorem dTD_inj {a b : List (List Key × PyData)} (h : dTD a = dTD b) : a = b := by
  injection h with h
  injection h with _ h
  induction a generalizing b with
  | nil => cases b with
    | nil => rfl
    | cons _ _ => cases h
  | cons x a ih => cases b with
    | nil => cases h
    | cons y b =>
      injection h with h1 h2
      injection h1 with h3 h4
      injection h3 with h3
      rw [ih h2, show x = y from Prod.ext (keys_inj h3) h4]
theorem dKD_inj {a b : List (Key × PyData)} (h : dKD a = dKD b) : a = b := by
  injection h with h
  injection h with _ h
  induction a generalizing b with
  | nil => cases b with
    | nil => rfl
    | cons _ _ => cases h
  | cons x a ih => cases b with
    | nil => cases h
    | cons y b =>
      injection h with h1 h2
      injection h1 with h3 h4
      rw [ih h2, show x = y from Prod.ext (keyD_inj h3) h4]
mutual
inductive Rep (K : PySem.W.Frag) (B : Hp) : V → PyData → Prop
  | non : Rep K B .non .none
  | bl (b : Bool) : Rep K B (.bl b) (.bool b)
  | int (i : Int) : Rep K B (.int i) (.int i)
  | str (x : Str) : Rep K B (.str x) (.str x)
  | obj {a : Addr} {o : HO} {d : PyData} : B a = some o → ObjR K B o d → Rep K B (.ref a) d
inductive ObjR (K : PySem.W.Frag) (B : Hp) : HO → PyData → Prop
  | lst {vs : List V} {ds : List PyData} : Reps K B vs ds → ObjR K B (.lst vs) (.list ds)
  | tup {vs : List V} {ds : List PyData} : Reps K B vs ds → ObjR K B (.tup vs) (.tuple ds)
  | dT {kvs : List (List Key × V)} {ps : List (List Key × PyData)} : RepT K B kvs ps → ObjR K B (.dT kvs) (dTD ps)
  | dK {kvs : List (Key × V)} {ps : List (Key × PyData)} : RepK K B kvs ps → ObjR K B (.dK kvs) (dKD ps)
inductive Reps (K : PySem.W.Frag) (B : Hp) : List V → List PyData → Prop
  | nil : Reps K B [] []
  | cons {v : V} {vs : List V} {d : PyData} {ds : List PyData} : Rep K B v d → Reps K B vs ds → Reps K B (v :: vs) (d :: ds)
inductive RepT (K : PySem.W.Frag) (B : Hp) : List (List Key × V) → List (List Key × PyData) → Prop
  | nil : RepT K B [] []
  | cons {k : List Key} {v : V} {kvs : List (List Key × V)} {d : PyData} {ps : List (List Key × PyData)} : Rep K B v d → RepT K B kvs ps → RepT K B ((k, v) :: kvs) ((k, d) :: ps)
inductive RepK (K : PySem.W.Frag) (B : Hp) : List (Key × V) → List (Key × PyData) → Prop
  | nil : RepK K B [] []
  | cons {k : Key} {v : V} {kvs : List (Key × V)} {d : PyData} {ps : List (Key × PyData)} : Rep K B v d → RepK K B kvs ps → RepK K B ((k, v) :: kvs) ((k, d) :: ps)
end
theorem sqT_mono {K : PySem.W.Frag} {B B' : Hp} (e : Same B B') {a : Addr} {xs : List V} (h : SqT K B a xs) : SqT K B' a xs := by
  rcases h with (h | ⟨o, h⟩) | h
  · exact .inl (.inl (e _ _ h))
  · exact .inl (.inr ⟨o, e _ _ h⟩)
  · exact .inr h
section
variable {K : PySem.W.Frag} {B B' : Hp}
mutual
theorem Rep.mono (e : Same B B') : ∀ {v : V} {d : PyData}, Rep K B v d → Rep K B' v d
  | _, _, .non => .non
  | _, _, .bl b => .bl b
  | _, _, .int i => .int i
  | _, _, .str x => .str x
  | _, _, .obj h r => .obj (e _ _ h) (ObjR.mono e r)
theorem ObjR.mono (e : Same B B') : ∀ {o : HO} {d : PyData}, ObjR K B o d → ObjR K B' o d
  | _, _, .lst r => .lst (Reps.mono e r)
  | _, _, .tup r => .tup (Reps.mono e r)
  | _, _, .dT r => .dT (RepT.mono e r)
  | _, _, .dK r => .dK (RepK.mono e r)
theorem Reps.mono (e : Same B B') : ∀ {vs : List V} {ds : List PyData}, Reps K B vs ds → Reps K B' vs ds
  | _, _, .nil => .nil
  | _, _, .cons h r => .cons (Rep.mono e h) (Reps.mono e r)
theorem RepT.mono (e : Same B B') : ∀ {kvs : List (List Key × V)} {ps : List (List Key × PyData)}, RepT K B kvs ps → RepT K B' kvs ps
  | _, _, .nil => .nil
  | _, _, .cons h r => .cons (Rep.mono e h) (RepT.mono e r)
theorem RepK.mono (e : Same B B') : ∀ {kvs : List (Key × V)} {ps : List (Key × PyData)}, RepK K B kvs ps → RepK K B' kvs ps
  | _, _, .nil => .nil
  | _, _, .cons h r => .cons (Rep.mono e h) (RepK.mono e r)
end
theorem Reps.length : ∀ {vs : List V} {ds : List PyData}, Reps K B vs ds → vs.length = ds.length
  | _, _, .nil => rfl
  | _, _, .cons _ r => by rw [List.length_cons, List.length_cons, Reps.length r]
theorem Reps.get : ∀ {vs : List V} {ds : List PyData} {i : Nat} {d : PyData}, Reps K B vs ds → ds[i]? = some d → ∃ v, vs[i]? = some v ∧ Rep K B v d
  | _, _, _, _, .nil, h => by simp at h
  | _, _, 0, _, .cons r _, h => by simp at h; subst h; exact ⟨_, rfl, r⟩
  | _, _, i + 1, _, .cons _ t, h => by
    obtain ⟨v, a, b⟩ := Reps.get (i := i) t (by simpa using h)
    exact ⟨v, by simpa using a, b⟩
theorem Reps.getV : ∀ {vs : List V} {ds : List PyData} {i : Nat} {v : V}, Reps K B vs ds → vs[i]? = some v → ∃ d, ds[i]? = some d ∧ Rep K B v d
  | _, _, _, _, .nil, h => by simp at h
  | _, _, 0, _, .cons r _, h => by simp at h; subst h; exact ⟨_, rfl, r⟩
  | _, _, i + 1, _, .cons _ t, h => by
    obtain ⟨v, a, b⟩ := Reps.getV (i := i) t (by simpa using h)
    exact ⟨v, by simpa using a, b⟩
theorem Reps.append : ∀ {vs ws : List V} {ds es : List PyData}, Reps K B vs ds → Reps K B ws es → Reps K B (vs ++ ws) (ds ++ es)
  | _, _, _, _, .nil, s => s
  | _, _, _, _, .cons r t, s => .cons r (Reps.append t s)
theorem Reps.take : ∀ {vs : List V} {ds : List PyData} (n : Nat), Reps K B vs ds → Reps K B (vs.take n) (ds.take n)
  | _, _, 0, _ => .nil
  | _, _, _ + 1, .nil => .nil
  | _, _, n + 1, .cons r t => .cons r (Reps.take n t)
theorem Reps.drop : ∀ {vs : List V} {ds : List PyData} (n : Nat), Reps K B vs ds → Reps K B (vs.drop n) (ds.drop n)
  | _, _, 0, r => r
  | _, _, _ + 1, .nil => .nil
  | _, _, n + 1, .cons r t => Reps.drop n t
theorem Reps.set : ∀ {vs : List V} {ds : List PyData} {v : V} {d : PyData} (i : Nat), Reps K B vs ds → Rep K B v d → Reps K B (vs.set i v) (ds.set i d)
  | _, _, _, _, _, .nil, _ => .nil
  | _, _, _, _, 0, .cons _ t, q => .cons q t
  | _, _, _, _, i + 1, .cons r t, q => .cons r (Reps.set i t q)
theorem Reps.ints : ∀ {vs : List V} {ns : List Int}, Reps K B vs (ns.map PyData.int) → vs = ns.map V.int
  | _, [], h => by cases h; rfl
  | _, n :: ns, h => by
    cases h with
    | cons r t =>
      rw [Reps.ints t]
      cases r with
      | int i => rfl
      | obj _ q => cases q
theorem Reps.ofInts : ∀ ns : List Int, Reps K B (ns.map V.int) (ns.map PyData.int)
  | [] => .nil
  | n :: ns => .cons (.int n) (Reps.ofInts ns)
theorem Reps.bls : ∀ {vs : List V} {bs : List Bool}, Reps K B vs (bs.map PyData.bool) → vs = bs.map V.bl
  | _, [], h => by cases h; rfl
  | _, n :: ns, h => by
    cases h with
    | cons r t =>
      rw [Reps.bls t]
      cases r with
      | bl i => rfl
      | obj _ q => cases q
theorem Rep.int_inv {v : V} {i : Int} (h : Rep K B v (.int i)) : v = .int i := by
  cases h with
  | int i => rfl
  | obj _ q => cases q
theorem Rep.bl_inv {v : V} {i : Bool} (h : Rep K B v (.bool i)) : v = .bl i := by
  cases h with
  | bl i => rfl
  | obj _ q => cases q
theorem Rep.non_inv {v : V} (h : Rep K B v .none) : v = .non := by
  cases h with
  | non => rfl
  | obj _ q => cases q
theorem Rep.str_inv {v : V} {i : Str} (h : Rep K B v (.str i)) : v = .str i := by
  cases h with
  | str i => rfl
  | obj _ q => cases q
theorem Rep.lst_inv {v : V} {ds : List PyData} (h : Rep K B v (.list ds)) : ∃ a vs, v = .ref a ∧ B a = some (.lst vs) ∧ Reps K B vs ds := by
  cases h with
  | obj e q =>
    cases q with
    | lst r => exact ⟨_, _, rfl, e, r⟩
theorem Rep.tup_inv {v : V} {ds : List PyData} (h : Rep K B v (.tuple ds)) : ∃ a vs, v = .ref a ∧ B a = some (.tup vs) ∧ Reps K B vs ds := by
  cases h with
  | obj e q =>
    cases q with
    | tup r => exact ⟨_, _, rfl, e, r⟩
theorem ObjR.dT_inv {o : HO} {kvs : List (List Key × PyData)} (h : ObjR K B o (dTD kvs)) : ∃ kv, o = .dT kv ∧ RepT K B kv kvs := by
  generalize e : dTD kvs = d at h
  cases h with
  | dT r => exact ⟨_, rfl, by rw [dTD_inj e]; exact r⟩
  | dK r => cases e
  | lst r => cases e
  | tup r => cases e
theorem ObjR.dK_inv {o : HO} {kvs : List (Key × PyData)} (h : ObjR K B o (dKD kvs)) : ∃ kv, o = .dK kv ∧ RepK K B kv kvs := by
  generalize e : dKD kvs = d at h
  cases h with
  | dK r => exact ⟨_, rfl, by rw [dKD_inj e]; exact r⟩
  | dT r => cases e
  | lst r => cases e
  | tup r => cases e
theorem Rep.dT_inv {v : V} {kvs : List (List Key × PyData)} (h : Rep K B v (dTD kvs)) : ∃ a kv, v = .ref a ∧ B a = some (.dT kv) ∧ RepT K B kv kvs := by
  generalize e : dTD kvs = d at h
  cases h with
  | obj e2 q =>
    subst e
    obtain ⟨kv, rfl, r⟩ := q.dT_inv
    exact ⟨_, _, rfl, e2, r⟩
  | _ => cases e
theorem Rep.dK_inv {v : V} {kvs : List (Key × PyData)} (h : Rep K B v (dKD kvs)) : ∃ a kv, v = .ref a ∧ B a = some (.dK kv) ∧ RepK K B kv kvs := by
  generalize e : dKD kvs = d at h
  cases h with
  | obj e2 q =>
    subst e
    obtain ⟨kv, rfl, r⟩ := q.dK_inv
    exact ⟨_, _, rfl, e2, r⟩
  | _ => cases e
mutual
theorem Rep.dp : ∀ (d : PyData) (v : V), Rep K B v d → d.canLay0 = true → Dp K B v d
  | .none, _, h, _ => by rw [h.non_inv]; exact .non
  | .bool b, _, h, _ => by rw [h.bl_inv]; exact .bl b
  | .int b, _, h, _ => by rw [h.int_inv]; exact .int b
  | .str b, _, h, _ => by rw [h.str_inv]; exact .str b
  | .list ds, _, h, c => by
    obtain ⟨a, vs, rfl, e, r⟩ := h.lst_inv
    exact .lst (SqL.of e) (Reps.dp ds vs r (by simpa [PyData.canLay0] using c))
  | .tuple ds, _, h, c => by
    obtain ⟨a, vs, rfl, e, r⟩ := h.tup_inv
    exact .tup (SqT.of e) (Reps.dp ds vs r (by simpa [PyData.canLay0] using c))
  | .dict _, _, _, c => by simp [PyData.canLay0] at c
theorem Reps.dp : ∀ (ds : List PyData) (vs : List V), Reps K B vs ds → PyData.canLayAll0 ds = true → DpAll K B vs ds
  | [], _, h, _ => by cases h; exact .nil
  | d :: ds, _, h, c => by
    cases h with
    | cons r t =>
      have c2 : d.canLay0 = true ∧ PyData.canLayAll0 ds = true := by simpa [PyData.canLayAll0] using c
      exact .cons (Rep.dp d _ r c2.1) (Reps.dp ds _ t c2.2)
end
end

/-! ### the heap without some objects -/
def cut (M : List Addr) (H : Hp) : Hp := fun a => if a ∈ M then none else H a
theorem cut_in {M : List Addr} {H : Hp} {a : Addr} (h : a ∈ M) : cut M H a = none := if_pos h
theorem cut_out {M : List Addr} {H : Hp} {a : Addr} (h : a ∉ M) : cut M H a = H a := if_neg h
theorem cut_some {M : List Addr} {H : Hp} {a : Addr} {o : HO} (h : cut M H a = some o) : a ∉ M ∧ H a = some o := by
  unfold cut at h
  by_cases q : a ∈ M
  · rw [if_pos q] at h; cases h
  · rw [if_neg q] at h; exact ⟨q, h⟩
theorem cut_same {M M' : List Addr} {H H' : Hp} (h : ∀ a o, a ∉ M → H a = some o → a ∉ M' ∧ H' a = some o) : Same (cut M H) (cut M' H') := fun a o e => by
  obtain ⟨p, q⟩ := cut_some e
  obtain ⟨p', q'⟩ := h a o p q
  rw [cut_out p', q']
theorem cut_le (M : List Addr) (H : Hp) : Same (cut M H) H := fun a o e => (cut_some e).2
theorem cut_upd {M : List Addr} {H : Hp} {a : Addr} {o : HO} (h : a ∈ M) : cut M (upd H a o) = cut M H := by
  funext b
  by_cases q : b ∈ M
  · rw [cut_in q, cut_in q]
  · rw [cut_out q, cut_out q, upd_ne (fun e => q (by rw [e]; exact h))]
theorem cut_nil {H : Hp} : cut [] H = H := by
  funext b
  exact cut_out (by simp)

/-! ### the state that is drawn from -/
def StOK (H : Hp) (a : Addr) : Prop := ∃ (x p : Int) (L : Addr) (z : Int) (ns : List Int),
  H a = some (.lst [.int x, .int p, .ref L, .int z]) ∧ H L = some (.lst (ns.map V.int)) ∧ 0 ≤ x ∧ 0 ≤ p ∧ 0 ≤ z ∧ z < 2147483647 ∧ ns.length ≤ 1000
theorem StOK.mono {H H' : Hp} {a : Addr} (e : Same H H') (h : StOK H a) : StOK H' a := by
  obtain ⟨x, p, L, z, ns, h1, h2, r⟩ := h
  exact ⟨x, p, L, z, ns, e _ _ h1, e _ _ h2, r⟩

/-- st: the state that is drawn from, where there is one; M: what may be changed by others -/
structure Cfg where
  st : Option Addr
  M : List Addr
  hst : ∀ a, st = some a → a ∈ M

/-- an expression's step: nothing that was tracked changes but the state -/
structure Tr (C : Cfg) (H H' : Hp) : Prop where
  keep : ∀ a o, C.st ≠ some a → H a = some o → H' a = some o
  ok : ∀ a, C.st = some a → ∀ O, StOK (cut O H) a → StOK (cut O H') a
theorem Tr.refl {C : Cfg} (H : Hp) : Tr C H H := ⟨fun _ _ _ h => h, fun _ _ _ h => h⟩
theorem Tr.trans {C : Cfg} {H H1 H2 : Hp} (a : Tr C H H1) (b : Tr C H1 H2) : Tr C H H2 := ⟨fun x o n h => b.keep x o n (a.keep x o n h), fun x n O h => b.ok x n O (a.ok x n O h)⟩
theorem Tr.of {C : Cfg} {H H1 : Hp} (a : Same H H1) : Tr C H H1 := ⟨fun x o _ h => a x o h, fun x _ O h => h.mono (cut_same fun b o n q => ⟨n, a b o q⟩)⟩
theorem same_new {H : Hp} {p : Addr} {o : HO} (h : H p = none) : Same H (upd H p o) := fun b x e => by
  rw [upd_ne (ne_of_none e h)]
  exact e
theorem Tr.new {C : Cfg} {H : Hp} {p : Addr} {o : HO} (h : H p = none) : Tr C H (upd H p o) := .of (same_new h)
theorem Tr.cutS {C : Cfg} {H H1 : Hp} (t : Tr C H H1) (O : List Addr) : Same (cut (O ++ C.M) H) (cut (O ++ C.M) H1) :=
  cut_same fun a o n h => ⟨n, t.keep a o (fun e => n (List.mem_append_right _ (C.hst a e))) h⟩
theorem Tr.cutM {C : Cfg} {H H1 : Hp} (t : Tr C H H1) : Same (cut C.M H) (cut C.M H1) :=
  cut_same fun a o n h => ⟨n, t.keep a o (fun e => n (C.hst a e)) h⟩
theorem Tr.none {C : Cfg} {H H1 : Hp} (t : Tr C H H1) {p : Addr} (hp : H1 p = none) (hn : C.st ≠ some p) : H p = none := by
  cases q : H p with
  | none => rfl
  | some o => rw [t.keep p o hn q] at hp; cases hp
/-! ### slots -/
/-- what is known of a slot: nothing; data; a list or dict of the def's own that it may change; just this value -/
inductive Sl where
  | u | d (x : PyData) | own (x : PyData) | r (v : V)
inductive Slot (K : PySem.W.Frag) (B H : Hp) : Option V → Sl → List Addr → Prop
  | u {o : Option V} : Slot K B H o .u []
  | d {v : V} {x : PyData} : Rep K B v x → Slot K B H (some v) (.d x) []
  | r {v : V} : Slot K B H (some v) (.r v) []
  | own {p : Addr} {o : HO} {x : PyData} : H p = some o → ObjR K B o x → Slot K B H (some (.ref p)) (.own x) [p]
inductive Slots (K : PySem.W.Frag) (B H : Hp) : L2.St → List Sl → List Addr → Prop
  | nil : Slots K B H [] [] []
  | cons {o : Option V} {s : Sl} {F O : List Addr} {σ : L2.St} {sl : List Sl} : Slot K B H o s F → Slots K B H σ sl O → Slots K B H (o :: σ) (s :: sl) (F ++ O)
section
variable {K : PySem.W.Frag} {B B' H H' : Hp}
theorem Slot.mono {o : Option V} {s : Sl} {F : List Addr} (e : Same B B') (h : ∀ a ∈ F, ∀ x, H a = some x → H' a = some x) (q : Slot K B H o s F) : Slot K B' H' o s F := by
  cases q with
  | u => exact .u
  | d r => exact .d (r.mono e)
  | r => exact .r
  | own a b => exact .own (h _ (by simp) _ a) (b.mono e)
theorem Slots.mono (e : Same B B') : ∀ {σ : L2.St} {sl : List Sl} {O : List Addr}, (∀ a ∈ O, ∀ x, H a = some x → H' a = some x) → Slots K B H σ sl O → Slots K B' H' σ sl O
  | _, _, _, _, .nil => .nil
  | _, _, _, h, .cons a b => .cons (a.mono e fun x m => h x (List.mem_append_left _ m)) (Slots.mono e (fun x m => h x (List.mem_append_right _ m)) b)
theorem Slots.set {o : Option V} {s : Sl} {F : List Addr} (q : Slot K B H o s F) (hF : F.Nodup) {σ : L2.St} {sl : List Sl} {O : List Addr} (h : Slots K B H σ sl O) : ∀ (i : Nat), (∀ a ∈ F, a ∉ O) → O.Nodup →
    ∃ O', Slots K B H (σ.set i o) (sl.set i s) O' ∧ O'.Nodup ∧ ∀ a ∈ O', a ∈ O ∨ a ∈ F := by
  induction h with
  | nil => exact fun i _ n => ⟨[], .nil, n, fun a h => absurd h (by simp)⟩
  | @cons o₀ s₀ F₀ O₀ σ sl a b ih =>
    intro i d n
    rw [List.nodup_append] at n
    cases i with
    | zero =>
      refine ⟨F ++ O₀, .cons q b, ?_, fun x h => ?_⟩
      · rw [List.nodup_append]
        exact ⟨hF, n.2.1, fun x h y h' e => d x h (List.mem_append_right _ (e ▸ h'))⟩
      · rcases List.mem_append.mp h with h | h
        · exact .inr h
        · exact .inl (List.mem_append_right _ h)
    | succ i =>
      obtain ⟨O', s', n', m'⟩ := ih i (fun x h h' => d x h (List.mem_append_right _ h')) n.2.1
      refine ⟨F₀ ++ O', .cons a s', ?_, fun x h => ?_⟩
      · rw [List.nodup_append]
        refine ⟨n.1, n', fun x h y h' e => ?_⟩
        rcases m' y h' with z | z
        · exact n.2.2 x h y z e
        · exact d y z (List.mem_append_left _ (e ▸ h))
      · rcases List.mem_append.mp h with h | h
        · exact .inl (List.mem_append_left _ h)
        · rcases m' x h with z | z
          · exact .inl (List.mem_append_right _ z)
          · exact .inr z
theorem Slots.len : ∀ {σ : L2.St} {sl : List Sl} {O : List Addr}, Slots K B H σ sl O → σ.length = sl.length
  | _, _, _, .nil => rfl
  | _, _, _, .cons _ b => by rw [List.length_cons, List.length_cons, Slots.len b]
theorem Slots.getD : ∀ {σ : L2.St} {sl : List Sl} {O : List Addr} {i : Nat} {x : PyData}, Slots K B H σ sl O → sl[i]? = some (.d x) → ∃ v, σ[i]? = some (some v) ∧ Rep K B v x
  | _, _, _, _, _, .nil, h => by simp at h
  | _, _, _, 0, _, .cons a _, h => by
    simp at h
    subst h
    cases a with
    | d r => exact ⟨_, rfl, r⟩
  | _, _, _, i + 1, _, .cons _ b, h => by
    obtain ⟨v, p, q⟩ := Slots.getD (i := i) b (by simpa using h)
    exact ⟨v, by simpa using p, q⟩
theorem Slots.getR : ∀ {σ : L2.St} {sl : List Sl} {O : List Addr} {i : Nat} {x : V}, Slots K B H σ sl O → sl[i]? = some (.r x) → σ[i]? = some (some x)
  | _, _, _, _, _, .nil, h => by simp at h
  | _, _, _, 0, _, .cons a _, h => by
    simp at h
    subst h
    cases a with
    | r => rfl
  | _, _, _, i + 1, _, .cons _ b, h => by
    have p := Slots.getR (i := i) b (by simpa using h)
    simpa using p
theorem Slots.getO : ∀ {σ : L2.St} {sl : List Sl} {O : List Addr} {i : Nat} {x : PyData}, Slots K B H σ sl O → sl[i]? = some (.own x) → ∃ p o, σ[i]? = some (some (.ref p)) ∧ H p = some o ∧ ObjR K B o x ∧ p ∈ O
  | _, _, _, _, _, .nil, h => by simp at h
  | _, _, _, 0, _, .cons a _, h => by
    simp at h
    subst h
    cases a with
    | own e r => exact ⟨_, _, rfl, e, r, by simp⟩
  | _, _, _, i + 1, _, .cons _ b, h => by
    obtain ⟨p, o, h1, h2, h3, h4⟩ := Slots.getO (i := i) b (by simpa using h)
    exact ⟨p, o, by simpa using h1, h2, h3, List.mem_append_right _ h4⟩
/-- an own object changes -/
theorem Slots.mut {o' : HO} {y : PyData} (q : ObjR K B o' y) {p : Addr} {σ : L2.St} {sl : List Sl} {O : List Addr} (h : Slots K B H σ sl O) : ∀ {i : Nat} {x : PyData}, O.Nodup → sl[i]? = some (.own x) → σ[i]? = some (some (.ref p)) →
    Slots K B (upd H p o') σ (sl.set i (.own y)) O ∧ p ∈ O := by
  induction h with
  | nil => intro i x n h; simp at h
  | @cons o₀ s₀ F₀ O₀ σ sl a b ih =>
    intro i x n h e
    cases i with
    | zero =>
      simp at h e
      subst h e
      cases a with
      | own a1 a2 =>
        refine ⟨.cons (.own upd_same q) (b.mono (Same.refl B) fun z hz u hu => ?_), by simp⟩
        rw [upd_ne]
        · exact hu
        · intro e
          subst e
          exact (List.nodup_append.mp n).2.2 z (by simp) z hz rfl
    | succ i =>
      obtain ⟨s', m⟩ := ih (i := i) (List.nodup_append.mp n).2.1 (by simpa using h) (by simpa using e)
      refine ⟨.cons (a.mono (Same.refl B) fun z hz u hu => ?_) s', List.mem_append_right _ m⟩
      rw [upd_ne]
      · exact hu
      · intro e
        subst e
        exact (List.nodup_append.mp n).2.2 z hz z m rfl
end

structure EnvOk (K : PySem.W.Frag) (C : Cfg) (H : Hp) (σ : L2.St) (sl : List Sl) (O : List Addr) : Prop where
  slots : ∃ O1, Slots K (cut (O ++ C.M) H) H σ sl O1 ∧ O1.Nodup ∧ ∀ a ∈ O1, a ∈ O
  dj : ∀ a ∈ O, a ∉ C.M
  to : ∀ a ∈ O, H a ≠ none
  tm : ∀ a ∈ C.M, H a ≠ none
  ok : ∀ a, C.st = some a → StOK (cut O H) a
/-- a statement's step -/
structure Step (C : Cfg) (O : List Addr) (H : Hp) (O' : List Addr) (H' : Hp) : Prop where
  keep : ∀ a o, C.st ≠ some a → a ∉ O → H a = some o → H' a = some o
  old : ∀ a ∈ O', a ∈ O ∨ H a = none
  ok : ∀ a, C.st = some a → ∀ Ox, StOK (cut Ox H) a → StOK (cut Ox H') a
  ns : ∀ a ∈ O', C.st ≠ some a
section
variable {K : PySem.W.Frag} {C : Cfg} {H H' H1 H2 : Hp} {σ : L2.St} {sl : List Sl} {O O1 O2 : List Addr}
theorem EnvOk.fresh (E : EnvOk K C H σ sl O) {p : Addr} (h : H p = none) : p ∉ O ∧ p ∉ C.M := ⟨fun z => E.to p z h, fun z => E.tm p z h⟩
theorem EnvOk.notSt (E : EnvOk K C H σ sl O) {p : Addr} (h : p ∈ O) : C.st ≠ some p := fun e => E.dj p h (C.hst p e)
theorem EnvOk.tr (E : EnvOk K C H σ sl O) (t : Tr C H H') : EnvOk K C H' σ sl O := by
  obtain ⟨O1, s, n, m⟩ := E.slots
  refine ⟨⟨O1, s.mono (t.cutS O) (fun a h x e => t.keep a x (E.notSt (m a h)) e), n, m⟩, E.dj, fun a h => ?_, fun a h => ?_, fun a e => t.ok a e O (E.ok a e)⟩
  · cases q : H a with
    | none => exact absurd q (E.to a h)
    | some o => rw [t.keep a o (E.notSt h) q]; simp
  · by_cases e : C.st = some a
    · have z := t.ok a e O (E.ok a e)
      obtain ⟨x, p, L, z, ns, h1, _⟩ := z
      rw [cut_le _ _ _ _ h1]
      simp
    · cases q : H a with
      | none => exact absurd q (E.tm a h)
      | some o => rw [t.keep a o e q]; simp
/-- one more object that is kept out -/
theorem EnvOk.add (E : EnvOk K C H σ sl O) {p : Addr} {o : HO} (h : H p = none) : EnvOk K C (upd H p o) σ sl (p :: O) := by
  have E1 := E.tr (Tr.new (o := o) h)
  obtain ⟨n1, n2⟩ := E.fresh h
  obtain ⟨O1, s, n, m⟩ := E.slots
  refine ⟨⟨O1, s.mono (cut_same fun a u na e => ⟨?_, ?_⟩) (fun a ha x e => ?_), n, fun a h => List.mem_cons_of_mem _ (m a h)⟩, fun a ha => ?_, fun a ha => ?_, E1.tm, fun a e => ?_⟩
  · intro z
    rcases List.mem_append.mp z with z | z
    · rcases List.mem_cons.mp z with rfl | z
      · rw [h] at e; cases e
      · exact na (List.mem_append_left _ z)
    · exact na (List.mem_append_right _ z)
  · rw [upd_ne (ne_of_none e h)]; exact e
  · rw [upd_ne (ne_of_none e h)]; exact e
  · rcases List.mem_cons.mp ha with rfl | z
    · exact n2
    · exact E.dj a z
  · rcases List.mem_cons.mp ha with rfl | z
    · rw [upd_same]; simp
    · exact E1.to a z
  · refine (E.ok a e).mono (cut_same fun b u nb q => ⟨?_, ?_⟩)
    · intro z
      rcases List.mem_cons.mp z with rfl | z
      · rw [h] at q; cases q
      · exact nb z
    · rw [upd_ne (ne_of_none q h)]; exact q
theorem Step.refl (E : EnvOk K C H σ sl O) : Step C O H O H := ⟨fun _ _ _ _ h => h, fun _ h => .inl h, fun _ _ _ h => h, fun _ h => E.notSt h⟩
theorem Step.tr (E : EnvOk K C H σ sl O) (t : Tr C H H') : Step C O H O H' := ⟨fun a o n _ h => t.keep a o n h, fun _ h => .inl h, fun a e Ox h => t.ok a e Ox h, fun _ h => E.notSt h⟩
theorem Step.trans (a : Step C O H O1 H1) (b : Step C O1 H1 O2 H2) : Step C O H O2 H2 := by
  refine ⟨fun x o n m h => b.keep x o n (fun z => ?_) (a.keep x o n m h), fun x h => ?_, fun x e Ox h => b.ok x e Ox (a.ok x e Ox h), b.ns⟩
  · rcases a.old x z with z | z
    · exact m z
    · rw [h] at z; cases z
  · rcases b.old x h with z | z
    · exact a.old x z
    · cases q : H x with
      | none => exact .inr rfl
      | some o =>
        by_cases hx : x ∈ O
        · exact .inl hx
        · rw [a.keep x o (b.ns x h) hx q] at z; cases z
/-- what was known and not the def's own stays -/
theorem Step.cutS (a : Step C O H O1 H1) : Same (cut (O ++ C.M) H) (cut (O1 ++ C.M) H1) := cut_same fun x o n h => by
  rw [List.mem_append] at n
  refine ⟨fun z => ?_, a.keep x o (fun e => n (.inr (C.hst x e))) (fun z => n (.inl z)) h⟩
  rcases List.mem_append.mp z with z | z
  · rcases a.old x z with y | y
    · exact n (.inl y)
    · rw [h] at y; cases y
  · exact n (.inr z)
/-- a slot is set to data -/
theorem EnvOk.setD (E : EnvOk K C H σ sl O) {v : V} {d : PyData} (r : Rep K (cut (O ++ C.M) H) v d) (i : Nat) : EnvOk K C H (σ.set i (some v)) (sl.set i (.d d)) O := by
  obtain ⟨O1, s, n, m⟩ := E.slots
  obtain ⟨O2, s2, n2, m2⟩ := Slots.set (F := []) (.d r) List.nodup_nil s i (fun a h => absurd h (by simp)) n
  exact ⟨⟨O2, s2, n2, fun a h => (m2 a h).elim (m a) fun z => absurd z (by simp)⟩, E.dj, E.to, E.tm, E.ok⟩
theorem EnvOk.setU (E : EnvOk K C H σ sl O) (o : Option V) (i : Nat) : EnvOk K C H (σ.set i o) (sl.set i .u) O := by
  obtain ⟨O1, s, n, m⟩ := E.slots
  obtain ⟨O2, s2, n2, m2⟩ := Slots.set (F := []) .u List.nodup_nil s i (fun a h => absurd h (by simp)) n
  exact ⟨⟨O2, s2, n2, fun a h => (m2 a h).elim (m a) fun z => absurd z (by simp)⟩, E.dj, E.to, E.tm, E.ok⟩
theorem EnvOk.setR (E : EnvOk K C H σ sl O) (v : V) (i : Nat) : EnvOk K C H (σ.set i (some v)) (sl.set i (.r v)) O := by
  obtain ⟨O1, s, n, m⟩ := E.slots
  obtain ⟨O2, s2, n2, m2⟩ := Slots.set (F := []) .r List.nodup_nil s i (fun a h => absurd h (by simp)) n
  exact ⟨⟨O2, s2, n2, fun a h => (m2 a h).elim (m a) fun z => absurd z (by simp)⟩, E.dj, E.to, E.tm, E.ok⟩
/-- a slot is set to a new object of the def's own: p was not tracked ahead of this step -/
theorem EnvOk.setO (E : EnvOk K C H σ sl O) (t : Tr C H H1) {p : Addr} {o : HO} {d : PyData} (hp : H p = none) (ho : H1 p = some o) (r : ObjR K (cut (p :: (O ++ C.M)) H1) o d) (i : Nat) :
    EnvOk K C H1 (σ.set i (some (.ref p))) (sl.set i (.own d)) (p :: O) ∧ Step C O H (p :: O) H1 := by
  obtain ⟨n1, n2⟩ := E.fresh hp
  have ns : C.st ≠ some p := fun e => n2 (C.hst p e)
  have E1 := E.tr t
  obtain ⟨O1, s, n, m⟩ := E.slots
  have s1 : Slots K (cut (p :: (O ++ C.M)) H1) H1 σ sl O1 := s.mono (cut_same fun a u na e => by
    refine ⟨fun z => ?_, t.keep a u (fun e => na (List.mem_append_right _ (C.hst a e))) e⟩
    rcases List.mem_cons.mp z with rfl | z
    · rw [hp] at e; cases e
    · exact na z) (fun a h x e => t.keep a x (E.notSt (m a h)) e)
  obtain ⟨O2, s2, nd2, m2⟩ := Slots.set (F := [p]) (.own ho r) (by simp) s1 i (fun a h => by
    rw [List.mem_singleton] at h
    subst h
    exact fun z => n1 (m _ z)) n
  refine ⟨⟨⟨O2, s2, nd2, fun a h => ?_⟩, fun a h => ?_, fun a h => ?_, E1.tm, fun a e => ?_⟩, ⟨fun a u n _ h => t.keep a u n h, fun a h => ?_, fun a e Ox h => t.ok a e Ox h, fun a h => ?_⟩⟩
  · rcases m2 a h with z | z
    · exact List.mem_cons_of_mem _ (m a z)
    · rw [List.mem_singleton] at z; rw [z]; exact List.mem_cons_self
  · rcases List.mem_cons.mp h with rfl | z
    · exact n2
    · exact E.dj a z
  · rcases List.mem_cons.mp h with rfl | z
    · rw [ho]; simp
    · exact E1.to a z
  · refine t.ok a e (p :: O) ((E.ok a e).mono (cut_same fun b u nb q => ⟨fun z => ?_, q⟩))
    rcases List.mem_cons.mp z with rfl | z
    · rw [hp] at q; cases q
    · exact nb z
  · rcases List.mem_cons.mp h with rfl | z
    · exact .inr hp
    · exact .inl z
  · rcases List.mem_cons.mp h with rfl | z
    · exact ns
    · exact E.notSt z
/-- an own object is changed -/
theorem EnvOk.mut (E : EnvOk K C H σ sl O) {i : Nat} {x y : PyData} {p : Addr} {o : HO} (h1 : sl[i]? = some (.own x)) (h2 : σ[i]? = some (some (.ref p))) (r : ObjR K (cut (O ++ C.M) H) o y) :
    EnvOk K C (upd H p o) σ (sl.set i (.own y)) O ∧ Step C O H O (upd H p o) := by
  obtain ⟨O1, s, n, m⟩ := E.slots
  obtain ⟨s2, mp⟩ := Slots.mut r s n h1 h2
  have hp := m p mp
  have ec : cut (O ++ C.M) (upd H p o) = cut (O ++ C.M) H := cut_upd (List.mem_append_left _ hp)
  have nst := E.notSt hp
  have tr : ∀ a, H a ≠ none → upd H p o a ≠ none := fun a h => by
    by_cases e : a = p
    · subst e; rw [upd_same]; simp
    · rw [upd_ne e]; exact h
  refine ⟨⟨⟨O1, by rw [ec]; exact s2, n, m⟩, E.dj, fun a h => tr a (E.to a h), fun a h => tr a (E.tm a h), fun a e => ?_⟩, ⟨fun a u _ na h => ?_, fun a h => .inl h, fun a e Ox h => ?_, fun a h => E.notSt h⟩⟩
  · rw [cut_upd hp]; exact E.ok a e
  · rw [upd_ne (fun z => na (by rw [z]; exact hp))]; exact h
  · obtain ⟨x1, p1, L1, z1, ns1, g1, g2, g3⟩ := E.ok a e
    obtain ⟨x2, p2, L2', z2, ns2, k1, k2, k3⟩ := h
    have eL : L1 = L2' := by
      have a1 := (cut_some g1).2
      have a2 := (cut_some k1).2
      rw [a1] at a2
      injection a2 with a2
      injection a2 with a2
      injection a2 with _ a2
      injection a2 with _ a2
      injection a2 with a2 _
      injection a2
    have nL : L2' ≠ p := fun z => (cut_some g2).1 (by rw [eL, z]; exact hp)
    have na : a ≠ p := fun z => nst (by rw [← z]; exact e)
    refine ⟨x2, p2, L2', z2, ns2, ?_, ?_, k3⟩
    · rw [cut_out (cut_some k1).1, upd_ne na]; exact (cut_some k1).2
    · rw [cut_out (cut_some k2).1, upd_ne nL]; exact (cut_some k2).2
/-- an own object becomes plain data, never to be changed again -/
theorem EnvOk.freeze (E : EnvOk K C H σ sl O) {i : Nat} {x : PyData} (h1 : sl[i]? = some (.own x)) : ∃ O', EnvOk K C H σ (sl.set i (.d x)) O' ∧ Step C O H O' H := by
  obtain ⟨O1, s, n, m⟩ := E.slots
  obtain ⟨p, o, g1, g2, g3, g4⟩ := s.getO h1
  have hp := m p g4
  let O' := O.filter fun a => decide (a ≠ p)
  have sub : ∀ a ∈ O', a ∈ O := fun a h => (List.mem_filter.mp h).1
  have np : p ∉ O' := fun h => by have z := (List.mem_filter.mp h).2; simp at z
  have e1 : Same (cut (O ++ C.M) H) (cut (O' ++ C.M) H) := cut_same fun a u na e => ⟨fun z => na (by
    rcases List.mem_append.mp z with z | z
    · exact List.mem_append_left _ (sub a z)
    · exact List.mem_append_right _ z), e⟩
  have s1 : Slots K (cut (O' ++ C.M) H) H σ sl O1 := s.mono e1 fun _ _ _ h => h
  have rp : Rep K (cut (O' ++ C.M) H) (.ref p) x := .obj (by
    rw [cut_out]
    · exact g2
    · intro z
      rcases List.mem_append.mp z with z | z
      · exact np z
      · exact E.dj p hp z) (g3.mono e1)
  have key : ∀ {σ : L2.St} {sl : List Sl} {O1 : List Addr}, Slots K (cut (O' ++ C.M) H) H σ sl O1 → O1.Nodup → ∀ {i : Nat}, sl[i]? = some (.own x) → σ[i]? = some (some (.ref p)) → ∃ O2, Slots K (cut (O' ++ C.M) H) H σ (sl.set i (.d x)) O2 ∧ O2.Nodup ∧ ∀ a ∈ O2, a ∈ O1 ∧ a ≠ p := by
    intro σ sl O1 s
    induction s with
    | nil => intro _ i h; simp at h
    | @cons o₀ s₀ F₀ O₀ σ sl a b ih =>
      intro n i h e
      rw [List.nodup_append] at n
      cases i with
      | zero =>
        simp at h e
        subst h e
        cases a with
        | own a1 a2 =>
          refine ⟨[] ++ O₀, .cons (.d rp) b, by simpa using n.2.1, fun a h => ⟨List.mem_append_right _ (by simpa using h), fun z => ?_⟩⟩
          exact n.2.2 p (by simp) a (by simpa using h) z.symm
      | succ i =>
        have h' : sl[i]? = some (.own x) := by simpa using h
        have e' : σ[i]? = some (some (.ref p)) := by simpa using e
        obtain ⟨O2, s2, n2, m2⟩ := ih n.2.1 h' e'
        obtain ⟨p', _, q1, _, _, q4⟩ := b.getO h'
        have ep : p' = p := by rw [q1] at e'; simpa using e'
        subst ep
        refine ⟨F₀ ++ O2, .cons a s2, ?_, fun z hz => ?_⟩
        · rw [List.nodup_append]
          exact ⟨n.1, n2, fun x hx y hy e => n.2.2 x hx y (m2 y hy).1 e⟩
        · rcases List.mem_append.mp hz with hz | hz
          · exact ⟨List.mem_append_left _ hz, fun e => n.2.2 z hz p' q4 e⟩
          · exact ⟨List.mem_append_right _ (m2 z hz).1, (m2 z hz).2⟩
  obtain ⟨O2, s2, n2, m2⟩ := key s1 n h1 g1
  refine ⟨O', ⟨⟨O2, s2, n2, fun a h => List.mem_filter.mpr ⟨m a (m2 a h).1, decide_eq_true (m2 a h).2⟩⟩, fun a h => E.dj a (sub a h), fun a h => E.to a (sub a h), E.tm, fun a e => (E.ok a e).mono (cut_same fun b u nb q => ⟨fun z => nb (sub b z), q⟩)⟩,
    ⟨fun _ _ _ _ h => h, fun a h => .inl (sub a h), fun _ _ _ h => h, fun a h => E.notSt (sub a h)⟩⟩
end
end DL
/-! The logic's judgements, and its rules for expressions. -/
namespace DL
open PySem PySem.Spec PyProof.Rows L2

abbrev is (d : PyData) : PyData → Prop := fun x => x = d
abbrev isL (ds : List PyData) : List PyData → Prop := fun x => x = ds
abbrev isB (b : Bool) : Bool → Prop := fun x => x = b

/-- e gives some data of which P holds -/
def EV (C : Cfg) (X : Cx) (e : Expr) (sl : List Sl) (P : PyData → Prop) : Prop :=
  ∀ (σ : L2.St) (H : Hp) (O : List Addr), EnvOk X.K C H σ sl O → ∀ Q : VK, (∀ v H' d, P d → Tr C H H' → Rep X.K (cut (O ++ C.M) H') v d → Q v H') → cE X e σ H Q
/-- the same, but it may lean on what the def will change: to be asked at once -/
def EVB (C : Cfg) (X : Cx) (e : Expr) (sl : List Sl) (P : PyData → Prop) : Prop :=
  ∀ (σ : L2.St) (H : Hp) (O : List Addr), EnvOk X.K C H σ sl O → ∀ Q : VK, (∀ v H' d, P d → Tr C H H' → Rep X.K H' v d → Q v H') → cE X e σ H Q
/-- e gives a new list or dict, no one else's -/
def EVN (C : Cfg) (X : Cx) (e : Expr) (sl : List Sl) (P : PyData → Prop) : Prop :=
  ∀ (σ : L2.St) (H : Hp) (O : List Addr), EnvOk X.K C H σ sl O → ∀ Q : VK, (∀ p o H' d, P d → Tr C H H' → H p = none → H' p = some o → ObjR X.K (cut (p :: (O ++ C.M)) H') o d → Q (.ref p) H') → cE X e σ H Q
def EVT (C : Cfg) (X : Cx) (e : Expr) (sl : List Sl) (P : Bool → Prop) : Prop :=
  ∀ (σ : L2.St) (H : Hp) (O : List Addr), EnvOk X.K C H σ sl O → ∀ Q : Bool → Hp → Prop, (∀ b H', P b → Tr C H H' → Q b H') → cT X e σ H Q
def EVA (C : Cfg) (X : Cx) (es : List Expr) (sl : List Sl) (P : List PyData → Prop) : Prop :=
  ∀ (σ : L2.St) (H : Hp) (O : List Addr), EnvOk X.K C H σ sl O → ∀ Q : List V → Hp → Prop, (∀ vs H' ds, P ds → Tr C H H' → Reps X.K (cut (O ++ C.M) H') vs ds → Q vs H') → cA X es σ H Q

section
variable {C : Cfg} {X : Cx} {e a b c : Expr} {es : List Expr} {sl : List Sl} {P P' Pa Pb Pc : PyData → Prop} {pos : Pos} {K : PySem.W.Frag} {H H' : Hp} {σ : L2.St} {O : List Addr}
theorem EnvOk.var (E : EnvOk K C H σ sl O) {i : Nat} {d : PyData} (h : sl[i]? = some (.d d)) : ∃ v, σ[i]? = some (some v) ∧ Rep K (cut (O ++ C.M) H) v d := by
  obtain ⟨O1, s, _, _⟩ := E.slots
  exact s.getD h
theorem EnvOk.raw (E : EnvOk K C H σ sl O) {i : Nat} {v : V} (h : sl[i]? = some (.r v)) : σ[i]? = some (some v) := by
  obtain ⟨O1, s, _, _⟩ := E.slots
  exact s.getR h
theorem EnvOk.own (E : EnvOk K C H σ sl O) {i : Nat} {d : PyData} (h : sl[i]? = some (.own d)) : ∃ p o, σ[i]? = some (some (.ref p)) ∧ H p = some o ∧ ObjR K (cut (O ++ C.M) H) o d ∧ p ∈ O := by
  obtain ⟨O1, s, n, m⟩ := E.slots
  obtain ⟨p, o, h1, h2, h3, h4⟩ := s.getO h
  exact ⟨p, o, h1, h2, h3, m p h4⟩
theorem EV.imp (h : EV C X e sl P) (k : ∀ d, P d → P' d) : EV C X e sl P' := fun σ H O E Q q => h σ H O E Q fun v H' d p t r => q v H' d (k d p) t r
theorem EVN.imp (h : EVN C X e sl P) (k : ∀ d, P d → P' d) : EVN C X e sl P' := fun σ H O E Q q => h σ H O E Q fun p o H' d pd t n ho r => q p o H' d (k d pd) t n ho r
theorem EV.bo (h : EV C X e sl P) : EVB C X e sl P := fun σ H O E Q q => h σ H O E Q fun v H' d p t r => q v H' d p t (r.mono (cut_le _ _))
theorem EVN.ev (h : EVN C X e sl P) : EV C X e sl P := fun σ H O E Q q => h σ H O E Q fun p o H' d pd t n ho r => by
  obtain ⟨n1, n2⟩ := E.fresh n
  refine q _ _ d pd t (.obj ?_ (r.mono (cut_same fun a u na x => ⟨fun z => na (List.mem_cons_of_mem _ z), x⟩)))
  rw [cut_out (by intro z; exact (List.mem_append.mp z).elim n1 n2)]
  exact ho
theorem EV.eq {d d' : PyData} (h : EV C X e sl (is d)) (k : d = d') : EV C X e sl (is d') := h.imp fun x p => p.trans k
theorem EVT.imp {P P' : Bool → Prop} (h : EVT C X e sl P) (k : ∀ d, P d → P' d) : EVT C X e sl P' := fun σ H O E Q q => h σ H O E Q fun b H' p t => q b H' (k b p) t
theorem EVT.eq {b b' : Bool} (h : EVT C X e sl (isB b)) (k : b = b') : EVT C X e sl (isB b') := h.imp fun x p => p.trans k

/-! names and constants -/
theorem ev_var (i : Nat) {x : Str} {d : PyData} (hs : sl[i]? = some (.d d) := by rfl) (hN : X.N[i]? = some x := by rfl) (hv : Vis X.env.scope x := by first | exact Or.inl rfl | exact Or.inr (Or.inl rfl) | exact Or.inr (Or.inr rfl))
    (hd : (x == ("__debug__" : Str)) = false := by decide) (hcd : (x == ("__classdict__" : Str)) = false := by decide) : EV C X (.Name x pos) sl (is d) := fun σ H O E Q k => by
  obtain ⟨v, h1, h2⟩ := E.var hs
  exact ofE (pe_var hN hv hd hcd) ⟨v, h1, k v H d rfl (Tr.refl H) h2⟩
/-- a list or dict of the def's own, asked at once -/
theorem eb_own (i : Nat) {x : Str} {d : PyData} (hs : sl[i]? = some (.own d) := by rfl) (hN : X.N[i]? = some x := by rfl) (hv : Vis X.env.scope x := by first | exact Or.inl rfl | exact Or.inr (Or.inl rfl) | exact Or.inr (Or.inr rfl))
    (hd : (x == ("__debug__" : Str)) = false := by decide) (hcd : (x == ("__classdict__" : Str)) = false := by decide) : EVB C X (.Name x pos) sl (is d) := fun σ H O E Q k => by
  obtain ⟨p, o, h1, h2, h3, h4⟩ := E.own hs
  exact ofE (pe_var hN hv hd hcd) ⟨.ref p, h1, k _ H d rfl (Tr.refl H) (.obj h2 (h3.mono (cut_le _ _)))⟩
theorem ev_int {i : Int} {j : Nat} : EV C X (.Constant (.int i) j pos) sl (is (.int i)) := fun σ H O E Q k => ofE pe_int (k _ H _ rfl (Tr.refl H) (.int i))
theorem ev_bl {i : Bool} {j : Nat} : EV C X (.Constant (.bool i) j pos) sl (is (.bool i)) := fun σ H O E Q k => ofE pe_bl (k _ H _ rfl (Tr.refl H) (.bl i))
theorem ev_non {j : Nat} : EV C X (.Constant .none j pos) sl (is .none) := fun σ H O E Q k => ofE pe_non (k _ H _ rfl (Tr.refl H) .non)
theorem ev_str {x : Str} {j : Nat} : EV C X (.Constant (.str x) j pos) sl (is (.str x)) := fun σ H O E Q k => ofE pe_str (k _ H _ rfl (Tr.refl H) (.str x))

/-! operators -/
theorem ev_op {op : Operator} {r : R2} (ho : OpR X (binaryOp op) r) (ha : EV C X a sl Pa) (hb : EV C X b sl Pb)
    (hr : ∀ σ H O x y dx dy, EnvOk X.K C H σ sl O → Pa dx → Pb dy → Rep X.K (cut (O ++ C.M) H) x dx → Rep X.K (cut (O ++ C.M) H) y dy → ∀ Q : VK, (∀ v H' d, P d → Tr C H H' → Rep X.K (cut (O ++ C.M) H') v d → Q v H') → r x y H Q) :
    EV C X (.BinOp a op b pos) sl P := fun σ H O E Q k => ofE (pe_op ho (pe_c a) (pe_c b)) (ha σ H O E _ fun x H1 dx px t1 r1 => hb σ H1 O (E.tr t1) _ fun y H2 dy py t2 r2 =>
  hr σ H2 O x y dx dy ((E.tr t1).tr t2) px py (r1.mono (t2.cutS O)) r2 Q fun v H3 d p t3 r3 => k v H3 d p ((t1.trans t2).trans t3) r3)
theorem ev_i2 {op : Operator} {g : Int → Int → Int} (ho : OpR X (binaryOp op) (rI0 fun i j => .int (g i j))) (ha : EV C X a sl Pa) (hb : EV C X b sl Pb) (h : ∀ dx dy, Pa dx → Pb dy → ∃ i j, dx = .int i ∧ dy = .int j ∧ P (.int (g i j))) :
    EV C X (.BinOp a op b pos) sl P := ev_op ho ha hb fun σ H O x y dx dy E px py rx ry Q k => by
  obtain ⟨i, j, rfl, rfl, p⟩ := h dx dy px py
  exact ⟨i, j, rx.int_inv, ry.int_inv, k _ H _ p (Tr.refl H) (.int _)⟩
theorem ev_i2c {op : Operator} {Cn : Int → Int → Prop} {g : Int → Int → Int} (ho : OpR X (binaryOp op) (rI Cn fun i j => .int (g i j))) (ha : EV C X a sl Pa) (hb : EV C X b sl Pb) (h : ∀ dx dy, Pa dx → Pb dy → ∃ i j, dx = .int i ∧ dy = .int j ∧ Cn i j ∧ P (.int (g i j))) :
    EV C X (.BinOp a op b pos) sl P := ev_op ho ha hb fun σ H O x y dx dy E px py rx ry Q k => by
  obtain ⟨i, j, rfl, rfl, c, p⟩ := h dx dy px py
  exact ⟨i, j, rx.int_inv, ry.int_inv, c, k _ H _ p (Tr.refl H) (.int _)⟩
variable {i j : Int}
theorem ev_add (ha : EV C X a sl (is (.int i))) (hb : EV C X b sl (is (.int j))) : EV C X (.BinOp a .Add b pos) sl (is (.int (i + j))) := ev_i2 op_add ha hb fun _ _ p q => ⟨i, j, p, q, rfl⟩
theorem ev_sub (ha : EV C X a sl (is (.int i))) (hb : EV C X b sl (is (.int j))) : EV C X (.BinOp a .Sub b pos) sl (is (.int (i - j))) := ev_i2 op_sub ha hb fun _ _ p q => ⟨i, j, p, q, rfl⟩
theorem ev_mul (ha : EV C X a sl (is (.int i))) (hb : EV C X b sl (is (.int j))) (h : CMul i j) : EV C X (.BinOp a .Mult b pos) sl (is (.int (i * j))) := ev_i2c op_mul ha hb fun _ _ p q => ⟨i, j, p, q, h, rfl⟩
theorem ev_mulW (ha : EV C X a sl (is (.int i))) (hb : EV C X b sl (is (.int j))) (h : CMulW i j) : EV C X (.BinOp a .Mult b pos) sl (is (.int (i * j))) := ev_i2c op_mulW ha hb fun _ _ p q => ⟨i, j, p, q, h, rfl⟩
theorem ev_mod (ha : EV C X a sl (is (.int i))) (hb : EV C X b sl (is (.int j))) (h : 0 < j) : EV C X (.BinOp a .Mod b pos) sl (is (.int (i % j))) := ev_i2c op_mod ha hb fun _ _ p q => ⟨i, j, p, q, h, rfl⟩
theorem ev_fdiv (ha : EV C X a sl (is (.int i))) (hb : EV C X b sl (is (.int j))) (h : CDiv i j) : EV C X (.BinOp a .FloorDiv b pos) sl (is (.int (i / j))) := ev_i2c op_fdiv ha hb fun _ _ p q => ⟨i, j, p, q, h, rfl⟩
theorem ev_pow (ha : EV C X a sl (is (.int i))) (hb : EV C X b sl (is (.int j))) (h : CPow i j) : EV C X (.BinOp a .Pow b pos) sl (is (.int (i ^ j.toNat))) := ev_i2c op_pow ha hb fun _ _ p q => ⟨i, j, p, q, h, rfl⟩
theorem ev_neg (ha : EV C X a sl (is (.int i))) : EV C X (.UnaryOp .USub a pos) sl (is (.int (-i))) := fun σ H O E Q k => ofE (pe_un un_neg (pe_c a)) (ha σ H O E _ fun x H1 dx px t1 r1 => by
  have px : dx = .int i := px
  subst px
  exact ⟨i, r1.int_inv, k _ H1 _ rfl t1 (.int _)⟩)
/-- a new object from two -/
theorem obj_new (E : EnvOk X.K C H σ sl O) {o : HO} {d : PyData} {p : Addr} (hp : H p = none) (r : ObjR X.K (cut (O ++ C.M) H) o d) : ObjR X.K (cut (p :: (O ++ C.M)) (upd H p o)) o d := r.mono (cut_same fun a u na x => by
  refine ⟨fun z => ?_, ?_⟩
  · rcases List.mem_cons.mp z with rfl | z
    · rw [hp] at x; cases x
    · exact na z
  · rw [upd_ne (ne_of_none x hp)]; exact x)
theorem en_cat {xs ys : List PyData} (ha : EV C X a sl (is (.list xs))) (hb : EV C X b sl (is (.list ys))) (hz : xs.length + ys.length ≤ 1000000) : EVN C X (.BinOp a .Add b pos) sl (is (.list (xs ++ ys))) := fun σ H O E Q k =>
  ofE (pe_op op_cat (pe_c a) (pe_c b)) (ha σ H O E _ fun x H1 dx px t1 r1 => hb σ H1 O (E.tr t1) _ fun y H2 dy py t2 r2 => by
    have px : dx = .list xs := px
    have py : dy = .list ys := py
    subst px py
    obtain ⟨p1, vs, rfl, h1, s1⟩ := (r1.mono (t2.cutS O)).lst_inv
    obtain ⟨p2, ws, rfl, h2, s2⟩ := r2.lst_inv
    refine ⟨p1, p2, vs, ws, rfl, rfl, (cut_some h1).2, (cut_some h2).2, ?_, fun p hp => ?_⟩
    · rw [s1.length, s2.length]; exact Nat.le_trans hz (by decide)
    · have E2 := (E.tr t1).tr t2
      exact k p _ _ _ rfl ((t1.trans t2).trans (Tr.new hp)) ((t1.trans t2).none hp fun e => (E2.fresh hp).2 (C.hst p e)) upd_same (obj_new E2 hp (.lst (s1.append s2))))
theorem ev_catT {xs ys : List PyData} (ha : EV C X a sl (is (.tuple xs))) (hb : EV C X b sl (is (.tuple ys))) (h0 : xs ≠ []) (hz : xs.length + ys.length ≤ 1000000) : EV C X (.BinOp a .Add b pos) sl (is (.tuple (xs ++ ys))) :=
  ev_op op_catT ha hb fun σ H O x y dx dy E px py rx ry Q k => by
    have px : dx = .tuple xs := px
    have py : dy = .tuple ys := py
    subst px py
    obtain ⟨p1, vs, rfl, h1, s1⟩ := rx.tup_inv
    obtain ⟨p2, ws, rfl, h2, s2⟩ := ry.tup_inv
    refine ⟨p1, p2, vs, ws, rfl, rfl, SqT.of (cut_some h1).2, SqT.of (cut_some h2).2, fun e => ?_, ?_, fun e => ?_, fun _ p hp => ?_⟩
    · subst e; cases s1; exact h0 rfl
    · rw [s1.length, s2.length]; exact Nat.le_trans hz (by decide)
    · subst e
      cases s2
      rw [List.append_nil] at k
      exact k _ H _ rfl (Tr.refl H) rx
    · have n := E.fresh hp
      have e1 : Same (cut (O ++ C.M) H) (cut (O ++ C.M) (upd H p (.tup (vs ++ ws)))) := (Tr.new (C := C) hp).cutS O
      refine k _ _ _ rfl (Tr.new hp) (.obj ?_ (.tup ((s1.append s2).mono e1)))
      rw [cut_out (by intro z; exact (List.mem_append.mp z).elim n.1 n.2), upd_same]
end
end DL
/-! Comparisons, tests, subscripts, slices, built-ins. -/
namespace DL
open PySem PySem.Spec PyProof.Rows L2
def cW (X : Cx) (e : Expr) : TT := fun σ H Q => ∀ (whole : Sem Value) (pins : List (Addr × Obj)) (s : Shared), Inv X pins σ H s → wpAny (model X.prog X.w) X.A (isTrue e X.env whole) (TP X pins σ Q) X.xe s
theorem pw_c {X : Cx} (e : Expr) : PW X e (cW X e) := ⟨fun whole pins s _ _ _ I h => h whole pins s I⟩
theorem ofW {X : Cx} {e : Expr} {t : TT} {σ : L2.St} {H : Hp} {Q : Bool → Hp → Prop} (p : PW X e t) (h : t σ H Q) : cW X e σ H Q := fun whole pins s I => p.run whole pins s σ H Q I h
def EVW (C : Cfg) (X : Cx) (e : Expr) (sl : List Sl) (P : Bool → Prop) : Prop :=
  ∀ (σ : L2.St) (H : Hp) (O : List Addr), EnvOk X.K C H σ sl O → ∀ Q : Bool → Hp → Prop, (∀ b H', P b → Tr C H H' → Q b H') → cW X e σ H Q
def cO (X : Cx) (e : Option Expr) : TO := fun σ H Q => ∀ (pins : List (Addr × Obj)) (s : Shared), Inv X pins σ H s → wpAny (model X.prog X.w) X.A (evalPart e X.env) (fun u s' => ∃ o H', Inv X pins σ H' s' ∧ IsPart u o ∧ Q o H') X.xe s
theorem po_c {X : Cx} (e : Option Expr) : PO X e (cO X e) := ⟨fun pins s _ _ _ I h => h pins s I⟩
theorem ofO {X : Cx} {e : Option Expr} {t : TO} {σ : L2.St} {H : Hp} {Q : Option Int → Hp → Prop} (p : PO X e t) (h : t σ H Q) : cO X e σ H Q := fun pins s I => p.run pins s σ H Q I h
def EVO (C : Cfg) (X : Cx) (e : Option Expr) (sl : List Sl) (o : Option Int) : Prop :=
  ∀ (σ : L2.St) (H : Hp) (O : List Addr), EnvOk X.K C H σ sl O → ∀ Q : Option Int → Hp → Prop, (∀ H', Tr C H H' → Q o H') → cO X e σ H Q

section
variable {C : Cfg} {X : Cx} {e a b c : Expr} {es : List Expr} {sl : List Sl} {P P' Pa Pb Pc : PyData → Prop} {pos : Pos} {K : PySem.W.Frag} {H H' : Hp} {σ : L2.St} {O : List Addr} {i j : Int}
/-! ### comparisons -/
/-- a comparison whose answer is a bool that hangs on the data alone -/
theorem et_cmp {op : CmpOp} {r : R2} {T : Bool → Prop} (ho : OpR X (compareOp op) r) (ha : EV C X a sl Pa) (hb : EVB C X b sl Pb) (hm : behindInMarks op b = false)
    (hr : ∀ H x y dx dy, Pa dx → Pb dy → Rep X.K H x dx → Rep X.K H y dy → ∃ t, T t ∧ ∀ Q : VK, Q (.bl t) H → r x y H Q) : EVT C X (.Compare a [op] [b] pos) sl T := fun σ H O E Q k =>
  ofT (pt_cmpR ho (pe_c a) (pe_c b) hm) (ha σ H O E _ fun x H1 dx px t1 r1 => hb σ H1 O (E.tr t1) _ fun y H2 dy py t2 r2 => by
    obtain ⟨t, pt, q⟩ := hr H2 x y dx dy px py ((r1.mono (t2.cutS O)).mono (cut_le _ _)) r2
    exact q _ ⟨t, rfl, k t H2 pt (t1.trans t2)⟩)
theorem ev_cmp {op : CmpOp} {r : R2} {T : Bool → Prop} (ho : OpR X (compareOp op) r) (ha : EV C X a sl Pa) (hb : EVB C X b sl Pb) (hm : behindInMarks op b = false)
    (hr : ∀ H x y dx dy, Pa dx → Pb dy → Rep X.K H x dx → Rep X.K H y dy → ∃ t, T t ∧ ∀ Q : VK, Q (.bl t) H → r x y H Q) : EV C X (.Compare a [op] [b] pos) sl (fun d => ∃ t, T t ∧ d = .bool t) := fun σ H O E Q k =>
  ofE (pe_cmpR ho (pe_c a) (pe_c b) hm) (ha σ H O E _ fun x H1 dx px t1 r1 => hb σ H1 O (E.tr t1) _ fun y H2 dy py t2 r2 => by
    obtain ⟨t, pt, q⟩ := hr H2 x y dx dy px py ((r1.mono (t2.cutS O)).mono (cut_le _ _)) r2
    exact q _ (k _ H2 _ ⟨t, pt, rfl⟩ (t1.trans t2) (.bl t)))
/-- the same where the left side, too, may be the def's own -/
theorem et_cmpB {op : CmpOp} {r : R2} {T : Bool → Prop} (ho : OpR X (compareOp op) r) (i : Nat) {x : Str} {d : PyData} {px : Pos} (hs : sl[i]? = some (.own d)) (hN : X.N[i]? = some x) (hv : Vis X.env.scope x) (hb : EVB C X b sl Pb) (hm : behindInMarks op b = false)
    (hr : ∀ H x y dy, Pb dy → Rep X.K H x d → Rep X.K H y dy → ∃ t, T t ∧ ∀ Q : VK, Q (.bl t) H → r x y H Q)
    (hd : (x == ("__debug__" : Str)) = false := by decide) (hcd : (x == ("__classdict__" : Str)) = false := by decide) : EVT C X (.Compare (.Name x px) [op] [b] pos) sl T := fun σ H O E Q k => by
  obtain ⟨p, o, h1, h2, h3, h4⟩ := E.own hs
  refine ofT (pt_cmpR ho (pe_var hN hv hd hcd) (pe_c b) hm) ⟨.ref p, h1, hb σ H O E _ fun y H2 dy py t2 r2 => ?_⟩
  have h2' : H2 p = some o := t2.keep _ _ (E.notSt h4) h2
  obtain ⟨t, pt, q⟩ := hr H2 (.ref p) y dy py (.obj h2' ((h3.mono (t2.cutS O)).mono (cut_le _ _))) r2
  exact q _ ⟨t, rfl, k t H2 pt t2⟩
theorem i2b {g : Int → Int → Bool} : ∀ (H : Hp) (x y : V) (dx dy : PyData), is (.int i) dx → is (.int j) dy → Rep X.K H x dx → Rep X.K H y dy → ∃ t, isB (g i j) t ∧ ∀ Q : VK, Q (.bl t) H → rI0 (fun i j => .bl (g i j)) x y H Q := fun H x y dx dy px py rx ry => by
  have px : dx = .int i := px
  have py : dy = .int j := py
  subst px py
  exact ⟨g i j, rfl, fun Q q => ⟨i, j, rx.int_inv, ry.int_inv, q⟩⟩
theorem et_lt (ha : EV C X a sl (is (.int i))) (hb : EV C X b sl (is (.int j))) : EVT C X (.Compare a [.Lt] [b] pos) sl (isB (decide (i < j))) := et_cmp op_lt ha hb.bo (nomark _) (i2b (g := fun i j => decide (i < j)))
theorem et_le (ha : EV C X a sl (is (.int i))) (hb : EV C X b sl (is (.int j))) : EVT C X (.Compare a [.LtE] [b] pos) sl (isB (decide (i ≤ j))) := et_cmp op_le ha hb.bo (nomark _) (i2b (g := fun i j => decide (i ≤ j)))
theorem et_gt (ha : EV C X a sl (is (.int i))) (hb : EV C X b sl (is (.int j))) : EVT C X (.Compare a [.Gt] [b] pos) sl (isB (decide (j < i))) := et_cmp op_gt ha hb.bo (nomark _) (i2b (g := fun i j => decide (j < i)))
theorem et_ge (ha : EV C X a sl (is (.int i))) (hb : EV C X b sl (is (.int j))) : EVT C X (.Compare a [.GtE] [b] pos) sl (isB (decide (j ≤ i))) := et_cmp op_ge ha hb.bo (nomark _) (i2b (g := fun i j => decide (j ≤ i)))
theorem rel_eqD {d1 d2 : PyData} (s1 : SeqAt.shaped d1 = true) (s2 : SeqAt.shaped d2 = true) : ∀ (H : Hp) (x y : V) (dx dy : PyData), is d1 dx → is d2 dy → Rep X.K H x dx → Rep X.K H y dy → ∃ t, isB (PyData.eqv d1 d2) t ∧ ∀ Q : VK, Q (.bl t) H → rEqD X.K x y H Q := fun H x y dx dy px py rx ry => by
  have px : dx = d1 := px
  have py : dy = d2 := py
  subst px py
  refine ⟨_, rfl, fun Q q => ⟨dx, dy, Rep.dp _ _ rx ?_, Rep.dp _ _ ry ?_, s1, s2, q⟩⟩
  · unfold SeqAt.shaped at s1; exact (Bool.and_eq_true _ _ ▸ s1).1
  · unfold SeqAt.shaped at s2; exact (Bool.and_eq_true _ _ ▸ s2).1
theorem rel_neD {d1 d2 : PyData} (s1 : SeqAt.shaped d1 = true) (s2 : SeqAt.shaped d2 = true) : ∀ (H : Hp) (x y : V) (dx dy : PyData), is d1 dx → is d2 dy → Rep X.K H x dx → Rep X.K H y dy → ∃ t, isB (!PyData.eqv d1 d2) t ∧ ∀ Q : VK, Q (.bl t) H → rNeD X.K x y H Q := fun H x y dx dy px py rx ry => by
  have px : dx = d1 := px
  have py : dy = d2 := py
  subst px py
  refine ⟨_, rfl, fun Q q => ⟨dx, dy, Rep.dp _ _ rx ?_, Rep.dp _ _ ry ?_, s1, s2, q⟩⟩
  · unfold SeqAt.shaped at s1; exact (Bool.and_eq_true _ _ ▸ s1).1
  · unfold SeqAt.shaped at s2; exact (Bool.and_eq_true _ _ ▸ s2).1
/-- == and != of data -/
theorem et_eq (hu : X.A.units + 64 < cLine) {d1 d2 : PyData} (ha : EV C X a sl (is d1)) (hb : EVB C X b sl (is d2)) (s1 : SeqAt.shaped d1 = true) (s2 : SeqAt.shaped d2 = true) : EVT C X (.Compare a [.Eq] [b] pos) sl (isB (PyData.eqv d1 d2)) :=
  et_cmp (op_eqD hu) ha hb (nomark _) (rel_eqD s1 s2)
theorem et_ne (hu : X.A.units + 64 < cLine) {d1 d2 : PyData} (ha : EV C X a sl (is d1)) (hb : EVB C X b sl (is d2)) (s1 : SeqAt.shaped d1 = true) (s2 : SeqAt.shaped d2 = true) : EVT C X (.Compare a [.NotEq] [b] pos) sl (isB (!PyData.eqv d1 d2)) :=
  et_cmp (op_neD hu) ha hb (nomark _) (rel_neD s1 s2)
/-- of two ints -/
theorem i2eq : ∀ (H : Hp) (x y : V) (dx dy : PyData), is (.int i) dx → is (.int j) dy → Rep X.K H x dx → Rep X.K H y dy → ∃ t, isB (decide (i = j)) t ∧ ∀ Q : VK, Q (.bl t) H → rEq x y H Q := fun H x y dx dy px py rx ry => by
  have px : dx = .int i := px
  have py : dy = .int j := py
  subst px py
  rw [rx.int_inv, ry.int_inv]
  refine ⟨decide (i = j), rfl, fun Q q => ⟨rfl, ?_⟩⟩
  have e : decide (V.int i = V.int j) = decide (i = j) := by simp
  rw [e]; exact q
theorem i2ne : ∀ (H : Hp) (x y : V) (dx dy : PyData), is (.int i) dx → is (.int j) dy → Rep X.K H x dx → Rep X.K H y dy → ∃ t, isB (decide (i ≠ j)) t ∧ ∀ Q : VK, Q (.bl t) H → rNe x y H Q := fun H x y dx dy px py rx ry => by
  have px : dx = .int i := px
  have py : dy = .int j := py
  subst px py
  rw [rx.int_inv, ry.int_inv]
  refine ⟨decide (i ≠ j), rfl, fun Q q => ⟨rfl, ?_⟩⟩
  have e : (!decide (V.int i = V.int j)) = decide (i ≠ j) := by simp
  rw [e]; exact q
theorem et_eqI (ha : EV C X a sl (is (.int i))) (hb : EV C X b sl (is (.int j))) : EVT C X (.Compare a [.Eq] [b] pos) sl (isB (decide (i = j))) := et_cmp op_eq ha hb.bo (nomark _) i2eq
theorem et_neI (ha : EV C X a sl (is (.int i))) (hb : EV C X b sl (is (.int j))) : EVT C X (.Compare a [.NotEq] [b] pos) sl (isB (decide (i ≠ j))) := et_cmp op_ne ha hb.bo (nomark _) i2ne
theorem EV.bool {T : Bool → Prop} {t : Bool} (h : EV C X e sl (fun d => ∃ t, T t ∧ d = .bool t)) (k : ∀ u, T u → u = t) : EV C X e sl (is (.bool t)) := h.imp fun d p => by
  obtain ⟨u, p1, rfl⟩ := p
  rw [k u p1]
theorem ev_eqI (ha : EV C X a sl (is (.int i))) (hb : EV C X b sl (is (.int j))) : EV C X (.Compare a [.Eq] [b] pos) sl (is (.bool (decide (i = j)))) := (ev_cmp op_eq ha hb.bo (nomark _) i2eq).bool fun _ p => p
theorem ev_neI (ha : EV C X a sl (is (.int i))) (hb : EV C X b sl (is (.int j))) : EV C X (.Compare a [.NotEq] [b] pos) sl (is (.bool (decide (i ≠ j)))) := (ev_cmp op_ne ha hb.bo (nomark _) i2ne).bool fun _ p => p
theorem ev_lt (ha : EV C X a sl (is (.int i))) (hb : EV C X b sl (is (.int j))) : EV C X (.Compare a [.Lt] [b] pos) sl (is (.bool (decide (i < j)))) := (ev_cmp op_lt ha hb.bo (nomark _) (i2b (g := fun i j => decide (i < j)))).bool fun _ p => p
theorem ev_le (ha : EV C X a sl (is (.int i))) (hb : EV C X b sl (is (.int j))) : EV C X (.Compare a [.LtE] [b] pos) sl (is (.bool (decide (i ≤ j)))) := (ev_cmp op_le ha hb.bo (nomark _) (i2b (g := fun i j => decide (i ≤ j)))).bool fun _ p => p
theorem ev_eq (hu : X.A.units + 64 < cLine) {d1 d2 : PyData} (ha : EV C X a sl (is d1)) (hb : EVB C X b sl (is d2)) (s1 : SeqAt.shaped d1 = true) (s2 : SeqAt.shaped d2 = true) : EV C X (.Compare a [.Eq] [b] pos) sl (is (.bool (PyData.eqv d1 d2))) :=
  (ev_cmp (op_eqD hu) ha hb (nomark _) (rel_eqD s1 s2)).bool fun _ p => p
theorem ev_ne (hu : X.A.units + 64 < cLine) {d1 d2 : PyData} (ha : EV C X a sl (is d1)) (hb : EVB C X b sl (is d2)) (s1 : SeqAt.shaped d1 = true) (s2 : SeqAt.shaped d2 = true) : EV C X (.Compare a [.NotEq] [b] pos) sl (is (.bool (!PyData.eqv d1 d2))) :=
  (ev_cmp (op_neD hu) ha hb (nomark _) (rel_neD s1 s2)).bool fun _ p => p
/-- x is True, x is False of a bool -/
theorem ev_isB {t u : Bool} (ha : EV C X a sl (is (.bool t))) (hb : EV C X b sl (is (.bool u))) : EV C X (.Compare a [.Is] [b] pos) sl (is (.bool (decide (t = u)))) := (ev_cmp (T := isB (decide (t = u))) op_isBl ha hb.bo (nomark _) (fun H x y dx dy px py rx ry => by
  have px : dx = .bool t := px
  have py : dy = .bool u := py
  subst px py
  exact ⟨_, rfl, fun Q q => ⟨t, u, rx.bl_inv, ry.bl_inv, q⟩⟩)).bool fun _ p => p
theorem et_isB {t u : Bool} (ha : EV C X a sl (is (.bool t))) (hb : EV C X b sl (is (.bool u))) : EVT C X (.Compare a [.Is] [b] pos) sl (isB (decide (t = u))) := et_cmp (T := isB (decide (t = u))) op_isBl ha hb.bo (nomark _) (fun H x y dx dy px py rx ry => by
  have px : dx = .bool t := px
  have py : dy = .bool u := py
  subst px py
  exact ⟨_, rfl, fun Q q => ⟨t, u, rx.bl_inv, ry.bl_inv, q⟩⟩)

/-! ### tests -/
theorem et_val {t : Bool} (h : EV C X e sl (is (.bool t))) (he : ∀ whole, isTrue e X.env whole = (do let v ← whole; standAt e.pos; holding [v] (truthy v)) := by intro _; rfl) : EVT C X e sl (isB t) := fun σ H O E Q k =>
  ofT (pt_val (pe_c e) he) (h σ H O E _ fun v H1 d p t1 r1 => by
    have p : d = .bool t := p
    subst p
    exact ⟨t, r1.bl_inv, k t H1 rfl t1⟩)
theorem et_valP {T : Bool → Prop} (h : EV C X e sl (fun d => ∃ t, T t ∧ d = .bool t)) (he : ∀ whole, isTrue e X.env whole = (do let v ← whole; standAt e.pos; holding [v] (truthy v)) := by intro _; rfl) : EVT C X e sl T := fun σ H O E Q k =>
  ofT (pt_val (pe_c e) he) (h σ H O E _ fun v H1 d p t1 r1 => by
    obtain ⟨t, pt, rfl⟩ := p
    exact ⟨t, r1.bl_inv, k t H1 pt t1⟩)
theorem et_not {t : Bool} (h : EVT C X a sl (isB t)) : EVT C X (.UnaryOp .Not a pos) sl (isB (!t)) := fun σ H O E Q k => ofT (pt_not (pt_c a)) (h σ H O E _ fun b H1 p t1 => by
  have p : b = t := p
  subst p
  exact k _ H1 rfl t1)
theorem ev_not {t : Bool} (h : EV C X a sl (is (.bool t))) : EV C X (.UnaryOp .Not a pos) sl (is (.bool (!t))) := fun σ H O E Q k => ofE (pe_not (pe_c a)) (h σ H O E _ fun v H1 d p t1 r1 => by
  have p : d = .bool t := p
  subst p
  exact ⟨t, r1.bl_inv, k _ H1 _ rfl t1 (.bl _)⟩)
theorem ew_and1 {t : Bool} (h : EVT C X a sl (isB t)) : EVW C X (.BoolOp .And [a] pos) sl (isB t) := fun σ H O E Q k => ofW (pw_and1 (pt_c a)) (h σ H O E Q k)
theorem ew_or1 {t : Bool} (h : EVT C X a sl (isB t)) : EVW C X (.BoolOp .Or [a] pos) sl (isB t) := fun σ H O E Q k => ofW (pw_or1 (pt_c a)) (h σ H O E Q k)
theorem ew_and {t u : Bool} (h : EVT C X a sl (isB t)) (h2 : t = true → EVW C X (.BoolOp .And (b :: es) pos) sl (isB u)) : EVW C X (.BoolOp .And (a :: b :: es) pos) sl (isB (t && u)) := fun σ H O E Q k =>
  ofW (pw_and (pt_c a) (pw_c _)) (h σ H O E _ fun c H1 p t1 => by
    have p : c = t := p
    subst p
    cases c with
    | true =>
      show cW X (.BoolOp .And (b :: es) pos) σ H1 Q
      exact h2 rfl σ H1 O (E.tr t1) Q fun d H2 p2 t2 => by
        have p2 : d = u := p2
        subst p2
        exact k _ H2 (by simp) (t1.trans t2)
    | false =>
      show Q false H1
      exact k _ H1 (by simp) t1)
theorem ew_or {t u : Bool} (h : EVT C X a sl (isB t)) (h2 : t = false → EVW C X (.BoolOp .Or (b :: es) pos) sl (isB u)) : EVW C X (.BoolOp .Or (a :: b :: es) pos) sl (isB (t || u)) := fun σ H O E Q k =>
  ofW (pw_or (pt_c a) (pw_c _)) (h σ H O E _ fun c H1 p t1 => by
    have p : c = t := p
    subst p
    cases c with
    | false => 
      show cW X (.BoolOp .Or (b :: es) pos) σ H1 Q
      exact h2 rfl σ H1 O (E.tr t1) Q fun d H2 p2 t2 => by
        have p2 : d = u := p2
        subst p2
        exact k _ H2 (by simp) (t1.trans t2)
    | true =>
      show Q true H1
      exact k _ H1 (by simp) t1)
theorem EVW.t {T : Bool → Prop} (h : EVW C X e sl T) : EVT C X e sl T := fun σ H O E Q k => ofT (pw_c e).pt (h σ H O E Q k)
theorem ev_one {op : BoolOp} (h : EV C X a sl P) : EV C X (.BoolOp op [a] pos) sl P := fun σ H O E Q k => ofE (pe_one (pe_c a)) (h σ H O E Q k)
theorem ev_and {t u : Bool} (h : EV C X a sl (is (.bool t))) (h2 : t = true → EV C X (.BoolOp .And (b :: es) pos) sl (is (.bool u))) : EV C X (.BoolOp .And (a :: b :: es) pos) sl (is (.bool (t && u))) := fun σ H O E Q k =>
  ofE (pe_and (pe_c a) (pe_c _)) (h σ H O E _ fun v H1 d p t1 r1 => by
    have p : d = .bool t := p
    subst p
    refine ⟨t, r1.bl_inv, ?_⟩
    cases t with
    | true =>
      show cE X (.BoolOp .And (b :: es) pos) σ H1 Q
      exact h2 rfl σ H1 O (E.tr t1) Q fun v2 H2 d2 p2 t2 r2 => by
        have p2 : d2 = .bool u := p2
        subst p2
        exact k _ H2 _ (by simp) (t1.trans t2) r2
    | false =>
      show Q (.bl false) H1
      exact k _ H1 _ (by simp) t1 (.bl false))
theorem ev_or {t u : Bool} (h : EV C X a sl (is (.bool t))) (h2 : t = false → EV C X (.BoolOp .Or (b :: es) pos) sl (is (.bool u))) : EV C X (.BoolOp .Or (a :: b :: es) pos) sl (is (.bool (t || u))) := fun σ H O E Q k =>
  ofE (pe_or (pe_c a) (pe_c _)) (h σ H O E _ fun v H1 d p t1 r1 => by
    have p : d = .bool t := p
    subst p
    refine ⟨t, r1.bl_inv, ?_⟩
    cases t with
    | false =>
      show cE X (.BoolOp .Or (b :: es) pos) σ H1 Q
      exact h2 rfl σ H1 O (E.tr t1) Q fun v2 H2 d2 p2 t2 r2 => by
        have p2 : d2 = .bool u := p2
        subst p2
        exact k _ H2 _ (by simp) (t1.trans t2) r2
    | true =>
      show Q (.bl true) H1
      exact k _ H1 _ (by simp) t1 (.bl true))
theorem ev_ifE {t : Bool} (hc : EVT C X c sl (isB t)) (ha : t = true → EV C X a sl P) (hb : t = false → EV C X b sl P) : EV C X (.IfExp c a b pos) sl P := fun σ H O E Q k => ofE (pe_ifExp (pt_c c) (pe_c a) (pe_c b)) (hc σ H O E _ fun u H1 p t1 => by
  have p : u = t := p
  subst p
  cases u with
  | true =>
    show cE X a σ H1 Q
    exact ha rfl σ H1 O (E.tr t1) Q fun v H2 d p2 t2 r2 => k v H2 d p2 (t1.trans t2) r2
  | false =>
    show cE X b σ H1 Q
    exact hb rfl σ H1 O (E.tr t1) Q fun v H2 d p2 t2 r2 => k v H2 d p2 (t1.trans t2) r2)

/-! ### items, slices -/
theorem atI_rep {B : Hp} {vs : List V} {ds : List PyData} {d : PyData} (r : Reps K B vs ds) (h : atI ds i = some d) : ∃ v, atI vs i = some v ∧ Rep K B v d := by
  unfold atI at h ⊢
  rw [r.length]
  cases q : ixN ds.length i with
  | none => rw [q] at h; cases h
  | some j =>
    rw [q] at h
    exact r.get h
theorem ev_ixL {ds : List PyData} {d : PyData} (ha : EV C X a sl (is (.list ds))) (hb : EV C X b sl (is (.int i))) (h : atI ds i = some d) (hp : PlainIx b := by exact fun _ _ => rfl) : EV C X (.Subscript a b pos) sl (is d) := fun σ H O E Q k =>
  ofE (pe_ix ix_list (pe_c a) (pe_c b) hp) (ha σ H O E _ fun x H1 dx px t1 r1 => hb σ H1 O (E.tr t1) _ fun y H2 dy py t2 r2 => by
    have px : dx = .list ds := px
    have py : dy = .int i := py
    subst px py
    obtain ⟨p1, vs, rfl, h1, s1⟩ := (r1.mono (t2.cutS O)).lst_inv
    obtain ⟨v, h2, r3⟩ := atI_rep s1 h
    exact ⟨p1, vs, i, v, rfl, r2.int_inv, SqL.of (cut_some h1).2, h2, k v H2 d rfl (t1.trans t2) r3⟩)
theorem ev_ixT {ds : List PyData} {d : PyData} (ha : EV C X a sl (is (.tuple ds))) (hb : EV C X b sl (is (.int i))) (h : atI ds i = some d) (hp : PlainIx b := by exact fun _ _ => rfl) : EV C X (.Subscript a b pos) sl (is d) := fun σ H O E Q k =>
  ofE (pe_ix ix_tup (pe_c a) (pe_c b) hp) (ha σ H O E _ fun x H1 dx px t1 r1 => hb σ H1 O (E.tr t1) _ fun y H2 dy py t2 r2 => by
    have px : dx = .tuple ds := px
    have py : dy = .int i := py
    subst px py
    obtain ⟨p1, vs, rfl, h1, s1⟩ := (r1.mono (t2.cutS O)).tup_inv
    obtain ⟨v, h2, r3⟩ := atI_rep s1 h
    exact ⟨p1, vs, i, v, rfl, r2.int_inv, SqT.of (cut_some h1).2, h2, k v H2 d rfl (t1.trans t2) r3⟩)
/-- an item of the def's own list -/
theorem ev_ixO (n : Nat) {x : Str} {px : Pos} {ds : List PyData} {d : PyData} (hb : EV C X b sl (is (.int i))) (h : atI ds i = some d) (hs : sl[n]? = some (.own (.list ds)) := by rfl) (hN : X.N[n]? = some x := by rfl)
    (hv : Vis X.env.scope x := by first | exact Or.inl rfl | exact Or.inr (Or.inl rfl) | exact Or.inr (Or.inr rfl)) (hp : PlainIx b := by exact fun _ _ => rfl)
    (hd : (x == ("__debug__" : Str)) = false := by decide) (hcd : (x == ("__classdict__" : Str)) = false := by decide) : EV C X (.Subscript (.Name x px) b pos) sl (is d) := fun σ H O E Q k => by
  obtain ⟨p, o, h1, h2, h3, h4⟩ := E.own hs
  refine ofE (pe_ix ix_list (pe_var hN hv hd hcd) (pe_c b) hp) ⟨.ref p, h1, hb σ H O E _ fun y H2 dy py t2 r2 => ?_⟩
  have py : dy = .int i := py
  subst py
  cases h3 with
  | lst s1 =>
    obtain ⟨v, h5, r3⟩ := atI_rep (s1.mono (t2.cutS O)) h
    exact ⟨p, _, i, v, rfl, r2.int_inv, SqL.of (t2.keep _ _ (E.notSt h4) h2), h5, k v H2 d rfl t2 r3⟩
/-- the items of xs[lo:hi] -/
def cutL {α : Type} (xs : List α) (lo hi : Option Int) : List α := (xs.drop (HT.sIx xs.length 0 lo)).take (HT.sIx xs.length xs.length hi - HT.sIx xs.length 0 lo)
theorem cut_rep {B : Hp} {vs : List V} {ds : List PyData} (r : Reps K B vs ds) (lo hi : Option Int) : Reps K B (cutV vs lo hi) (cutL ds lo hi) := by
  unfold cutV cutL
  rw [r.length]
  exact (r.drop _).take _
theorem eo_none : EVO C X none sl none := fun σ H O E Q k => ofO po_none (k H (Tr.refl H))
theorem eo_some (h : EV C X e sl (is (.int i))) : EVO C X (some e) sl (some i) := fun σ H O E Q k => ofO (po_some (pe_c e)) (h σ H O E _ fun v H1 d p t1 r1 => by
  have p : d = .int i := p
  subst p
  exact ⟨i, r1.int_inv, k H1 t1⟩)
theorem en_slice {lo hi : Option Expr} {l u : Option Int} {p2 : Pos} {ds : List PyData} (ha : EV C X a sl (is (.list ds))) (hl : EVO C X lo sl l) (hh : EVO C X hi sl u) : EVN C X (.Subscript a (.Slice lo hi none p2) pos) sl (is (.list (cutL ds l u))) := fun σ H O E Q k =>
  ofE (pe_slice sl_list (pe_c a) (po_c lo) (po_c hi)) (ha σ H O E _ fun x H1 dx px t1 r1 => hl σ H1 O (E.tr t1) _ fun H2 t2 => hh σ H2 O ((E.tr t1).tr t2) _ fun H3 t3 => by
    have px : dx = .list ds := px
    subst px
    obtain ⟨p1, vs, rfl, h1, s1⟩ := ((r1.mono (t2.cutS O)).mono (t3.cutS O)).lst_inv
    have tt := (t1.trans t2).trans t3
    have E3 := E.tr tt
    exact ⟨p1, vs, rfl, SqL.of (cut_some h1).2, fun p hp => k p _ _ _ rfl (tt.trans (Tr.new hp)) (tt.none hp fun e => (E3.fresh hp).2 (C.hst p e)) upd_same (obj_new E3 hp (.lst (cut_rep s1 _ _)))⟩)
/-! ### displays, arguments -/
theorem ea_nil : EVA C X [] sl (isL []) := fun σ H O E Q k => ofA pa_nil (k [] H [] rfl (Tr.refl H) .nil)
theorem ea_consP {T : List PyData → Prop} (h : EV C X e sl P) (ht : EVA C X es sl T) (hs : starEach (e :: es) X.env = (false, eval e X.env) :: starEach es X.env := by rfl) : EVA C X (e :: es) sl (fun l => ∃ d ds, l = d :: ds ∧ P d ∧ T ds) := fun σ H O E Q k =>
  ofA (pa_cons (pe_c e) (pa_c es) hs) (h σ H O E _ fun v H1 d p t1 r1 => ht σ H1 O (E.tr t1) _ fun vs H2 ds pt t2 r2 => k _ H2 _ ⟨d, ds, rfl, p, pt⟩ (t1.trans t2) (.cons (r1.mono (t2.cutS O)) r2))
theorem EVA.imp {T T' : List PyData → Prop} (h : EVA C X es sl T) (k : ∀ d, T d → T' d) : EVA C X es sl T' := fun σ H O E Q q => h σ H O E Q fun v H' d p t r => q v H' d (k d p) t r
theorem ea_cons {d : PyData} {ds : List PyData} (h : EV C X e sl (is d)) (ht : EVA C X es sl (isL ds)) (hs : starEach (e :: es) X.env = (false, eval e X.env) :: starEach es X.env := by rfl) : EVA C X (e :: es) sl (isL (d :: ds)) :=
  (ea_consP h ht hs).imp fun l ⟨d', ds', e1, p, q⟩ => by
    have p : d' = d := p
    have q : ds' = ds := q
    rw [e1, p, q]
theorem ev_tupP {T : List PyData → Prop} {x1 : Nat} (h : EVA C X es sl T) (hz : ∀ ds, T ds → ds.length ≤ 100000) : EV C X (.Tuple es x1 pos) sl (fun d => ∃ ds, d = .tuple ds ∧ T ds) := fun σ H O E Q k =>
  ofE (pe_tup (pa_c es)) (h σ H O E _ fun vs H1 ds p t1 r1 => by
    have E1 := E.tr t1
    refine ⟨by rw [r1.length]; exact Nat.le_trans (hz ds p) (by decide), fun q hq => k _ _ _ ⟨ds, rfl, p⟩ (t1.trans (Tr.new hq)) (.obj ?_ (.tup (r1.mono ((Tr.new (C := C) hq).cutS O))))⟩
    rw [cut_out (by intro z; exact (List.mem_append.mp z).elim (E1.fresh hq).1 (E1.fresh hq).2), upd_same])
theorem ev_tup {ds : List PyData} {x1 : Nat} (h : EVA C X es sl (isL ds)) (hz : ds.length ≤ 100000 := by first | decide | (simp only [List.length_cons, List.length_nil]; decide)) : EV C X (.Tuple es x1 pos) sl (is (.tuple ds)) := (ev_tupP h (fun d p => by have p : d = ds := p; rw [p]; exact hz)).imp fun d ⟨ds', e1, p⟩ => by
  have p : ds' = ds := p
  rw [e1, p]
theorem en_lst {ds : List PyData} (h : EVA C X es sl (isL ds)) (hz : ds.length ≤ 100000 := by first | decide | (simp only [List.length_cons, List.length_nil]; decide)) : EVN C X (.List es pos) sl (is (.list ds)) := fun σ H O E Q k =>
  ofE (pe_lst (pa_c es)) (h σ H O E _ fun vs H1 ds' p t1 r1 => by
    have p : ds' = ds := p
    subst p
    have E1 := E.tr t1
    exact ⟨by rw [r1.length]; exact Nat.le_trans hz (by decide), fun q hq => k q _ _ _ rfl (t1.trans (Tr.new hq)) (t1.none hq fun e => (E1.fresh hq).2 (C.hst q e)) upd_same (obj_new E1 hq (.lst r1))⟩)
end
end DL
/-! Calls, comprehensions. -/
namespace DL
open PySem PySem.Spec PyProof.Rows L2
section
variable {C : Cfg} {X : Cx} {e a b c : Expr} {es : List Expr} {sl : List Sl} {P P' Pa Pb Pc : PyData → Prop} {pos p : Pos} {K : PySem.W.Frag} {H H' : Hp} {σ : L2.St} {O : List Addr} {i j : Int} {x : Str}
/-! ### built-ins by name -/
theorem ev_cb1 {id : String} {r : List V → Hp → VK → Prop} (hc : CallR X (.builtin id) r) (hg : Gl X x) (hm : X.mg x = none) (hv : bootBuiltins x = some (.builtin id)) (h : EVB C X e sl P)
    (hr : ∀ σ H O y dy, EnvOk X.K C H σ sl O → P dy → Rep X.K H y dy → ∀ Q : VK, (∀ v H' d, P' d → Tr C H H' → Rep X.K (cut (O ++ C.M) H') v d → Q v H') → r [y] H Q)
    (hn : x ≠ "__name__" := by decide) (hdb : (x == ("__debug__" : Str)) = false := by decide)
    (he : starEach [e] X.env = (false, eval e X.env) :: starEach [] X.env := by rfl) : EV C X (.Call (.Name x p) [e] [] pos) sl P' := fun σ H O E Q k =>
  ofE (pe_callB hc hg hm hv (pa_cons (pe_c e) pa_nil he) hn hdb he (by rfl)) (h σ H O E _ fun y H1 dy py t1 r1 => hr σ H1 O y dy (E.tr t1) py r1 Q fun v H2 d pd t2 r2 => k v H2 d pd (t1.trans t2) r2)
theorem ev_ct1 {T : String} {r : List V → Hp → VK → Prop} (hc : CallR X (.type T) r) (hg : Gl X x) (hm : X.mg x = none) (hv : bootBuiltins x = some (.type T)) (h : EVB C X e sl P)
    (hr : ∀ σ H O y dy, EnvOk X.K C H σ sl O → P dy → Rep X.K H y dy → ∀ Q : VK, (∀ v H' d, P' d → Tr C H H' → Rep X.K (cut (O ++ C.M) H') v d → Q v H') → r [y] H Q)
    (hn : x ≠ "__name__" := by decide) (hdb : (x == ("__debug__" : Str)) = false := by decide)
    (he : starEach [e] X.env = (false, eval e X.env) :: starEach [] X.env := by rfl) : EV C X (.Call (.Name x p) [e] [] pos) sl P' := fun σ H O E Q k =>
  ofE (pe_callTy hc hg hm hv (pa_cons (pe_c e) pa_nil he) hn hdb he (by rfl)) (h σ H O E _ fun y H1 dy py t1 r1 => hr σ H1 O y dy (E.tr t1) py r1 Q fun v H2 d pd t2 r2 => k v H2 d pd (t1.trans t2) r2)
theorem ev_lenL {ds : List PyData} (hm : X.mg "len" = none) (h : EVB C X e sl (is (.list ds))) (hg : Gl X "len" := by rfl) (he : starEach [e] X.env = (false, eval e X.env) :: starEach [] X.env := by rfl) :
    EV C X (.Call (.Name "len" p) [e] [] pos) sl (is (.int ds.length)) := ev_cb1 call_len_seq hg hm PySem.boot_len h (fun σ H O y dy E py ry Q k => by
  have py : dy = .list ds := py
  subst py
  obtain ⟨q, vs, rfl, h1, s1⟩ := ry.lst_inv
  exact ⟨q, vs, rfl, .inl (SqL.of h1), by rw [s1.length]; exact k _ H _ rfl (Tr.refl H) (.int _)⟩) (by decide) (by decide) he
theorem ev_lenT {ds : List PyData} (hm : X.mg "len" = none) (h : EVB C X e sl (is (.tuple ds))) (hg : Gl X "len" := by rfl) (he : starEach [e] X.env = (false, eval e X.env) :: starEach [] X.env := by rfl) :
    EV C X (.Call (.Name "len" p) [e] [] pos) sl (is (.int ds.length)) := ev_cb1 call_len_seq hg hm PySem.boot_len h (fun σ H O y dy E py ry Q k => by
  have py : dy = .tuple ds := py
  subst py
  obtain ⟨q, vs, rfl, h1, s1⟩ := ry.tup_inv
  exact ⟨q, vs, rfl, .inr (SqT.of h1), by rw [s1.length]; exact k _ H _ rfl (Tr.refl H) (.int _)⟩) (by decide) (by decide) he
/-- int(x) of an int -/
theorem ev_toInt (hm : X.mg "int" = none) (h : EV C X e sl (is (.int i))) (hg : Gl X "int" := by rfl) (he : starEach [e] X.env = (false, eval e X.env) :: starEach [] X.env := by rfl) :
    EV C X (.Call (.Name "int" p) [e] [] pos) sl (is (.int i)) := ev_ct1 call_int1 hg hm boot_int h.bo (fun σ H O y dy E py ry Q k => by
  have py : dy = .int i := py
  subst py
  exact .inl ⟨i, by rw [ry.int_inv], k _ H _ rfl (Tr.refl H) (.int _)⟩) (by decide) (by decide) he
theorem ev_all {bs : List Bool} (hc : X.calm = true) (hm : X.mg "all" = none) (h : EVB C X e sl (is (.list (bs.map PyData.bool)))) (hg : Gl X "all" := by rfl) (he : starEach [e] X.env = (false, eval e X.env) :: starEach [] X.env := by rfl) :
    EV C X (.Call (.Name "all" p) [e] [] pos) sl (is (.bool (bs.all id))) := ev_cb1 (cr_all hc) hg hm (by decide +kernel) h (fun σ H O y dy E py ry Q k => by
  have py : dy = .list (bs.map PyData.bool) := py
  subst py
  obtain ⟨q, vs, rfl, h1, s1⟩ := ry.lst_inv
  rw [s1.bls] at h1
  exact ⟨q, bs, rfl, SqL.of h1, k _ H _ rfl (Tr.refl H) (.bl _)⟩) (by decide) (by decide) he
theorem ev_any {bs : List Bool} (hc : X.calm = true) (hm : X.mg "any" = none) (h : EVB C X e sl (is (.list (bs.map PyData.bool)))) (hg : Gl X "any" := by rfl) (he : starEach [e] X.env = (false, eval e X.env) :: starEach [] X.env := by rfl) :
    EV C X (.Call (.Name "any" p) [e] [] pos) sl (is (.bool (bs.any id))) := ev_cb1 (cr_any hc) hg hm (by decide +kernel) h (fun σ H O y dy E py ry Q k => by
  have py : dy = .list (bs.map PyData.bool) := py
  subst py
  obtain ⟨q, vs, rfl, h1, s1⟩ := ry.lst_inv
  rw [s1.bls] at h1
  exact ⟨q, bs, rfl, SqL.of h1, k _ H _ rfl (Tr.refl H) (.bl _)⟩) (by decide) (by decide) he
/-- max of a list of ints -/
theorem ev_maxL {ns : List Int} {m : Int} (hc : X.calm = true) (hm : X.mg "max" = none) (h : EVB C X e sl (is (.list (ns.map PyData.int)))) (hne : 0 < ns.length) (hmx : ∀ k, k ∈ ns → (∀ y, y ∈ ns → y ≤ k) → k = m)
    (hg : Gl X "max" := by rfl) (he : starEach [e] X.env = (false, eval e X.env) :: starEach [] X.env := by rfl) :
    EV C X (.Call (.Name "max" p) [e] [] pos) sl (is (.int m)) := ev_cb1 (cr_max hc) hg hm (by decide +kernel) h (fun σ H O y dy E py ry Q k => by
  have py : dy = .list (ns.map PyData.int) := py
  subst py
  obtain ⟨q, vs, rfl, h1, s1⟩ := ry.lst_inv
  rw [s1.ints] at h1
  exact ⟨q, ns, rfl, SqL.of h1, hne, fun m' h1 h2 => by rw [hmx m' h1 h2]; exact k _ H _ rfl (Tr.refl H) (.int _)⟩) (by decide) (by decide) he
theorem ev_max2 (hc : X.calm = true) (hm : X.mg "max" = none) (ha : EV C X a sl (is (.int i))) (hb : EV C X b sl (is (.int j))) (hg : Gl X "max" := by rfl)
    (he : starEach [a, b] X.env = (false, eval a X.env) :: starEach [b] X.env := by rfl) (he2 : starEach [b] X.env = (false, eval b X.env) :: starEach [] X.env := by rfl) (hpl : (backTo pos (starEach [b] X.env)).any (·.1) = false := by rfl) :
    EV C X (.Call (.Name "max" p) [a, b] [] pos) sl (is (.int (if j > i then j else i))) := fun σ H O E Q k =>
  ofE (pe_callB (call_max2 hc) hg hm (by decide +kernel) (pa_cons (pe_c a) (pa_cons (pe_c b) pa_nil he2) he) (by decide) (by decide) he hpl) (ha σ H O E _ fun y H1 dy py t1 r1 => hb σ H1 O (E.tr t1) _ fun z H2 dz pz t2 r2 => by
    have py : dy = .int i := py
    have pz : dz = .int j := pz
    subst py pz
    exact ⟨i, j, by rw [r1.int_inv, r2.int_inv], k _ H2 _ rfl (t1.trans t2) (.int _)⟩)
theorem ev_min2 (hc : X.calm = true) (hm : X.mg "min" = none) (ha : EV C X a sl (is (.int i))) (hb : EV C X b sl (is (.int j))) (hg : Gl X "min" := by rfl)
    (he : starEach [a, b] X.env = (false, eval a X.env) :: starEach [b] X.env := by rfl) (he2 : starEach [b] X.env = (false, eval b X.env) :: starEach [] X.env := by rfl) (hpl : (backTo pos (starEach [b] X.env)).any (·.1) = false := by rfl) :
    EV C X (.Call (.Name "min" p) [a, b] [] pos) sl (is (.int (if j < i then j else i))) := fun σ H O E Q k =>
  ofE (pe_callB (call_min2 hc) hg hm (by decide +kernel) (pa_cons (pe_c a) (pa_cons (pe_c b) pa_nil he2) he) (by decide) (by decide) he hpl) (ha σ H O E _ fun y H1 dy py t1 r1 => hb σ H1 O (E.tr t1) _ fun z H2 dz pz t2 r2 => by
    have py : dy = .int i := py
    have pz : dz = .int j := pz
    subst py pz
    exact ⟨i, j, by rw [r1.int_inv, r2.int_inv], k _ H2 _ rfl (t1.trans t2) (.int _)⟩)
/-- math.lcm of two ints -/
def rLcm : List V → Hp → VK → Prop := fun vs H Q => ∃ a b : Int, vs = [.int a, .int b] ∧ a.natAbs < 2 ^ 64 ∧ b.natAbs < 2 ^ 64 ∧ Q (.int ((Nat.lcm a.natAbs b.natAbs : Nat) : Int)) H
theorem cr_lcm : CallR X (.builtin "math.lcm") rLcm := by
  intro pins s σ H vs us Q I r h
  obtain ⟨a, b, rfl, ha, hb, q⟩ := h
  obtain ⟨t, u, rfl⟩ := Vals.int2 r
  exact PySem.W.mc_lcm ha hb fun _ => ⟨.int _, H, I.tok _, ⟨_, rfl⟩, q⟩
theorem ev_lcm (hm : X.mg x = some (.builtin "math.lcm")) (ha : EV C X a sl (is (.int i))) (hb : EV C X b sl (is (.int j))) (h1 : i.natAbs < 2 ^ 64) (h2 : j.natAbs < 2 ^ 64) (hg : Gl X x := by rfl) (hdb : (x == ("__debug__" : Str)) = false := by decide)
    (he : starEach [a, b] X.env = (false, eval a X.env) :: starEach [b] X.env := by rfl) (he2 : starEach [b] X.env = (false, eval b X.env) :: starEach [] X.env := by rfl) (hpl : (backTo pos (starEach [b] X.env)).any (·.1) = false := by rfl) :
    EV C X (.Call (.Name x p) [a, b] [] pos) sl (is (.int ((Nat.lcm i.natAbs j.natAbs : Nat) : Int))) := fun σ H O E Q k =>
  ofE (pe_callBfun cr_lcm hg hm (pa_cons (pe_c a) (pa_cons (pe_c b) pa_nil he2) he) hdb he hpl) (ha σ H O E _ fun y H1 dy py t1 r1 => hb σ H1 O (E.tr t1) _ fun z H2 dz pz t2 r2 => by
    have py : dy = .int i := py
    have pz : dz = .int j := pz
    subst py pz
    exact ⟨i, j, by rw [r1.int_inv, r2.int_inv], h1, h2, k _ H2 _ rfl (t1.trans t2) (.int _)⟩)
/-- list(xs) -/
theorem en_listOf {ds : List PyData} (hm : X.mg "list" = none) (h : EV C X e sl (fun d => d = .list ds ∨ d = .tuple ds)) (hg : Gl X "list" := by rfl) (he : starEach [e] X.env = (false, eval e X.env) :: starEach [] X.env := by rfl) :
    EVN C X (.Call (.Name "list" p) [e] [] pos) sl (is (.list ds)) := fun σ H O E Q k =>
  ofE (pe_callTy call_list_of hg hm boot_list (pa_cons (pe_c e) pa_nil he) (by decide) (by decide) he (by rfl)) (h σ H O E _ fun y H1 dy py t1 r1 => by
    have E1 := E.tr t1
    rcases py with rfl | rfl
    · obtain ⟨q, vs, rfl, h1, s1⟩ := r1.lst_inv
      exact ⟨q, vs, rfl, .inl (SqL.of (cut_some h1).2), fun l hl => k l _ _ _ rfl (t1.trans (Tr.new hl)) (t1.none hl fun e => (E1.fresh hl).2 (C.hst l e)) upd_same (obj_new E1 hl (.lst s1))⟩
    · obtain ⟨q, vs, rfl, h1, s1⟩ := r1.tup_inv
      exact ⟨q, vs, rfl, .inr (SqT.of (cut_some h1).2), fun l hl => k l _ _ _ rfl (t1.trans (Tr.new hl)) (t1.none hl fun e => (E1.fresh hl).2 (C.hst l e)) upd_same (obj_new E1 hl (.lst s1))⟩)
theorem en_listL {ds : List PyData} (hm : X.mg "list" = none) (h : EV C X e sl (is (.list ds))) (hg : Gl X "list" := by rfl) (he : starEach [e] X.env = (false, eval e X.env) :: starEach [] X.env := by rfl) :
    EVN C X (.Call (.Name "list" p) [e] [] pos) sl (is (.list ds)) := en_listOf hm (h.imp fun _ p => .inl p) hg he
theorem en_listT {ds : List PyData} (hm : X.mg "list" = none) (h : EV C X e sl (is (.tuple ds))) (hg : Gl X "list" := by rfl) (he : starEach [e] X.env = (false, eval e X.env) :: starEach [] X.env := by rfl) :
    EVN C X (.Call (.Name "list" p) [e] [] pos) sl (is (.list ds)) := en_listOf hm (h.imp fun _ p => .inr p) hg he
/-- list(own list) -/
theorem en_listO (n : Nat) {px : Pos} {ds : List PyData} (hm : X.mg "list" = none) (hs : sl[n]? = some (.own (.list ds)) := by rfl) (hN : X.N[n]? = some x := by rfl)
    (hv : Vis X.env.scope x := by first | exact Or.inl rfl | exact Or.inr (Or.inl rfl) | exact Or.inr (Or.inr rfl)) (hg : Gl X "list" := by rfl) (hd : (x == ("__debug__" : Str)) = false := by decide) (hcd : (x == ("__classdict__" : Str)) = false := by decide)
    (he : starEach [Expr.Name x px] X.env = (false, eval (Expr.Name x px) X.env) :: starEach [] X.env := by rfl) :
    EVN C X (.Call (.Name "list" p) [.Name x px] [] pos) sl (is (.list ds)) := fun σ H O E Q k => by
  obtain ⟨q, o, h1, h2, h3, h4⟩ := E.own hs
  cases h3 with
  | lst s1 =>
    exact ofE (pe_callTy call_list_of hg hm boot_list (pa_cons (pe_var hN hv hd hcd) pa_nil he) (by decide) (by decide) he (by rfl)) ⟨.ref q, h1, q, _, rfl, .inl (SqL.of h2), fun l hl =>
      k l _ _ _ rfl (Tr.new hl) hl upd_same (obj_new E hl (.lst s1))⟩
/-- tuple(xs) -/
theorem ev_tupleL {ds : List PyData} (hm : X.mg "tuple" = none) (h : EV C X e sl (is (.list ds))) (hg : Gl X "tuple" := by rfl) (he : starEach [e] X.env = (false, eval e X.env) :: starEach [] X.env := by rfl) :
    EV C X (.Call (.Name "tuple" p) [e] [] pos) sl (is (.tuple ds)) := fun σ H O E Q k =>
  ofE (pe_callTy call_tuple_of hg hm boot_tuple (pa_cons (pe_c e) pa_nil he) (by decide) (by decide) he (by rfl)) (h σ H O E _ fun y H1 dy py t1 r1 => by
    have py : dy = .list ds := py
    subst py
    have E1 := E.tr t1
    obtain ⟨q, vs, rfl, h1, s1⟩ := r1.lst_inv
    refine ⟨q, vs, rfl, .inl ⟨SqL.of (cut_some h1).2, fun l hl => k _ _ _ rfl (t1.trans (Tr.new hl)) (.obj ?_ (.tup (s1.mono ((Tr.new (C := C) hl).cutS O))))⟩⟩
    rw [cut_out (by intro z; exact (List.mem_append.mp z).elim (E1.fresh hl).1 (E1.fresh hl).2), upd_same])
/-- list(range(n)) -/
def rgD (lo hi : Int) : List PyData := (List.range (hi - lo).toNat).map fun k => PyData.int (lo + (k : Nat))
theorem rg_reps {B : Hp} (lo hi : Int) : Reps K B (rgV lo hi) (rgD lo hi) := by
  unfold rgV rgD
  generalize (List.range (hi - lo).toNat) = l
  induction l with
  | nil => exact .nil
  | cons k l ih => exact .cons (.int _) ih
theorem en_listR {p2 pos2 : Pos} (hc : X.calm = true) (hm : X.mg "list" = none) (hm2 : X.mg "range" = none) (h : EV C X e sl (is (.int i))) (hz : RgOk 0 i) (hg : Gl X "list" := by rfl) (hg2 : Gl X "range" := by rfl)
    (he : starEach [e] X.env = (false, eval e X.env) :: starEach [] X.env := by rfl)
    (na : starEach [Expr.Call (.Name "range" p2) [e] [] pos2] X.env = (false, eval (Expr.Call (.Name "range" p2) [e] [] pos2) X.env) :: starEach [] X.env := by rfl) :
    EVN C X (.Call (.Name "list" p) [.Call (.Name "range" p2) [e] [] pos2] [] pos) sl (is (.list (rgD 0 i))) := fun σ H O E Q k =>
  ofE (pe_listRg hc hg hm (prg_1 hg2 hm2 (pe_c e) he) na) (h σ H O E _ fun y H1 dy py t1 r1 => by
    have py : dy = .int i := py
    subst py
    have E1 := E.tr t1
    exact ⟨i, r1.int_inv, hz, fun q hq => k q _ _ _ rfl (t1.trans (Tr.new hq)) (t1.none hq fun e => (E1.fresh hq).2 (C.hst q e)) upd_same (obj_new E1 hq (.lst (rg_reps 0 i)))⟩)

/-! ### the program's own defs -/
/-- from data that pre allows, data of which post holds; nothing that stood is changed -/
def SpD (K : PySem.W.Frag) {α : Type} (args : α → List PyData) (pre : α → Prop) (post : α → PyData → Prop) : Sp := fun vs H Q _ =>
  ∃ (M : List Addr) (x : α), (∀ a ∈ M, H a ≠ none) ∧ Reps K (cut M H) vs (args x) ∧ pre x ∧ ∀ v H' d, post x d → Same H H' → Rep K (cut M H') v d → Q v H'
/-- the same with the state ahead of the arguments; only the state changes -/
def SpS (K : PySem.W.Frag) {α : Type} (args : α → List PyData) (pre : α → Prop) (post : α → PyData → Prop) : Sp := fun vs H Q _ =>
  ∃ (M : List Addr) (a : Addr) (vs' : List V) (x : α), a ∈ M ∧ (∀ b ∈ M, H b ≠ none) ∧ StOK H a ∧ vs = .ref a :: vs' ∧ Reps K (cut M H) vs' (args x) ∧ pre x ∧
    ∀ v H' d, post x d → (∀ C : Cfg, C.st = some a → Tr C H H') → Rep K (cut M H') v d → Q v H'
theorem ev_call {α : Type} {args : α → List PyData} {pre : α → Prop} {post : α → PyData → Prop} {f : Addr} {fd : FuncData} {k : Nat} {ps : List Str} {T : List PyData → Prop}
    (F : FnOk X.prog X.w X.K X.mg X.base CX0 k f fd ps (SpD X.K args pre post)) (hr : Room k X.A) (hm : X.mg x = some (.ref f)) (hk : PySem.W.keepIn X.K (.ref f) = true) (hb : Binds X.K fd ps [])
    (ha : EVA C X (e :: es) sl T) (hp : ∀ ds, T ds → ∃ y, ds = args y ∧ pre y ∧ ∀ d, post y d → P d) (hg : Gl X x := by rfl) (hdb : (x == ("__debug__" : Str)) = false := by decide)
    (he : starEach (e :: es) X.env = (false, eval e X.env) :: starEach es X.env := by rfl) (hpl : (backTo pos (starEach es X.env)).any (·.1) = false := by rfl) : EV C X (.Call (.Name x p) (e :: es) [] pos) sl P := fun σ H O E Q q =>
  ofE (pe_call F hr hg hm hk hb .nil pass0 (pa_c _) hdb he hpl) (ha σ H O E _ fun vs H1 ds pd t1 r1 => by
    obtain ⟨y, rfl, hy, hpost⟩ := hp ds pd
    have E1 := E.tr t1
    show SpD X.K args pre post (vs ++ []) H1 Q E0
    rw [List.append_nil]
    exact ⟨O ++ C.M, y, fun a ha => (List.mem_append.mp ha).elim (E1.to a) (E1.tm a), r1, hy, fun v H2 d po sm rp => q v H2 d (hpost d po) (t1.trans (.of sm)) rp⟩)
/-- a call that draws: the state's name ahead -/
theorem ev_callS {α : Type} {args : α → List PyData} {pre : α → Prop} {post : α → PyData → Prop} {f : Addr} {fd : FuncData} {k : Nat} {ps : List Str} {T : List PyData → Prop} {st : Addr} {sx : Str} {sp : Pos} (n : Nat)
    (F : FnOk X.prog X.w X.K X.mg X.base CX0 k f fd ps (SpS X.K args pre post)) (hr : Room k X.A) (hm : X.mg x = some (.ref f)) (hk : PySem.W.keepIn X.K (.ref f) = true) (hb : Binds X.K fd ps []) (hst : C.st = some st)
    (ha : EVA C X es sl T) (hp : ∀ ds, T ds → ∃ y, ds = args y ∧ pre y ∧ ∀ d, post y d → P d) (hs : sl[n]? = some (.r (.ref st)) := by rfl) (hN : X.N[n]? = some sx := by rfl)
    (hv : Vis X.env.scope sx := by first | exact Or.inl rfl | exact Or.inr (Or.inl rfl) | exact Or.inr (Or.inr rfl)) (hg : Gl X x := by rfl) (hdb : (x == ("__debug__" : Str)) = false := by decide)
    (hd2 : (sx == ("__debug__" : Str)) = false := by decide) (hcd : (sx == ("__classdict__" : Str)) = false := by decide)
    (he : starEach (Expr.Name sx sp :: es) X.env = (false, eval (Expr.Name sx sp) X.env) :: starEach es X.env := by rfl) (hpl : (backTo pos (starEach es X.env)).any (·.1) = false := by rfl) :
    EV C X (.Call (.Name x p) (.Name sx sp :: es) [] pos) sl P := fun σ H O E Q q =>
  ofE (pe_call F hr hg hm hk hb .nil pass0 (pa_cons (pe_var hN hv hd2 hcd) (pa_c es) he) hdb he hpl) ⟨.ref st, E.raw hs, ha σ H O E _ fun vs H1 ds pd t1 r1 => by
    obtain ⟨y, rfl, hy, hpost⟩ := hp ds pd
    have E1 := E.tr t1
    show SpS X.K args pre post ((.ref st :: vs) ++ []) H1 Q E0
    rw [List.append_nil]
    exact ⟨O ++ C.M, st, vs, y, List.mem_append_right _ (C.hst st hst), fun a ha => (List.mem_append.mp ha).elim (E1.to a) (E1.tm a), (E1.ok st hst).mono (cut_le _ _), rfl, r1, hy, fun v H2 d po tr rp => q v H2 d (hpost d po) (t1.trans (tr C hst)) rp⟩⟩
end
end DL
/-! What is walked, comprehensions, targets. -/
namespace DL
open PySem PySem.Spec PyProof.Rows L2

/-- J gives the items ds while what was known behind the making stays known -/
structure WalkD (K : PySem.W.Frag) (C : Cfg) (O : List Addr) (H0 : Hp) (J : It) (ds : List PyData) : Prop where
  goes : ∀ i H2, Same (cut (O ++ C.M) H0) H2 → i < ds.length → J.go i H2
  stops : ∀ H2, Same (cut (O ++ C.M) H0) H2 → J.stop ds.length H2
  yields : ∀ i H2 x H3, Same (cut (O ++ C.M) H0) H2 → i < ds.length → J.yld i H2 x H3 →
    ∃ d, ds[i]? = some d ∧ Same H2 H3 ∧ ∀ M', (∀ a ∈ M', H2 a ≠ none) → Same (cut (O ++ C.M) H0) (cut M' H2) → Rep K (cut M' H3) x d
def IT (C : Cfg) (X : Cx) (tg iter : Expr) (sl : List Sl) (P : List PyData → Prop) : Prop :=
  ∀ (σ : L2.St) (H : Hp) (O : List Addr), EnvOk X.K C H σ sl O → ∀ R : It → Hp → Prop, (∀ J H' ds, P ds → Tr C H H' → WalkD X.K C O H' J ds → R J H') → cI X tg iter σ H R
section
variable {C : Cfg} {X : Cx} {e a b c tg : Expr} {es : List Expr} {sl : List Sl} {P P' Pa Pb Pc : PyData → Prop} {pos p : Pos} {K : PySem.W.Frag} {H H' : Hp} {σ : L2.St} {O : List Addr} {i j : Int} {x : Str}
theorem walkD_list {q : Addr} {vs : List V} {ds : List PyData} (h : cut (O ++ C.M) H q = some (.lst vs)) (r : Reps K (cut (O ++ C.M) H) vs ds) : WalkD K C O H (Itl K q) ds := by
  have l := r.length
  refine ⟨fun i H2 s hi => ⟨vs, vs[i]'(by omega), SqL.of (s _ _ h), by simp [l, hi]⟩, fun H2 s => ⟨vs, SqL.of (s _ _ h), by omega⟩, fun i H2 y H3 s hi z => ?_⟩
  obtain ⟨rfl, z⟩ := z
  obtain ⟨d, h1, h2⟩ := r.getV (z vs (SqL.of (s _ _ h)))
  exact ⟨d, h1, Same.refl _, fun M' _ e => h2.mono e⟩
theorem walkD_tup {q : Addr} {vs : List V} {ds : List PyData} (h' : cut (O ++ C.M) H q = some (.tup vs)) (r : Reps K (cut (O ++ C.M) H) vs ds) : WalkD K C O H (Itt K q) ds := by
  have h : SqT K (cut (O ++ C.M) H) q vs := SqT.of h'
  have l := r.length
  refine ⟨fun i H2 s hi => ⟨vs, vs[i]'(by omega), sqT_mono s h, by simp [l, hi]⟩, fun H2 s => ⟨vs, sqT_mono s h, by omega⟩, fun i H2 y H3 s hi z => ?_⟩
  obtain ⟨rfl, z⟩ := z
  obtain ⟨d, h1, h2⟩ := r.getV (z vs (sqT_mono s h))
  exact ⟨d, h1, Same.refl _, fun M' _ e => h2.mono e⟩
theorem it_list {T : List PyData → Prop} (h : EV C X e sl (fun d => ∃ ds, d = .list ds ∧ T ds)) : IT C X tg e sl T := fun σ H O E R k => ofI (pi_list (pe_c e)) (h σ H O E _ fun v H1 d ⟨ds, e1, pt⟩ t1 r1 => by
  subst e1
  obtain ⟨q, vs, rfl, h1, s1⟩ := r1.lst_inv
  exact ⟨q, rfl, ⟨vs, SqL.of (cut_some h1).2⟩, k _ H1 ds pt t1 (walkD_list h1 s1)⟩)
theorem it_l {ds : List PyData} (h : EV C X e sl (is (.list ds))) : IT C X tg e sl (isL ds) := it_list (h.imp fun _ p => ⟨ds, p, rfl⟩)
theorem it_tuple {T : List PyData → Prop} (h : EV C X e sl (fun d => ∃ ds, d = .tuple ds ∧ T ds)) : IT C X tg e sl T := fun σ H O E R k => ofI (pi_tup (pe_c e)) (h σ H O E _ fun v H1 d ⟨ds, e1, pt⟩ t1 r1 => by
  subst e1
  obtain ⟨q, vs, rfl, h1, s1⟩ := r1.tup_inv
  exact ⟨q, rfl, ⟨vs, SqT.of (cut_some h1).2⟩, k _ H1 ds pt t1 (walkD_tup h1 s1)⟩)
theorem it_t {ds : List PyData} (h : EV C X e sl (is (.tuple ds))) : IT C X tg e sl (isL ds) := it_tuple (h.imp fun _ p => ⟨ds, p, rfl⟩)
theorem rgD_length (lo hi : Int) : (rgD lo hi).length = (hi - lo).toNat := by unfold rgD; rw [List.length_map, List.length_range]
theorem rgD_get {lo hi : Int} {k : Nat} (h : k < (hi - lo).toNat) : (rgD lo hi)[k]? = some (.int (lo + (k : Nat))) := by
  unfold rgD
  rw [List.getElem?_map, List.getElem?_range h]
  rfl
theorem walkD_range (lo hi : Int) : WalkD K C O H (Itr lo (hi - lo).toNat) (rgD lo hi) := by
  refine ⟨fun i H2 _ hi => by rw [rgD_length] at hi; exact hi, fun H2 _ => by rw [rgD_length]; exact Nat.le_refl _, fun i H2 y H3 _ hi z => ?_⟩
  obtain ⟨rfl, rfl⟩ := z
  rw [rgD_length] at hi
  exact ⟨_, rgD_get hi, Same.refl _, fun M' _ _ => .int _⟩
theorem it_range1P {T : List PyData → Prop} (hm : X.mg "range" = none) (h : EV C X a sl (fun d => ∃ n : Int, d = .int n ∧ -(2 ^ 62) ≤ n ∧ n < 2 ^ 62 ∧ T (rgD 0 n))) (hg : Gl X "range" := by rfl) (hs : starEach [a] X.env = [(false, eval a X.env)] := by rfl) : IT C X tg (.Call (.Name "range" p) [a] [] pos) sl T := fun σ H O E R k =>
  ofI (pi_range1 hg hm (pa_cons (pe_c a) pa_nil hs) hs) (h σ H O E _ fun v H1 d ⟨n, e1, h1, h2, pt⟩ t1 r1 => by
    subst e1
    have w := walkD_range (K := X.K) (C := C) (O := O) (H := H1) 0 n
    rw [Int.sub_zero] at w
    exact ⟨n, by rw [r1.int_inv], h1, h2, k _ H1 _ pt t1 w⟩)
theorem it_range1 {n : Int} (hm : X.mg "range" = none) (h : EV C X a sl (is (.int n))) (h1 : -(2 ^ 62) ≤ n) (h2 : n < 2 ^ 62) (hg : Gl X "range" := by rfl) (hs : starEach [a] X.env = [(false, eval a X.env)] := by rfl) : IT C X tg (.Call (.Name "range" p) [a] [] pos) sl (isL (rgD 0 n)) :=
  it_range1P hm (h.imp fun _ p => ⟨n, p, h1, h2, rfl⟩) hg hs
theorem it_range2 {m n : Int} (hm : X.mg "range" = none) (ha : EV C X a sl (is (.int m))) (hb : EV C X b sl (is (.int n))) (h : -(2 ^ 62) ≤ m ∧ m < 2 ^ 62 ∧ -(2 ^ 62) ≤ n ∧ n < 2 ^ 62) (hg : Gl X "range" := by rfl)
    (hs : starEach [a, b] X.env = [(false, eval a X.env), (false, eval b X.env)] := by rfl) (hs2 : starEach [b] X.env = [(false, eval b X.env)] := by rfl) : IT C X tg (.Call (.Name "range" p) [a, b] [] pos) sl (isL (rgD m n)) := fun σ H O E R k =>
  ofI (pi_range2 hg hm (pa_cons (pe_c a) (pa_cons (pe_c b) pa_nil hs2) (by rw [hs, hs2])) hs hs2) (ha σ H O E _ fun v H1 d p1 t1 r1 => hb σ H1 O (E.tr t1) _ fun v2 H2 d2 p2 t2 r2 => by
    have p1 : d = .int m := p1
    have p2 : d2 = .int n := p2
    subst p1 p2
    exact ⟨m, n, by rw [r1.int_inv, r2.int_inv], h, k _ H2 _ rfl (t1.trans t2) (walkD_range m n)⟩)
/-- enumerate(xs): pairs -/
def enumD (ds : List PyData) : List PyData := ds.mapIdx fun k d => .tuple [.int (k : Nat), d]
theorem enumD_length (ds : List PyData) : (enumD ds).length = ds.length := by unfold enumD; rw [List.length_mapIdx]
theorem enumD_get {ds : List PyData} {k : Nat} {d : PyData} (h : ds[k]? = some d) : (enumD ds)[k]? = some (.tuple [.int (k : Nat), d]) := by
  unfold enumD
  rw [List.getElem?_mapIdx, h]
  rfl
theorem it_enumL {elts : List Expr} {kk : Nat} {tpos : Pos} {ds : List PyData} (hm : X.mg "enumerate" = none) (h : EV C X a sl (is (.list ds))) (hg : Gl X "enumerate" := by rfl) (hs : starEach [a] X.env = [(false, eval a X.env)] := by rfl) :
    IT C X (.Tuple elts kk tpos) (.Call (.Name "enumerate" p) [a] [] pos) sl (isL (enumD ds)) := fun σ H O E R k =>
  ofI (pi_enum hg hm (pa_cons (pe_c a) pa_nil hs) hs) (h σ H O E _ fun v H1 d p1 t1 r1 => by
    have p1 : d = .list ds := p1
    subst p1
    obtain ⟨q, vs, rfl, h1, s1⟩ := r1.lst_inv
    have l := s1.length
    refine ⟨q, vs, rfl, SqL.of (cut_some h1).2, k _ H1 _ rfl t1 ⟨fun i H2 s hi => ?_, fun H2 s => ?_, fun i H2 y H3 s hi z => ?_⟩⟩
    · rw [enumD_length] at hi
      exact ⟨vs, vs[i]'(by omega), SqL.of (s _ _ h1), by simp [l, hi]⟩
    · rw [enumD_length]
      exact ⟨vs, SqL.of (s _ _ h1), by omega⟩
    · obtain ⟨T, w, rfl, hT, rfl, z⟩ := z
      obtain ⟨d, g1, g2⟩ := s1.getV (z vs (SqL.of (s _ _ h1)))
      refine ⟨_, enumD_get g1, same_new hT, fun M' nM e => .obj ?_ (.tup (.cons (.int _) (.cons (g2.mono ?_) .nil)))⟩
      · rw [cut_out (fun m => nM T m hT), upd_same]
      · exact e.trans (cut_same fun a o n h => ⟨n, same_new hT a o h⟩))
def zipD : List PyData → List PyData → List PyData
  | d :: ds, e :: es => .tuple [d, e] :: zipD ds es
  | _, _ => []
theorem zipD_length : ∀ ds es : List PyData, (zipD ds es).length = min ds.length es.length
  | [], _ => by simp [zipD]
  | _ :: _, [] => by simp [zipD]
  | d :: ds, e :: es => by simp only [zipD, List.length_cons, zipD_length ds es]; omega
theorem zipD_get : ∀ {ds es : List PyData} {k : Nat} {d e : PyData}, ds[k]? = some d → es[k]? = some e → (zipD ds es)[k]? = some (.tuple [d, e])
  | [], _, _, _, _, h, _ => by simp at h
  | _ :: _, [], _, _, _, _, h => by simp at h
  | _ :: _, _ :: _, 0, _, _, h, h2 => by simp at h h2; subst h h2; rfl
  | _ :: _, _ :: _, k + 1, _, _, h, h2 => by
    simp only [zipD, List.getElem?_cons_succ]
    exact zipD_get (by simpa using h) (by simpa using h2)
theorem it_zipL {elts : List Expr} {kk : Nat} {tpos : Pos} {ds es : List PyData} (hm : X.mg "zip" = none) (ha : EV C X a sl (is (.list ds))) (hb : EV C X b sl (is (.list es))) (hg : Gl X "zip" := by rfl)
    (hs : starEach [a, b] X.env = (false, eval a X.env) :: starEach [b] X.env := by rfl) (hs2 : starEach [b] X.env = (false, eval b X.env) :: starEach [] X.env := by rfl) (hpl : (backTo pos (starEach [b] X.env)).any (·.1) = false := by rfl) :
    IT C X (.Tuple elts kk tpos) (.Call (.Name "zip" p) [a, b] [] pos) sl (isL (zipD ds es)) := fun σ H O E R k =>
  ofI (pi_zip hg hm (pa_cons (pe_c a) (pa_cons (pe_c b) pa_nil hs2) hs) hs hpl) (ha σ H O E _ fun v H1 d p1 t1 r1 => hb σ H1 O (E.tr t1) _ fun v2 H2 d2 p2 t2 r2 => by
    have p1 : d = .list ds := p1
    have p2 : d2 = .list es := p2
    subst p1 p2
    obtain ⟨q, vs, rfl, h1, s1⟩ := (r1.mono (t2.cutS O)).lst_inv
    obtain ⟨q2, ws, rfl, h2, s2⟩ := r2.lst_inv
    have l := s1.length
    have l2 := s2.length
    refine ⟨q, q2, vs, ws, rfl, SqL.of (cut_some h1).2, SqL.of (cut_some h2).2, k _ H2 _ rfl (t1.trans t2) ⟨fun i G s hi => ?_, fun G s => ?_, fun i G y H3 s hi z => ?_⟩⟩
    · rw [zipD_length] at hi
      exact ⟨vs, ws, vs[i]'(by omega), ws[i]'(by omega), SqL.of (s _ _ h1), SqL.of (s _ _ h2), by simp, by simp⟩
    · rw [zipD_length]
      exact ⟨vs, ws, SqL.of (s _ _ h1), SqL.of (s _ _ h2), by omega⟩
    · obtain ⟨T, w, w2, rfl, hT, rfl, z, z2⟩ := z
      obtain ⟨d, g1, g2⟩ := s1.getV (z vs (SqL.of (s _ _ h1)))
      obtain ⟨d2, f1, f2⟩ := s2.getV (z2 ws (SqL.of (s _ _ h2)))
      have up : ∀ M', Same (cut (O ++ C.M) H2) (cut M' G) → Same (cut (O ++ C.M) H2) (cut M' (upd G T (.tup [w, w2]))) := fun M' e => e.trans (cut_same fun a o n h => ⟨n, same_new hT a o h⟩)
      refine ⟨_, zipD_get g1 f1, same_new hT, fun M' nM e => .obj ?_ (.tup (.cons (g2.mono (up M' e)) (.cons (f2.mono (up M' e)) .nil)))⟩
      rw [cut_out (fun m => nM T m hT), upd_same])

/-! ### comprehensions -/
/-- a reading that gives a new object -/
def RdN (C : Cfg) (X : Cx) (t : TE) (sl : List Sl) (P : PyData → Prop) : Prop :=
  ∀ (σ : L2.St) (H : Hp) (O : List Addr), EnvOk X.K C H σ sl O → ∀ Q : VK, (∀ p o H' d, P d → Tr C H H' → H p = none → H' p = some o → ObjR X.K (cut (p :: (O ++ C.M)) H') o d → Q (.ref p) H') → t σ H Q
/-- an element's reading, in any block -/
def cBlk (X : Cx) (scope : Scope) (elt : Expr) : TE := fun σ H Q => ∀ (s : Shared) (H0 : Hp) (L : Addr) (cl : List (Str × Addr)) (fp : List Addr), cE (X.blk s H0 scope (compEnvC scope cl L X.env) fp) elt σ H Q
theorem pe_blk {scope : Scope} {elt : Expr} (s : Shared) (H0 : Hp) (L : Addr) (cl : List (Str × Addr)) (fp : List Addr) : PE (X.blk s H0 scope (compEnvC scope cl L X.env) fp) elt (cBlk X scope elt) := ⟨fun pins s1 σ H Q I h => h s H0 L cl fp pins s1 I⟩
theorem lc_read {iter elt : Expr} {scope : Scope} {n : Nat} {xs : Str} {px : Pos} {T : List PyData → Prop} {U : List PyData → Nat → PyData → PyData → Prop}
    (hi : IT C X (.Name xs px) iter sl T) (hT : ∀ ds, T ds → ds.length ≤ 1000000)
    (he : ∀ (s : Shared) (H : Hp) (L : Addr) (cl : List (Str × Addr)) (fp : List Addr) ds k d, T ds → ds[k]? = some d → EV C (X.blk s H scope (compEnvC scope cl L X.env) fp) elt ((sl.set n .u).set n (.d d)) (U ds k d)) :
    RdN C X (tLc (cI X (.Name xs px) iter) (gName n) tYes (cBlk X scope elt) [n]) sl (fun d => ∃ ds out, d = .list out ∧ T ds ∧ out.length = ds.length ∧ ∀ k y, ds[k]? = some y → ∃ z, out[k]? = some z ∧ U ds k y z) := fun σ H O E Q k => by
  refine hi σ H O E _ fun J H1 ds pT t1 w D hD => ?_
  have E1 := E.tr t1
  have lds := hT ds pT
  let B := cut (D :: (O ++ C.M))
  let Pv : Nat → Hp → Prop := fun i H2 => ∃ acc out, H2 D = some (.lst acc) ∧ Reps X.K (cut (D :: (O ++ C.M)) H2) acc out ∧ out.length = i ∧ (∀ k y, k < i → ds[k]? = some y → ∃ z, out[k]? = some z ∧ U ds k y z) ∧ Tr C (upd H1 D (.lst [])) H2
  have nst : C.st ≠ some D := fun e => (E1.fresh hD).2 (C.hst D e)
  have base : ∀ {H2 : Hp}, Tr C (upd H1 D (.lst [])) H2 → Same (cut (O ++ C.M) H1) (cut (D :: (O ++ C.M)) H2) := fun {H2} t => cut_same fun a o na h => by
    refine ⟨fun z => ?_, t.keep a o (fun e => na (List.mem_append_right _ (C.hst a e))) (by rw [upd_ne (ne_of_none h hD)]; exact h)⟩
    rcases List.mem_cons.mp z with rfl | z
    · rw [hD] at h; cases h
    · exact na z
  refine ⟨fun i m H2 => m = ds.length - i ∧ i ≤ ds.length ∧ ∃ acc out, H2 D = some (.lst acc) ∧ Reps X.K (cut (D :: (O ++ C.M)) H2) acc out ∧ out.length = i ∧ (∀ k y, k < i → ds[k]? = some y → ∃ z, out[k]? = some z ∧ U ds k y z) ∧ Same (cut (O ++ C.M) H1) (cut (D :: (O ++ C.M)) H2) ∧ Tr C H1 H2,
    ⟨ds.length, by simp, Nat.zero_le _, [], [], upd_same, .nil, rfl, fun k y h => absurd h (by omega), base (Tr.refl _), Tr.new hD⟩, ?_⟩
  rintro i m H2 ⟨rfl, hi2, acc, out, h1, h2, h3, h4, h5, h6⟩
  have E2 : EnvOk X.K C H2 σ sl (D :: O) := by
    have Ea := E1.add (o := .lst []) hD
    obtain ⟨O1, s, nd, m⟩ := E1.slots
    have Eh := E1.tr h6
    refine ⟨⟨O1, s.mono h5 (fun a h x e => h6.keep a x (E1.notSt (m a h)) e), nd, fun a h => List.mem_cons_of_mem _ (m a h)⟩, Ea.dj, fun a h => ?_, Eh.tm, fun a e => ?_⟩
    · rcases List.mem_cons.mp h with rfl | z
      · rw [h1]; simp
      · exact Eh.to a z
    · refine h6.ok a e (D :: O) ((E1.ok a e).mono (cut_same fun b u nb q => ⟨fun z => ?_, q⟩))
      rcases List.mem_cons.mp z with rfl | z
      · rw [hD] at q; cases q
      · exact nb z
  have hsame : Same (cut (O ++ C.M) H1) H2 := h5.trans (cut_le _ _)
  by_cases hlt : i < ds.length
  · refine .inr ⟨w.goes i H2 hsame hlt, fun H' => ∃ acc out, H' D = some (.lst acc) ∧ Reps X.K (cut (D :: (O ++ C.M)) H') acc out ∧ out.length = i + 1 ∧ (∀ k y, k < i + 1 → ds[k]? = some y → ∃ z, out[k]? = some z ∧ U ds k y z) ∧ Same (cut (O ++ C.M) H1) (cut (D :: (O ++ C.M)) H') ∧ Tr C H1 H',
      fun H' ⟨acc', out', g1, g2, g3, g4, g5, g6⟩ => ⟨ds.length - (i + 1), by omega, rfl, hlt, acc', out', g1, g2, g3, g4, g5, g6⟩, fun v H3 yl => ?_⟩
    obtain ⟨d, hd, sm, rp⟩ := w.yields i H2 v H3 hsame hlt yl
    have E3 := E2.tr (Tr.of sm)
    have rv : Rep X.K (cut ((D :: O) ++ C.M) H3) v d := rp _ (fun a h => by
      rcases List.mem_append.mp h with h | h
      · exact E2.to a h
      · exact E2.tm a h) h5
    have E4 := (E3.setU none n).setD rv n
    refine ⟨?_, fun s H0 L cl fp => ?_⟩
    · show wipe ((wipe σ [n]).set n (some v)) [n] = wipe σ [n]
      show ((σ.set n none).set n (some v)).set n none = σ.set n none
      rw [List.set_set, List.set_set]
    · refine he s H0 L cl fp ds i d pT hd ((σ.set n none).set n (some v)) H3 (D :: O) E4 _ fun y H4 z pz t4 r4 => ?_
      have hD4 : H4 D = some (.lst acc) := t4.keep D _ nst (sm _ _ h1)
      have c4 : Same (cut (D :: (O ++ C.M)) H2) (cut (D :: (O ++ C.M)) H4) := cut_same fun a o na h => ⟨na, t4.keep a o (fun e => na (List.mem_cons_of_mem _ (List.mem_append_right _ (C.hst a e)))) (sm a o h)⟩
      have eD : cut (D :: (O ++ C.M)) (upd H4 D (.lst (acc ++ [y]))) = cut (D :: (O ++ C.M)) H4 := cut_upd List.mem_cons_self
      have la : acc.length = i := by rw [h2.length, h3]
      refine ⟨acc, hD4, ?_, acc ++ [y], out ++ [z], upd_same, ?_, ?_, fun k y' hk hy => ?_, ?_, ?_⟩
      · rw [la]; exact Nat.lt_of_lt_of_le hlt (Nat.le_trans lds (by decide))
      · rw [eD]; exact (h2.mono c4).append (.cons r4 .nil)
      · rw [List.length_append, h3]; rfl
      · by_cases hki : k < i
        · obtain ⟨z', q1, q2⟩ := h4 k y' hki hy
          exact ⟨z', by rw [List.getElem?_append_left (by omega)]; exact q1, q2⟩
        · have ek : k = i := by omega
          subst ek
          rw [hd] at hy
          cases hy
          exact ⟨z, by rw [List.getElem?_append_right (by omega), h3]; simp, pz⟩
      · rw [eD]; exact h5.trans c4
      · have t24 : Tr C H1 H4 := h6.trans ((Tr.of sm).trans t4)
        refine ⟨fun a o ns h => ?_, fun a e Ox h => ?_⟩
        · rw [upd_ne (ne_of_none h hD)]; exact t24.keep a o ns h
        · have z := t24.ok a e (D :: Ox) (h.mono (cut_same fun b u nb q => ⟨fun z => by
            rcases List.mem_cons.mp z with rfl | z
            · rw [hD] at q; cases q
            · exact nb z, q⟩))
          refine z.mono (cut_same fun b u nb q => ⟨fun z => nb (List.mem_cons_of_mem _ z), ?_⟩)
          rw [upd_ne (fun e => nb (by rw [e]; exact List.mem_cons_self))]; exact q
  · have ei : i = ds.length := by omega
    refine .inl ⟨by rw [ei]; exact w.stops H2 hsame, ?_⟩
    refine k D _ H2 (.list out) ⟨ds, out, rfl, pT, by omega, fun kk y hy => h4 kk y (by have := (List.getElem?_eq_some_iff.mp hy).1; omega) hy⟩ (t1.trans h6) (t1.none hD nst) h1 (.lst h2)

theorem RdN.imp {t : TE} (h : RdN C X t sl P) (k : ∀ d, P d → P' d) : RdN C X t sl P' := fun σ H O E Q q => h σ H O E Q fun p o H' d pd t n ho r => q p o H' d (k d pd) t n ho r
theorem lc_readm {iter elt : Expr} {scope : Scope} {n : Nat} {xs : Str} {px : Pos} {ds out : List PyData}
    (hi : IT C X (.Name xs px) iter sl (isL ds)) (hT : ds.length ≤ 1000000) (hl : out.length = ds.length)
    (he : ∀ (s : Shared) (H : Hp) (L : Addr) (cl : List (Str × Addr)) (fp : List Addr) (k : Nat) d z, ds[k]? = some d → out[k]? = some z → EV C (X.blk s H scope (compEnvC scope cl L X.env) fp) elt ((sl.set n .u).set n (.d d)) (is z)) :
    RdN C X (tLc (cI X (.Name xs px) iter) (gName n) tYes (cBlk X scope elt) [n]) sl (is (.list out)) :=
  (lc_read (U := fun ds' k d z => ds' = ds → out[k]? = some z) hi (fun ds' p => by have p : ds' = ds := p; rw [p]; exact hT) (fun s H L cl fp ds' k d p hd => by
    have p : ds' = ds := p
    subst p
    have hk := (List.getElem?_eq_some_iff.mp hd).1
    have hz : out[k]? = some (out[k]'(by omega)) := List.getElem?_eq_getElem (by omega)
    exact (he s H L cl fp k d _ hd hz).imp fun z pz _ => by rw [pz]; exact hz)).imp fun d ⟨ds', out', e1, p, l, q⟩ => by
    have p : ds' = ds := p
    subst p
    rw [e1]
    congr 1
    refine List.ext_getElem? fun k => ?_
    by_cases hk : k < ds'.length
    · obtain ⟨z, q1, q2⟩ := q k _ (List.getElem?_eq_getElem hk)
      rw [q1, q2 rfl]
    · rw [List.getElem?_eq_none (by omega), List.getElem?_eq_none (by omega)]
/-- how a comprehension's own name is stored -/
structure LcOk (X : Cx) (scope : Scope) (n : Nat) (xs : Str) : Prop where
  ok : BlkOk X.N X.env.scope scope [(xs, n)]
  ix : X.N[n]? = some xs
  loc : ∀ (s : Shared) (H : Hp) (L : Addr) (cl : List (Str × Addr)) (fp : List Addr), Loc (compEnvC scope cl L X.env).scope xs
  st : ∀ (s : Shared) (H : Hp) (L : Addr) (cl : List (Str × Addr)) (fp : List Addr), (X.blk s H scope (compEnvC scope cl L X.env) fp).fn xs = true ∨ (compEnvC scope cl L X.env).scope.names.lookup xs = some .local
theorem lcok {scope : Scope} {xs : Str} (n : Nat) (ok : BlkOk X.N X.env.scope scope [(xs, n)]) (ix : X.N[n]? = some xs := by rfl)
    (loc : ∀ (s : Shared) (H : Hp) (L : Addr) (cl : List (Str × Addr)) (fp : List Addr), Loc (compEnvC scope cl L X.env).scope xs := by first | exact fun _ _ _ _ _ => .inl rfl | exact fun _ _ _ _ _ => .inr rfl)
    (st : ∀ (s : Shared) (H : Hp) (L : Addr) (cl : List (Str × Addr)) (fp : List Addr), (X.blk s H scope (compEnvC scope cl L X.env) fp).fn xs = true ∨ (compEnvC scope cl L X.env).scope.names.lookup xs = some .local := by first | exact fun _ _ _ _ _ => .inr rfl | exact fun _ _ _ _ _ => .inl rfl) : LcOk X scope n xs := ⟨ok, ix, loc, st⟩
theorem en_lc {iter elt : Expr} {scope : Scope} {n : Nat} {xs : Str} {px : Pos} (hc : X.calm = true) (hN : X.N.Nodup) (ok : LcOk X scope n xs) (h : RdN C X (tLc (cI X (.Name xs px) iter) (gName n) tYes (cBlk X scope elt) [n]) sl P)
    (hs : ∀ y, foldedSetIterable iter X.env y = pure y := by intro _; rfl) : EVN C X (.ListComp elt [⟨.Name xs px, iter, [], 0⟩] scope pos) sl P := fun σ H O E Q k =>
  ofE (pe_lc (own := [(xs, n)]) hc hN (pi_c _ _) ok.ok (fun s H L cl fp => pg_name hN ok.ix (ok.loc s H L cl fp) (ok.st s H L cl fp)) (fun _ _ _ _ _ => pts_nil) (fun s H0 L cl fp => pe_blk s H0 L cl fp) hs) (h σ H O E Q k)
end
end DL
/-! Statements, defs. -/
namespace DL
open PySem PySem.Spec PyProof.Rows L2
/-- what is wanted behind a block -/
structure Ps where
  nx : List Sl → Prop
  rt : PyData → Prop
  bk : List Sl → Prop := fun _ => False
  ct : List Sl → Prop := fun _ => False
structure Fin (K : PySem.W.Frag) (C : Cfg) (H : Hp) (O : List Addr) (D : Ends) (p : Ps) : Prop where
  nx : ∀ σ' H' O' sl', p.nx sl' → EnvOk K C H' σ' sl' O' → Step C O H O' H' → D.nx σ' H'
  rt : ∀ v H' d, p.rt d → Step C O H [] H' → Rep K (cut C.M H') v d → D.rt v H'
  bk : ∀ σ' H' O' sl', p.bk sl' → EnvOk K C H' σ' sl' O' → Step C O H O' H' → D.bk σ' H'
  ct : ∀ σ' H' O' sl', p.ct sl' → EnvOk K C H' σ' sl' O' → Step C O H O' H' → D.ct σ' H'
def STs (C : Cfg) (X : Cx) (ss : List Stmt) (sl : List Sl) (p : Ps) : Prop :=
  ∀ (σ : L2.St) (H : Hp) (O : List Addr), EnvOk X.K C H σ sl O → ∀ D : Ends, Fin X.K C H O D p → cSs X ss D σ H
def ST (C : Cfg) (X : Cx) (s : Stmt) (sl : List Sl) (p : Ps) : Prop :=
  ∀ (σ : L2.St) (H : Hp) (O : List Addr), EnvOk X.K C H σ sl O → ∀ D : Ends, Fin X.K C H O D p → cS X s D σ H
/-- a target is given data -/
def GA (C : Cfg) (X : Cx) (tg : Expr) (d : PyData) (sl : List Sl) (N : List Sl → Prop) : Prop :=
  ∀ (σ : L2.St) (H : Hp) (O : List Addr) (v : V), EnvOk X.K C H σ sl O → Rep X.K (cut (O ++ C.M) H) v d → ∀ Q : L2.St → Hp → Prop, (∀ σ' sl', N sl' → EnvOk X.K C H σ' sl' O → Q σ' H) → cG X tg v σ H Q
def cGs (X : Cx) (ts : List Expr) : TGs := fun vs σ H Q => ∀ (pins : List (Addr × Obj)) (s : Shared) (us : List Value), Inv X pins σ H s → Vals vs us →
  wpAny (model X.prog X.w) X.A (assignInOrder ((assignEach ts X.env).map (·.2)) us) (fun _ s' => ∃ σ' H', Inv X pins σ' H' s' ∧ Q σ' H') X.xe s
theorem pgs_c {X : Cx} (ts : List Expr) : PGs X ts (cGs X ts) := ⟨fun pins s _ _ _ us _ I r h => h pins s us I r⟩
theorem ofGs {X : Cx} {ts : List Expr} {t : TGs} {vs : List V} {σ : L2.St} {H : Hp} {Q : L2.St → Hp → Prop} (p : PGs X ts t) (h : t vs σ H Q) : cGs X ts vs σ H Q := fun pins s us I r => p.run pins s σ H vs us Q I r h
def GAs (C : Cfg) (X : Cx) (ts : List Expr) (ds : List PyData) (sl : List Sl) (N : List Sl → Prop) : Prop :=
  ∀ (σ : L2.St) (H : Hp) (O : List Addr) (vs : List V), EnvOk X.K C H σ sl O → Reps X.K (cut (O ++ C.M) H) vs ds → ∀ Q : L2.St → Hp → Prop, (∀ σ' sl', N sl' → EnvOk X.K C H σ' sl' O → Q σ' H) → cGs X ts vs σ H Q
section
variable {C : Cfg} {X : Cx} {e a b c tg : Expr} {es : List Expr} {sl : List Sl} {P P' Pa Pb Pc : PyData → Prop} {pos p1 : Pos} {K : PySem.W.Frag} {H H' : Hp} {σ : L2.St} {O O' : List Addr} {i j : Int} {x : Str} {p : Ps} {s : Stmt} {ss : List Stmt} {D : Ends}
theorem Fin.step (f : Fin K C H O D p) (st : Step C O H O' H') : Fin K C H' O' D p :=
  ⟨fun σ' H2 O2 sl' h E t => f.nx σ' H2 O2 sl' h E (st.trans t), fun v H2 d h t r => f.rt v H2 d h (st.trans t) r, fun σ' H2 O2 sl' h E t => f.bk σ' H2 O2 sl' h E (st.trans t), fun σ' H2 O2 sl' h E t => f.ct σ' H2 O2 sl' h E (st.trans t)⟩
theorem Step.last (t : Step C O H O H') : Step C O H [] H' := ⟨t.keep, fun a h => absurd h (by simp), t.ok, fun a h => absurd h (by simp)⟩
theorem sts_cons {N : List Sl → Prop} (h : ST C X s sl { p with nx := N }) (k : ∀ sl', N sl' → STs C X ss sl' p) : STs C X (s :: ss) sl p := fun σ H O E D f =>
  ofSs (pss_cons (ps_c s) (pss_c ss)) (h σ H O E { D with nx := cSs X ss D } ⟨fun σ' H' O' sl' n E' t => k sl' n σ' H' O' E' D (f.step t), f.rt, f.bk, f.ct⟩)
theorem sts_nil (h : p.nx sl) : STs C X [] sl p := fun σ H O E D f => ofSs pss_nil (f.nx σ H O sl h E (Step.refl E))
theorem sts_one (h : ST C X s sl p) : STs C X [s] sl p := sts_cons h fun _ n => sts_nil n
theorem STs.imp {p' : Ps} (h : STs C X ss sl p) (h1 : ∀ s, p.nx s → p'.nx s) (h2 : ∀ s, p.rt s → p'.rt s) (h3 : ∀ s, p.bk s → p'.bk s) (h4 : ∀ s, p.ct s → p'.ct s) : STs C X ss sl p' := fun σ H O E D f =>
  h σ H O E D ⟨fun σ' H' O' sl' n => f.nx σ' H' O' sl' (h1 _ n), fun v H' d n => f.rt v H' d (h2 _ n), fun σ' H' O' sl' n => f.bk σ' H' O' sl' (h3 _ n), fun σ' H' O' sl' n => f.ct σ' H' O' sl' (h4 _ n)⟩
/-! targets -/
theorem ga_name (n : Nat) {d : PyData} (hN : X.N.Nodup) (hi : X.N[n]? = some x := by rfl) (hx : Loc X.env.scope x := by first | exact .inl rfl | exact .inr rfl) (hf : X.fn x = true ∨ X.env.scope.names.lookup x = some .local := by first | exact .inl rfl | exact .inr rfl) :
    GA C X (.Name x pos) d sl (fun s => s = sl.set n (.d d)) := fun σ H O v E r Q k => ofG (pg_name hN hi hx hf) (k _ _ rfl (E.setD r n))
theorem gas_nil : GAs C X [] [] sl (fun s => s = sl) := fun σ H O vs E r Q k => ofGs pgs_nil (by cases r; exact ⟨rfl, k σ sl rfl E⟩)
theorem gas_cons {d : PyData} {ds : List PyData} {N N' : List Sl → Prop} (h : GA C X a d sl N) (t : ∀ sl', N sl' → GAs C X es ds sl' N') (hs : (assignEach (a :: es) X.env).map (·.2) = assign a X.env :: (assignEach es X.env).map (·.2) := by rfl) :
    GAs C X (a :: es) (d :: ds) sl N' := fun σ H O vs E r Q k => ofGs (pgs_cons (pg_c a) (pgs_c es) hs) (by
  cases r with
  | cons r1 r2 => exact ⟨_, _, rfl, h σ H O _ E r1 _ fun σ' sl' n E' => t sl' n σ' H O _ E' r2 Q k⟩)
theorem ga_tup {k : Nat} {ds : List PyData} {N : List Sl → Prop} (hc : X.calm = true) (h : GAs C X es ds sl N) (hn : (assignEach es X.env).length = ds.length := by rfl) (hst : (assignEach es X.env).findIdx? (·.1) = none := by rfl) :
    GA C X (.Tuple es k pos) (.tuple ds) sl N := fun σ H O v E r Q k => ofG (pg_tup hc (pgs_c es) hn hst) (by
  obtain ⟨q, vs, rfl, h1, s1⟩ := r.tup_inv
  exact ⟨q, vs, rfl, SqT.of (cut_some h1).2, s1.length, h σ H O vs E s1 Q k⟩)
/-- one name, two names -/
theorem gas_n1 (n : Nat) {d : PyData} (hN : X.N.Nodup) (hi : X.N[n]? = some x := by rfl) (hx : Loc X.env.scope x := by first | exact .inl rfl | exact .inr rfl) (hf : X.fn x = true ∨ X.env.scope.names.lookup x = some .local := by first | exact .inl rfl | exact .inr rfl)
    (hs : (assignEach [Expr.Name x pos] X.env).map (·.2) = assign (Expr.Name x pos) X.env :: (assignEach [] X.env).map (·.2) := by rfl) : GAs C X [.Name x pos] [d] sl (fun s => s = sl.set n (.d d)) :=
  gas_cons (ga_name n hN hi hx hf) (fun sl' e => by rw [show sl' = _ from e]; exact gas_nil) hs

theorem ga_t2 (n m : Nat) {x y : Str} {px py pt : Pos} {kk : Nat} {d1 d2 : PyData} (hc : X.calm = true) (hN : X.N.Nodup)
    (hi : X.N[n]? = some x := by rfl) (hj : X.N[m]? = some y := by rfl) (hx : Loc X.env.scope x := by first | exact .inl rfl | exact .inr rfl) (hy : Loc X.env.scope y := by first | exact .inl rfl | exact .inr rfl)
    (hf : X.fn x = true ∨ X.env.scope.names.lookup x = some .local := by first | exact .inl rfl | exact .inr rfl) (hg : X.fn y = true ∨ X.env.scope.names.lookup y = some .local := by first | exact .inl rfl | exact .inr rfl)
    (a1 : (assignEach [.Name x px, .Name y py] X.env).map (·.2) = assign (.Name x px) X.env :: (assignEach [.Name y py] X.env).map (·.2) := by rfl) (a2 : (assignEach [Expr.Name y py] X.env).map (·.2) = assign (.Name y py) X.env :: (assignEach [] X.env).map (·.2) := by rfl)
    (hn : (assignEach [.Name x px, .Name y py] X.env).length = 2 := by rfl) (hst : (assignEach [.Name x px, .Name y py] X.env).findIdx? (·.1) = none := by rfl) :
    GA C X (.Tuple [.Name x px, .Name y py] kk pt) (.tuple [d1, d2]) sl (fun s => s = (sl.set n (.d d1)).set m (.d d2)) :=
  ga_tup hc (gas_cons (ga_name n hN hi hx hf) (fun sl' e => by rw [show sl' = _ from e]; exact gas_n1 m hN hj hy hg a2) a1) hn hst
theorem ga_t3 (n m l : Nat) {x y z : Str} {px py pz pt : Pos} {kk : Nat} {d1 d2 d3 : PyData} (hc : X.calm = true) (hN : X.N.Nodup)
    (hi : X.N[n]? = some x := by rfl) (hj : X.N[m]? = some y := by rfl) (hl : X.N[l]? = some z := by rfl) (hx : Loc X.env.scope x := by first | exact .inl rfl | exact .inr rfl) (hy : Loc X.env.scope y := by first | exact .inl rfl | exact .inr rfl) (hz : Loc X.env.scope z := by first | exact .inl rfl | exact .inr rfl)
    (hf : X.fn x = true ∨ X.env.scope.names.lookup x = some .local := by first | exact .inl rfl | exact .inr rfl) (hg : X.fn y = true ∨ X.env.scope.names.lookup y = some .local := by first | exact .inl rfl | exact .inr rfl) (hh : X.fn z = true ∨ X.env.scope.names.lookup z = some .local := by first | exact .inl rfl | exact .inr rfl)
    (a1 : (assignEach [.Name x px, .Name y py, .Name z pz] X.env).map (·.2) = assign (.Name x px) X.env :: (assignEach [.Name y py, .Name z pz] X.env).map (·.2) := by rfl)
    (a2 : (assignEach [.Name y py, .Name z pz] X.env).map (·.2) = assign (.Name y py) X.env :: (assignEach [.Name z pz] X.env).map (·.2) := by rfl) (a3 : (assignEach [Expr.Name z pz] X.env).map (·.2) = assign (.Name z pz) X.env :: (assignEach [] X.env).map (·.2) := by rfl)
    (hn : (assignEach [.Name x px, .Name y py, .Name z pz] X.env).length = 3 := by rfl) (hst : (assignEach [.Name x px, .Name y py, .Name z pz] X.env).findIdx? (·.1) = none := by rfl) :
    GA C X (.Tuple [.Name x px, .Name y py, .Name z pz] kk pt) (.tuple [d1, d2, d3]) sl (fun s => s = ((sl.set n (.d d1)).set m (.d d2)).set l (.d d3)) :=
  ga_tup hc (gas_cons (ga_name n hN hi hx hf) (fun sl' e => by rw [show sl' = _ from e]; exact gas_cons (ga_name m hN hj hy hg) (fun sl' e => by rw [show sl' = _ from e]; exact gas_n1 l hN hl hz hh a3) a2) a1) hn hst

/-! assignments -/
theorem sts_set (n : Nat) (hN : X.N.Nodup) (h : EV C X e sl P) (k : ∀ d, P d → STs C X ss (sl.set n (.d d)) p) (hi : X.N[n]? = some x := by rfl) (hx : Loc X.env.scope x := by first | exact .inl rfl | exact .inr rfl)
    (hs : swapsWith e (some (.Name x p1)) pos.line X.env = pure false := by rfl) (hf : X.fn x = true ∨ X.env.scope.names.lookup x = some .local := by first | exact .inl rfl | exact .inr rfl) : STs C X (.Assign [.Name x p1] e pos :: ss) sl p := fun σ H O E D f =>
  ofSs (pss_cons (ps_set hN hi hx (pe_c e) hs hf) (pss_c ss)) (h σ H O E _ fun v H1 d pd t1 r1 => k d pd _ H1 O ((E.tr t1).setD r1 n) D (f.step (Step.tr E t1)))
/-- a list or dict that the def will change -/
theorem sts_setO (n : Nat) (hN : X.N.Nodup) (h : EVN C X e sl P) (k : ∀ d, P d → STs C X ss (sl.set n (.own d)) p) (hi : X.N[n]? = some x := by rfl) (hx : Loc X.env.scope x := by first | exact .inl rfl | exact .inr rfl)
    (hs : swapsWith e (some (.Name x p1)) pos.line X.env = pure false := by rfl) (hf : X.fn x = true ∨ X.env.scope.names.lookup x = some .local := by first | exact .inl rfl | exact .inr rfl) : STs C X (.Assign [.Name x p1] e pos :: ss) sl p := fun σ H O E D f =>
  ofSs (pss_cons (ps_set hN hi hx (pe_c e) hs hf) (pss_c ss)) (h σ H O E _ fun q o H1 d pd t1 hq ho r1 => by
    obtain ⟨E1, st⟩ := E.setO t1 hq ho r1 n
    exact k d pd _ H1 (q :: O) E1 D (f.step st))
/-- y = [elt for x in iter], y a plain local name -/
theorem sts_lc (n : Nat) {m : Nat} {xs : Str} {px sp : Pos} {iter elt : Expr} {scope : Scope} (hc : X.calm = true) (hN : X.N.Nodup) (ok : LcOk X scope m xs) (h : RdN C X (tLc (cI X (.Name xs px) iter) (gName m) tYes (cBlk X scope elt) [m]) sl P)
    (k : ∀ d, P d → STs C X ss (sl.set n (.d d)) p) (hi : X.N[n]? = some x := by rfl) (hyl : X.env.scope.names.lookup x = some .local := by rfl)
    (hsw : swapsWith (.ListComp elt [⟨.Name xs px, iter, [], 0⟩] scope pos) (some (.Name x p1)) sp.line X.env = pure true := by exact sw_true rfl rfl rfl (by decide +kernel))
    (hs : ∀ y, foldedSetIterable iter X.env y = pure y := by intro _; rfl) : STs C X (.Assign [.Name x p1] (.ListComp elt [⟨.Name xs px, iter, [], 0⟩] scope pos) sp :: ss) sl p := fun σ H O E D f =>
  ofSs (pss_cons (ps_setLc (i := n) (own := [(xs, m)]) hc hN hi hyl hsw (pi_c _ _) ok.ok (fun s H L cl fp => pg_name hN ok.ix (ok.loc s H L cl fp) (ok.st s H L cl fp)) (fun _ _ _ _ _ => pts_nil) (fun s H0 L cl fp => pe_blk s H0 L cl fp) hs) (pss_c ss))
    (h σ H O E (fun v H1 => cSs X ss D (σ.set n (some v)) H1) fun q o H1 d pd t1 hq ho r1 => by
      obtain ⟨n1, n2⟩ := E.fresh hq
      have r2 : Rep X.K (cut (O ++ C.M) H1) (.ref q) d := .obj (by rw [cut_out (by intro z; exact (List.mem_append.mp z).elim n1 n2)]; exact ho) (r1.mono (cut_same fun a u na x => ⟨fun z => na (List.mem_cons_of_mem _ z), x⟩))
      exact k d pd _ H1 O ((E.tr t1).setD r2 n) D (f.step (Step.tr E t1)))
theorem sts_lcO (n : Nat) {m : Nat} {xs : Str} {px sp : Pos} {iter elt : Expr} {scope : Scope} (hc : X.calm = true) (hN : X.N.Nodup) (ok : LcOk X scope m xs) (h : RdN C X (tLc (cI X (.Name xs px) iter) (gName m) tYes (cBlk X scope elt) [m]) sl P)
    (k : ∀ d, P d → STs C X ss (sl.set n (.own d)) p) (hi : X.N[n]? = some x := by rfl) (hyl : X.env.scope.names.lookup x = some .local := by rfl)
    (hsw : swapsWith (.ListComp elt [⟨.Name xs px, iter, [], 0⟩] scope pos) (some (.Name x p1)) sp.line X.env = pure true := by exact sw_true rfl rfl rfl (by decide +kernel))
    (hs : ∀ y, foldedSetIterable iter X.env y = pure y := by intro _; rfl) : STs C X (.Assign [.Name x p1] (.ListComp elt [⟨.Name xs px, iter, [], 0⟩] scope pos) sp :: ss) sl p := fun σ H O E D f =>
  ofSs (pss_cons (ps_setLc (i := n) (own := [(xs, m)]) hc hN hi hyl hsw (pi_c _ _) ok.ok (fun s H L cl fp => pg_name hN ok.ix (ok.loc s H L cl fp) (ok.st s H L cl fp)) (fun _ _ _ _ _ => pts_nil) (fun s H0 L cl fp => pe_blk s H0 L cl fp) hs) (pss_c ss))
    (h σ H O E (fun v H1 => cSs X ss D (σ.set n (some v)) H1) fun q o H1 d pd t1 hq ho r1 => by
      obtain ⟨E1, st⟩ := E.setO t1 hq ho r1 n
      exact k d pd _ H1 (q :: O) E1 D (f.step st))
theorem sts_asg {N : PyData → List Sl → Prop} (h : EV C X e sl P) (hg : ∀ d, P d → GA C X tg d sl (N d)) (k : ∀ d sl', P d → N d sl' → STs C X ss sl' p) (hs : swapsWithSole [tg] e pos.line X.env = pure false := by rfl) (hw : swappedStores [tg] e X.env = pure none := by rfl)
    (h1 : (assignEach [tg] X.env).map (·.2) = [assign tg X.env] := by rfl) : STs C X (.Assign [tg] e pos :: ss) sl p := fun σ H O E D f =>
  ofSs (pss_cons (ps_asg (pe_c e) (pg_c tg) hs hw h1) (pss_c ss)) (h σ H O E _ fun v H1 d pd t1 r1 => hg d pd σ H1 O v (E.tr t1) r1 _ fun σ' sl' n E' => k d sl' pd n σ' H1 O E' D (f.step (Step.tr E t1)))
/-- a, b = e, a pair -/
theorem sts_unpack2 (n m : Nat) {x y : Str} {px py pt : Pos} {kk : Nat} {d1 d2 : PyData} (hc : X.calm = true) (hN : X.N.Nodup) (h : EV C X e sl (is (.tuple [d1, d2]))) (k : STs C X ss ((sl.set n (.d d1)).set m (.d d2)) p)
    (hi : X.N[n]? = some x := by rfl) (hj : X.N[m]? = some y := by rfl) (hx : Loc X.env.scope x := by first | exact .inl rfl | exact .inr rfl) (hy : Loc X.env.scope y := by first | exact .inl rfl | exact .inr rfl)
    (hf : X.fn x = true ∨ X.env.scope.names.lookup x = some .local := by first | exact .inl rfl | exact .inr rfl) (hg : X.fn y = true ∨ X.env.scope.names.lookup y = some .local := by first | exact .inl rfl | exact .inr rfl)
    (hs : swapsWithSole [.Tuple [.Name x px, .Name y py] kk pt] e pos.line X.env = pure false := by rfl) (hw : swappedStores [.Tuple [.Name x px, .Name y py] kk pt] e X.env = pure none := by rfl)
    (h1 : (assignEach [.Tuple [.Name x px, .Name y py] kk pt] X.env).map (·.2) = [assign (.Tuple [.Name x px, .Name y py] kk pt) X.env] := by rfl)
    (a1 : (assignEach [.Name x px, .Name y py] X.env).map (·.2) = assign (.Name x px) X.env :: (assignEach [.Name y py] X.env).map (·.2) := by rfl) (a2 : (assignEach [Expr.Name y py] X.env).map (·.2) = assign (.Name y py) X.env :: (assignEach [] X.env).map (·.2) := by rfl)
    (hn : (assignEach [.Name x px, .Name y py] X.env).length = 2 := by rfl) (hst : (assignEach [.Name x px, .Name y py] X.env).findIdx? (·.1) = none := by rfl) :
    STs C X (.Assign [.Tuple [.Name x px, .Name y py] kk pt] e pos :: ss) sl p :=
  sts_asg (N := fun _ s => s = (sl.set n (.d d1)).set m (.d d2)) h (fun d pd => by
    rw [show d = _ from pd]
    exact ga_tup hc (gas_cons (ga_name n hN hi hx hf) (fun sl' e => by rw [show sl' = _ from e]; exact gas_n1 m hN hj hy hg a2) a1) hn hst) (fun d sl' pd n => by rw [n]; exact k) hs hw h1
/-- a, b, c = e, a triple -/
theorem sts_unpack3 (n m l : Nat) {x y z : Str} {px py pz pt : Pos} {kk : Nat} {d1 d2 d3 : PyData} (hc : X.calm = true) (hN : X.N.Nodup) (h : EV C X e sl (is (.tuple [d1, d2, d3]))) (k : STs C X ss (((sl.set n (.d d1)).set m (.d d2)).set l (.d d3)) p)
    (hi : X.N[n]? = some x := by rfl) (hj : X.N[m]? = some y := by rfl) (hl : X.N[l]? = some z := by rfl) (hx : Loc X.env.scope x := by first | exact .inl rfl | exact .inr rfl) (hy : Loc X.env.scope y := by first | exact .inl rfl | exact .inr rfl) (hz : Loc X.env.scope z := by first | exact .inl rfl | exact .inr rfl)
    (hf : X.fn x = true ∨ X.env.scope.names.lookup x = some .local := by first | exact .inl rfl | exact .inr rfl) (hg : X.fn y = true ∨ X.env.scope.names.lookup y = some .local := by first | exact .inl rfl | exact .inr rfl) (hh : X.fn z = true ∨ X.env.scope.names.lookup z = some .local := by first | exact .inl rfl | exact .inr rfl)
    (hs : swapsWithSole [.Tuple [.Name x px, .Name y py, .Name z pz] kk pt] e pos.line X.env = pure false := by rfl) (hw : swappedStores [.Tuple [.Name x px, .Name y py, .Name z pz] kk pt] e X.env = pure none := by rfl)
    (h1 : (assignEach [.Tuple [.Name x px, .Name y py, .Name z pz] kk pt] X.env).map (·.2) = [assign (.Tuple [.Name x px, .Name y py, .Name z pz] kk pt) X.env] := by rfl)
    (a1 : (assignEach [.Name x px, .Name y py, .Name z pz] X.env).map (·.2) = assign (.Name x px) X.env :: (assignEach [.Name y py, .Name z pz] X.env).map (·.2) := by rfl)
    (a2 : (assignEach [.Name y py, .Name z pz] X.env).map (·.2) = assign (.Name y py) X.env :: (assignEach [.Name z pz] X.env).map (·.2) := by rfl) (a3 : (assignEach [Expr.Name z pz] X.env).map (·.2) = assign (.Name z pz) X.env :: (assignEach [] X.env).map (·.2) := by rfl)
    (hn : (assignEach [.Name x px, .Name y py, .Name z pz] X.env).length = 3 := by rfl) (hst : (assignEach [.Name x px, .Name y py, .Name z pz] X.env).findIdx? (·.1) = none := by rfl) :
    STs C X (.Assign [.Tuple [.Name x px, .Name y py, .Name z pz] kk pt] e pos :: ss) sl p :=
  sts_asg (N := fun _ s => s = ((sl.set n (.d d1)).set m (.d d2)).set l (.d d3)) h (fun d pd => by
    rw [show d = _ from pd]
    exact ga_tup hc (gas_cons (ga_name n hN hi hx hf) (fun sl' e => by rw [show sl' = _ from e]; exact gas_cons (ga_name m hN hj hy hg) (fun sl' e => by rw [show sl' = _ from e]; exact gas_n1 l hN hl hz hh a3) a2) a1) hn hst) (fun d sl' pd n => by rw [n]; exact k) hs hw h1

/-! if, return, append -/
theorem sts_if {T : Bool → Prop} {N : List Sl → Prop} {sa sb : List Stmt} (h : EVT C X c sl T) (ha : T true → STs C X sa sl { p with nx := N }) (hb : T false → STs C X sb sl { p with nx := N }) (k : ∀ sl', N sl' → STs C X ss sl' p) : STs C X (.If c sa sb pos :: ss) sl p :=
  sts_cons (N := N) (fun σ H O E D f => ofS (ps_if (pt_c c) (pss_c sa) (pss_c sb)) (h σ H O E _ fun b H1 pb t1 => by
    cases b with
    | true =>
      show cSs X sa D σ H1
      exact ha pb σ H1 O (E.tr t1) D (f.step (Step.tr E t1))
    | false =>
      show cSs X sb D σ H1
      exact hb pb σ H1 O (E.tr t1) D (f.step (Step.tr E t1)))) k
/-- the then-branch does not come back -/
theorem sts_ifR {T : Bool → Prop} {sa : List Stmt} (h : EVT C X c sl T) (ha : T true → STs C X sa sl { p with nx := fun _ => False }) (k : T false → STs C X ss sl p) : STs C X (.If c sa [] pos :: ss) sl p :=
  sts_if (N := fun s => s = sl ∧ T false) h (fun t => (ha t).imp (fun _ f => f.elim) (fun _ h => h) (fun _ h => h) (fun _ h => h)) (fun t => sts_nil ⟨rfl, t⟩) fun sl' n => by rw [n.1]; exact k n.2
theorem sts_ret (h : EV C X e sl P) (k : ∀ d, P d → p.rt d) : STs C X [.Return (some e) pos] sl p := fun σ H O E D f =>
  ofSs (pss_one (ps_ret (pe_c e))) (h σ H O E _ fun v H1 d pd t1 r1 => f.rt v H1 d (k d pd) (Step.tr E t1).last (r1.mono (cut_same fun a u na x => ⟨fun z => na (List.mem_append_right _ z), x⟩)))
theorem sts_retO (n : Nat) {d : PyData} (k : p.rt d) (hs : sl[n]? = some (.own d) := by rfl) (hN : X.N[n]? = some x := by rfl) (hv : Vis X.env.scope x := by first | exact Or.inl rfl | exact Or.inr (Or.inl rfl) | exact Or.inr (Or.inr rfl))
    (hd : (x == ("__debug__" : Str)) = false := by decide) (hcd : (x == ("__classdict__" : Str)) = false := by decide) : STs C X [.Return (some (.Name x p1)) pos] sl p := fun σ H O E D f => by
  obtain ⟨q, o, h1, h2, h3, h4⟩ := E.own hs
  refine ofSs (pss_one (ps_ret (pe_var hN hv hd hcd))) ⟨.ref q, h1, f.rt _ H d k (Step.refl E).last (.obj ?_ (h3.mono (cut_same fun a u na x => ⟨fun z => na (List.mem_append_right _ z), x⟩)))⟩
  rw [cut_out (E.dj q h4)]
  exact h2
theorem sts_append (n : Nat) {xs : List PyData} {px ap : Pos} (h : EV C X e sl P) (hz : xs.length < 1000000) (k : ∀ d, P d → STs C X ss (sl.set n (.own (.list (xs ++ [d])))) p) (hs : sl[n]? = some (.own (.list xs)) := by rfl) (hN : X.N[n]? = some x := by rfl)
    (hv : Vis X.env.scope x := by first | exact Or.inl rfl | exact Or.inr (Or.inl rfl) | exact Or.inr (Or.inr rfl)) (hd : (x == ("__debug__" : Str)) = false := by decide) (hcd : (x == ("__classdict__" : Str)) = false := by decide)
    (hsw : swapsWith (.Call (.Attribute (.Name x px) "append" ap) [e] [] p1) none pos.line X.env = pure false := by rfl) (hbase : attributeBase (.Name x px) "append" X.env (eval (.Name x px) X.env) = eval (.Name x px) X.env := by rfl)
    (hfew : ((backTo p1 (starEach [e] X.env)).all (fun x => !x.1) && (backToKw p1 (keywordEach [] X.env)).all (fun x => x.1.isSome)
      && decide ([e].length + ([] : List Keyword).length + (if ([] : List Keyword).isEmpty then 0 else 1) < 30)) = true := by rfl)
    (hline : (ap.endLine == p1.line) = true := by rfl) (hst : starEach [e] X.env = (false, eval e X.env) :: starEach [] X.env := by rfl) (hplain : (backTo p1 (starEach [] X.env)).any (·.1) = false := by rfl) :
    STs C X (.Expr (.Call (.Attribute (.Name x px) "append" ap) [e] [] p1) pos :: ss) sl p := fun σ H O E D f => by
  obtain ⟨q, o, h1, h2, h3, h4⟩ := E.own hs
  cases h3 with
  | @lst vs ds r =>
    refine ofSs (pss_cons (ps_expr (pe_bm PySem.F.plainAttrs_list PySem.F.slot_list_append PySem.F.type_list_append mt_append (pe_var hN hv hd hcd) (pa_cons (pe_c e) pa_nil hst) hbase hfew hline hst hplain) hsw) (pss_c ss))
      ⟨.ref q, h1, Or.inl ⟨rfl, _, SqL.of h2⟩, h σ H O E _ fun v H1 d pd t1 r1 => ⟨q, vs, v, rfl, rfl, t1.keep _ _ (E.notSt h4) h2, ?_, ?_⟩⟩
    · rw [r.length]; exact Nat.lt_of_lt_of_le hz (by decide)
    · have E1 := E.tr t1
      obtain ⟨E2, st⟩ := E1.mut (o := .lst (vs ++ [v])) (y := .list (xs ++ [d])) hs h1 (.lst ((r.mono (t1.cutS O)).append (.cons r1 .nil)))
      exact k d pd σ _ O E2 D (f.step ((Step.tr E t1).trans st))
/-- the def's own list or dict is changed no more -/
theorem sts_freeze (n : Nat) {d : PyData} (k : STs C X ss (sl.set n (.d d)) p) (hs : sl[n]? = some (.own d) := by rfl) : STs C X ss sl p := fun σ H O E D f => by
  obtain ⟨O', E', st⟩ := E.freeze hs
  exact k σ H O' E' D (f.step st)
theorem sts_break (h : p.bk sl) : STs C X [.Break pos] sl p := fun σ H O E D f => ofSs (pss_one ps_break) (f.bk σ H O sl h E (Step.refl E))
theorem sts_continue (h : p.ct sl) : STs C X [.Continue pos] sl p := fun σ H O E D f => ofSs (pss_one ps_continue) (f.ct σ H O sl h E (Step.refl E))
theorem sts_pass (k : STs C X ss sl p) : STs C X (.Pass pos :: ss) sl p := fun σ H O E D f => ofSs (pss_cons ps_pass (pss_c ss)) (k σ H O E D f)

/-! for -/
theorem sts_for {iter : Expr} {body : List Stmt} {T : List PyData → Prop} {Nb : List Sl → Prop} (Inv : List PyData → Nat → List Sl → Prop) (hc : X.calm = true) (hi : IT C X tg iter sl T) (h0 : ∀ ds, T ds → Inv ds 0 sl)
    (hb : ∀ ds k d sl', T ds → ds[k]? = some d → Inv ds k sl' → ∃ N, GA C X tg d sl' N ∧ ∀ sl2, N sl2 → STs C X body sl2 { p with nx := Inv ds (k + 1), ct := Inv ds (k + 1), bk := Nb })
    (k : ∀ ds sl', T ds → Inv ds ds.length sl' → STs C X ss sl' p) (kb : ∀ sl', Nb sl' → STs C X ss sl' p)
    (hp : PassesOwn (model X.prog X.w) X.A X.env X.xe := by exact PassesOwn.never) (hs : ∀ y, foldedSetIterable iter X.env y = pure y := by intro _; rfl) : STs C X (.For tg iter body [] pos :: ss) sl p := fun σ H O E D f =>
  ofSs (pss_cons (ps_for hp hc (pi_c tg iter) (pg_c tg) (pss_c body) hs) (pss_c ss)) (hi σ H O E _ fun J H1 ds pT t1 w => by
    have E1 := E.tr t1
    have st1 := Step.tr E t1
    refine ⟨fun i m σ H2 => m = ds.length - i ∧ i ≤ ds.length ∧ ∃ O2 sl2, Inv ds i sl2 ∧ EnvOk X.K C H2 σ sl2 O2 ∧ Step C O H1 O2 H2, ⟨ds.length, by simp, Nat.zero_le _, O, sl, h0 ds pT, E1, Step.refl E1⟩, ?_⟩
    rintro i m σ2 H2 ⟨rfl, hi2, O2, sl2, hI, E2, st2⟩
    have sm : Same (cut (O ++ C.M) H1) (cut (O2 ++ C.M) H2) := st2.cutS
    by_cases hlt : i < ds.length
    · refine .inr ⟨w.goes i H2 (sm.trans (cut_le _ _)) hlt, fun σ' H' => ∃ O2 sl2, Inv ds (i + 1) sl2 ∧ EnvOk X.K C H' σ' sl2 O2 ∧ Step C O H1 O2 H', fun σ' H' ⟨O3, sl3, a1, a2, a3⟩ => ⟨ds.length - (i + 1), by omega, rfl, hlt, O3, sl3, a1, a2, a3⟩, fun v H3 yl => ?_⟩
      obtain ⟨d, hd, s3, rp⟩ := w.yields i H2 v H3 (sm.trans (cut_le _ _)) hlt yl
      have t3 : Tr C H2 H3 := Tr.of s3
      have E3 := E2.tr t3
      have rv := rp (O2 ++ C.M) (fun a h => (List.mem_append.mp h).elim (E2.to a) (E2.tm a)) sm
      obtain ⟨N, hg, hbody⟩ := hb ds i d sl2 pT hd hI
      refine hg σ2 H3 O2 v E3 rv _ fun σ4 sl4 n4 E4 => ?_
      have st3 : Step C O H1 O2 H3 := st2.trans (Step.tr E2 t3)
      exact hbody sl4 n4 σ4 H3 O2 E4 _ ⟨fun σ' H' O' sl' n E' st => ⟨O', sl', n, E', st3.trans st⟩, fun v H' d pd st r => f.rt v H' d pd (st1.trans (st3.trans st)) r,
        fun σ' H' O' sl' n E' st => kb sl' n σ' H' O' E' D (f.step (st1.trans (st3.trans st))), fun σ' H' O' sl' n E' st => ⟨O', sl', n, E', st3.trans st⟩⟩
    · have ei : i = ds.length := by omega
      subst ei
      exact .inl ⟨w.stops H2 (sm.trans (cut_le _ _)), k ds sl2 pT hI σ2 H2 O2 E2 D (f.step (st1.trans st2))⟩)
/-- the target a name -/
theorem sts_forN (n : Nat) {iter : Expr} {body : List Stmt} {T : List PyData → Prop} {Nb : List Sl → Prop} (Inv : List PyData → Nat → List Sl → Prop) (hc : X.calm = true) (hN : X.N.Nodup) (hi : IT C X (.Name x p1) iter sl T) (h0 : ∀ ds, T ds → Inv ds 0 sl)
    (hb : ∀ ds k d sl', T ds → ds[k]? = some d → Inv ds k sl' → STs C X body (sl'.set n (.d d)) { p with nx := Inv ds (k + 1), ct := Inv ds (k + 1), bk := Nb })
    (k : ∀ ds sl', T ds → Inv ds ds.length sl' → STs C X ss sl' p) (kb : ∀ sl', Nb sl' → STs C X ss sl' p)
    (hx1 : X.N[n]? = some x := by rfl) (hx : Loc X.env.scope x := by first | exact .inl rfl | exact .inr rfl) (hf : X.fn x = true ∨ X.env.scope.names.lookup x = some .local := by first | exact .inl rfl | exact .inr rfl)
    (hp : PassesOwn (model X.prog X.w) X.A X.env X.xe := by exact PassesOwn.never) (hs : ∀ y, foldedSetIterable iter X.env y = pure y := by intro _; rfl) : STs C X (.For (.Name x p1) iter body [] pos :: ss) sl p :=
  sts_for Inv hc hi h0 (fun ds k d sl' pT hd hI => ⟨_, ga_name n hN hx1 hx hf, fun sl2 e => by rw [show sl2 = _ from e]; exact hb ds k d sl' pT hd hI⟩) k kb hp hs
/-- over items that are known, the target a name; no break -/
theorem sts_forL (n : Nat) {iter : Expr} {body : List Stmt} {ds : List PyData} (Inv : Nat → List Sl → Prop) (hc : X.calm = true) (hN : X.N.Nodup) (hi : IT C X (.Name x p1) iter sl (isL ds)) (h0 : Inv 0 sl)
    (hb : ∀ k d sl', ds[k]? = some d → Inv k sl' → STs C X body (sl'.set n (.d d)) { p with nx := Inv (k + 1), ct := Inv (k + 1), bk := fun _ => False })
    (k : ∀ sl', Inv ds.length sl' → STs C X ss sl' p)
    (hx1 : X.N[n]? = some x := by rfl) (hx : Loc X.env.scope x := by first | exact .inl rfl | exact .inr rfl) (hf : X.fn x = true ∨ X.env.scope.names.lookup x = some .local := by first | exact .inl rfl | exact .inr rfl)
    (hp : PassesOwn (model X.prog X.w) X.A X.env X.xe := by exact PassesOwn.never) (hs : ∀ y, foldedSetIterable iter X.env y = pure y := by intro _; rfl) : STs C X (.For (.Name x p1) iter body [] pos :: ss) sl p :=
  sts_forN n (fun _ => Inv) hc hN hi (fun _ _ => h0) (fun ds' k d sl' pT hd hI => hb k d sl' (by rw [← show ds' = ds from pT]; exact hd) hI) (fun ds' sl' pT hI => k sl' (by rw [← show ds' = ds from pT]; exact hI)) (fun _ f => f.elim) hx1 hx hf hp hs
/-- the same with a break -/
theorem sts_forLB (n : Nat) {iter : Expr} {body : List Stmt} {ds : List PyData} (Inv : Nat → List Sl → Prop) (Nb : List Sl → Prop) (hc : X.calm = true) (hN : X.N.Nodup) (hi : IT C X (.Name x p1) iter sl (isL ds)) (h0 : Inv 0 sl)
    (hb : ∀ k d sl', ds[k]? = some d → Inv k sl' → STs C X body (sl'.set n (.d d)) { p with nx := Inv (k + 1), ct := Inv (k + 1), bk := Nb })
    (k : ∀ sl', Inv ds.length sl' ∨ Nb sl' → STs C X ss sl' p)
    (hx1 : X.N[n]? = some x := by rfl) (hx : Loc X.env.scope x := by first | exact .inl rfl | exact .inr rfl) (hf : X.fn x = true ∨ X.env.scope.names.lookup x = some .local := by first | exact .inl rfl | exact .inr rfl)
    (hp : PassesOwn (model X.prog X.w) X.A X.env X.xe := by exact PassesOwn.never) (hs : ∀ y, foldedSetIterable iter X.env y = pure y := by intro _; rfl) : STs C X (.For (.Name x p1) iter body [] pos :: ss) sl p :=
  sts_forN n (fun _ => Inv) hc hN hi (fun _ _ => h0) (fun ds' k d sl' pT hd hI => hb k d sl' (by rw [← show ds' = ds from pT]; exact hd) hI) (fun ds' sl' pT hI => k sl' (.inl (by rw [← show ds' = ds from pT]; exact hI))) (fun sl' f => k sl' (.inr f)) hx1 hx hf hp hs
/-- over items that are known, any target; no break -/
theorem sts_forG {iter : Expr} {body : List Stmt} {ds : List PyData} (Inv : Nat → List Sl → Prop) (hc : X.calm = true) (hi : IT C X tg iter sl (isL ds)) (h0 : Inv 0 sl)
    (hb : ∀ k d sl', ds[k]? = some d → Inv k sl' → ∃ N, GA C X tg d sl' N ∧ ∀ sl2, N sl2 → STs C X body sl2 { p with nx := Inv (k + 1), ct := Inv (k + 1), bk := fun _ => False })
    (k : ∀ sl', Inv ds.length sl' → STs C X ss sl' p)
    (hp : PassesOwn (model X.prog X.w) X.A X.env X.xe := by exact PassesOwn.never) (hs : ∀ y, foldedSetIterable iter X.env y = pure y := by intro _; rfl) : STs C X (.For tg iter body [] pos :: ss) sl p :=
  sts_for (fun _ => Inv) hc hi (fun _ _ => h0) (fun ds' k d sl' pT hd hI => hb k d sl' (by rw [← show ds' = ds from pT]; exact hd) hI) (fun ds' sl' pT hI => k sl' (by rw [← show ds' = ds from pT]; exact hI)) (fun _ f => f.elim) hp hs
end

/-! ### defs -/
section
variable {P : Program} {w : World} {K : PySem.W.Frag} {mg : Str → Option Value} {base : Heap}
def slots0 (N : List Str) (ds : List PyData) : List Sl := ds.map .d ++ List.replicate (N.length - ds.length) .u
theorem slots_u (B H : Hp) : ∀ n, Slots K B H (List.replicate n none) (List.replicate n .u) []
  | 0 => .nil
  | n + 1 => by
    rw [List.replicate_succ, List.replicate_succ]
    exact .cons (F := []) .u (slots_u B H n)
theorem slots_start {B H : Hp} {vs : List V} {ds : List PyData} (r : Reps K B vs ds) (n : Nat) : Slots K B H (vs.map some ++ List.replicate n none) (ds.map .d ++ List.replicate n .u) [] := by
  induction vs generalizing ds with
  | nil => cases r; exact slots_u B H n
  | cons v vs ih =>
    cases r with
    | cons r1 r2 => exact .cons (F := []) (.d r1) (ih r2)
/-- THE RULE for a def that only reads: its body, from data to data -/
theorem fn_D {α : Type} {args : α → List PyData} {pre : α → Prop} {post : α → PyData → Prop} {x qual : Str} {st : Stmt} {f : Addr} {fd : FuncData} {N ps : List Str} {k : Nat} (F : Fun K x qual st f fd) (S : FnScope N ps (defScope st)) (hl : ∀ y, (args y).length = ps.length)
    (hb : ∀ (cdv : Value) (A : Around) (outer : List Env) (s : Shared) (H : Hp) (E : XK) (y : α), Room k (A.deeper (envOfC qual (defScope st) s.heap.objs.size f cdv)) → pre y → ∀ C : Cfg, C.st = none →
      STs C (cxOf CX0 P w K mg base N qual (defScope st) f cdv A outer s H E).nox (defBody st) (slots0 N (args y)) { nx := fun _ => post y .none, rt := post y }) :
    FnOk P w K mg base CX0 (k + 1) f fd ps (SpD K args pre post) := by
  refine F.ok S (fun vs H Q E h => ?_) (fun cdv A outer s H vs Q E hr h => ?_)
  · obtain ⟨M, y, _, r, _⟩ := h
    rw [r.length, hl]
  · obtain ⟨M, y, hM, r, hy, q⟩ := h
    refine ⟨_, pss_c _, ?_⟩
    have lv := r.length
    have E0 : EnvOk K ⟨none, M, fun a e => by cases e⟩ H (start N vs) (slots0 N (args y)) [] := by
      refine ⟨⟨[], ?_, List.nodup_nil, fun a h => h⟩, fun a h => absurd h (by simp), fun a h => absurd h (by simp), hM, fun a e => by cases e⟩
      unfold L2.start slots0
      rw [lv]
      exact slots_start r _
    refine hb cdv A outer s H E y hr hy ⟨none, M, fun a e => by cases e⟩ rfl (start N vs) H [] E0 _ ⟨fun σ' H' O' sl' n E' st => q _ H' .none n (fun a o h => st.keep a o (by simp) (by simp) h) .non, fun v H' d pd st r => q v H' d pd (fun a o h => st.keep a o (by simp) (by simp) h) r, fun _ _ _ _ n => n.elim, fun _ _ _ _ n => n.elim⟩
/-- the same for a def that draws from the state, its first parameter -/
theorem fn_S {α : Type} {args : α → List PyData} {pre : α → Prop} {post : α → PyData → Prop} {x qual : Str} {st : Stmt} {f : Addr} {fd : FuncData} {N ps : List Str} {k : Nat} (F : Fun K x qual st f fd) (S : FnScope N ps (defScope st)) (hl : ∀ y, (args y).length + 1 = ps.length)
    (hb : ∀ (cdv : Value) (A : Around) (outer : List Env) (s : Shared) (H : Hp) (E : XK) (y : α) (a : Addr), Room k (A.deeper (envOfC qual (defScope st) s.heap.objs.size f cdv)) → pre y → ∀ C : Cfg, C.st = some a →
      STs C (cxOf CX0 P w K mg base N qual (defScope st) f cdv A outer s H E).nox (defBody st) (.r (.ref a) :: ((args y).map .d ++ List.replicate (N.length - ((args y).length + 1)) .u)) { nx := fun _ => post y .none, rt := post y }) :
    FnOk P w K mg base CX0 (k + 1) f fd ps (SpS K args pre post) := by
  refine F.ok S (fun vs H Q E h => ?_) (fun cdv A outer s H vs Q E hr h => ?_)
  · obtain ⟨M, a, vs', y, _, _, _, e, r, _⟩ := h
    rw [e, List.length_cons, r.length, hl]
  · obtain ⟨M, a, vs', y, ha, hM, hok, rfl, r, hy, q⟩ := h
    refine ⟨_, pss_c _, ?_⟩
    have lv := r.length
    have E0 : EnvOk K ⟨some a, M, fun b e => by cases e; exact ha⟩ H (start N (.ref a :: vs')) (.r (.ref a) :: ((args y).map .d ++ List.replicate (N.length - ((args y).length + 1)) .u)) [] := by
      refine ⟨⟨[], ?_, List.nodup_nil, fun a h => h⟩, fun a h => absurd h (by simp), fun a h => absurd h (by simp), hM, fun b e => by cases e; rw [cut_nil]; exact hok⟩
      unfold L2.start
      rw [List.length_cons, lv]
      exact .cons (F := []) .r (slots_start r _)
    refine hb cdv A outer s H E y a hr hy ⟨some a, M, fun b e => by cases e; exact ha⟩ rfl (start N (.ref a :: vs')) H [] E0 _ ⟨fun σ' H' O' sl' n E' st => q _ H' .none n (fun C e => ⟨fun b o ns h => st.keep b o (fun z => ns (e.trans z)) (by simp) h, fun b eb Ox h => st.ok b (e.symm.trans eb) Ox h⟩) .non,
      fun v H' d pd st r => q v H' d pd (fun C e => ⟨fun b o ns h => st.keep b o (fun z => ns (e.trans z)) (by simp) h, fun b eb Ox h => st.ok b (e.symm.trans eb) Ox h⟩) r, fun _ _ _ _ n => n.elim, fun _ _ _ _ n => n.elim⟩
end
end DL
/-! Raw blocks, cut by what is wanted between; the promise of a draw. -/
namespace DL
open PySem PySem.Spec PyProof.Rows L2
section
variable {X : Cx} {s : Stmt} {ss : List Stmt} {D : Ends} {σ : L2.St} {H : Hp} {t : TS}
theorem cSs_mid (Good : L2.St → Hp → Prop) (h : cS X s { D with nx := Good } σ H) (k : ∀ σ' H', Good σ' H' → cSs X ss D σ' H') : cSs X (s :: ss) D σ H :=
  ofSs (pss_cons (ps_c s) (pss_c ss)) (fun pins s0 I => thn (h pins s0 I) fun f s' q => by
    cases f with
    | next =>
      obtain ⟨σ', H', I', g⟩ := q
      exact ⟨σ', H', I', k σ' H' g⟩
    | brk => exact q
    | cont => exact q
    | ret v => exact q)
theorem cSs_cons (h : PS X s t) (k : t { D with nx := cSs X ss D } σ H) : cSs X (s :: ss) D σ H := ofSs (pss_cons h (pss_c ss)) k
theorem cSs_one (h : PS X s t) (k : t D σ H) : cSs X [s] D σ H := ofSs (pss_one h) k
theorem cSs_nil (k : D.nx σ H) : cSs X [] D σ H := ofSs pss_nil k
end
abbrev SpDraw (K : PySem.W.Frag) : Sp := SpS K (fun m : Int => [.int m]) (fun m => 0 < m ∧ m ≤ 1000000) (fun m d => ∃ j : Int, d = .int j ∧ 0 ≤ j ∧ j < m)
/-- the state's list -/
abbrev stL (x p : Int) (L : Addr) (z : Int) : HO := .lst [.int x, .int p, .ref L, .int z]
theorem st_tr {H : Hp} {a L : Addr} {x p z x' p' z' : Int} {ns : List Int} (h : H a = some (stL x p L z)) (hl : H L = some (.lst (ns.map V.int))) (b : 0 ≤ x' ∧ 0 ≤ p' ∧ 0 ≤ z' ∧ z' < 2147483647) {C : Cfg} (e : C.st = some a) : Tr C H (upd H a (stL x' p' L z')) := by
  refine ⟨fun c o n hc => ?_, fun c ec O hO => ?_⟩
  · rw [upd_ne (fun q => n (by rw [e, q]))]; exact hc
  · obtain rfl : a = c := by rw [e] at ec; exact Option.some.inj ec
    obtain ⟨x1, p1, L1, z1, ns1, g1, g2, g3⟩ := hO
    have q1 := (cut_some g1).2
    rw [h] at q1
    injection q1 with q1
    injection q1 with q1
    injection q1 with _ q1
    injection q1 with _ q1
    injection q1 with q1 _
    injection q1 with q1
    subst q1
    have nL : L ≠ a := fun q => by
      rw [q, h] at hl
      injection hl with hl
      injection hl with hl
      cases ns with
      | nil => simp at hl
      | cons n1 ns =>
        cases ns with
        | nil => simp at hl
        | cons n2 ns =>
          cases ns with
          | nil => simp at hl
          | cons n3 ns => simp at hl
    refine ⟨x', p', L, z', ns1, ?_, ?_, b.1, b.2.1, b.2.2.1, b.2.2.2, g3.2.2.2.2⟩
    · rw [cut_out (cut_some g1).1, upd_same]
    · rw [cut_out (cut_some g2).1, upd_ne nL]; exact (cut_some g2).2
end DL
/-! Data without bools: equal exactly if the same; lists of ints, words. -/
namespace DL
open PySem PySem.Spec PyProof.Rows L2
mutual
/-- ints, texts, None, lists and tuples of them, at most so deep -/
def flat : Nat → PyData → Bool
  | _, .none => true
  | _, .int _ => true
  | _, .str x => PyData.strOk x
  | n + 1, .list xs => flats n xs
  | n + 1, .tuple xs => flats n xs
  | _, _ => false
def flats : Nat → List PyData → Bool
  | _, [] => true
  | n, x :: xs => flat n x && flats n xs
end
mutual
theorem flat_lay : ∀ (d : PyData) (n : Nat), flat n d = true → d.canLay0 = true ∧ d.depth ≤ n + 1
  | .none, n, _ => by simp [PyData.canLay0, PyData.depth]
  | .int _, n, _ => by simp [PyData.canLay0, PyData.depth]
  | .str x, n, h => by
    have h : PyData.strOk x = true := by cases n <;> simpa [flat] using h
    simp [PyData.canLay0, PyData.depth, h]
  | .bool _, n, h => by cases n <;> simp [flat] at h
  | .dict _, n, h => by cases n <;> simp [flat] at h
  | .list xs, 0, h => by simp [flat] at h
  | .tuple xs, 0, h => by simp [flat] at h
  | .list xs, n + 1, h => by
    have q := flats_lay xs n (by simpa [flat] using h)
    simp only [PyData.canLay0, PyData.depth]
    exact ⟨q.1, by omega⟩
  | .tuple xs, n + 1, h => by
    have q := flats_lay xs n (by simpa [flat] using h)
    simp only [PyData.canLay0, PyData.depth]
    exact ⟨q.1, by omega⟩
theorem flats_lay : ∀ (xs : List PyData) (n : Nat), flats n xs = true → PyData.canLayAll0 xs = true ∧ PyData.depthAll xs ≤ n + 1
  | [], n, _ => by simp [PyData.canLayAll0, PyData.depthAll]
  | x :: xs, n, h => by
    have h2 : flat n x = true ∧ flats n xs = true := by simpa [flats] using h
    have q1 := flat_lay x n h2.1
    have q2 := flats_lay xs n h2.2
    simp only [PyData.canLayAll0, PyData.depthAll, Bool.and_eq_true]
    exact ⟨⟨q1.1, q2.1⟩, by omega⟩
end
theorem flat_shaped {d : PyData} {n : Nat} (h : flat n d = true) (hn : n ≤ 60 := by decide) : SeqAt.shaped d = true := by
  have q := flat_lay d n h
  unfold SeqAt.shaped
  rw [q.1, Bool.true_and]
  exact decide_eq_true (by omega)
mutual
theorem eqv_flat : ∀ (d e : PyData) (n : Nat), flat n d = true → flat n e = true → (PyData.eqv d e = true ↔ d = e)
  | .none, e, n, _, h => by cases e <;> simp [PyData.eqv]
  | .int i, e, n, _, h => by cases e <;> cases n <;> simp [PyData.eqv, flat] at h ⊢
  | .str s, e, n, _, h => by cases e <;> simp [PyData.eqv]
  | .bool _, e, n, h, _ => by cases n <;> simp [flat] at h
  | .dict _, e, n, h, _ => by cases n <;> simp [flat] at h
  | .list xs, e, 0, h, _ => by simp [flat] at h
  | .tuple xs, e, 0, h, _ => by simp [flat] at h
  | .list xs, e, n + 1, h, h' => by
    cases e with
    | list ys =>
      have q := eqvs_flat xs ys n (by simpa [flat] using h) (by simpa [flat] using h')
      simp only [PyData.eqv, PyData.list.injEq]
      exact q
    | _ => simp [PyData.eqv]
  | .tuple xs, e, n + 1, h, h' => by
    cases e with
    | tuple ys =>
      have q := eqvs_flat xs ys n (by simpa [flat] using h) (by simpa [flat] using h')
      simp only [PyData.eqv, PyData.tuple.injEq]
      exact q
    | _ => simp [PyData.eqv]
theorem eqvs_flat : ∀ (xs ys : List PyData) (n : Nat), flats n xs = true → flats n ys = true → (PyData.eqvAll xs ys = true ↔ xs = ys)
  | [], [], _, _, _ => by simp [PyData.eqvAll]
  | [], _ :: _, _, _, _ => by simp [PyData.eqvAll]
  | _ :: _, [], _, _, _ => by simp [PyData.eqvAll]
  | x :: xs, y :: ys, n, h, h' => by
    have h1 : flat n x = true ∧ flats n xs = true := by simpa [flats] using h
    have h2 : flat n y = true ∧ flats n ys = true := by simpa [flats] using h'
    simp only [PyData.eqvAll, Bool.and_eq_true, List.cons.injEq]
    rw [eqv_flat x y n h1.1 h2.1, eqvs_flat xs ys n h1.2 h2.2]
end
theorem eqv_b {d e : PyData} {n : Nat} {b : Bool} (h : flat n d = true) (h' : flat n e = true) (hb : b = true ↔ d = e) : PyData.eqv d e = b := by
  have q := (eqv_flat d e n h h').trans hb.symm
  cases b <;> cases z : PyData.eqv d e <;> simp_all
theorem any_flat {ds : List PyData} {d : PyData} {n : Nat} (h : flats n ds = true) (hd : flat n d = true) : (ds.any fun z => PyData.eqv z d) = true ↔ d ∈ ds := by
  induction ds with
  | nil => simp
  | cons x ds ih =>
    have h2 : flat n x = true ∧ flats n ds = true := by simpa [flats] using h
    rw [List.any_cons, Bool.or_eq_true, ih h2.2, eqv_flat x d n h2.1 hd, List.mem_cons]
    exact ⟨fun h => h.elim (fun e => .inl e.symm) .inr, fun h => h.elim (fun e => .inl e.symm) .inr⟩
theorem flats_map {α : Type} {n : Nat} {g : α → PyData} : ∀ xs : List α, (∀ x ∈ xs, flat n (g x) = true) → flats n (xs.map g) = true
  | [], _ => by cases n <;> rfl
  | x :: xs, h => by
    rw [List.map_cons, flats, h x List.mem_cons_self, flats_map xs fun y hy => h y (List.mem_cons_of_mem _ hy)]
    rfl
theorem flat_int {n : Nat} {i : Int} : flat n (.int i) = true := by cases n <;> rfl
/-- a list of ints; a word -/
def li (ns : List Int) : PyData := .list (ns.map .int)
theorem flat_li (n : Nat) (ns : List Int) : flat (n + 1) (li ns) = true := by
  rw [li, flat]
  exact flats_map ns fun _ _ => flat_int
theorem li_inj {a b : List Int} (h : li a = li b) : a = b := by
  injection h with h
  exact (List.map_inj_right fun _ _ e => PyData.int.inj e).mp h
theorem li_at {ns : List Int} {m : Nat} (h : m < ns.length) : atI (ns.map PyData.int) (m : Int) = some (.int (ns.getD m 0)) := by
  refine atI_nat ?_
  rw [List.getElem?_map, List.getD_eq_getElem?_getD, List.getElem?_eq_getElem h]
  rfl
theorem cutL_to {α : Type} (xs : List α) (n : Nat) : cutL xs none (some (n : Int)) = xs.take n := by
  unfold cutL
  rw [HT.sIx_none, HT.sIx_nat, List.drop_zero, Nat.sub_zero]
  by_cases h : n ≤ xs.length
  · rw [Nat.min_eq_left h]
  · rw [Nat.min_eq_right (by omega), List.take_of_length_le (Nat.le_refl _), List.take_of_length_le (by omega)]
theorem cutL_from {α : Type} (xs : List α) (n : Nat) : cutL xs (some (n : Int)) none = xs.drop n := by
  unfold cutL
  rw [HT.sIx_none, HT.sIx_nat]
  by_cases h : n ≤ xs.length
  · rw [Nat.min_eq_left h, List.take_of_length_le (by rw [List.length_drop]; omega)]
  · rw [Nat.min_eq_right (by omega), List.drop_of_length_le (Nat.le_refl _), List.drop_of_length_le (by omega)]
    exact List.take_nil
theorem foldl_take {α β : Type} {f : β → α → β} {a : β} {xs : List α} {k : Nat} {x : α} (h : xs[k]? = some x) : (xs.take (k + 1)).foldl f a = f ((xs.take k).foldl f a) x := by
  rw [List.take_add_one, h, List.foldl_append]
  rfl
/-- from items of one form to a list of what they are made of -/
theorem choose_list {α : Type} {g : α → PyData} {Q : α → Prop} : ∀ out : List PyData, (∀ z ∈ out, ∃ w, z = g w ∧ Q w) → ∃ ws : List α, out = ws.map g ∧ ∀ w ∈ ws, Q w
  | [], _ => ⟨[], rfl, fun w h => absurd h (by simp)⟩
  | z :: zs, h => by
    obtain ⟨w, e, q⟩ := h z List.mem_cons_self
    obtain ⟨ws, e2, q2⟩ := choose_list zs fun y hy => h y (List.mem_cons_of_mem _ hy)
    exact ⟨w :: ws, by rw [e, e2]; rfl, fun x hx => by
      rcases List.mem_cons.mp hx with rfl | hx
      · exact q
      · exact q2 x hx⟩
/-- what a comprehension whose items are drawn gives -/
theorem drawn {α : Type} {g : α → PyData} {Q : α → Prop} {ds out : List PyData} (hl : out.length = ds.length) (h : ∀ (k : Nat) (y : PyData), ds[k]? = some y → ∃ z, out[k]? = some z ∧ ∃ w, z = g w ∧ Q w) : ∃ ws : List α, out = ws.map g ∧ ws.length = ds.length ∧ ∀ w ∈ ws, Q w := by
  obtain ⟨ws, e, q⟩ := choose_list (g := g) (Q := Q) out fun z hz => by
    obtain ⟨k, hk, e⟩ := List.getElem_of_mem hz
    obtain ⟨z', h1, h2⟩ := h k _ (List.getElem?_eq_getElem (by omega))
    rw [List.getElem?_eq_getElem hk, e] at h1
    injection h1 with h1
    rw [h1]; exact h2
  exact ⟨ws, e, by rw [← hl, e, List.length_map], q⟩
end DL
/-! A law: its first row makes the state; its promise. -/
namespace DL
open PySem PySem.Spec PyProof.Rows L2
section
variable {X : Cx} {ss : List Stmt}
/-- what a law promises: True, whatever the script -/
def spLaw (K : PySem.W.Frag) : Sp := fun vs H Q _ => ∃ (a : Addr) (ns : List Int), vs = [.ref a] ∧ SqL K H a (ns.map V.int) ∧ ns.length ≤ 63 ∧ ∀ H', Q (.bl true) H'
theorem law_open {p1 q1 q2 q3 q4 q5 q6 q7 q8 : Pos} {j1 j2 j3 : Nat} {H : Hp} {a : Addr} {ns : List Int} {n : Nat} {Q : VK} (hN : X.N.Nodup) (h0 : X.N[0]? = some ("script" : Str)) (h1 : X.N[1]? = some ("state" : Str)) (hv : Vis X.env.scope "script") (hx : Loc X.env.scope "state") (hf : X.fn "state" = true ∨ X.env.scope.names.lookup ("state" : Str) = some .local)
    (hg : Gl X "list") (hm : X.mg "list" = none) (hS : SqL X.K H a (ns.map V.int)) (hn : ns.length ≤ 63) (hQ : ∀ H', Q (.bl true) H')
    (hb : ∀ (p : Addr) (C : Cfg), C.st = some p → STs C X ss (.u :: .r (.ref p) :: List.replicate n .u) { nx := fun _ => False, rt := fun d => d = .bool true })
    (hs : swapsWith (.List [.Constant (.int 0) j1 q1, .Constant (.int 0) j2 q2, .Call (.Name "list" q3) [.Name "script" q4] [] q5, .Constant (.int 1) j3 q6] q7) (some (.Name "state" p1)) q8.line X.env = pure false := by rfl) :
    cSs X (.Assign [.Name "state" p1] (.List [.Constant (.int 0) j1 q1, .Constant (.int 0) j2 q2, .Call (.Name "list" q3) [.Name "script" q4] [] q5, .Constant (.int 1) j3 q6] q7) q8 :: ss) { nx := fun _ H' => Q .non H', rt := Q } (some (.ref a) :: none :: List.replicate n none) H := by
  refine cSs_cons (ps_set (i := 1) hN h1 hx (pe_lst (pa_cons pe_int (pa_cons pe_int (pa_cons (pe_callTy call_list_of hg hm boot_list (pa_cons (pe_var h0 hv) pa_nil)) (pa_cons pe_int pa_nil))))) hs hf) ?_
  refine ⟨.ref a, rfl, a, _, rfl, .inl hS, fun l hl => ⟨by show 4 ≤ sizeLine; decide, fun p hp => ?_⟩⟩
  have hpl : l ≠ p := fun e => by rw [← e, upd_same] at hp; cases hp
  have g1 : upd (upd H l (.lst (ns.map V.int))) p (.lst [.int 0, .int 0, .ref l, .int 1]) p = some (.lst [.int 0, .int 0, .ref l, .int 1]) := upd_same
  have g2 : upd (upd H l (.lst (ns.map V.int))) p (.lst [.int 0, .int 0, .ref l, .int 1]) l = some (.lst (ns.map V.int)) := by rw [upd_ne hpl, upd_same]
  generalize upd (upd H l (.lst (ns.map V.int))) p (.lst [.int 0, .int 0, .ref l, .int 1]) = G at g1 g2
  refine hb p ⟨some p, [p], fun b e => by cases e; simp⟩ rfl _ G [] ⟨⟨[], ?_, List.nodup_nil, fun a h => h⟩, fun a h => absurd h (by simp), fun a h => absurd h (by simp), fun b h => ?_, fun b e => ?_⟩ _ ⟨fun _ _ _ _ n => n.elim, fun v H' d pd st r => ?_, fun _ _ _ _ n => n.elim, fun _ _ _ _ n => n.elim⟩
  · exact .cons (F := []) .u (.cons (F := []) .r (slots_u _ _ n))
  · rw [List.mem_singleton] at h
    rw [h, g1]; simp
  · cases e
    rw [cut_nil]
    exact ⟨0, 0, l, 1, ns, g1, g2, by decide, by decide, by decide, by decide, by omega⟩
  · have pd : d = .bool true := pd
    subst pd
    rw [r.bl_inv]
    exact hQ H'
end
end DL
/-! More rules: slots forgotten, membership, index, dicts, comprehensions with a test, pop. -/
namespace DL
open PySem PySem.Spec PyProof.Rows L2
/-- the second knows no more than the first -/
def Wk : List Sl → List Sl → Prop
  | [], [] => True
  | s :: a, t :: b => (t = .u ∨ t = s) ∧ Wk a b
  | _, _ => False
theorem Wk.refl : ∀ a, Wk a a
  | [] => trivial
  | _ :: a => ⟨.inr rfl, Wk.refl a⟩
section
variable {K : PySem.W.Frag} {B H : Hp}
theorem Slots.wk : ∀ {σ : L2.St} {sl sl' : List Sl} {O : List Addr}, Slots K B H σ sl O → Wk sl sl' → O.Nodup → ∃ O', Slots K B H σ sl' O' ∧ O'.Nodup ∧ ∀ a ∈ O', a ∈ O := by
  intro σ sl sl' O h
  induction h generalizing sl' with
  | nil =>
    intro w n
    cases sl' with
    | nil => exact ⟨[], .nil, n, fun a h => h⟩
    | cons _ _ => exact w.elim
  | @cons o s F O σ sl a b ih =>
    intro w n
    cases sl' with
    | nil => exact w.elim
    | cons t sl' =>
      rw [List.nodup_append] at n
      obtain ⟨O', s', n', m'⟩ := ih w.2 n.2.1
      rcases w.1 with e | e
      · subst e
        exact ⟨[] ++ O', .cons .u s', by simpa using n', fun x hx => List.mem_append_right _ (m' x (by simpa using hx))⟩
      · subst e
        refine ⟨F ++ O', .cons a s', ?_, fun x hx => ?_⟩
        · rw [List.nodup_append]
          exact ⟨n.1, n', fun x hx y hy e => n.2.2 x hx y (m' y hy) e⟩
        · rcases List.mem_append.mp hx with hx | hx
          · exact List.mem_append_left _ hx
          · exact List.mem_append_right _ (m' x hx)
end
theorem EnvOk.wk {K : PySem.W.Frag} {C : Cfg} {H : Hp} {σ : L2.St} {sl sl' : List Sl} {O : List Addr} (E : EnvOk K C H σ sl O) (w : Wk sl sl') : EnvOk K C H σ sl' O := by
  obtain ⟨O1, s, n, m⟩ := E.slots
  obtain ⟨O2, s2, n2, m2⟩ := s.wk w n
  exact ⟨⟨O2, s2, n2, fun a h => m a (m2 a h)⟩, E.dj, E.to, E.tm, E.ok⟩
section
variable {C : Cfg} {X : Cx} {e a b c : Expr} {es : List Expr} {sl sl' : List Sl} {P P' Pa Pb Pc : PyData → Prop} {pos p1 : Pos} {K : PySem.W.Frag} {H H' : Hp} {σ : L2.St} {O : List Addr} {i j : Int} {x : Str} {p : Ps} {ss : List Stmt}
theorem sts_wk (k : STs C X ss sl' p) (w : Wk sl sl') : STs C X ss sl p := fun σ H O E D f => k σ H O (E.wk w) D f
/-- a block's end, some slots forgotten -/
theorem sts_end (h : p.nx sl') (w : Wk sl sl' := by repeat (first | exact trivial | refine ⟨by first | exact .inr rfl | exact .inl rfl, ?_⟩)) : STs C X [] sl p := sts_wk (sts_nil h) w
theorem sts_contW (h : p.ct sl') (w : Wk sl sl' := by repeat (first | exact trivial | refine ⟨by first | exact .inr rfl | exact .inl rfl, ?_⟩)) : STs C X [.Continue pos] sl p := sts_wk (sts_continue h) w
theorem sts_breakW (h : p.bk sl') (w : Wk sl sl' := by repeat (first | exact trivial | refine ⟨by first | exact .inr rfl | exact .inl rfl, ?_⟩)) : STs C X [.Break pos] sl p := sts_wk (sts_break h) w
/-- a for whose slots are told by the turn's number -/
theorem sts_forX (n : Nat) {iter : Expr} {body : List Stmt} {ds : List PyData} (L : Nat → List Sl) (hc : X.calm = true) (hN : X.N.Nodup) (hi : IT C X (.Name x p1) iter sl (isL ds)) (h0 : Wk sl (L 0))
    (hb : ∀ k d, ds[k]? = some d → STs C X body ((L k).set n (.d d)) { p with nx := fun s => s = L (k + 1), ct := fun s => s = L (k + 1), bk := fun _ => False })
    (k : STs C X ss (L ds.length) p)
    (hx1 : X.N[n]? = some x := by rfl) (hx : Loc X.env.scope x := by first | exact .inl rfl | exact .inr rfl) (hf : X.fn x = true ∨ X.env.scope.names.lookup x = some .local := by first | exact .inl rfl | exact .inr rfl)
    (hp : PassesOwn (model X.prog X.w) X.A X.env X.xe := by exact PassesOwn.never) (hs : ∀ y, foldedSetIterable iter X.env y = pure y := by intro _; rfl) : STs C X (.For (.Name x p1) iter body [] pos :: ss) sl p :=
  sts_forL n (fun k s => (k = 0 ∧ s = sl) ∨ s = L k) hc hN hi (.inl ⟨rfl, rfl⟩) (fun k d sl' hd hI => by
    have key : STs C X body ((L k).set n (.d d)) { p with nx := fun s => (k + 1 = 0 ∧ s = sl) ∨ s = L (k + 1), ct := fun s => (k + 1 = 0 ∧ s = sl) ∨ s = L (k + 1), bk := fun _ => False } := (hb k d hd).imp (fun _ h => .inr h) (fun _ h => h) (fun _ h => h) (fun _ h => .inr h)
    rcases hI with ⟨rfl, rfl⟩ | rfl
    · refine sts_wk key ?_
      have : ∀ (s t : List Sl) (n : Nat) (v : Sl), Wk s t → Wk (s.set n v) (t.set n v) := by
        intro s
        induction s with
        | nil => intro t n v h; cases t with
          | nil => exact trivial
          | cons _ _ => exact h.elim
        | cons s0 s ih => intro t n v h; cases t with
          | nil => exact h.elim
          | cons t0 t => cases n with
            | zero => exact ⟨.inr rfl, h.2⟩
            | succ n => exact ⟨h.1, ih t n v h.2⟩
      exact this _ _ n _ h0
    · exact key) (fun sl' hI => by
    rcases hI with ⟨e, rfl⟩ | rfl
    · rw [e] at k
      exact sts_wk k h0
    · exact k) hx1 hx hf hp hs

theorem Wk.set : ∀ {s t : List Sl} (n : Nat) (v : Sl), Wk s t → Wk (s.set n v) (t.set n v)
  | [], [], _, _, _ => trivial
  | [], _ :: _, _, _, h => h.elim
  | _ :: _, [], _, _, h => h.elim
  | _ :: _, _ :: _, 0, _, h => ⟨.inr rfl, h.2⟩
  | _ :: _, _ :: _, n + 1, v, h => ⟨h.1, Wk.set n v h.2⟩
/-- a for with a word; some slots are forgotten at its start -/
theorem sts_forI (n : Nat) {iter : Expr} {body : List Stmt} {ds : List PyData} (Inv : Nat → List Sl → Prop) (s0 : List Sl) (hc : X.calm = true) (hN : X.N.Nodup) (hi : IT C X (.Name x p1) iter sl (isL ds)) (h0 : Inv 0 s0)
    (hb : ∀ k d sl', ds[k]? = some d → Inv k sl' → STs C X body (sl'.set n (.d d)) { p with nx := Inv (k + 1), ct := Inv (k + 1), bk := fun _ => False })
    (k : ∀ sl', Inv ds.length sl' → STs C X ss sl' p) (w : Wk sl s0 := by repeat (first | exact trivial | refine ⟨by first | exact .inr rfl | exact .inl rfl, ?_⟩))
    (hx1 : X.N[n]? = some x := by rfl) (hx : Loc X.env.scope x := by first | exact .inl rfl | exact .inr rfl) (hf : X.fn x = true ∨ X.env.scope.names.lookup x = some .local := by first | exact .inl rfl | exact .inr rfl)
    (hp : PassesOwn (model X.prog X.w) X.A X.env X.xe := by exact PassesOwn.never) (hs : ∀ y, foldedSetIterable iter X.env y = pure y := by intro _; rfl) : STs C X (.For (.Name x p1) iter body [] pos :: ss) sl p :=
  sts_forL n (fun k s => (k = 0 ∧ s = sl) ∨ Inv k s) hc hN hi (.inl ⟨rfl, rfl⟩) (fun k d sl' hd hI => by
    have im : ∀ {s}, STs C X body s { p with nx := Inv (k + 1), ct := Inv (k + 1), bk := fun _ => False } → STs C X body s { p with nx := fun s => (k + 1 = 0 ∧ s = sl) ∨ Inv (k + 1) s, ct := fun s => (k + 1 = 0 ∧ s = sl) ∨ Inv (k + 1) s, bk := fun _ => False } :=
      fun h => h.imp (fun _ h => .inr h) (fun _ h => h) (fun _ h => h) (fun _ h => .inr h)
    rcases hI with ⟨rfl, rfl⟩ | hI
    · exact im (sts_wk (hb 0 d s0 hd h0) (Wk.set n _ w))
    · exact im (hb k d sl' hd hI)) (fun sl' hI => by
    rcases hI with ⟨e, rfl⟩ | hI
    · rw [e] at k
      exact sts_wk (k s0 h0) w
    · exact k sl' hI) hx1 hx hf hp hs

/-! ### membership, index -/
def rInDT (K : PySem.W.Frag) : R2 := fun x y H Q => ∃ d ds, Dp K H x d ∧ Dp K H y (.tuple ds) ∧ SeqAt.shaped d = true ∧ SeqAt.shaped (.tuple ds) = true ∧ Q (.bl (ds.any fun z => PyData.eqv z d)) H
def rNotInDT (K : PySem.W.Frag) : R2 := fun x y H Q => ∃ d ds, Dp K H x d ∧ Dp K H y (.tuple ds) ∧ SeqAt.shaped d = true ∧ SeqAt.shaped (.tuple ds) = true ∧ Q (.bl (!ds.any fun z => PyData.eqv z d)) H
theorem op_inDT (hu : X.A.units + 65 < cLine) : OpR X (compareOp .In) (rInDT X.K) := by
  intro pins s σ H x y v u Q I rx ry h
  obtain ⟨d, ds, hd, he, sd, se, q⟩ := h
  obtain ⟨as, r1⟩ := Dp.reads I d x v hd rx
  obtain ⟨bs, r2⟩ := Dp.reads I (.tuple ds) y u he ry
  exact SeqAt.in_tuple_reads r2 r1 (SeqAt.canLay_of_shaped se) (SeqAt.canLay_of_shaped sd) (room_in_shaped sd hu) ⟨.bl _, H, I, rfl, q⟩
theorem op_notInDT (hu : X.A.units + 65 < cLine) : OpR X (compareOp .NotIn) (rNotInDT X.K) := by
  intro pins s σ H x y v u Q I rx ry h
  obtain ⟨d, ds, hd, he, sd, se, q⟩ := h
  obtain ⟨as, r1⟩ := Dp.reads I d x v hd rx
  obtain ⟨bs, r2⟩ := Dp.reads I (.tuple ds) y u he ry
  exact SeqAt.notIn_tuple_reads r2 r1 (SeqAt.canLay_of_shaped se) (SeqAt.canLay_of_shaped sd) (room_in_shaped sd hu) ⟨.bl _, H, I, rfl, q⟩
theorem lay_of {d : PyData} (s : SeqAt.shaped d = true) : d.canLay0 = true := by unfold SeqAt.shaped at s; exact (Bool.and_eq_true _ _ ▸ s).1
section
variable {d : PyData} {ds : List PyData} (hu : X.A.units + 65 < cLine) (ha : EV C X a sl (is d))
include hu ha
theorem et_inL (hb : EVB C X b sl (is (.list ds))) (s1 : SeqAt.shaped d = true) (s2 : SeqAt.shaped (.list ds) = true) (hm : behindInMarks .In b = false := by rfl) : EVT C X (.Compare a [.In] [b] pos) sl (isB (ds.any fun z => PyData.eqv z d)) :=
  et_cmp (op_inD hu) ha hb hm fun H x y dx dy px py rx ry => by
    have px : dx = d := px
    have py : dy = .list ds := py
    subst px py
    exact ⟨_, rfl, fun Q q => ⟨dx, ds, Rep.dp _ _ rx (lay_of s1), Rep.dp _ _ ry (lay_of s2), s1, s2, q⟩⟩
theorem et_notInL (hb : EVB C X b sl (is (.list ds))) (s1 : SeqAt.shaped d = true) (s2 : SeqAt.shaped (.list ds) = true) (hm : behindInMarks .NotIn b = false := by rfl) : EVT C X (.Compare a [.NotIn] [b] pos) sl (isB (!ds.any fun z => PyData.eqv z d)) :=
  et_cmp (op_notInD hu) ha hb hm fun H x y dx dy px py rx ry => by
    have px : dx = d := px
    have py : dy = .list ds := py
    subst px py
    exact ⟨_, rfl, fun Q q => ⟨dx, ds, Rep.dp _ _ rx (lay_of s1), Rep.dp _ _ ry (lay_of s2), s1, s2, q⟩⟩
theorem ev_inT (hb : EVB C X b sl (is (.tuple ds))) (s1 : SeqAt.shaped d = true) (s2 : SeqAt.shaped (.tuple ds) = true) (hm : behindInMarks .In b = false := by rfl) : EV C X (.Compare a [.In] [b] pos) sl (is (.bool (ds.any fun z => PyData.eqv z d))) :=
  (ev_cmp (T := isB (ds.any fun z => PyData.eqv z d)) (op_inDT hu) ha hb hm fun H x y dx dy px py rx ry => by
    have px : dx = d := px
    have py : dy = .tuple ds := py
    subst px py
    exact ⟨_, rfl, fun Q q => ⟨dx, ds, Rep.dp _ _ rx (lay_of s1), Rep.dp _ _ ry (lay_of s2), s1, s2, q⟩⟩).bool fun _ p => p
theorem et_inT (hb : EVB C X b sl (is (.tuple ds))) (s1 : SeqAt.shaped d = true) (s2 : SeqAt.shaped (.tuple ds) = true) (hm : behindInMarks .In b = false := by rfl) : EVT C X (.Compare a [.In] [b] pos) sl (isB (ds.any fun z => PyData.eqv z d)) :=
  et_cmp (op_inDT hu) ha hb hm fun H x y dx dy px py rx ry => by
    have px : dx = d := px
    have py : dy = .tuple ds := py
    subst px py
    exact ⟨_, rfl, fun Q q => ⟨dx, ds, Rep.dp _ _ rx (lay_of s1), Rep.dp _ _ ry (lay_of s2), s1, s2, q⟩⟩
theorem et_notInT (hb : EVB C X b sl (is (.tuple ds))) (s1 : SeqAt.shaped d = true) (s2 : SeqAt.shaped (.tuple ds) = true) (hm : behindInMarks .NotIn b = false := by rfl) : EVT C X (.Compare a [.NotIn] [b] pos) sl (isB (!ds.any fun z => PyData.eqv z d)) :=
  et_cmp (op_notInDT hu) ha hb hm fun H x y dx dy px py rx ry => by
    have px : dx = d := px
    have py : dy = .tuple ds := py
    subst px py
    exact ⟨_, rfl, fun Q q => ⟨dx, ds, Rep.dp _ _ rx (lay_of s1), Rep.dp _ _ ry (lay_of s2), s1, s2, q⟩⟩
end
/-- xs.index(e), xs a list that is not changed here -/
theorem ev_index {d z : PyData} {ds : List PyData} {k : Nat} {ap : Pos} (hu : X.A.units + 65 < cLine) (ha : EV C X a sl (is (.list ds))) (hb : EV C X b sl (is d)) (s1 : SeqAt.shaped d = true) (s2 : SeqAt.shaped (.list ds) = true) (hz : ds[k]? = some z) (h1 : PyData.eqv z d = true)
    (h2 : ∀ (m : Nat) (z' : PyData), m < k → ds[m]? = some z' → PyData.eqv z' d = false)
    (hbase : attributeBase a "index" X.env (eval a X.env) = eval a X.env := by rfl)
    (hfew : ((backTo p1 (starEach [b] X.env)).all (fun x => !x.1) && (backToKw p1 (keywordEach [] X.env)).all (fun x => x.1.isSome)
      && decide ([b].length + ([] : List Keyword).length + (if ([] : List Keyword).isEmpty then 0 else 1) < 30)) = true := by rfl)
    (hline : (ap.endLine == p1.line) = true := by rfl) (hst : starEach [b] X.env = (false, eval b X.env) :: starEach [] X.env := by rfl) (hplain : (backTo p1 (starEach [] X.env)).any (·.1) = false := by rfl) :
    EV C X (.Call (.Attribute a "index" ap) [b] [] p1) sl (is (.int (k : Nat))) := fun σ H O E Q q =>
  ofE (pe_bm PySem.F.plainAttrs_list PySem.F.slot_list_index PySem.F.type_list_index (mt_indexD hu) (pe_c a) (pa_cons (pe_c b) pa_nil hst) hbase hfew hline hst hplain) (ha σ H O E _ fun x H1 dx px t1 r1 => by
    have px : dx = .list ds := px
    subst px
    obtain ⟨l, vs, rfl, e1, q1⟩ := r1.lst_inv
    refine ⟨Or.inl ⟨rfl, _, SqL.of (cut_some e1).2⟩, hb σ H1 O (E.tr t1) _ fun y H2 dy py t2 r2 => ?_⟩
    have py : dy = d := py
    subst py
    have r1' : Rep X.K (cut (O ++ C.M) H2) (.ref l) (.list ds) := r1.mono (t2.cutS O)
    exact ⟨l, y, dy, ds, k, z, rfl, rfl, Rep.dp _ _ (r1'.mono (cut_le _ _)) (lay_of s2), Rep.dp _ _ (r2.mono (cut_le _ _)) (lay_of s1), s2, s1, hz, h1, h2, q _ H2 _ rfl (t1.trans t2) (.int _)⟩)

/-! ### tuple(range(n)) -/
theorem ev_tupR {p2 pos2 q2 : Pos} (hc : X.calm = true) (hm : X.mg "tuple" = none) (hm2 : X.mg "range" = none) (h : EV C X e sl (is (.int i))) (hz : RgOk 0 i) (hg : Gl X "tuple" := by rfl) (hg2 : Gl X "range" := by rfl)
    (he : starEach [e] X.env = (false, eval e X.env) :: starEach [] X.env := by rfl)
    (na : starEach [Expr.Call (.Name "range" p2) [e] [] pos2] X.env = (false, eval (Expr.Call (.Name "range" p2) [e] [] pos2) X.env) :: starEach [] X.env := by rfl) :
    EV C X (.Call (.Name "tuple" q2) [.Call (.Name "range" p2) [e] [] pos2] [] pos) sl (is (.tuple (rgD 0 i))) := fun σ H O E Q k =>
  ofE (pe_tupRg hc hg hm (prg_1 hg2 hm2 (pe_c e) he) na) (h σ H O E _ fun y H1 dy py t1 r1 => by
    have py : dy = .int i := py
    subst py
    have E1 := E.tr t1
    refine ⟨i, r1.int_inv, hz, fun q hq => k _ _ _ rfl (t1.trans (Tr.new hq)) (.obj ?_ (.tup (rg_reps 0 i)))⟩
    rw [cut_out (by intro z; exact (List.mem_append.mp z).elim (E1.fresh hq).1 (E1.fresh hq).2), upd_same])

/-! ### dicts whose keys are tuples -/
def valD {κ : Type} [DecidableEq κ] (kvs : List (κ × PyData)) (k : κ) : Option PyData := (kvs.find? fun kv => decide (kv.1 = k)).map (·.2)
def putD {κ : Type} [DecidableEq κ] (kvs : List (κ × PyData)) (k : κ) (v : PyData) : List (κ × PyData) :=
  if (kvs.any fun kv => decide (kv.1 = k)) = true then kvs.map (fun kv => if kv.1 = k then (kv.1, v) else kv) else kvs ++ [(k, v)]
theorem repT_len {B : Hp} : ∀ {kv : List (List Key × V)} {kvs : List (List Key × PyData)}, RepT K B kv kvs → kv.length = kvs.length
  | _, _, .nil => rfl
  | _, _, .cons _ r => by rw [List.length_cons, List.length_cons, repT_len r]
theorem repT_val {B : Hp} {k : List Key} {kv : List (List Key × V)} {kvs : List (List Key × PyData)} (r : RepT K B kv kvs) : (∀ d, valD kvs k = some d → ∃ v, valV kv k = some v ∧ Rep K B v d) ∧ (valV kv k).isSome = (valD kvs k).isSome := by
  induction kv generalizing kvs with
  | nil => cases r; exact ⟨fun d h => (by cases h), rfl⟩
  | cons q kv ih =>
    cases r with
    | @cons k' v _ d kvs a r =>
      obtain ⟨h1, h2⟩ := ih r
      unfold valD valV at *
      simp only [List.find?_cons]
      by_cases e : k' = k
      · simp only [e, decide_true]
        exact ⟨fun d' h => by simp at h; subst h; exact ⟨v, rfl, a⟩, rfl⟩
      · simp only [e, decide_false]
        exact ⟨h1, h2⟩
theorem repT_any {B : Hp} {k : List Key} : ∀ {kv : List (List Key × V)} {kvs : List (List Key × PyData)}, RepT K B kv kvs → (kv.any fun q => decide (q.1 = k)) = (kvs.any fun q => decide (q.1 = k))
  | _, _, .nil => rfl
  | _, _, .cons a r => by rw [List.any_cons, List.any_cons, repT_any r]
theorem repT_map {B : Hp} {k : List Key} {v : V} {d : PyData} (rv : Rep K B v d) : ∀ {kv : List (List Key × V)} {kvs : List (List Key × PyData)}, RepT K B kv kvs → RepT K B (kv.map fun q => if q.1 = k then (q.1, v) else q) (kvs.map fun q => if q.1 = k then (q.1, d) else q)
  | _, _, .nil => .nil
  | _, _, .cons (k := k') a r => by
    rw [List.map_cons, List.map_cons]
    by_cases e : k' = k
    · rw [if_pos e, if_pos e]; exact .cons rv (repT_map rv r)
    · rw [if_neg e, if_neg e]; exact .cons a (repT_map rv r)
theorem repT_snoc {B : Hp} {k : List Key} {v : V} {d : PyData} (rv : Rep K B v d) : ∀ {kv : List (List Key × V)} {kvs : List (List Key × PyData)}, RepT K B kv kvs → RepT K B (kv ++ [(k, v)]) (kvs ++ [(k, d)])
  | _, _, .nil => .cons rv .nil
  | _, _, .cons a r => .cons a (repT_snoc rv r)
theorem repT_put {B : Hp} {k : List Key} {v : V} {d : PyData} {kv : List (List Key × V)} {kvs : List (List Key × PyData)} (r : RepT K B kv kvs) (rv : Rep K B v d) : RepT K B (putK kv k v) (putD kvs k d) := by
  unfold putK putD
  rw [repT_any r]
  split
  · exact repT_map rv r
  · exact repT_snoc rv r
theorem keys_of {B : Hp} : ∀ {vs : List V} {k : List Key}, Reps K B vs (k.map keyD) → vs = k.map kV
  | _, [], h => by cases h; rfl
  | _, .inl n :: k, h => by
    cases h with
    | cons r t => rw [List.map_cons, keys_of t, r.int_inv]; rfl
  | _, .inr n :: k, h => by
    cases h with
    | cons r t => rw [List.map_cons, keys_of t, r.str_inv]; rfl
/-- d[k], the dict the def's own or not -/
theorem ev_dgetT {k : List Key} {d : PyData} {kvs : List (List Key × PyData)} (hu : X.A.units + 1 < cLine) (ha : EV C X a sl (is (dTD kvs))) (hb : EV C X b sl (is (.tuple (k.map keyD)))) (h : valD kvs k = some d) (hs : NoSl b := by exact fun _ _ => rfl) : EV C X (.Subscript a b pos) sl (is d) := fun σ H O E Q q =>
  ofE (pe_dget hu (pe_c a) (pe_c b) hs) (ha σ H O E _ fun x H1 dx px t1 r1 => hb σ H1 O (E.tr t1) _ fun y H2 dy py t2 r2 => by
    have px : dx = dTD kvs := px
    have py : dy = .tuple (k.map keyD) := py
    subst px py
    obtain ⟨l, kv, rfl, e1, q1⟩ := (r1.mono (t2.cutS O)).dT_inv
    obtain ⟨kb, vs, rfl, e2, q2⟩ := r2.tup_inv
    obtain ⟨v, h3, h4⟩ := (repT_val (k := k) q1).1 d h
    refine ⟨l, v, rfl, ?_, q v H2 d rfl (t1.trans t2) h4⟩
    have g := DGet.t (k := k) (cut_some e1).2 (by rw [← keys_of q2]; exact (cut_some e2).2)
    rw [h3] at g
    exact g)
theorem ev_dgetTO (n : Nat) {px : Pos} {k : List Key} {d : PyData} {kvs : List (List Key × PyData)} (hu : X.A.units + 1 < cLine) (hb : EV C X b sl (is (.tuple (k.map keyD)))) (h : valD kvs k = some d) (hs : sl[n]? = some (.own (dTD kvs)) := by rfl) (hN : X.N[n]? = some x := by rfl)
    (hv : Vis X.env.scope x := by first | exact Or.inl rfl | exact Or.inr (Or.inl rfl) | exact Or.inr (Or.inr rfl)) (hl : NoSl b := by exact fun _ _ => rfl)
    (hd : (x == ("__debug__" : Str)) = false := by decide) (hcd : (x == ("__classdict__" : Str)) = false := by decide) : EV C X (.Subscript (.Name x px) b pos) sl (is d) := fun σ H O E Q q => by
  obtain ⟨l, o, h1, h2, h3, h4⟩ := E.own hs
  obtain ⟨kv, rfl, q1⟩ := h3.dT_inv
  refine ofE (pe_dget hu (pe_var hN hv hd hcd) (pe_c b) hl) ⟨.ref l, h1, hb σ H O E _ fun y H2 dy py t2 r2 => ?_⟩
  have py : dy = .tuple (k.map keyD) := py
  subst py
  obtain ⟨kb, vs, rfl, e2, q2⟩ := r2.tup_inv
  obtain ⟨v, h3, h5⟩ := (repT_val (k := k) (q1.mono (t2.cutS O))).1 d h
  refine ⟨l, v, rfl, ?_, q v H2 d rfl t2 h5⟩
  have g := DGet.t (k := k) (t2.keep _ _ (E.notSt h4) h2) (by rw [← keys_of q2]; exact (cut_some e2).2)
  rw [h3] at g
  exact g
/-- k in d, d the def's own -/
theorem et_inDO (n : Nat) {px : Pos} {k : List Key} {kvs : List (List Key × PyData)} (hu : X.A.units + 1 < cLine) (hb : EV C X b sl (is (.tuple (k.map keyD)))) (hs : sl[n]? = some (.own (dTD kvs)) := by rfl) (hN : X.N[n]? = some x := by rfl)
    (hv : Vis X.env.scope x := by first | exact Or.inl rfl | exact Or.inr (Or.inl rfl) | exact Or.inr (Or.inr rfl)) (hm : behindInMarks .In (Expr.Name x px) = false := by rfl)
    (hd : (x == ("__debug__" : Str)) = false := by decide) (hcd : (x == ("__classdict__" : Str)) = false := by decide) : EVT C X (.Compare b [.In] [.Name x px] pos) sl (isB (valD kvs k).isSome) := fun σ H O E Q q =>
  ofT (pt_cmp (pc_din hu (pe_c b) (pe_var hN hv hd hcd)) hm) (hb σ H O E _ fun y H2 dy py t2 r2 => by
    obtain ⟨l, o, h1, h2, h3, h4⟩ := E.own hs
    obtain ⟨kv, rfl, q1⟩ := h3.dT_inv
    have py : dy = .tuple (k.map keyD) := py
    subst py
    obtain ⟨kb, vs, rfl, e2, q2⟩ := r2.tup_inv
    exact ⟨.ref l, h1, l, _, rfl, DGet.t (k := k) (t2.keep _ _ (E.notSt h4) h2) (by rw [← keys_of q2]; exact (cut_some e2).2), _, rfl, q _ H2 (repT_val (k := k) q1).2 t2⟩)
theorem et_notInDO (n : Nat) {px : Pos} {k : List Key} {kvs : List (List Key × PyData)} (hu : X.A.units + 1 < cLine) (hb : EV C X b sl (is (.tuple (k.map keyD)))) (hs : sl[n]? = some (.own (dTD kvs)) := by rfl) (hN : X.N[n]? = some x := by rfl)
    (hv : Vis X.env.scope x := by first | exact Or.inl rfl | exact Or.inr (Or.inl rfl) | exact Or.inr (Or.inr rfl)) (hm : behindInMarks .NotIn (Expr.Name x px) = false := by rfl)
    (hd : (x == ("__debug__" : Str)) = false := by decide) (hcd : (x == ("__classdict__" : Str)) = false := by decide) : EVT C X (.Compare b [.NotIn] [.Name x px] pos) sl (isB (!(valD kvs k).isSome)) := fun σ H O E Q q =>
  ofT (pt_cmp (pc_dnotin hu (pe_c b) (pe_var hN hv hd hcd)) hm) (hb σ H O E _ fun y H2 dy py t2 r2 => by
    obtain ⟨l, o, h1, h2, h3, h4⟩ := E.own hs
    obtain ⟨kv, rfl, q1⟩ := h3.dT_inv
    have py : dy = .tuple (k.map keyD) := py
    subst py
    obtain ⟨kb, vs, rfl, e2, q2⟩ := r2.tup_inv
    exact ⟨.ref l, h1, l, _, rfl, DGet.t (k := k) (t2.keep _ _ (E.notSt h4) h2) (by rw [← keys_of q2]; exact (cut_some e2).2), _, rfl, q _ H2 (by rw [(repT_val (k := k) q1).2]) t2⟩)
theorem en_dictT : EVN C X (.Dict [] [] pos) sl (is (dTD [])) := fun σ H O E Q q => ofE pe_dnewT (fun p hp => q p _ _ _ rfl (Tr.new hp) hp upd_same (.dT .nil))
theorem en_dictK : EVN C X (.Dict [] [] pos) sl (is (dKD [])) := fun σ H O E Q q => ofE pe_dnewK (fun p hp => q p _ _ _ rfl (Tr.new hp) hp upd_same (.dK .nil))
/-- d[k] = v, d the def's own -/
theorem sts_dputT (n : Nat) {v : Expr} {px pp : Pos} {k : List Key} {kvs : List (List Key × PyData)} (hu : X.A.units + 1 < cLine) (hv : EV C X v sl P) (hb : EV C X b sl (is (.tuple (k.map keyD)))) (hz : kvs.length < 1000000) (q : ∀ d, P d → STs C X ss (sl.set n (.own (dTD (putD kvs k d)))) p)
    (hs : sl[n]? = some (.own (dTD kvs)) := by rfl) (hN : X.N[n]? = some x := by rfl)
    (hvis : Vis X.env.scope x := by first | exact Or.inl rfl | exact Or.inr (Or.inl rfl) | exact Or.inr (Or.inr rfl)) (hsw : swapsWith v (some (.Subscript (.Name x px) b pp)) pos.line X.env = pure false := by rfl)
    (hd : (x == ("__debug__" : Str)) = false := by decide) (hcd : (x == ("__classdict__" : Str)) = false := by decide) : STs C X (.Assign [.Subscript (.Name x px) b pp] v pos :: ss) sl p := fun σ H O E D f => by
  refine ofSs (pss_cons (ps_dput hu (pe_var hN hvis hd hcd) (pe_c b) (pe_c v) hsw) (pss_c ss)) (hv σ H O E _ fun y H1 dv pv t1 r1 => ?_)
  have E1 := E.tr t1
  obtain ⟨l, o, h1, h2, h3, h4⟩ := E1.own hs
  obtain ⟨kv, rfl, q1⟩ := h3.dT_inv
  refine ⟨.ref l, h1, hb σ H1 O E1 _ fun ky H2 dk pk t2 r2 => ?_⟩
  have pk : dk = .tuple (k.map keyD) := pk
  subst pk
  have E2 := E1.tr t2
  obtain ⟨kb, vs, rfl, e2, q2⟩ := r2.tup_inv
  obtain ⟨E3, st⟩ := E2.mut (o := .dT (putK kv k y)) (y := dTD (putD kvs k dv)) hs h1 (.dT (repT_put (q1.mono (t2.cutS O)) (r1.mono (t2.cutS O))))
  refine ⟨l, _, rfl, DPut.t (k := k) (t2.keep _ _ (E1.notSt h4) h2) (by rw [← keys_of q2]; exact (cut_some e2).2) (by rw [repT_len q1]; exact Nat.lt_of_lt_of_le hz (by decide)), ?_⟩
  exact q dv pv σ _ O E3 D (f.step ((Step.tr E (t1.trans t2)).trans st))
end
end DL
/-! Comprehensions with a test; expressions that change a list of the def's own. -/
namespace DL
open PySem PySem.Spec PyProof.Rows L2
def cBlkT (X : Cx) (scope : Scope) (c : Expr) : TT := fun σ H Q => ∀ (s : Shared) (H0 : Hp) (L : Addr) (cl : List (Str × Addr)) (fp : List Addr), cT (X.blk s H0 scope (compEnvC scope cl L X.env) fp) c σ H Q
section
variable {C : Cfg} {X : Cx} {e a b c : Expr} {es : List Expr} {sl sl' : List Sl} {P P' Pa Pb Pc : PyData → Prop} {pos p1 : Pos} {K : PySem.W.Frag} {H H' : Hp} {σ : L2.St} {O : List Addr} {i j : Int} {x : Str} {p : Ps} {ss : List Stmt}
theorem pt_blk {scope : Scope} {c : Expr} (s : Shared) (H0 : Hp) (L : Addr) (cl : List (Str × Addr)) (fp : List Addr) : PT (X.blk s H0 scope (compEnvC scope cl L X.env) fp) c (cBlkT X scope c) := ⟨fun pins s1 σ H Q I h => h s H0 L cl fp pins s1 I⟩
/-- the heap, once more, while a comprehension's new list at D grows -/
theorem EnvOk.within (E1 : EnvOk K C H σ sl O) {D : Addr} {acc : List V} (hD : H D = none) (h1 : H' D = some (.lst acc)) (h5 : Same (cut (O ++ C.M) H) (cut (D :: (O ++ C.M)) H')) (h6 : Tr C H H') : EnvOk K C H' σ sl (D :: O) := by
  have Ea := E1.add (o := .lst []) hD
  obtain ⟨O1, s, nd, m⟩ := E1.slots
  have Eh := E1.tr h6
  refine ⟨⟨O1, s.mono h5 (fun a h x e => h6.keep a x (E1.notSt (m a h)) e), nd, fun a h => List.mem_cons_of_mem _ (m a h)⟩, Ea.dj, fun a h => ?_, Eh.tm, fun a e => ?_⟩
  · rcases List.mem_cons.mp h with rfl | z
    · rw [h1]; simp
    · exact Eh.to a z
  · refine h6.ok a e (D :: O) ((E1.ok a e).mono (cut_same fun b u nb q => ⟨fun z => ?_, q⟩))
    rcases List.mem_cons.mp z with rfl | z
    · rw [hD] at q; cases q
    · exact nb z
theorem Tr.within {D : Addr} {o : HO} {H1 H4 : Hp} (hD : H1 D = Option.none) (t24 : Tr C H1 H4) : Tr C H1 (upd H4 D o) := by
  refine ⟨fun a o' ns h => ?_, fun a e Ox h => ?_⟩
  · rw [upd_ne (ne_of_none h hD)]; exact t24.keep a o' ns h
  · have z := t24.ok a e (D :: Ox) (h.mono (cut_same fun b u nb q => ⟨fun z => by
      rcases List.mem_cons.mp z with rfl | z
      · rw [hD] at q; cases q
      · exact nb z, q⟩))
    refine z.mono (cut_same fun b u nb q => ⟨fun z => nb (List.mem_cons_of_mem _ z), ?_⟩)
    rw [upd_ne (fun e => nb (by rw [e]; exact List.mem_cons_self))]; exact q
/-- [elt for x in iter if c]: q tells what is kept, g what is made of it -/
theorem lc_readF {α : Type} {iter elt : Expr} {scope : Scope} {n : Nat} {xs : Str} {px : Pos} {ws : List α} {enc : α → PyData} (q : α → Bool) (g : α → PyData)
    (hi : IT C X (.Name xs px) iter sl (isL (ws.map enc))) (hT : ws.length ≤ 1000000)
    (hc : ∀ (s : Shared) (H : Hp) (L : Addr) (cl : List (Str × Addr)) (fp : List Addr) d, d ∈ ws → EVT C (X.blk s H scope (compEnvC scope cl L X.env) fp) c ((sl.set n .u).set n (.d (enc d))) (isB (q d)))
    (he : ∀ (s : Shared) (H : Hp) (L : Addr) (cl : List (Str × Addr)) (fp : List Addr) d, d ∈ ws → q d = true → EV C (X.blk s H scope (compEnvC scope cl L X.env) fp) elt ((sl.set n .u).set n (.d (enc d))) (is (g d))) :
    RdN C X (tLc (cI X (.Name xs px) iter) (gName n) (cBlkT X scope c) (cBlk X scope elt) [n]) sl (is (.list ((ws.filter q).map g))) := fun σ H O E Q k => by
  refine hi σ H O E _ fun J H1 ds' pT t1 w D hD => ?_
  have pT : ds' = ws.map enc := pT
  subst pT
  have hlen : (ws.map enc).length = ws.length := List.length_map _
  have E1 := E.tr t1
  have nst : C.st ≠ some D := fun e => (E1.fresh hD).2 (C.hst D e)
  refine ⟨fun i m H2 => m = ws.length - i ∧ i ≤ ws.length ∧ ∃ acc, H2 D = some (.lst acc) ∧ Reps X.K (cut (D :: (O ++ C.M)) H2) acc (((ws.take i).filter q).map g) ∧ Same (cut (O ++ C.M) H1) (cut (D :: (O ++ C.M)) H2) ∧ Tr C H1 H2,
    ⟨ws.length, by simp, Nat.zero_le _, [], upd_same, .nil, cut_same fun a o na h => ⟨fun z => ?_, ?_⟩, Tr.new hD⟩, ?_⟩
  · rcases List.mem_cons.mp z with rfl | z
    · rw [hD] at h; cases h
    · exact na z
  · rw [upd_ne (ne_of_none h hD)]; exact h
  rintro i m H2 ⟨rfl, hi2, acc, h1, h2, h5, h6⟩
  have E2 : EnvOk X.K C H2 σ sl (D :: O) := E1.within hD h1 h5 h6
  have hsame : Same (cut (O ++ C.M) H1) H2 := h5.trans (cut_le _ _)
  by_cases hlt : i < ws.length
  · refine .inr ⟨w.goes i H2 hsame (by rw [hlen]; exact hlt), fun H' => ∃ acc, H' D = some (.lst acc) ∧ Reps X.K (cut (D :: (O ++ C.M)) H') acc (((ws.take (i + 1)).filter q).map g) ∧ Same (cut (O ++ C.M) H1) (cut (D :: (O ++ C.M)) H') ∧ Tr C H1 H',
      fun H' ⟨acc', g1, g2, g5, g6⟩ => ⟨ws.length - (i + 1), by omega, rfl, hlt, acc', g1, g2, g5, g6⟩, fun v H3 yl => ?_⟩
    obtain ⟨d', hd', sm, rp⟩ := w.yields i H2 v H3 hsame (by rw [hlen]; exact hlt) yl
    rw [List.getElem?_map] at hd'
    obtain ⟨d, hd, rfl⟩ := Option.map_eq_some_iff.mp hd'
    have hmem : d ∈ ws := List.mem_of_getElem? hd
    have E3 := E2.tr (Tr.of sm)
    have rv : Rep X.K (cut ((D :: O) ++ C.M) H3) v (enc d) := rp _ (fun a h => by
      rcases List.mem_append.mp h with h | h
      · exact E2.to a h
      · exact E2.tm a h) h5
    have E4 := (E3.setU none n).setD rv n
    have etake : ((ws.take (i + 1)).filter q).map g = ((ws.take i).filter q).map g ++ (if q d = true then [g d] else []) := by
      rw [List.take_add_one, hd, List.filter_append, List.map_append]
      congr 1
      show ([d].filter q).map g = _
      by_cases hq : q d = true
      · rw [if_pos hq, List.filter_cons_of_pos hq]; rfl
      · rw [if_neg hq, List.filter_cons_of_neg (by simpa using hq)]; rfl
    refine ⟨?_, fun s H0 L cl fp => ?_⟩
    · show ((σ.set n none).set n (some v)).set n none = σ.set n none
      rw [List.set_set, List.set_set]
    · refine hc s H0 L cl fp d hmem ((σ.set n none).set n (some v)) H3 (D :: O) E4 _ fun tb H3' ptb t3 => ?_
      have ptb : tb = q d := ptb
      have hD3 : H3' D = some (.lst acc) := t3.keep D _ nst (sm _ _ h1)
      have c3 : Same (cut (D :: (O ++ C.M)) H2) (cut (D :: (O ++ C.M)) H3') := cut_same fun a o na h => ⟨na, t3.keep a o (fun e => na (List.mem_cons_of_mem _ (List.mem_append_right _ (C.hst a e)))) (sm a o h)⟩
      by_cases hq : q d = true
      · rw [ptb, if_pos hq]
        intro s H0 L cl fp
        refine he s H0 L cl fp d hmem hq ((σ.set n none).set n (some v)) H3' (D :: O) (E4.tr t3) _ fun y H4 z pz t4 r4 => ?_
        have pz : z = g d := pz
        subst pz
        have hD4 : H4 D = some (.lst acc) := t4.keep D _ nst hD3
        have c4 : Same (cut (D :: (O ++ C.M)) H2) (cut (D :: (O ++ C.M)) H4) := c3.trans (cut_same fun a o na h => ⟨na, t4.keep a o (fun e => na (List.mem_cons_of_mem _ (List.mem_append_right _ (C.hst a e)))) h⟩)
        have eD : cut (D :: (O ++ C.M)) (upd H4 D (.lst (acc ++ [y]))) = cut (D :: (O ++ C.M)) H4 := cut_upd List.mem_cons_self
        refine ⟨acc, hD4, ?_, acc ++ [y], upd_same, ?_, ?_, (h6.trans ((Tr.of sm).trans (t3.trans t4))).within hD⟩
        · rw [h2.length, List.length_map]
          refine Nat.lt_of_le_of_lt (List.length_filter_le _ _) ?_
          rw [List.length_take]
          exact Nat.lt_of_le_of_lt (Nat.min_le_right _ _) (Nat.lt_of_le_of_lt hT (by decide))
        · rw [eD, etake, if_pos hq]; exact (h2.mono c4).append (.cons r4 .nil)
        · rw [eD]; exact h5.trans c4
      · have hq' : q d = false := by simpa using hq
        rw [ptb, if_neg hq]
        refine ⟨acc, hD3, ?_, h5.trans c3, h6.trans ((Tr.of sm).trans t3)⟩
        rw [etake, if_neg hq, List.append_nil]
        exact h2.mono c3
  · have ei : i = ws.length := by omega
    subst ei
    rw [List.take_length] at h2
    exact .inl ⟨(by rw [← hlen]; exact w.stops H2 hsame), k D _ H2 _ rfl (t1.trans h6) (t1.none hD nst) h1 (.lst h2)⟩
theorem en_lcF {iter elt : Expr} {scope : Scope} {n : Nat} {xs : Str} {px : Pos} (hc : X.calm = true) (hN : X.N.Nodup) (ok : LcOk X scope n xs) (h : RdN C X (tLc (cI X (.Name xs px) iter) (gName n) (cBlkT X scope c) (cBlk X scope elt) [n]) sl P)
    (hs : ∀ y, foldedSetIterable iter X.env y = pure y := by intro _; rfl) : EVN C X (.ListComp elt [⟨.Name xs px, iter, [c], 0⟩] scope pos) sl P := fun σ H O E Q k =>
  ofE (pe_lc (own := [(xs, n)]) hc hN (pi_c _ _) ok.ok (fun s H L cl fp => pg_name hN ok.ix (ok.loc s H L cl fp) (ok.st s H L cl fp)) (fun s H0 L cl fp => pts_one (pt_blk s H0 L cl fp)) (fun s H0 L cl fp => pe_blk s H0 L cl fp) hs) (h σ H O E Q k)

/-- tuple(xs), xs drawn -/
theorem ev_tupleLP {T : List PyData → Prop} {q1 : Pos} (hm : X.mg "tuple" = none) (h : EV C X e sl (fun d => ∃ ds, d = .list ds ∧ T ds)) (hg : Gl X "tuple" := by rfl) (he : starEach [e] X.env = (false, eval e X.env) :: starEach [] X.env := by rfl) :
    EV C X (.Call (.Name "tuple" q1) [e] [] pos) sl (fun d => ∃ ds, d = .tuple ds ∧ T ds) := fun σ H O E Q k =>
  ofE (pe_callTy call_tuple_of hg hm boot_tuple (pa_cons (pe_c e) pa_nil he) (by decide) (by decide) he (by rfl)) (h σ H O E _ fun y H1 dy py t1 r1 => by
    obtain ⟨ds, rfl, pt⟩ := py
    have E1 := E.tr t1
    obtain ⟨q, vs, rfl, h1, s1⟩ := r1.lst_inv
    refine ⟨q, vs, rfl, .inl ⟨SqL.of (cut_some h1).2, fun l hl => k _ _ _ ⟨ds, rfl, pt⟩ (t1.trans (Tr.new hl)) (.obj ?_ (.tup (s1.mono ((Tr.new (C := C) hl).cutS O))))⟩⟩
    rw [cut_out (by intro z; exact (List.mem_append.mp z).elim (E1.fresh hl).1 (E1.fresh hl).2), upd_same])
/-! ### expressions that change a list of the def's own -/
def EVM (C : Cfg) (X : Cx) (e : Expr) (sl : List Sl) (P : PyData → List Sl → Prop) : Prop :=
  ∀ (σ : L2.St) (H : Hp) (O : List Addr), EnvOk X.K C H σ sl O → ∀ Q : VK, (∀ v H' O' d sl', P d sl' → EnvOk X.K C H' σ sl' O' → Step C O H O' H' → Rep X.K (cut (O' ++ C.M) H') v d → Q v H') → cE X e σ H Q
/-- xs.pop(e), e drawn -/
theorem em_pop (n : Nat) {xs : List PyData} {px ap : Pos} (h : EV C X e sl (fun d => ∃ k : Nat, d = .int (k : Nat) ∧ k < xs.length)) (hz : xs.length ≤ 1000000) (hs : sl[n]? = some (.own (.list xs)) := by rfl) (hN : X.N[n]? = some x := by rfl)
    (hv : Vis X.env.scope x := by first | exact Or.inl rfl | exact Or.inr (Or.inl rfl) | exact Or.inr (Or.inr rfl)) (hd : (x == ("__debug__" : Str)) = false := by decide) (hcd : (x == ("__classdict__" : Str)) = false := by decide)
    (hbase : attributeBase (.Name x px) "pop" X.env (eval (.Name x px) X.env) = eval (.Name x px) X.env := by rfl)
    (hfew : ((backTo p1 (starEach [e] X.env)).all (fun x => !x.1) && (backToKw p1 (keywordEach [] X.env)).all (fun x => x.1.isSome)
      && decide ([e].length + ([] : List Keyword).length + (if ([] : List Keyword).isEmpty then 0 else 1) < 30)) = true := by rfl)
    (hline : (ap.endLine == p1.line) = true := by rfl) (hst : starEach [e] X.env = (false, eval e X.env) :: starEach [] X.env := by rfl) (hplain : (backTo p1 (starEach [] X.env)).any (·.1) = false := by rfl) :
    EVM C X (.Call (.Attribute (.Name x px) "pop" ap) [e] [] p1) sl (fun d sl' => ∃ k : Nat, xs[k]? = some d ∧ sl' = sl.set n (.own (.list (xs.eraseIdx k)))) := fun σ H O E Q q => by
  obtain ⟨l, o, h1, h2, h3, h4⟩ := E.own hs
  cases h3 with
  | @lst vs ds r =>
    refine ofE (pe_bm PySem.F.plainAttrs_list PySem.F.slot_list_pop PySem.F.type_list_pop mt_popAt (pe_var hN hv hd hcd) (pa_cons (pe_c e) pa_nil hst) hbase hfew hline hst hplain)
      ⟨.ref l, h1, Or.inl ⟨rfl, _, SqL.of h2⟩, h σ H O E _ fun v H1 d pd t1 r1 => ?_⟩
    obtain ⟨k, rfl, hk⟩ := pd
    have hdk : xs[k]? = some xs[k] := List.getElem?_eq_getElem hk
    obtain ⟨y, hy, ry⟩ := (r.mono (t1.cutS O)).get hdk
    have E1 := E.tr t1
    have rer : Reps X.K (cut (O ++ C.M) H1) (vs.eraseIdx k) (xs.eraseIdx k) := by
      have : ∀ {vs : List V} {ds : List PyData} (k : Nat), Reps X.K (cut (O ++ C.M) H1) vs ds → Reps X.K (cut (O ++ C.M) H1) (vs.eraseIdx k) (ds.eraseIdx k) := by
        intro vs
        induction vs with
        | nil => intro ds k r; cases r; exact .nil
        | cons v vs ih => intro ds k r; cases r with
          | cons r1 r2 => cases k with
            | zero => exact r2
            | succ k => exact .cons r1 (ih k r2)
      exact this k (r.mono (t1.cutS O))
    obtain ⟨E2, st⟩ := E1.mut (o := .lst (vs.eraseIdx k)) (y := .list (xs.eraseIdx k)) hs h1 (.lst rer)
    have hlen := r.length
    have hsq : seqIndex? (k : Int) vs.length = some k := (ixN_seq (by unfold ixN; rw [if_pos (by omega), if_pos (by omega), Int.toNat_natCast] : ixN vs.length (k : Int) = some k)).1
    refine ⟨l, vs, (k : Int), k, y, rfl, by rw [r1.int_inv], t1.keep _ _ (E.notSt h4) h2, by omega, by omega, hsq, hy, ?_⟩
    refine q y _ O _ _ ⟨k, hdk, rfl⟩ E2 ((Step.tr E t1).trans st) ?_
    rw [cut_upd (List.mem_append_left _ h4)]
    exact ry
/-- xs.append(e), e changing another list of the def's own -/
theorem sts_appendM (n : Nat) {P : PyData → List Sl → Prop} {px ap : Pos} {xs : List PyData} (h : EVM C X e sl P) (hz : xs.length < 1000000) (hn : ∀ d sl', P d sl' → sl'[n]? = some (.own (.list xs))) (k : ∀ d sl', P d sl' → STs C X ss (sl'.set n (.own (.list (xs ++ [d])))) p)
    (hs : sl[n]? = some (.own (.list xs)) := by rfl) (hN : X.N[n]? = some x := by rfl)
    (hv : Vis X.env.scope x := by first | exact Or.inl rfl | exact Or.inr (Or.inl rfl) | exact Or.inr (Or.inr rfl)) (hd : (x == ("__debug__" : Str)) = false := by decide) (hcd : (x == ("__classdict__" : Str)) = false := by decide)
    (hsw : swapsWith (.Call (.Attribute (.Name x px) "append" ap) [e] [] p1) none pos.line X.env = pure false := by rfl) (hbase : attributeBase (.Name x px) "append" X.env (eval (.Name x px) X.env) = eval (.Name x px) X.env := by rfl)
    (hfew : ((backTo p1 (starEach [e] X.env)).all (fun x => !x.1) && (backToKw p1 (keywordEach [] X.env)).all (fun x => x.1.isSome)
      && decide ([e].length + ([] : List Keyword).length + (if ([] : List Keyword).isEmpty then 0 else 1) < 30)) = true := by rfl)
    (hline : (ap.endLine == p1.line) = true := by rfl) (hst : starEach [e] X.env = (false, eval e X.env) :: starEach [] X.env := by rfl) (hplain : (backTo p1 (starEach [] X.env)).any (·.1) = false := by rfl) :
    STs C X (.Expr (.Call (.Attribute (.Name x px) "append" ap) [e] [] p1) pos :: ss) sl p := fun σ H O E D f => by
  obtain ⟨q, o, h1, h2, h3, h4⟩ := E.own hs
  cases h3 with
  | @lst vs ds r =>
    refine ofSs (pss_cons (ps_expr (pe_bm PySem.F.plainAttrs_list PySem.F.slot_list_append PySem.F.type_list_append mt_append (pe_var hN hv hd hcd) (pa_cons (pe_c e) pa_nil hst) hbase hfew hline hst hplain) hsw) (pss_c ss))
      ⟨.ref q, h1, Or.inl ⟨rfl, _, SqL.of h2⟩, h σ H O E _ fun v H1 O1 d sl' pd E1 st r1 => ?_⟩
    obtain ⟨q', o', g1, g2, g3, g4⟩ := E1.own (hn d sl' pd)
    rw [h1] at g1
    have eq : q = q' := by injection g1 with g1; injection g1 with g1; injection g1
    subst eq
    cases g3 with
    | @lst vs' ds' r' =>
      refine ⟨q, vs', v, rfl, rfl, g2, ?_, ?_⟩
      · rw [r'.length]; exact Nat.lt_of_lt_of_le hz (by decide)
      · obtain ⟨E2, st2⟩ := E1.mut (o := .lst (vs' ++ [v])) (y := .list (xs ++ [d])) (hn d sl' pd) h1 (.lst (r'.append (.cons r1 .nil)))
        exact k d sl' pd σ _ O1 E2 D (f.step (st.trans st2))
end
end DL
/-! while; the truth of a list; a list times an int; isinstance of an int or a bool. -/
namespace DL
open PySem PySem.Spec PyProof.Rows L2
section
variable {C : Cfg} {X : Cx} {e a b c : Expr} {ss : List Stmt} {sl : List Sl} {p : Ps} {pos q : Pos} {i j : Int}
theorem sts_while {m0 : Nat} {body : List Stmt} {Nb : List Sl → Prop} (Inv : Nat → List Sl → Prop) (h0 : Inv m0 sl)
    (hb : ∀ m sl', Inv m sl' → ∃ T : Bool → Prop, EVT C X c sl' T ∧ (T true → STs C X body sl' { p with nx := fun s => ∃ m', m' < m ∧ Inv m' s, ct := fun s => ∃ m', m' < m ∧ Inv m' s, bk := Nb }) ∧ (T false → STs C X ss sl' p))
    (kb : ∀ sl', Nb sl' → STs C X ss sl' p)
    (hp : PassesOwn (model X.prog X.w) X.A X.env X.xe := by exact PassesOwn.never) : STs C X (.While c body [] pos :: ss) sl p := fun σ H O E D f =>
  ofSs (pss_cons (ps_while hp (pt_c c) (pss_c body)) (pss_c ss)) (by
    refine ⟨fun m σ' H' => ∃ O' sl', Inv m sl' ∧ EnvOk X.K C H' σ' sl' O' ∧ Step C O H O' H', ⟨m0, O, sl, h0, E, Step.refl E⟩, ?_⟩
    rintro m σ2 H2 ⟨O2, sl2, hI, E2, st2⟩
    obtain ⟨T, hc, ht, hf⟩ := hb m sl2 hI
    refine hc σ2 H2 O2 E2 _ fun u H3 hu t3 => ?_
    have E3 := E2.tr t3
    have st3 : Step C O H O2 H3 := st2.trans (Step.tr E2 t3)
    cases u with
    | true =>
      rw [if_pos rfl]
      refine ⟨fun σ' H' => ∃ m', m' < m ∧ ∃ O' sl', Inv m' sl' ∧ EnvOk X.K C H' σ' sl' O' ∧ Step C O H O' H', fun σ' H' ⟨m', hm, h⟩ => ⟨m', hm, h⟩, ?_⟩
      exact ht hu σ2 H3 O2 E3 _ ⟨fun σ' H' O' sl' ⟨m', hm, n⟩ E' st => ⟨m', hm, O', sl', n, E', st3.trans st⟩, fun v H' d pd st r => f.rt v H' d pd (st3.trans st) r,
        fun σ' H' O' sl' n E' st => kb sl' n σ' H' O' E' D (f.step (st3.trans st)), fun σ' H' O' sl' ⟨m', hm, n⟩ E' st => ⟨m', hm, O', sl', n, E', st3.trans st⟩⟩
    | false =>
      rw [if_neg Bool.false_ne_true]
      exact hf hu σ2 H3 O2 E3 D (f.step st3))
/-- the truth of a list -/
theorem et_truL {ds : List PyData} (h : EVB C X e sl (is (.list ds))) (he : ∀ whole, isTrue e X.env whole = (do let v ← whole; standAt e.pos; holding [v] (truthy v)) := by intro _; rfl) : EVT C X e sl (isB (!ds.isEmpty)) := fun σ H O E Q k =>
  ofT (pt_truth (pe_c e) he) (h σ H O E _ fun v H1 d pd t1 r1 => by
    have pd : d = .list ds := pd
    subst pd
    obtain ⟨l, vs, rfl, h1, s1⟩ := r1.lst_inv
    refine ⟨!vs.isEmpty, .inl ⟨vs, SqL.of h1, rfl⟩, k _ H1 ?_ t1⟩
    have := s1.length
    cases vs <;> cases ds <;> simp_all [isB])
theorem et_truT {ds : List PyData} (h : EVB C X e sl (is (.tuple ds))) (he : ∀ whole, isTrue e X.env whole = (do let v ← whole; standAt e.pos; holding [v] (truthy v)) := by intro _; rfl) : EVT C X e sl (isB (!ds.isEmpty)) := fun σ H O E Q k =>
  ofT (pt_truth (pe_c e) he) (h σ H O E _ fun v H1 d pd t1 r1 => by
    have pd : d = .tuple ds := pd
    subst pd
    obtain ⟨l, vs, rfl, h1, s1⟩ := r1.tup_inv
    refine ⟨!vs.isEmpty, .inr (.inl ⟨vs, SqT.of h1, rfl⟩), k _ H1 ?_ t1⟩
    have := s1.length
    cases vs <;> cases ds <;> simp_all [isB])
theorem Reps.rep {K : PySem.W.Frag} {B : Hp} {vs : List V} {ds : List PyData} (r : Reps K B vs ds) : ∀ n, Reps K B (List.replicate n vs).flatten (List.replicate n ds).flatten
  | 0 => .nil
  | n + 1 => by
    rw [List.replicate_succ, List.replicate_succ, List.flatten_cons, List.flatten_cons]
    exact r.append (r.rep n)
/-- a list times a drawn int -/
theorem en_repP {P : Nat → Prop} {ds : List PyData} (ha : EV C X a sl (is (.list ds))) (hb : EV C X b sl (fun d => ∃ k : Nat, d = .int (k : Nat) ∧ k < 2 ^ 62 ∧ ds.length * k ≤ 1000000 ∧ P k)) : EVN C X (.BinOp a .Mult b pos) sl (fun d => ∃ k : Nat, d = .list (List.replicate k ds).flatten ∧ P k) := fun σ H O E Q k =>
  ofE (pe_op op_rep (pe_c a) (pe_c b)) (ha σ H O E _ fun x H1 dx px t1 r1 => hb σ H1 O (E.tr t1) _ fun y H2 dy py t2 r2 => by
    have px : dx = .list ds := px
    obtain ⟨n, rfl, h1, h2, h3⟩ := py
    subst px
    have E2 := (E.tr t1).tr t2
    obtain ⟨l, vs, rfl, g1, s1⟩ := (r1.mono (t2.cutS O)).lst_inv
    have hl := s1.length
    refine ⟨l, (n : Int), vs, rfl, r2.int_inv, (cut_some g1).2, by omega, by omega, ?_, fun l hl => ?_⟩
    · rw [hl, Int.toNat_natCast]
      exact Nat.le_trans h2 (by decide)
    · rw [Int.toNat_natCast]
      exact k l _ _ _ ⟨n, rfl, h3⟩ ((t1.trans t2).trans (Tr.new hl)) (t1.none (t2.none hl fun e => (E2.fresh hl).2 (C.hst l e)) fun e => (E2.fresh hl).2 (C.hst l e)) upd_same (obj_new E2 hl (.lst (s1.rep n))))
/-- isinstance(x, bool) -/
theorem boot_isi0 : bootBuiltins "isinstance" = some (.builtin "isinstance") := by decide +kernel
theorem ev_isi {d : PyData} {T : String} {r : Bool} {n : Str} {p2 : Pos} (hm : X.mg "isinstance" = none) (hm2 : X.mg n = none) (h : EV C X a sl (is d)) (hn : bootBuiltins n = some (.type T)) (ht : (∃ i, d = .int i ∧ kitB "int" T = some r) ∨ (∃ u, d = .bool u ∧ kitB "bool" T = some r) ∨ (d = .none ∧ kitB "NoneType" T = some r))
    (hg : Gl X "isinstance" := by rfl) (hg2 : Gl X n := by rfl) (hnn : n ≠ "__name__" := by decide) (hdb : (n == ("__debug__" : Str)) = false := by decide)
    (he : starEach [a, .Name n p2] X.env = (false, eval a X.env) :: starEach [.Name n p2] X.env := by rfl) (he2 : starEach [Expr.Name n p2] X.env = (false, eval (.Name n p2) X.env) :: starEach [] X.env := by rfl) (hpl : (backTo pos (starEach [.Name n p2] X.env)).any (·.1) = false := by rfl) :
    EV C X (.Call (.Name "isinstance" q) [a, .Name n p2] [] pos) sl (is (.bool r)) := fun σ H O E Q k =>
  ofE (pe_callB call_isi hg hm boot_isi0 (pa_cons (pe_c a) (pa_cons (pe_bltn hg2 hm2 hn (v := .ty T) rfl hnn hdb) pa_nil he2) he) (by decide) (by decide) he hpl) (h σ H O E _ fun y H1 dy py t1 r1 => by
    have py : dy = d := py
    subst py
    have fin : Q (.bl r) H1 := k _ H1 _ rfl t1 (.bl r)
    rcases ht with ⟨i, rfl, e⟩ | ⟨u, rfl, e⟩ | ⟨rfl, e⟩
    · exact ⟨y, .ty T, .type "int", .type T, r, rfl, .ty T, by rw [r1.int_inv]; exact .base (.int i), kit_ty e, fin⟩
    · exact ⟨y, .ty T, .type "bool", .type T, r, rfl, .ty T, by rw [r1.bl_inv]; exact .base (.bl u), kit_ty e, fin⟩
    · exact ⟨y, .ty T, .type "NoneType", .type T, r, rfl, .ty T, by rw [r1.non_inv]; exact .base .non, kit_ty e, fin⟩)
end
end DL
/-! Drawn readers: the mathematics. -/
namespace RD
open PySem DL L2
/-! ### tables -/
/-- the item at x, y -/
def tat (T : List (List Nat)) (x y : Nat) : Nat := (T.getD x []).getD y 0
structure Tab (T : List (List Nat)) : Prop where
  pos : 1 ≤ T.length
  le : T.length ≤ 9
  row : ∀ r ∈ T, r.length = T.length
  lt : ∀ r ∈ T, ∀ x ∈ r, x < T.length
  assoc : ∀ x y z, x < T.length → y < T.length → z < T.length → tat T (tat T x y) z = tat T x (tat T y z)
theorem getD_mem {α : Type} {l : List α} {i : Nat} (d : α) (h : i < l.length) : l.getD i d ∈ l := by
  rw [List.getD_eq_getElem?_getD, List.getElem?_eq_getElem h]
  exact List.getElem_mem h
theorem getD_map' {α β : Type} {l : List α} {f : α → β} {i : Nat} {d : β} (d' : α) (h : i < l.length) : (l.map f).getD i d = f (l.getD i d') := by
  rw [List.getD_eq_getElem?_getD, List.getD_eq_getElem?_getD, List.getElem?_map, List.getElem?_eq_getElem h]
  rfl
theorem getD_range {n i d : Nat} (h : i < n) : (List.range n).getD i d = i := by
  rw [List.getD_eq_getElem?_getD, List.getElem?_range h]
  rfl
theorem Tab.tlt {T : List (List Nat)} (t : Tab T) {x y : Nat} (hx : x < T.length) (hy : y < T.length) : tat T x y < T.length := by
  have hr := getD_mem [] hx
  exact t.lt _ hr _ (getD_mem 0 (by rw [t.row _ hr]; exact hy))
theorem tat_map {n : Nat} {f : Nat → Nat → Nat} {x y : Nat} (hx : x < n) (hy : y < n) : tat ((List.range n).map fun x => (List.range n).map fun y => f x y) x y = f x y := by
  unfold tat
  rw [getD_map' 0 (by rw [List.length_range]; exact hx), getD_map' 0 (by rw [List.length_range]; exact hy), getD_range hx, getD_range hy]
theorem tab_of {n : Nat} {f : Nat → Nat → Nat} (h1 : 1 ≤ n) (h9 : n ≤ 9) (hf : ∀ x y, x < n → y < n → f x y < n) (ha : ∀ x y z, x < n → y < n → z < n → f (f x y) z = f x (f y z)) : Tab ((List.range n).map fun x => (List.range n).map fun y => f x y) := by
  have hl : ((List.range n).map fun x => (List.range n).map fun y => f x y).length = n := by simp
  refine ⟨by omega, by omega, fun r hr => ?_, fun r hr x hx => ?_, fun x y z hx hy hz => ?_⟩
  · obtain ⟨x, _, rfl⟩ := List.mem_map.mp hr
    simp
  · obtain ⟨x', hx', rfl⟩ := List.mem_map.mp hr
    obtain ⟨y', hy', rfl⟩ := List.mem_map.mp hx
    rw [hl]
    exact hf _ _ (List.mem_range.mp hx') (List.mem_range.mp hy')
  · rw [hl] at hx hy hz
    rw [tat_map hx hy, tat_map hy hz, tat_map (hf _ _ hx hy) hz, tat_map hx (hf _ _ hy hz), ha x y z hx hy hz]
/-! ### functions of points -/
def comp (a b : List Nat) : List Nat := a.map fun x => b.getD x 0
structure Fns (p : Nat) (fs : List (List Nat)) : Prop where
  pos : 1 ≤ fs.length
  le : fs.length ≤ 9
  p3 : p ≤ 3
  len : ∀ t ∈ fs, t.length = p
  lt : ∀ t ∈ fs, ∀ x ∈ t, x < p
def Closed (fs : List (List Nat)) : Prop := ∀ a ∈ fs, ∀ b ∈ fs, comp a b ∈ fs
theorem comp_len (a b : List Nat) : (comp a b).length = a.length := List.length_map _
theorem comp_lt {p : Nat} {a b : List Nat} (ha : ∀ x ∈ a, x < p) (hb : b.length = p) (hb2 : ∀ x ∈ b, x < p) : ∀ x ∈ comp a b, x < p := by
  intro x hx
  obtain ⟨y, hy, rfl⟩ := List.mem_map.mp hx
  exact hb2 _ (getD_mem 0 (by rw [hb]; exact ha y hy))
theorem comp_assoc {p : Nat} {a b c : List Nat} (ha : ∀ x ∈ a, x < p) (hb : b.length = p) : comp (comp a b) c = comp a (comp b c) := by
  unfold comp
  rw [List.map_map]
  refine List.map_congr_left fun x hx => ?_
  have hx2 := ha x hx
  show c.getD (b.getD x 0) 0 = (b.map fun x => c.getD x 0).getD x 0
  rw [getD_map' 0 (by omega)]
def fnT (fs : List (List Nat)) : List (List Nat) := fs.map fun a => fs.map fun b => fs.idxOf (comp a b)
theorem idx_get {fs : List (List Nat)} {t : List Nat} (h : t ∈ fs) : fs.getD (fs.idxOf t) [] = t := by
  have hl := List.idxOf_lt_length_of_mem h
  rw [List.getD_eq_getElem?_getD, List.getElem?_eq_getElem hl]
  exact List.getElem_idxOf hl
theorem tat_fn {fs : List (List Nat)} {x y : Nat} (hx : x < fs.length) (hy : y < fs.length) : tat (fnT fs) x y = fs.idxOf (comp (fs.getD x []) (fs.getD y [])) := by
  unfold tat fnT
  rw [getD_map' [] hx, getD_map' [] hy]
theorem fn_tab {p : Nat} {fs : List (List Nat)} (F : Fns p fs) (c : Closed fs) : Tab (fnT fs) := by
  have hl : (fnT fs).length = fs.length := List.length_map _
  refine ⟨by rw [hl]; exact F.pos, by rw [hl]; exact F.le, fun r hr => ?_, fun r hr x hx => ?_, fun x y z hx hy hz => ?_⟩
  · obtain ⟨a, _, rfl⟩ := List.mem_map.mp hr
    rw [List.length_map, hl]
  · obtain ⟨a, ha, rfl⟩ := List.mem_map.mp hr
    obtain ⟨b, hb, rfl⟩ := List.mem_map.mp hx
    rw [hl]
    exact List.idxOf_lt_length_of_mem (c a ha b hb)
  · rw [hl] at hx hy hz
    have mx : fs.getD x [] ∈ fs := getD_mem [] hx
    have my : fs.getD y [] ∈ fs := getD_mem [] hy
    have mz : fs.getD z [] ∈ fs := getD_mem [] hz
    have cxy := c _ mx _ my
    have cyz := c _ my _ mz
    rw [tat_fn hx hy, tat_fn hy hz, tat_fn (List.idxOf_lt_length_of_mem cxy) hz, tat_fn hx (List.idxOf_lt_length_of_mem cyz), idx_get cxy, idx_get cyz, comp_assoc (F.lt _ mx) (F.len _ my)]
/-! ### products -/
def prodN (kind n x y : Nat) : Nat := if kind = 0 then (x + y) % n else if kind = 1 then max x y else if kind = 2 then (if y = 0 then x else y) else (if x = 0 then y else x)
theorem prod_lt {kind n x y : Nat} (hx : x < n) (hy : y < n) : prodN kind n x y < n := by
  unfold prodN
  split
  · exact Nat.mod_lt _ (by omega)
  · split
    · omega
    · split <;> split <;> omega
theorem prod_assoc {kind n x y z : Nat} : prodN kind n (prodN kind n x y) z = prodN kind n x (prodN kind n y z) := by
  unfold prodN
  by_cases h0 : kind = 0
  · simp only [h0, if_true]
    rw [Nat.mod_add_mod, Nat.add_mod_mod, Nat.add_assoc]
  · by_cases h1 : kind = 1
    · simp only [h1, if_neg (by decide : ¬ (1 : Nat) = 0), if_true]
      omega
    · simp only [h0, h1, if_false]
      split
      · by_cases hz : z = 0
        · simp [hz]
        · simp [hz]
      · by_cases hx : x = 0
        · simp [hx]
        · simp [hx]
theorem prod_tab {kind n : Nat} (h1 : 1 ≤ n) (h9 : n ≤ 9) : Tab ((List.range n).map fun x => (List.range n).map fun y => prodN kind n x y) := tab_of h1 h9 (fun _ _ hx hy => prod_lt hx hy) fun _ _ _ _ _ _ => prod_assoc
/-! ### mixed -/
def mixT (T : List (List Nat)) (ns : List Nat) : List (List Nat) := (List.range T.length).map fun x => (List.range T.length).map fun y => ns.getD (tat T (ns.idxOf x) (ns.idxOf y)) 0
theorem mix_tab {T : List (List Nat)} (t : Tab T) {ns : List Nat} (hp : ns.Perm (List.range T.length)) : Tab (mixT T ns) := by
  have hl : ns.length = T.length := by rw [hp.length_eq, List.length_range]
  have hm : ∀ x, x < T.length → x ∈ ns := fun x hx => hp.mem_iff.mpr (List.mem_range.mpr hx)
  have hlt : ∀ x ∈ ns, x < T.length := fun x hx => List.mem_range.mp (hp.mem_iff.mp hx)
  have hi : ∀ x, x < T.length → ns.idxOf x < T.length := fun x hx => by rw [← hl]; exact List.idxOf_lt_length_of_mem (hm x hx)
  have hb : ∀ k, k < T.length → ns.idxOf (ns.getD k 0) = k := fun k hk => by
    rw [List.getD_eq_getElem?_getD, List.getElem?_eq_getElem (by omega)]
    show ns.idxOf ns[k] = k
    exact (hp.nodup_iff.mpr List.nodup_range).idxOf_getElem k (by omega)
  refine tab_of t.pos t.le (fun x y hx hy => hlt _ (getD_mem 0 (by rw [hl]; exact t.tlt (hi x hx) (hi y hy)))) fun x y z hx hy hz => ?_
  rw [hb _ (t.tlt (hi x hx) (hi y hy)), hb _ (t.tlt (hi y hy) (hi z hz)), t.assoc _ _ _ (hi x hx) (hi y hy) (hi z hz)]
/-! ### linked pairs -/
abbrev Pr := Nat × Nat
def isLk (T : List (List Nat)) (s f : Nat) : Bool := decide (tat T s f = s) && decide (tat T f f = f)
def lkRow (T : List (List Nat)) (s : Nat) : List Pr := ((List.range T.length).filter (isLk T s)).map fun f => (s, f)
def lks (T : List (List Nat)) (m : Nat) : List Pr := (List.range m).flatMap (lkRow T)
theorem mem_lks {T : List (List Nat)} {m : Nat} {p : Pr} : p ∈ lks T m ↔ p.1 < m ∧ p.2 < T.length ∧ isLk T p.1 p.2 = true := by
  unfold lks lkRow
  rw [List.mem_flatMap]
  constructor
  · rintro ⟨s, hs, h⟩
    obtain ⟨f, hf, rfl⟩ := List.mem_map.mp h
    rw [List.mem_filter] at hf
    exact ⟨List.mem_range.mp hs, List.mem_range.mp hf.1, hf.2⟩
  · rintro ⟨h1, h2, h3⟩
    exact ⟨p.1, List.mem_range.mpr h1, List.mem_map.mpr ⟨p.2, List.mem_filter.mpr ⟨List.mem_range.mpr h2, h3⟩, rfl⟩⟩
def lx (p q : Pr) : Prop := p.1 < q.1 ∨ (p.1 = q.1 ∧ p.2 < q.2)
theorem lks_sorted (T : List (List Nat)) : ∀ m, (lks T m).Pairwise lx
  | 0 => by simp [lks]
  | m + 1 => by
    have e : lks T (m + 1) = lks T m ++ lkRow T m := by
      unfold lks
      rw [List.range_succ, List.flatMap_append]
      simp
    rw [e, List.pairwise_append]
    refine ⟨lks_sorted T m, ?_, fun p hp q hq => .inl ?_⟩
    · unfold lkRow
      rw [List.pairwise_map]
      refine List.Pairwise.imp ?_ ((List.pairwise_lt_range).filter _)
      intro a b h
      exact .inr ⟨rfl, h⟩
    · have h1 := (mem_lks.mp hp).1
      obtain ⟨f, _, rfl⟩ := List.mem_map.mp hq
      exact h1
theorem lks_nodup (T : List (List Nat)) (m : Nat) : (lks T m).Nodup := (lks_sorted T m).imp fun {p q} h e => by
  subst e
  rcases h with h | h <;> omega
/-! ### their data -/
def nD (x : Nat) : PyData := .int (x : Nat)
def tupN (t : List Nat) : PyData := .tuple (t.map nD)
def fnsD (fs : List (List Nat)) : PyData := .list (fs.map tupN)
def tbD (T : List (List Nat)) : PyData := .list (T.map fun r => .list (r.map nD))
def mulD (T : List (List Nat)) : PyData := .tuple (T.map tupN)
def lkD (p : Pr) : PyData := .tuple [nD p.1, nD p.2]
def prsL (ps : List Pr) : PyData := .list (ps.map lkD)
theorem nD_inj {a b : Nat} (h : nD a = nD b) : a = b := by
  injection h with h
  omega
theorem tupN_inj {a b : List Nat} (h : tupN a = tupN b) : a = b := by
  injection h with h
  exact (List.map_inj_right fun _ _ e => nD_inj e).mp h
theorem lkD_inj {a b : Pr} (h : lkD a = lkD b) : a = b := by
  injection h with h
  injection h with h1 h
  injection h with h2 _
  exact Prod.ext (nD_inj h1) (nD_inj h2)
theorem flat_nD {n : Nat} {x : Nat} : flat n (nD x) = true := flat_int
theorem flat_tupN (n : Nat) (t : List Nat) : flat (n + 1) (tupN t) = true := by
  rw [tupN, flat]
  exact flats_map t fun _ _ => flat_nD
theorem flat_lkD (n : Nat) (p : Pr) : flat (n + 1) (lkD p) = true := by
  simp [lkD, flat, flats, flat_nD]
theorem flats_fns (n : Nat) (fs : List (List Nat)) : flats (n + 1) (fs.map tupN) = true := flats_map fs fun t _ => flat_tupN n t
theorem flat_fns (n : Nat) (fs : List (List Nat)) : flat (n + 2) (fnsD fs) = true := by
  rw [fnsD, flat]
  exact flats_fns n fs
theorem flat_mul (n : Nat) (fs : List (List Nat)) : flat (n + 2) (mulD fs) = true := by
  rw [mulD, flat]
  exact flats_fns n fs
theorem mem_fns (fs : List (List Nat)) (t : List Nat) : ((fs.map tupN).any fun z => PyData.eqv z (tupN t)) = true ↔ t ∈ fs := by
  rw [any_flat (flats_fns 0 fs) (flat_tupN 0 t)]
  constructor
  · intro h
    obtain ⟨t', h1, h2⟩ := List.mem_map.mp h
    rw [← tupN_inj h2]; exact h1
  · exact fun h => List.mem_map.mpr ⟨t, h, rfl⟩
theorem rgD_nat (p : Nat) : rgD 0 (p : Int) = (List.range p).map nD := by
  unfold rgD
  rw [Int.sub_zero, Int.toNat_natCast]
  refine List.map_congr_left fun k _ => ?_
  rw [Int.zero_add]
  rfl
theorem Fns.snoc {p : Nat} {fs : List (List Nat)} {t : List Nat} (F : Fns p fs) (h : fs.length < 9) (hl : t.length = p) (ht : ∀ x ∈ t, x < p) : Fns p (fs ++ [t]) := by
  refine ⟨by rw [List.length_append]; have := F.pos; omega, by rw [List.length_append, List.length_singleton]; omega, F.p3, fun u hu => ?_, fun u hu => ?_⟩
  · rcases List.mem_append.mp hu with hu | hu
    · exact F.len u hu
    · rw [List.mem_singleton.mp hu]; exact hl
  · rcases List.mem_append.mp hu with hu | hu
    · exact F.lt u hu
    · rw [List.mem_singleton.mp hu]; exact ht
theorem map_get {l : List (List Nat)} {k : Nat} {d : PyData} (h : (l.map tupN)[k]? = some d) : ∃ t ∈ l, d = tupN t ∧ l[k]? = some t := by
  rw [List.getElem?_map] at h
  obtain ⟨t, ht, rfl⟩ := Option.map_eq_some_iff.mp h
  exact ⟨t, List.mem_of_getElem? ht, rfl, ht⟩
theorem comp_item {p j : Nat} {t u : List Nat} {d z : PyData} (hd : (rgD 0 (p : Int))[j]? = some d) (hz : ((comp t u).map nD)[j]? = some z) (tl : t.length = p) (ul : u.length = p) (tt : ∀ x ∈ t, x < p) :
    d = .int (j : Nat) ∧ atI (t.map nD) (j : Int) = some (nD (t.getD j 0)) ∧ atI (u.map nD) ((t.getD j 0 : Nat) : Int) = some z := by
  rw [rgD_nat] at hd
  have hj := (List.getElem?_eq_some_iff.mp hd).1
  rw [List.length_map, List.length_range] at hj
  rw [List.getElem?_map, List.getElem?_range hj] at hd
  have hm := tt _ (getD_mem 0 (show j < t.length by omega))
  refine ⟨(Option.some.inj hd).symm, ?_, ?_⟩
  · refine atI_nat ?_
    rw [List.getElem?_map, List.getD_eq_getElem?_getD, List.getElem?_eq_getElem (by omega)]
    rfl
  · refine atI_nat ?_
    rw [← hz, comp, List.map_map, List.getElem?_map, List.getElem?_map, List.getD_eq_getElem?_getD, List.getElem?_eq_getElem (show j < t.length by omega)]
    rw [List.getD_eq_getElem?_getD, List.getElem?_eq_getElem (show j < t.length by omega)] at hm
    show (u[t[j]]?).map nD = some (nD (u.getD t[j] 0))
    rw [List.getD_eq_getElem?_getD, List.getElem?_eq_getElem (by rw [ul]; exact hm)]
    rfl
/-- found.index of what is there -/
theorem idx_fns {fs : List (List Nat)} {t : List Nat} (h : t ∈ fs) : (fs.map tupN)[fs.idxOf t]? = some (tupN t) ∧ PyData.eqv (tupN t) (tupN t) = true ∧ ∀ (m : Nat) (z' : PyData), m < fs.idxOf t → (fs.map tupN)[m]? = some z' → PyData.eqv z' (tupN t) = false := by
  have hl := List.idxOf_lt_length_of_mem h
  refine ⟨?_, (eqv_flat _ _ 1 (flat_tupN 0 t) (flat_tupN 0 t)).mpr rfl, fun m z hm hz => ?_⟩
  · rw [List.getElem?_map, List.getElem?_eq_getElem hl, List.getElem_idxOf hl]
    rfl
  · obtain ⟨u, _, rfl, hu⟩ := map_get hz
    cases e : PyData.eqv (tupN u) (tupN t) with
    | false => rfl
    | true =>
      have e2 := tupN_inj ((eqv_flat _ _ 1 (flat_tupN 0 u) (flat_tupN 0 t)).mp e)
      subst e2
      have hml := (List.getElem?_eq_some_iff.mp hu)
      obtain ⟨h1, h2⟩ := hml
      have := List.not_of_lt_findIdx (p := fun x => x == u) (xs := fs) (i := m) hm
      rw [h2] at this
      simp at this
theorem erase_perm : ∀ {l : List Nat} {k : Nat} (h : k < l.length), (l[k] :: l.eraseIdx k).Perm l
  | [], _, h => absurd h (by simp)
  | x :: l, 0, _ => List.Perm.refl _
  | x :: l, k + 1, h => by
    have hk : k < l.length := by simpa using h
    have ih := erase_perm hk
    show (l[k] :: x :: l.eraseIdx k).Perm (x :: l)
    exact (List.Perm.swap _ _ _).trans (ih.cons x)
theorem at_nD {l : List Nat} {k : Nat} (h : k < l.length) : atI (l.map nD) (k : Int) = some (nD (l.getD k 0)) := by
  refine atI_nat ?_
  rw [List.getElem?_map, List.getD_eq_getElem?_getD, List.getElem?_eq_getElem h]
  rfl
end RD
/-! Drawn readers: labels go round until all turns are alike. -/
namespace RD
open PySem DL
section
variable {ps : List Pr} {ed : Pr → Pr → Prop}
/-- joined by edges -/
inductive Conn (ed : Pr → Pr → Prop) : Pr → Pr → Prop
  | refl (u : Pr) : Conn ed u u
  | out {u v w : Pr} : Conn ed u v → ed v w → Conn ed u w
  | inn {u v w : Pr} : Conn ed u v → ed w v → Conn ed u w
theorem Conn.trans {u v w : Pr} (a : Conn ed u v) (b : Conn ed v w) : Conn ed u w := by
  induction b with
  | refl => exact a
  | out _ h ih => exact .out ih h
  | inn _ h ih => exact .inn ih h
theorem Conn.symm {u v : Pr} (a : Conn ed u v) : Conn ed v u := by
  induction a with
  | refl => exact .refl _
  | out _ h ih => exact (Conn.inn (.refl _) h).trans ih
  | inn _ h ih => exact (Conn.out (.refl _) h).trans ih
/-- labels come from nodes that are joined -/
def Val (ps : List Pr) (ed : Pr → Pr → Prop) (c : Pr → Nat) : Prop := ∀ p ∈ ps, ∃ q ∈ ps, Conn ed p q ∧ c p = ps.idxOf q
theorem least_ex {P : Nat → Prop} : ∀ n, P n → ∃ m, P m ∧ ∀ j, P j → m ≤ j := by
  intro n
  induction n using Nat.strongRecOn with
  | _ n ih =>
    intro h
    by_cases q : ∃ j, j < n ∧ P j
    · obtain ⟨j, hj, pj⟩ := q
      exact ih j hj pj
    · exact ⟨n, h, fun j pj => by
        by_cases hj : j < n
        · exact absurd ⟨j, hj, pj⟩ q
        · omega⟩
/-- a label of those joined -/
def Lb (ps : List Pr) (ed : Pr → Pr → Prop) (p : Pr) (j : Nat) : Prop := ∃ q ∈ ps, Conn ed p q ∧ ps.idxOf q = j
open Classical in
/-- the least label of those joined -/
noncomputable def mu (ps : List Pr) (ed : Pr → Pr → Prop) (p : Pr) : Nat := if h : ∃ m, Lb ps ed p m ∧ ∀ j, Lb ps ed p j → m ≤ j then Classical.choose h else 0
theorem mu_spec {p q : Pr} (hq : q ∈ ps) (h : Conn ed p q) : Lb ps ed p (mu ps ed p) ∧ ∀ j, Lb ps ed p j → mu ps ed p ≤ j := by
  have h' := least_ex (P := Lb ps ed p) (ps.idxOf q) ⟨q, hq, h, rfl⟩
  unfold mu
  rw [dif_pos h']
  exact Classical.choose_spec h'
theorem mu_is {p : Pr} (hp : p ∈ ps) : ∃ q ∈ ps, Conn ed p q ∧ ps.idxOf q = mu ps ed p := (mu_spec hp (.refl p)).1
theorem mu_le {p q : Pr} (hq : q ∈ ps) (h : Conn ed p q) : mu ps ed p ≤ ps.idxOf q := (mu_spec hq h).2 _ ⟨q, hq, h, rfl⟩
theorem mu_conn {p q : Pr} (hp : p ∈ ps) (hq : q ∈ ps) (h : Conn ed p q) : mu ps ed p = mu ps ed q := by
  obtain ⟨a, ha, h1, e1⟩ := mu_is (ed := ed) hp
  obtain ⟨b, hb, h2, e2⟩ := mu_is (ed := ed) hq
  have g1 := mu_le ha (h.symm.trans h1)
  have g2 := mu_le hb (h.trans h2)
  omega
theorem Val.ge {c : Pr → Nat} (v : Val ps ed c) {p : Pr} (hp : p ∈ ps) : mu ps ed p ≤ c p := by
  obtain ⟨q, hq, h, e⟩ := v p hp
  rw [e]
  exact mu_le hq h
/-- two labels made the lower one -/
def stepE (c : Pr → Nat) (u w : Pr) : Pr → Nat := fun p => if p = u then min (c w) (c u) else if p = w then min (c w) (c u) else c p
theorem Val.step {c : Pr → Nat} (v : Val ps ed c) {u w : Pr} (hu : u ∈ ps) (hw : w ∈ ps) (h : Conn ed u w) : Val ps ed (stepE c u w) := by
  intro p hp
  obtain ⟨a, ha, h1, e1⟩ := v u hu
  obtain ⟨b, hb, h2, e2⟩ := v w hw
  have key : ∃ q ∈ ps, Conn ed u q ∧ min (c w) (c u) = ps.idxOf q := by
    by_cases hc : c w ≤ c u
    · exact ⟨b, hb, h.trans h2, by omega⟩
    · exact ⟨a, ha, h1, by omega⟩
  obtain ⟨q, hq, h3, e3⟩ := key
  unfold stepE
  by_cases e : p = u
  · rw [if_pos e]; exact ⟨q, hq, by rw [e]; exact h3, e3⟩
  · rw [if_neg e]
    by_cases e' : p = w
    · rw [if_pos e']; exact ⟨q, hq, by rw [e']; exact h.symm.trans h3, e3⟩
    · rw [if_neg e']; exact v p hp
def Stl (ps : List Pr) (ed : Pr → Pr → Prop) (c : Pr → Nat) (p : Pr) : Prop := c p = mu ps ed p
theorem Stl.step {c : Pr → Nat} (v : Val ps ed c) {u w p : Pr} (hu : u ∈ ps) (hw : w ∈ ps) (h : Conn ed u w) (s : Stl ps ed c p) : Stl ps ed (stepE c u w) p := by
  unfold Stl stepE at *
  have m := mu_conn hu hw h
  have g1 := v.ge hu
  have g2 := v.ge hw
  by_cases e : p = u
  · rw [if_pos e]; subst e; omega
  · rw [if_neg e]
    by_cases e' : p = w
    · rw [if_pos e']; subst e'; omega
    · rw [if_neg e']; exact s
/-- within a round: L are the edges that were looked at -/
structure RInv (ps : List Pr) (ed : Pr → Pr → Prop) (c0 c : Pr → Nat) (fresh : Nat) (L : List (Pr × Pr)) : Prop where
  val : Val ps ed c
  keep : ∀ p ∈ ps, Stl ps ed c0 p → Stl ps ed c p
  grow : ∀ e ∈ L, (Stl ps ed c0 e.1 → Stl ps ed c e.2) ∧ (Stl ps ed c0 e.2 → Stl ps ed c e.1)
  same : fresh = 0 → c = c0 ∧ ∀ e ∈ L, c0 e.1 = c0 e.2
theorem RInv.start {c0 : Pr → Nat} (v : Val ps ed c0) : RInv ps ed c0 c0 0 [] := ⟨v, fun _ _ h => h, fun e h => absurd h (by simp), fun _ => ⟨rfl, fun e h => absurd h (by simp)⟩⟩
theorem RInv.alike {c0 c : Pr → Nat} {fresh : Nat} {L : List (Pr × Pr)} (r : RInv ps ed c0 c fresh L) {u w : Pr} (hu : u ∈ ps) (hw : w ∈ ps) (h : ed u w) (e : c w = c u) : RInv ps ed c0 c fresh ((u, w) :: L) := by
  have m : mu ps ed u = mu ps ed w := mu_conn hu hw (.out (.refl _) h)
  refine ⟨r.val, r.keep, fun x hx => ?_, fun hf => ⟨(r.same hf).1, fun x hx => ?_⟩⟩
  · rcases List.mem_cons.mp hx with rfl | hx
    · have a := r.keep u hu
      have b := r.keep w hw
      unfold Stl at *
      exact ⟨fun s => by have := a s; show c w = mu ps ed w; omega, fun s => by have := b s; show c u = mu ps ed u; omega⟩
    · exact r.grow x hx
  · rcases List.mem_cons.mp hx with rfl | hx
    · rw [(r.same hf).1] at e; exact e.symm
    · exact (r.same hf).2 x hx
theorem RInv.merge {c0 c : Pr → Nat} {fresh : Nat} {L : List (Pr × Pr)} (r : RInv ps ed c0 c fresh L) {u w : Pr} (hu : u ∈ ps) (hw : w ∈ ps) (h : ed u w) : RInv ps ed c0 (stepE c u w) (fresh + 1) ((u, w) :: L) := by
  have cn : Conn ed u w := .out (.refl _) h
  have m : mu ps ed u = mu ps ed w := mu_conn hu hw cn
  have g1 := r.val.ge hu
  have g2 := r.val.ge hw
  have st : ∀ {p}, Stl ps ed c p → Stl ps ed (stepE c u w) p := fun s => s.step r.val hu hw cn
  refine ⟨r.val.step hu hw cn, fun p hp s => st (r.keep p hp s), fun x hx => ?_, fun hf => by omega⟩
  rcases List.mem_cons.mp hx with rfl | hx
  · have a := r.keep u hu
    have b := r.keep w hw
    have e1 : stepE c u w u = min (c w) (c u) := by unfold stepE; rw [if_pos rfl]
    have e2 : stepE c u w w = min (c w) (c u) := by
      unfold stepE
      by_cases q : w = u
      · rw [if_pos q]
      · rw [if_neg q, if_pos rfl]
    refine ⟨fun s => ?_, fun s => ?_⟩
    · have := a s
      unfold Stl at *
      show stepE c u w w = mu ps ed w
      omega
    · have := b s
      unfold Stl at *
      show stepE c u w u = mu ps ed u
      omega
  · exact ⟨fun s => st ((r.grow x hx).1 s), fun s => st ((r.grow x hx).2 s)⟩
open Classical in
noncomputable def cnt (ps : List Pr) (ed : Pr → Pr → Prop) (c : Pr → Nat) : Nat := (ps.filter fun p => decide (Stl ps ed c p)).length
def All (ps : List Pr) (ed : Pr → Pr → Prop) (c : Pr → Nat) : Prop := ∀ p ∈ ps, Stl ps ed c p
theorem flt_le {α : Type} {q1 q2 : α → Bool} : ∀ {l : List α}, (∀ x ∈ l, q1 x = true → q2 x = true) → (l.filter q1).length ≤ (l.filter q2).length ∧ ((l.filter q1).length = (l.filter q2).length → ∀ x ∈ l, q2 x = true → q1 x = true)
  | [], _ => ⟨Nat.le_refl _, fun _ x h => absurd h (by simp)⟩
  | x :: l, h => by
    obtain ⟨a, b⟩ := flt_le (l := l) fun y hy => h y (List.mem_cons_of_mem _ hy)
    have hx := h x List.mem_cons_self
    cases h1 : q1 x <;> cases h2 : q2 x
    · rw [List.filter_cons_of_neg (by simp [h1]), List.filter_cons_of_neg (by simp [h2])]
      exact ⟨a, fun e y hy => by
        rcases List.mem_cons.mp hy with rfl | hy
        · intro z; rw [h2] at z; cases z
        · exact b e y hy⟩
    · rw [List.filter_cons_of_neg (by simp [h1]), List.filter_cons_of_pos h2, List.length_cons]
      exact ⟨by omega, fun e => by omega⟩
    · rw [hx h1] at h2; cases h2
    · rw [List.filter_cons_of_pos h1, List.filter_cons_of_pos h2, List.length_cons, List.length_cons]
      exact ⟨by omega, fun e y hy => by
        rcases List.mem_cons.mp hy with rfl | hy
        · intro _; exact h1
        · exact b (by omega) y hy⟩
/-- behind a whole round all labels are settled, or one more is -/
theorem round {c0 c : Pr → Nat} {fresh : Nat} {L : List (Pr × Pr)} (r : RInv ps ed c0 c fresh L) (hin : ∀ u w, ed u w → u ∈ ps ∧ w ∈ ps) (hL : ∀ u w, ed u w → (u, w) ∈ L) (hs : ∀ p ∈ ps, ps.idxOf p = mu ps ed p → Stl ps ed c0 p) : All ps ed c ∨ cnt ps ed c0 + 1 ≤ cnt ps ed c := by
  classical
  unfold cnt
  obtain ⟨a, b⟩ := flt_le (l := ps) (q1 := fun p => decide (Stl ps ed c0 p)) (q2 := fun p => decide (Stl ps ed c p)) fun x hx h => decide_eq_true (r.keep x hx (of_decide_eq_true h))
  by_cases e : (ps.filter fun p => decide (Stl ps ed c0 p)).length = (ps.filter fun p => decide (Stl ps ed c p)).length
  · left
    have back : ∀ p ∈ ps, Stl ps ed c p → Stl ps ed c0 p := fun p hp h => of_decide_eq_true (b e p hp (decide_eq_true h))
    have clo : ∀ {u w}, u ∈ ps → Stl ps ed c0 u → Conn ed u w → w ∈ ps ∧ Stl ps ed c0 w := by
      intro u w hu su cn
      induction cn with
      | refl => exact ⟨hu, su⟩
      | out _ h ih =>
        have hw := (hin _ _ h).2
        exact ⟨hw, back _ hw ((r.grow _ (hL _ _ h)).1 ih.2)⟩
      | inn _ h ih =>
        have hw := (hin _ _ h).1
        exact ⟨hw, back _ hw ((r.grow _ (hL _ _ h)).2 ih.2)⟩
    intro p hp
    obtain ⟨q, hq, h1, h2⟩ := mu_is (ed := ed) hp
    have sq : Stl ps ed c0 q := hs q hq (by rw [h2]; exact mu_conn hp hq h1)
    exact r.keep p hp (clo hq sq h1.symm).2
  · right
    omega
theorem All.stable {c : Pr → Nat} (h : All ps ed c) (hin : ∀ u w, ed u w → u ∈ ps ∧ w ∈ ps) : ∀ u w, ed u w → c u = c w := fun u w e => by
  obtain ⟨hu, hw⟩ := hin u w e
  have a := h u hu
  have b := h w hw
  have m : mu ps ed u = mu ps ed w := mu_conn hu hw (.out (.refl _) e)
  unfold Stl at *
  omega
theorem All.keep {c0 c : Pr → Nat} {fresh : Nat} {L : List (Pr × Pr)} (r : RInv ps ed c0 c fresh L) (h : All ps ed c0) : All ps ed c := fun p hp => r.keep p hp (h p hp)
theorem cnt_all {c : Pr → Nat} (h : ps.length ≤ cnt ps ed c) : All ps ed c := by
  classical
  intro p hp
  have e : (ps.filter fun p => decide (Stl ps ed c p)).length = ps.length := Nat.le_antisymm (List.length_filter_le _ _) h
  have := (List.length_filter_eq_length_iff.mp e) p hp
  exact of_decide_eq_true this
theorem val_start : Val ps ed fun p => ps.idxOf p := fun p hp => ⟨p, hp, .refl p, rfl⟩
end
end RD
/-! Drawn readers: labels as a dict's data. -/
namespace RD
open PySem DL L2
def pk (p : Pr) : List Key := [.inl (p.1 : Nat), .inl (p.2 : Nat)]
theorem pk_inj {p q : Pr} (h : pk p = pk q) : p = q := by
  injection h with h1 h
  injection h with h2 _
  injection h1 with h1
  injection h2 with h2
  exact Prod.ext (by omega) (by omega)
theorem lkD_pk (p : Pr) : lkD p = .tuple ((pk p).map keyD) := rfl
def dk (ps : List Pr) (c : Pr → Nat) : List (List Key × PyData) := ps.map fun p => (pk p, nD (c p))
theorem dk_len (ps : List Pr) (c : Pr → Nat) : (dk ps c).length = ps.length := List.length_map _
theorem dk_val {c : Pr → Nat} {q : Pr} : ∀ {ps : List Pr}, (q ∈ ps → valD (dk ps c) (pk q) = some (nD (c q))) ∧ ((valD (dk ps c) (pk q)).isSome = decide (q ∈ ps))
  | [] => ⟨fun h => absurd h (by simp), by simp [dk, valD]⟩
  | p :: ps => by
    obtain ⟨h1, h2⟩ := dk_val (c := c) (q := q) (ps := ps)
    unfold dk valD at *
    simp only [List.map_cons, List.find?_cons]
    by_cases e : p = q
    · subst e
      simp
    · have ne : ¬ pk p = pk q := fun z => e (pk_inj z)
      simp only [ne, decide_false]
      refine ⟨fun h => h1 ?_, ?_⟩
      · rcases List.mem_cons.mp h with z | z
        · exact absurd z.symm e
        · exact z
      · rw [h2]
        refine decide_eq_decide.mpr ?_
        rw [List.mem_cons]
        exact ⟨.inr, fun h => h.elim (fun z => absurd z.symm e) id⟩
theorem dk_any {c : Pr → Nat} {q : Pr} {ps : List Pr} : ((dk ps c).any fun kv => decide (kv.1 = pk q)) = decide (q ∈ ps) := by
  rw [← (dk_val (c := c) (q := q) (ps := ps)).2]
  unfold valD
  generalize dk ps c = l
  induction l with
  | nil => rfl
  | cons x l ih =>
    rw [List.any_cons, List.find?_cons]
    cases h : decide (x.1 = pk q) with
    | true => rfl
    | false => rw [Bool.false_or, ih]
theorem dk_put {c : Pr → Nat} {q : Pr} {ps : List Pr} {v : Nat} (h : q ∈ ps) : putD (dk ps c) (pk q) (nD v) = dk ps (fun p => if p = q then v else c p) := by
  unfold putD
  rw [dk_any, decide_eq_true h, if_pos rfl]
  unfold dk
  rw [List.map_map]
  refine List.map_congr_left fun p _ => ?_
  show (if pk p = pk q then (pk p, nD v) else (pk p, nD (c p))) = (pk p, nD (if p = q then v else c p))
  by_cases e : p = q
  · subst e; rw [if_pos rfl, if_pos rfl]
  · rw [if_neg (fun z => e (pk_inj z)), if_neg e]
theorem dk_new {c : Pr → Nat} {q : Pr} {ps : List Pr} (h : q ∉ ps) : putD (dk ps c) (pk q) (nD (c q)) = dk (ps ++ [q]) c := by
  unfold putD
  rw [dk_any, decide_eq_false h, if_neg (by simp), dk, dk, List.map_append]
  rfl
/-- the turns of linked pairs -/
def edT (T : List (List Nat)) (ps : List Pr) (u w : Pr) : Prop := u ∈ ps ∧ w ∈ ps ∧ ∃ x y, x < T.length ∧ y < T.length ∧ tat T x y = u.2 ∧ w = (tat T u.1 x, tat T y x)
def turnT (T : List (List Nat)) (p : Pr) (x y : Nat) : Pr := (tat T p.1 x, tat T y x)
def Stable (T : List (List Nat)) (ps : List Pr) (c : Pr → Nat) : Prop := ∀ p ∈ ps, ∀ x y, x < T.length → y < T.length → tat T x y = p.2 → turnT T p x y ∈ ps → c p = c (turnT T p x y)
theorem stable_of {T : List (List Nat)} {ps : List Pr} {c : Pr → Nat} (h : ∀ u w, edT T ps u w → c u = c w) : Stable T ps c := fun p hp x y hx hy e hw => h p _ ⟨hp, hw, x, y, hx, hy, e, rfl⟩
theorem val_lt {T : List (List Nat)} {ps : List Pr} {c : Pr → Nat} (v : Val ps (edT T ps) c) : ∀ p ∈ ps, c p < ps.length := fun p hp => by
  obtain ⟨q, hq, _, e⟩ := v p hp
  rw [e]
  exact List.idxOf_lt_length_of_mem hq
/-- drawn readers -/
structure Rdr where
  letters : List Nat
  mul : List (List Nat)
  acc : List Pr
def rdD (r : Rdr) : PyData := .tuple [tupN r.letters, mulD r.mul, .tuple (r.acc.map lkD)]
structure Fits (n : Nat) (r : Rdr) : Prop where
  tab : Tab r.mul
  len : r.letters.length = n
  lt : ∀ l ∈ r.letters, l < r.mul.length
  lk : ∀ p ∈ r.acc, p.1 < r.mul.length ∧ p.2 < r.mul.length ∧ isLk r.mul p.1 p.2 = true
  srt : r.acc.Pairwise lx
  turn : ∀ s x y, s < r.mul.length → x < r.mul.length → y < r.mul.length → isLk r.mul s (tat r.mul x y) = true → tat r.mul (tat r.mul y x) (tat r.mul y x) = tat r.mul y x →
    ((s, tat r.mul x y) ∈ r.acc ↔ (tat r.mul s x, tat r.mul y x) ∈ r.acc)
theorem fits_of {n : Nat} {T : List (List Nat)} (t : Tab T) {ls : List Nat} (hl : ls.length = n) (hlt : ∀ l ∈ ls, l < T.length) {c : Pr → Nat} (st : Stable T (lks T T.length) c) (q : Nat → Bool) : Fits n ⟨ls, T, (lks T T.length).filter fun p => q (c p)⟩ := by
  refine ⟨t, hl, hlt, fun p hp => mem_lks.mp (List.mem_filter.mp hp).1, (lks_sorted T _).filter _, fun s x y hs hx hy h1 h2 => ?_⟩
  have hxy := t.tlt hx hy
  have hyx := t.tlt hy hx
  have hsx := t.tlt hs hx
  have h1' : tat T s (tat T x y) = s ∧ tat T (tat T x y) (tat T x y) = tat T x y := by
    unfold isLk at h1
    rw [Bool.and_eq_true, decide_eq_true_eq, decide_eq_true_eq] at h1
    exact h1
  have m1 : (s, tat T x y) ∈ lks T T.length := mem_lks.mpr ⟨hs, hxy, h1⟩
  have e1 : tat T (tat T s x) (tat T y x) = tat T s x := by
    rw [t.assoc s x _ hs hx hyx, ← t.assoc x y x hx hy hx, ← t.assoc s _ x hs hxy hx, h1'.1]
  have m2 : (tat T s x, tat T y x) ∈ lks T T.length := mem_lks.mpr ⟨hsx, hyx, by
    unfold isLk
    rw [Bool.and_eq_true, decide_eq_true_eq, decide_eq_true_eq]
    exact ⟨e1, h2⟩⟩
  have e := st _ m1 x y hx hy rfl m2
  show _ ∈ (lks T T.length).filter _ ↔ _ ∈ (lks T T.length).filter _
  rw [List.mem_filter, List.mem_filter]
  have e' : c (s, tat T x y) = c (tat T s x, tat T y x) := e
  rw [e']
  exact ⟨fun h => ⟨m2, h.2⟩, fun h => ⟨m1, h.2⟩⟩
end RD
/-! Values of words, their settled powers; an endless word, however it is written. -/
namespace RD
open PySem DL L2
section
variable {T : List (List Nat)}
/-- x to the power of k + 1 -/
def pw (T : List (List Nat)) (x : Nat) : Nat → Nat
  | 0 => x
  | k + 1 => tat T (pw T x k) x
def idem (T : List (List Nat)) (v : Nat) : Prop := tat T v v = v
theorem pw_lt (t : Tab T) {x : Nat} (hx : x < T.length) : ∀ k, pw T x k < T.length
  | 0 => hx
  | k + 1 => t.tlt (pw_lt t hx k) hx
theorem pw_add (t : Tab T) {x : Nat} (hx : x < T.length) (a : Nat) : ∀ b, tat T (pw T x a) (pw T x b) = pw T x (a + b + 1)
  | 0 => rfl
  | b + 1 => by
    show tat T (pw T x a) (tat T (pw T x b) x) = tat T (pw T x (a + b + 1)) x
    rw [← t.assoc _ _ _ (pw_lt t hx a) (pw_lt t hx b) hx, pw_add t hx a b]
theorem nodup_le : ∀ (n : Nat) (l : List Nat), l.Nodup → (∀ x ∈ l, x < n) → l.length ≤ n
  | 0, l, _, h => by
    cases l with
    | nil => exact Nat.le_refl _
    | cons x l => exact absurd (h x List.mem_cons_self) (by omega)
  | n + 1, l, nd, h => by
    have ih := nodup_le n (l.erase n) (nd.erase n) fun x hx => by
      have := (nd.mem_erase_iff).mp hx
      have := h x this.2
      omega
    by_cases hn : n ∈ l
    · rw [List.length_erase_of_mem hn] at ih
      omega
    · rw [List.erase_of_not_mem hn] at ih
      omega
theorem pigeon {n : Nat} {g : Nat → Nat} (h : ∀ k, g k < n) : ∃ i p, 1 ≤ p ∧ i + p ≤ n ∧ g i = g (i + p) := by
  by_cases nd : ((List.range (n + 1)).map g).Nodup
  · have := nodup_le n _ nd fun x hx => by
      obtain ⟨k, _, rfl⟩ := List.mem_map.mp hx
      exact h k
    rw [List.length_map, List.length_range] at this
    omega
  · rw [List.nodup_iff_pairwise_ne, List.pairwise_map, List.pairwise_iff_getElem] at nd
    simp only [List.length_range, List.getElem_range, Classical.not_forall, ne_eq, Decidable.not_not] at nd
    obtain ⟨i, j, hi, hj, hij, e⟩ := nd
    exact ⟨i, j - i, by omega, by omega, by rw [show i + (j - i) = j by omega]; exact e⟩
/-- some power is settled, among the first ones -/
theorem idem_ex (t : Tab T) {x : Nat} (hx : x < T.length) : ∃ k, k < T.length ∧ idem T (pw T x k) := by
  obtain ⟨i, p, hp, hip, e⟩ := pigeon (n := T.length) (g := pw T x) fun k => pw_lt t hx k
  have per : ∀ m, i ≤ m → pw T x m = pw T x (m + p) := by
    intro m
    induction m with
    | zero => intro h; have : i = 0 := by omega
              subst this; exact e
    | succ m ih =>
      intro h
      by_cases q : i = m + 1
      · rw [← q]; exact e
      · rw [show m + 1 + p = m + p + 1 by omega]
        show tat T (pw T x m) x = tat T (pw T x (m + p)) x
        rw [ih (by omega)]
  have perm : ∀ c m, i ≤ m → pw T x m = pw T x (m + c * p) := by
    intro c
    induction c with
    | zero => intro m h; rw [Nat.zero_mul, Nat.add_zero]
    | succ c ih =>
      intro m h
      rw [ih m h, per (m + c * p) (by omega), Nat.succ_mul, Nat.add_assoc]
  -- an exponent k + 1 that is a multiple of p, behind i
  have hq : ∃ q, i < q * p ∧ q * p ≤ i + p := by
    refine ⟨i / p + 1, ?_, ?_⟩
    · rw [Nat.succ_mul]
      have := Nat.div_add_mod i p
      have := Nat.mod_lt i (show 0 < p by omega)
      have : p * (i / p) = i / p * p := Nat.mul_comm _ _
      omega
    · rw [Nat.succ_mul]
      have := Nat.div_mul_le_self i p
      omega
  obtain ⟨q, q1, q2⟩ := hq
  refine ⟨q * p - 1, by omega, ?_⟩
  unfold idem
  rw [pw_add t hx, show q * p - 1 + (q * p - 1) + 1 = q * p - 1 + q * p by omega]
  exact (perm q _ (by omega)).symm
open Classical in
noncomputable def sx (T : List (List Nat)) (x : Nat) : Nat := if h : ∃ k, idem T (pw T x k) ∧ ∀ j, idem T (pw T x j) → k ≤ j then Classical.choose h else 0
/-- the settled value -/
noncomputable def stv (T : List (List Nat)) (x : Nat) : Nat := pw T x (sx T x)
theorem sx_spec (t : Tab T) {x : Nat} (hx : x < T.length) : sx T x < T.length ∧ idem T (stv T x) ∧ ∀ j, idem T (pw T x j) → sx T x ≤ j := by
  obtain ⟨k, hk, hid⟩ := idem_ex t hx
  have h := least_ex (P := fun k => idem T (pw T x k)) k hid
  have e : sx T x = Classical.choose h := by
    unfold sx
    rw [dif_pos h]
  obtain ⟨a, b⟩ := Classical.choose_spec h
  rw [← e] at a b
  exact ⟨Nat.lt_of_le_of_lt (b k hid) hk, a, b⟩
theorem stv_lt (t : Tab T) {x : Nat} (hx : x < T.length) : stv T x < T.length := pw_lt t hx _
/-- powers of powers -/
theorem pw_pw (t : Tab T) {x : Nat} (hx : x < T.length) (a : Nat) : ∀ b, pw T (pw T x a) b = pw T x ((a + 1) * (b + 1) - 1)
  | 0 => by simp [pw]
  | b + 1 => by
    show tat T (pw T (pw T x a) b) (pw T x a) = _
    rw [pw_pw t hx a b, pw_add t hx]
    congr 1
    have e1 : (a + 1) * (b + 1 + 1) = (a + 1) * (b + 1) + (a + 1) := Nat.mul_succ _ _
    have : 1 ≤ (a + 1) * (b + 1) := Nat.mul_pos (by omega) (by omega)
    omega
theorem idem_pw {v : Nat} (h : idem T v) : ∀ k, pw T v k = v
  | 0 => rfl
  | k + 1 => by
    show tat T (pw T v k) v = v
    rw [idem_pw h k]; exact h
/-- only one power is settled -/
theorem idem_one (t : Tab T) {x a b : Nat} (hx : x < T.length) (ha : idem T (pw T x a)) (hb : idem T (pw T x b)) : pw T x a = pw T x b := by
  rw [← idem_pw ha b, ← idem_pw hb a, pw_pw t hx, pw_pw t hx, Nat.mul_comm]
theorem stv_pw (t : Tab T) {x : Nat} (hx : x < T.length) (k : Nat) : stv T (pw T x k) = stv T x := by
  have h := (sx_spec t (pw_lt t hx k)).2.1
  unfold stv at h ⊢
  rw [pw_pw t hx] at h ⊢
  exact idem_one t hx h (sx_spec t hx).2.1
/-- (xy)^(k+1) x = x (yx)^(k+1) -/
theorem pw_swap (t : Tab T) {x y : Nat} (hx : x < T.length) (hy : y < T.length) : ∀ k, tat T (pw T (tat T x y) k) x = tat T x (pw T (tat T y x) k)
  | 0 => t.assoc x y x hx hy hx
  | k + 1 => by
    have hxy := t.tlt hx hy
    have hyx := t.tlt hy hx
    show tat T (tat T (pw T (tat T x y) k) (tat T x y)) x = tat T x (tat T (pw T (tat T y x) k) (tat T y x))
    rw [t.assoc _ _ x (pw_lt t hxy k) hxy hx, t.assoc x y x hx hy hx, ← t.assoc _ x _ (pw_lt t hxy k) hx hyx, pw_swap t hx hy k, t.assoc x _ _ hx (pw_lt t hyx k) hyx]
end
/-! ### values of words -/
def lv (r : Rdr) (l : Nat) : Nat := r.letters.getD l 0
def val (r : Rdr) : List Nat → Nat
  | [] => 0
  | a :: t => t.foldl (fun v l => tat r.mul v (lv r l)) (lv r a)
section
variable {n : Nat} {r : Rdr}
theorem lv_lt (f : Fits n r) {l : Nat} (h : l < n) : lv r l < r.mul.length := f.lt _ (getD_mem 0 (by rw [f.len]; exact h))
theorem fold_lt (f : Fits n r) : ∀ (t : List Nat) (v : Nat), v < r.mul.length → (∀ l ∈ t, l < n) → t.foldl (fun v l => tat r.mul v (lv r l)) v < r.mul.length
  | [], v, h, _ => h
  | l :: t, v, h, ht => fold_lt f t _ (f.tab.tlt h (lv_lt f (ht l List.mem_cons_self))) fun x hx => ht x (List.mem_cons_of_mem _ hx)
theorem val_lt' (f : Fits n r) {w : List Nat} (h0 : w ≠ []) (h : ∀ l ∈ w, l < n) : val r w < r.mul.length := by
  cases w with
  | nil => exact absurd rfl h0
  | cons a t => exact fold_lt f t _ (lv_lt f (h a List.mem_cons_self)) fun x hx => h x (List.mem_cons_of_mem _ hx)
theorem fold_tat (f : Fits n r) : ∀ (t : List Nat) (u v : Nat), u < r.mul.length → v < r.mul.length → (∀ l ∈ t, l < n) → t.foldl (fun v l => tat r.mul v (lv r l)) (tat r.mul u v) = tat r.mul u (t.foldl (fun v l => tat r.mul v (lv r l)) v)
  | [], _, _, _, _, _ => rfl
  | l :: t, u, v, hu, hv, ht => by
    have hl := lv_lt f (ht l List.mem_cons_self)
    simp only [List.foldl_cons]
    rw [f.tab.assoc u v _ hu hv hl]
    exact fold_tat f t u _ hu (f.tab.tlt hv hl) fun x hx => ht x (List.mem_cons_of_mem _ hx)
theorem val_app (f : Fits n r) {u w : List Nat} (hu : u ≠ []) (hw : w ≠ []) (h1 : ∀ l ∈ u, l < n) (h2 : ∀ l ∈ w, l < n) : val r (u ++ w) = tat r.mul (val r u) (val r w) := by
  cases u with
  | nil => exact absurd rfl hu
  | cons a s =>
    cases w with
    | nil => exact absurd rfl hw
    | cons b t =>
      show (s ++ b :: t).foldl _ (lv r a) = tat r.mul (s.foldl _ (lv r a)) (t.foldl _ (lv r b))
      rw [List.foldl_append, List.foldl_cons]
      exact fold_tat f t _ _ (val_lt' f (w := a :: s) (by simp) h1) (lv_lt f (h2 b List.mem_cons_self)) fun x hx => h2 x (List.mem_cons_of_mem _ hx)
abbrev Wn := List Nat × List Nat
/-- the pair of an endless word -/
noncomputable def prW (r : Rdr) (w : Wn) : Pr := (if w.1 = [] then stv r.mul (val r w.2) else tat r.mul (val r w.1) (stv r.mul (val r w.2)), stv r.mul (val r w.2))
def OkW (n : Nat) (w : Wn) : Prop := w.2 ≠ [] ∧ (∀ l ∈ w.1, l < n) ∧ ∀ l ∈ w.2, l < n
theorem OkW.f_lt (f : Fits n r) {w : Wn} (h : OkW n w) : stv r.mul (val r w.2) < r.mul.length := stv_lt f.tab (val_lt' f h.1 h.2.2)
theorem prW_lk (f : Fits n r) {w : Wn} (h : OkW n w) : (prW r w).1 < r.mul.length ∧ (prW r w).2 < r.mul.length ∧ isLk r.mul (prW r w).1 (prW r w).2 = true := by
  have hf := h.f_lt f
  have hid : idem r.mul (stv r.mul (val r w.2)) := (sx_spec f.tab (val_lt' f h.1 h.2.2)).2.1
  unfold prW isLk
  dsimp only
  by_cases e : w.1 = []
  · rw [if_pos e]
    refine ⟨hf, hf, ?_⟩
    rw [show tat r.mul (stv r.mul (val r w.2)) (stv r.mul (val r w.2)) = stv r.mul (val r w.2) from hid]
    simp
  · rw [if_neg e]
    have hb := val_lt' f e h.2.1
    refine ⟨f.tab.tlt hb hf, hf, ?_⟩
    rw [f.tab.assoc _ _ _ hb hf hf, show tat r.mul (stv r.mul (val r w.2)) (stv r.mul (val r w.2)) = stv r.mul (val r w.2) from hid]
    simp
/-- a round that is turned by u, w its rest -/
theorem turn_uw (f : Fits n r) {b u w : List Nat} (hu : u ≠ []) (hw : w ≠ []) (hb : ∀ l ∈ b, l < n) (h1 : ∀ l ∈ u, l < n) (h2 : ∀ l ∈ w, l < n) : prW r (b, u ++ w) ∈ r.acc ↔ prW r (b ++ u, w ++ u) ∈ r.acc := by
  have t := f.tab
  have hU := val_lt' f hu h1
  have hW := val_lt' f hw h2
  have e1 := val_app f hu hw h1 h2
  have e2 := val_app f hw hu h2 h1
  have hUW := t.tlt hU hW
  have hWU := t.tlt hW hU
  obtain ⟨m1, i1, _⟩ := sx_spec t hUW
  obtain ⟨m2, i2, _⟩ := sx_spec t hWU
  -- a common exponent K + 1
  have hK : ∃ K, pw r.mul (tat r.mul (val r u) (val r w)) K = stv r.mul (tat r.mul (val r u) (val r w)) ∧ pw r.mul (tat r.mul (val r w) (val r u)) K = stv r.mul (tat r.mul (val r w) (val r u)) := by
    refine ⟨(sx r.mul (tat r.mul (val r u) (val r w)) + 1) * (sx r.mul (tat r.mul (val r w) (val r u)) + 1) - 1, ?_, ?_⟩
    · rw [← pw_pw t hUW]
      exact idem_pw i1 _
    · rw [Nat.mul_comm, ← pw_pw t hWU]
      exact idem_pw i2 _
  obtain ⟨K, k1, k2⟩ := hK
  -- the data
  have ha : prW r (b, u ++ w) = (if b = [] then stv r.mul (tat r.mul (val r u) (val r w)) else tat r.mul (val r b) (stv r.mul (tat r.mul (val r u) (val r w))), stv r.mul (tat r.mul (val r u) (val r w))) := by
    unfold prW
    dsimp only
    rw [e1]
  have bu : b ++ u ≠ [] := by simp [hu]
  have hc : prW r (b ++ u, w ++ u) = (tat r.mul (val r (b ++ u)) (stv r.mul (tat r.mul (val r w) (val r u))), stv r.mul (tat r.mul (val r w) (val r u))) := by
    unfold prW
    dsimp only
    rw [if_neg bu, e2]
  have lk := (prW_lk f (w := (b, u ++ w)) ⟨by simp [hu], hb, fun l hl => (List.mem_append.mp hl).elim (h1 l) (h2 l)⟩)
  rw [ha] at lk ⊢
  rw [hc]
  generalize hs : (if b = [] then stv r.mul (tat r.mul (val r u) (val r w)) else tat r.mul (val r b) (stv r.mul (tat r.mul (val r u) (val r w)))) = s at lk ⊢
  obtain ⟨ls, lf, ll⟩ := lk
  dsimp only at ls lf ll
  generalize hU' : val r u = U at *
  generalize hW' : val r w = W at *
  have hg : stv r.mul (tat r.mul W U) < r.mul.length := stv_lt t hWU
  have pK := pw_lt t hUW K
  have pK2 := pw_lt t hWU K
  have sf : tat r.mul s (stv r.mul (tat r.mul U W)) = s := by
    unfold isLk at ll
    rw [Bool.and_eq_true, decide_eq_true_eq, decide_eq_true_eq] at ll
    exact ll.1
  -- x = f U, y = W (UW)^(2K + 1)
  have hx := t.tlt lf hU
  have py := pw_lt t hUW (K + K)
  have hy : tat r.mul W (pw r.mul (tat r.mul U W) (K + K)) < r.mul.length := t.tlt hW py
  have ff : tat r.mul (stv r.mul (tat r.mul U W)) (stv r.mul (tat r.mul U W)) = stv r.mul (tat r.mul U W) := i1
  have gg : tat r.mul (stv r.mul (tat r.mul W U)) (stv r.mul (tat r.mul W U)) = stv r.mul (tat r.mul W U) := i2
  have f2 : pw r.mul (tat r.mul U W) (K + K + 1) = stv r.mul (tat r.mul U W) := by
    rw [← pw_add t hUW, k1]; exact ff
  have xy : tat r.mul (tat r.mul (stv r.mul (tat r.mul U W)) U) (tat r.mul W (pw r.mul (tat r.mul U W) (K + K))) = stv r.mul (tat r.mul U W) := by
    rw [t.assoc _ _ _ lf hU hy, ← t.assoc U W _ hU hW py]
    have e : tat r.mul (tat r.mul U W) (pw r.mul (tat r.mul U W) (K + K)) = pw r.mul (tat r.mul U W) (K + K + 1) := by
      have := pw_add t hUW 0 (K + K)
      rw [show 0 + (K + K) + 1 = K + K + 1 by omega] at this
      exact this
    rw [e, f2, ff]
  have fU : tat r.mul (stv r.mul (tat r.mul U W)) U = tat r.mul U (stv r.mul (tat r.mul W U)) := by
    rw [← k1, ← k2]; exact pw_swap t hU hW K
  have yx : tat r.mul (tat r.mul W (pw r.mul (tat r.mul U W) (K + K))) (tat r.mul (stv r.mul (tat r.mul U W)) U) = stv r.mul (tat r.mul W U) := by
    rw [fU, t.assoc W _ _ hW py (t.tlt hU hg), ← t.assoc _ U _ py hU hg, pw_swap t hU hW, t.assoc U _ _ hU (pw_lt t hWU _) hg, ← t.assoc W U _ hW hU (t.tlt (pw_lt t hWU _) hg)]
    have e : tat r.mul (tat r.mul W U) (tat r.mul (pw r.mul (tat r.mul W U) (K + K)) (stv r.mul (tat r.mul W U))) = tat r.mul (pw r.mul (tat r.mul W U) (K + K + 1)) (stv r.mul (tat r.mul W U)) := by
      rw [← t.assoc _ _ _ hWU (pw_lt t hWU _) hg]
      have := pw_add t hWU 0 (K + K)
      rw [show 0 + (K + K) + 1 = K + K + 1 by omega] at this
      rw [← this]
      rfl
    rw [e, ← pw_add t hWU, k2, gg, gg]
  have sxx : tat r.mul s (tat r.mul (stv r.mul (tat r.mul U W)) U) = tat r.mul s U := by
    rw [← t.assoc _ _ _ ls lf hU, sf]
  have main := f.turn s _ _ ls hx hy (by rw [xy]; exact ll) (by rw [yx]; exact gg)
  rw [xy, yx, sxx] at main
  have fin : tat r.mul s U = tat r.mul (val r (b ++ u)) (stv r.mul (tat r.mul W U)) := by
    rw [← hs]
    by_cases e : b = []
    · rw [if_pos e, fU, e, List.nil_append, hU']
    · rw [if_neg e, val_app f e hu hb h1, hU', t.assoc _ _ _ (val_lt' f e hb) lf hU, fU, t.assoc _ _ _ (val_lt' f e hb) hU hg]
  rw [main, fin]
/-- the round written again in the beginning -/
theorem turn_r (f : Fits n r) {b w : List Nat} (hw : w ≠ []) (hb : ∀ l ∈ b, l < n) (h2 : ∀ l ∈ w, l < n) : prW r (b, w) ∈ r.acc ↔ prW r (b ++ w, w) ∈ r.acc := by
  have key : ∀ b', prW r (b', w ++ w) = prW r (b', w) := fun b' => by
    have e : stv r.mul (val r (w ++ w)) = stv r.mul (val r w) := by
      rw [val_app f hw hw h2 h2]
      exact stv_pw f.tab (val_lt' f hw h2) 1
    unfold prW
    dsimp only
    rw [e]
  rw [← key b, turn_uw f hw hw hb h2 h2, key]
theorem val_rep (f : Fits n r) {w : List Nat} (hw : w ≠ []) (h2 : ∀ l ∈ w, l < n) : ∀ k, val r (List.replicate (k + 1) w).flatten = pw r.mul (val r w) k
  | 0 => by simp [pw]
  | k + 1 => by
    rw [List.replicate_succ', List.flatten_append]
    have hne : (List.replicate (k + 1) w).flatten ≠ [] := by
      rw [List.replicate_succ, List.flatten_cons]
      simp [hw]
    have hall : ∀ l ∈ (List.replicate (k + 1) w).flatten, l < n := fun l hl => by
      obtain ⟨x, hx, hlx⟩ := List.mem_flatten.mp hl
      rw [List.eq_of_mem_replicate hx] at hlx
      exact h2 l hlx
    have hs : [w].flatten = w := by simp
    rw [hs, val_app f hne hw hall h2, val_rep f hw h2 k]
    rfl
theorem rep_pr (f : Fits n r) {b w : List Nat} (hw : w ≠ []) (h2 : ∀ l ∈ w, l < n) (k : Nat) : prW r (b, (List.replicate (k + 1) w).flatten) = prW r (b, w) := by
  unfold prW
  dsimp only
  rw [val_rep f hw h2 k, stv_pw f.tab (val_lt' f hw h2)]
end
end RD
/-! Words as data; items of a reader. -/
namespace RD
open PySem DL L2
def natsD (w : List Nat) : PyData := .list (w.map nD)
def wnD (w : Wn) : PyData := .tuple [natsD w.1, natsD w.2]
theorem flat_natsD (n : Nat) (w : List Nat) : flat (n + 1) (natsD w) = true := by
  rw [natsD, flat]
  exact flats_map w fun _ _ => flat_nD
theorem flat_wnD (n : Nat) (w : Wn) : flat (n + 2) (wnD w) = true := by
  simp [wnD, flat, flats, flat_natsD]
theorem cut_tail (a : Nat) (t : List Nat) : cutL ((a :: t).map nD) (some 1) none = t.map nD := by
  have := cutL_from ((a :: t).map nD) 1
  rw [show ((1 : Nat) : Int) = 1 from rfl] at this
  rw [this]
  rfl
theorem at_hd (a : Nat) (t : List Nat) : atI ((a :: t).map nD) 0 = some (nD a) := atI_nat (j := 0) rfl
theorem cut_to (w : List Nat) (n : Nat) : cutL (w.map nD) none (some (n : Int)) = (w.take n).map nD := by
  rw [cutL_to, List.map_take]
theorem cut_from (w : List Nat) (n : Nat) : cutL (w.map nD) (some (n : Int)) none = (w.drop n).map nD := by
  rw [cutL_from, List.map_drop]
theorem let_at {n : Nat} {r : Rdr} (f : Fits n r) {l : Nat} (h : l < n) : atI (r.letters.map nD) (l : Int) = some (nD (lv r l)) := at_nD (by rw [f.len]; exact h)
theorem mul_at {T : List (List Nat)} (t : Tab T) {x y : Nat} (hx : x < T.length) (hy : y < T.length) : atI (T.map tupN) (x : Int) = some (tupN (T.getD x [])) ∧ atI ((T.getD x []).map nD) (y : Int) = some (nD (tat T x y)) := by
  refine ⟨atI_nat ?_, at_nD ?_⟩
  · rw [List.getElem?_map, List.getD_eq_getElem?_getD, List.getElem?_eq_getElem hx]
    rfl
  · rw [t.row _ (getD_mem [] hx)]; exact hy
theorem mem_acc {r : Rdr} {p : Pr} : ((r.acc.map lkD).any fun z => PyData.eqv z (lkD p)) = decide (p ∈ r.acc) := by
  rw [Bool.eq_iff_iff, any_flat (flats_map r.acc fun q _ => flat_lkD 0 q) (flat_lkD 0 p), decide_eq_true_eq]
  constructor
  · intro h
    obtain ⟨q, h1, h2⟩ := List.mem_map.mp h
    rw [← lkD_inj h2]; exact h1
  · exact fun h => List.mem_map.mpr ⟨p, h, rfl⟩
theorem flat_accs (n : Nat) (r : Rdr) : flat (n + 2) (.tuple (r.acc.map lkD)) = true := by
  rw [flat]
  exact flats_map r.acc fun q _ => flat_lkD n q
theorem flat_rdD (n : Nat) (r : Rdr) : flat (n + 3) (rdD r) = true := by
  have h1 : flat (n + 2) (tupN r.letters) = true := flat_tupN _ _
  have h2 : flat (n + 2) (mulD r.mul) = true := flat_mul _ _
  have h3 := flat_accs n r
  rw [rdD, flat, flats, flats, flats, flats, h1, h2, h3]
  rfl
/-- an endless word that a reader of n letters reads -/
noncomputable def accW (r : Rdr) (w : Wn) : Bool := decide (prW r w ∈ r.acc)
section
variable {n : Nat} {r : Rdr} {b g : List Nat}
theorem acc_of {u w : Wn} (h : prW r u ∈ r.acc ↔ prW r w ∈ r.acc) : accW r u = accW r w := decide_eq_decide.mpr h
theorem acc_r (f : Fits n r) (ok : OkW n (b, g)) : accW r (b ++ g, g) = accW r (b, g) := (acc_of (turn_r f ok.1 ok.2.1 ok.2.2)).symm
theorem acc_cut (f : Fits n r) (ok : OkW n (b, g)) (j : Nat) : accW r (b ++ g.take j, g.drop j ++ g.take j) = accW r (b, g) := by
  by_cases h0 : g.take j = []
  · have e : g.drop j = g := by
      have := List.take_append_drop j g
      rw [h0, List.nil_append] at this
      exact this
    rw [h0, e, List.append_nil, List.append_nil]
  · by_cases h1 : g.drop j = []
    · have e : g.take j = g := by
        have := List.take_append_drop j g
        rw [h1, List.append_nil] at this
        exact this
      rw [h1, e, List.nil_append]
      exact acc_r f ok
    · have := turn_uw f h0 h1 ok.2.1 (fun l hl => ok.2.2 l (List.mem_of_mem_take hl)) (fun l hl => ok.2.2 l (List.mem_of_mem_drop hl))
      rw [List.take_append_drop] at this
      exact (acc_of this).symm
theorem acc_rep (f : Fits n r) (ok : OkW n (b, g)) (k : Nat) : accW r (b, (List.replicate (k + 1) g).flatten) = accW r (b, g) := by
  unfold accW
  rw [rep_pr f ok.1 ok.2.2]
theorem ok_r (ok : OkW n (b, g)) : OkW n (b ++ g, g) := ⟨ok.1, fun l hl => (List.mem_append.mp hl).elim (ok.2.1 l) (ok.2.2 l), ok.2.2⟩
theorem ok_cut (ok : OkW n (b, g)) (j : Nat) : OkW n (b ++ g.take j, g.drop j ++ g.take j) := ⟨fun h => ok.1 (by
    obtain ⟨h1, h2⟩ := List.append_eq_nil_iff.mp h
    rw [← List.take_append_drop j g, h1, h2]
    rfl), fun l hl => (List.mem_append.mp hl).elim (ok.2.1 l) fun h => ok.2.2 l (List.mem_of_mem_take h), fun l hl => (List.mem_append.mp hl).elim (fun h => ok.2.2 l (List.mem_of_mem_drop h)) fun h => ok.2.2 l (List.mem_of_mem_take h)⟩
theorem ok_rep (ok : OkW n (b, g)) (k : Nat) : OkW n (b, (List.replicate (k + 1) g).flatten) := ⟨fun h => ok.1 (by
    rw [List.replicate_succ, List.flatten_cons] at h
    exact (List.append_eq_nil_iff.mp h).1), ok.2.1, fun l hl => by
    obtain ⟨x, hx, hlx⟩ := List.mem_flatten.mp hl
    rw [List.eq_of_mem_replicate hx] at hlx
    exact ok.2.2 l hlx⟩
theorem natsD_rep (w : List Nat) (k : Nat) : (List.replicate k (w.map nD)).flatten = ((List.replicate k w).flatten).map nD := by
  rw [List.map_flatten, List.map_replicate]
theorem eqv_self {d : PyData} {n : Nat} (h : flat n d = true) : PyData.eqv d d = true := (eqv_flat d d n h h).mpr rfl
theorem eqv_bl {a b : Bool} : PyData.eqv (.bool a) (.bool b) = decide (a = b) := by cases a <;> cases b <;> simp [PyData.eqv]
end
end RD
namespace K03
open PySem PySem.Spec PyProof.Rows L2 DL RD
def topS (i : Nat) : Stmt := PySem.Challenge.pw_unendtold_k03_whole_words_written_otherw.main.body.getD i (.Pass ⟨0, 0, 0, 0⟩)
abbrev sDraw : Stmt := topS 6
abbrev sFns : Stmt := topS 7
abbrev sProd : Stmt := topS 8
abbrev sTable : Stmt := topS 9
abbrev sMixed : Stmt := topS 10
abbrev sLinked : Stmt := topS 11
abbrev sTurns : Stmt := topS 12
abbrev sReader : Stmt := topS 13
/-! ### data of drawn readers -/
abbrev fnsN : List Str := ["state", "points", "found", "k", "one", "two", "made", "j"]
theorem scDraw : FnScope ["state", "limit", "position", "cell", "mixed", "digit"] ["state", "limit"] (defScope sDraw) := ⟨rfl, rfl, rfl, by decide +kernel, rfl, by decide +kernel, by decide +kernel⟩
theorem scFns : FnScope fnsN ["state"] (defScope sFns) := ⟨rfl, rfl, rfl, by decide +kernel, rfl, by decide +kernel, by decide +kernel⟩
theorem scProd : FnScope ["kind", "count", "x", "y"] ["kind", "count", "x", "y"] (defScope sProd) := ⟨rfl, rfl, rfl, by decide +kernel, rfl, by decide +kernel, by decide +kernel⟩
section
variable {P : Program} {w : World} {K : PySem.W.Frag} {mg : Str → Option Value} {base : Heap} {f : Addr} {fd : FuncData} {k : Nat}
theorem ok_draw (F : Fun K "_law_draw" "_law_draw" sDraw f fd) (ml : mg "len" = none) (mi : mg "int" = none) : FnOk P w K mg base CX0 (k + 1) f fd ["state", "limit"] (SpDraw K) := by
  have nd := scDraw.nd
  refine F.ok scDraw (fun vs H Q E h => ?_) (fun cdv A outer s H vs Q E hr h => ?_)
  · obtain ⟨M, a, vs', y, _, _, _, e, r, _⟩ := h
    rw [e, List.length_cons, r.length]
    rfl
  · obtain ⟨M, a, vs', m, ha, hM, ⟨x, p, L, z, ns, h1, h2, hx, hp, hz0, hz1, hn⟩, rfl, r, ⟨hm0, hm1⟩, q⟩ := h
    obtain ⟨v, rfl⟩ : ∃ v, vs' = [v] := by
      cases r with
      | cons _ r => cases r; exact ⟨_, rfl⟩
    obtain rfl : v = .int m := by
      cases r with
      | cons r _ => exact r.int_inv
    clear r
    refine ⟨_, pss_c _, ?_⟩
    have h1 : H a = some (stL x p L z) := h1
    have pl : ∀ {b : Expr}, (∀ o i, subscripted b false o i = operate [o, i] (getItem o i)) → PlainIx b := fun h => h
    have gi : ∀ {H' : Hp} {x p z : Int}, H' a = some (stL x p L z) → SqL K H' a [.int x, .int p, .ref L, .int z] := fun h => SqL.of h
    -- what holds behind the first if
    refine cSs_mid (fun σ' H' => ∃ y2 y3 y4 y5 x' p' z', σ' = [some (.ref a), some (.int m), y2, y3, y4, y5] ∧ H' = upd H a (stL x' p' L z') ∧ 0 ≤ x' ∧ 0 ≤ p' ∧ 0 ≤ z' ∧ z' < 2147483647) ?_ ?_
    · refine ofS (ps_if (pt_cmpR op_lt (pe_ix ix_list (pv 0) pe_int (fun _ _ => rfl)) (pv 1) (nomark _)) (pss_c _) pss_nil) ?_
      refine ⟨_, rfl, a, _, 0, _, rfl, rfl, gi h1, rfl, _, rfl, _, _, rfl, rfl, _, rfl, ite2 (fun _ => ?_) (fun _ => ?_)⟩
      · refine cSs_cons (ps_set (i := 2) nd rfl (.inl rfl) (pe_ix ix_list (pv 0) pe_int (fun _ _ => rfl))) ?_
        refine ⟨_, rfl, a, _, 1, _, rfl, rfl, gi h1, rfl, ?_⟩
        refine cSs_cons (ps_asg (pe_op op_add (pv 2) pe_int) (pg_sub (pv 0) pe_int set_list)) ?_
        refine ⟨_, rfl, p, 1, rfl, rfl, _, rfl, a, _, 1, 1, rfl, rfl, h1, rfl, ?_⟩
        refine cSs_cons (ps_set (i := 3) nd rfl (.inl rfl) pe_int) ?_
        have e1 : upd H a (.lst (List.set [V.int x, V.int p, V.ref L, V.int z] 1 (V.int (p + 1)))) a = some (stL x (p + 1) L z) := upd_same
        have e2 : upd H a (.lst (List.set [V.int x, V.int p, V.ref L, V.int z] 1 (V.int (p + 1)))) L = some (.lst (ns.map V.int)) := by
          rw [upd_ne]
          · exact h2
          · intro q
            rw [q, h1] at h2
            injection h2 with h2
            injection h2 with h2
            cases ns with
            | nil => simp at h2
            | cons n1 ns =>
              cases ns with
              | nil => simp at h2
              | cons n2 ns =>
                cases ns with
                | nil => simp at h2
                | cons n3 ns => simp at h2
        generalize hG : upd H a (.lst (List.set [V.int x, V.int p, V.ref L, V.int z] 1 (V.int (p + 1)))) = G at e1 e2
        refine cSs_mid (fun σ' H' => ∃ c : Int, σ' = [some (.ref a), some (.int m), some (.int p), some (.int c), none, none] ∧ G = H') ?_ ?_
        · refine ofS (ps_if (pt_cmpR op_lt (pv 2) (pe_callB call_len_seq (by rfl) ml PySem.boot_len (pa_cons (pe_ix ix_list (pv 0) pe_int (fun _ _ => rfl)) pa_nil)) (nomark _)) (pss_c _) pss_nil) ?_
          refine ⟨_, rfl, _, rfl, a, _, 2, _, rfl, rfl, gi e1, rfl, L, _, rfl, .inl (SqL.of e2), _, _, rfl, rfl, _, rfl, ite2 (fun hc => ?_) (fun hc => ?_)⟩
          · have hlt : p < ((ns.map V.int).length : Nat) := of_decide_eq_true hc
            rw [List.length_map] at hlt
            refine cSs_one (ps_set (i := 3) nd rfl (.inl rfl) (pe_ix ix_list (pe_ix ix_list (pv 0) pe_int (fun _ _ => rfl)) (pv 2) (fun _ _ => rfl))) ?_
            obtain ⟨pn, epn⟩ := Int.eq_ofNat_of_zero_le hp
            have hpn : pn < ns.length := by omega
            refine ⟨_, rfl, a, _, 2, _, rfl, rfl, gi e1, rfl, _, rfl, L, _, p, .int ns[pn], rfl, rfl, SqL.of e2, ?_, _, rfl, rfl⟩
            rw [epn]
            refine atI_nat ?_
            rw [List.getElem?_map, List.getElem?_eq_getElem hpn]
            rfl
          · exact ⟨0, rfl, rfl⟩
        · rintro σ' H' ⟨c, rfl, rfl⟩
          refine cSs_one (ps_if (pt_cmpR op_ge (pv 3) (pe_op op_pow pe_int pe_int) (nomark _)) (pss_c _) (pss_c _)) ?_
          refine ⟨_, rfl, _, _, rfl, rfl, ⟨by decide, by decide, by decide⟩, _, _, rfl, rfl, _, rfl, ite2 (fun hc => ?_) (fun hc => ?_)⟩
          · have hc : (1000000000000000000 : Int) ≤ c := of_decide_eq_true hc
            refine cSs_one (ps_asg (pv 3) (pg_sub (pv 0) pe_int set_list)) ?_
            refine ⟨_, rfl, _, rfl, a, _, 0, 0, rfl, rfl, e1, rfl, _, _, _, _, c, p + 1, z, rfl, ?_, by omega, by omega, hz0, hz1⟩
            rw [← hG, upd_upd]
            rfl
          · refine cSs_cons (ps_asg (pe_op op_mod (pe_callTy call_int1 (by rfl) mi boot_int (pa_cons (pe_op op_mul (pe_op op_add (pe_op op_add (pe_op op_add (pe_ix ix_list (pv 0) pe_int (fun _ _ => rfl)) (pe_op op_mod (pe_callTy call_int1 (by rfl) mi boot_int (pa_cons (pv 3) pa_nil)) pe_int)) (pv 2)) pe_int) pe_int) pa_nil)) pe_int) (pg_sub (pv 0) pe_int set_list)) ?_
            refine ⟨_, rfl, a, _, 3, _, rfl, rfl, gi e1, rfl, _, rfl, .inl ⟨c, rfl, _, _, rfl, rfl, (by show (0 : Int) < _; decide), _, _, rfl, rfl, _, rfl, _, _, rfl, rfl, _, _, rfl, rfl, _, _, rfl, rfl, .inr (by decide), .inl ⟨_, rfl, _, _, rfl, rfl, (by show (0 : Int) < _; decide), _, rfl, a, _, 3, 3, rfl, rfl, e1, rfl, ?_⟩⟩⟩
            dsimp only
            generalize hz2 : (z + c % 2147483629 + p + 1) * 48271 % 2147483647 = z2
            have b2 : 0 ≤ z2 ∧ z2 < 2147483647 := by rw [← hz2]; exact ⟨Int.emod_nonneg _ (by decide), Int.emod_lt_of_pos _ (by decide)⟩
            have e3 : upd G a (.lst (List.set [V.int x, V.int (p + 1), V.ref L, V.int z] 3 (V.int z2))) a = some (stL x (p + 1) L z2) := upd_same
            refine cSs_cons (ps_set (i := 4) nd rfl (.inl rfl) (pe_op op_mod (pe_callTy call_int1 (by rfl) mi boot_int (pa_cons (pe_op op_add (pe_op op_mul (pe_ix ix_list (pv 0) pe_int (fun _ _ => rfl)) pe_int) pe_int) pa_nil)) pe_int)) ?_
            refine ⟨_, rfl, a, _, 3, _, rfl, rfl, gi e3, rfl, _, _, rfl, rfl, .inr (by decide), _, _, rfl, rfl, .inl ⟨_, rfl, _, _, rfl, rfl, (by show (0 : Int) < _; decide), ?_⟩⟩
            dsimp only
            generalize hw : (z2 * 69621 + 11) % 2147483629 = mx
            have b3 : 0 ≤ mx ∧ mx < 2147483629 := by rw [← hw]; exact ⟨Int.emod_nonneg _ (by decide), Int.emod_lt_of_pos _ (by decide)⟩
            refine cSs_one (ps_asg (pe_op op_add (pe_op op_mul (pv 4) pe_int) (pe_op op_mod (pe_callTy call_int1 (by rfl) mi boot_int (pa_cons (pe_op op_add (pe_op op_mul (pv 4) pe_int) (pe_ix ix_list (pv 0) pe_int (fun _ _ => rfl))) pa_nil)) pe_int)) (pg_sub (pv 0) pe_int set_list)) ?_
            refine ⟨_, rfl, _, _, rfl, rfl, .inr (by decide), _, rfl, _, _, rfl, rfl, .inr (by decide), _, rfl, a, _, 3, _, rfl, rfl, gi e3, rfl, _, _, rfl, rfl, .inl ⟨_, rfl, _, _, rfl, rfl, (by show (0 : Int) < _; decide), _, _, rfl, rfl, _, rfl, a, _, 0, 0, rfl, rfl, e3, rfl, ?_⟩⟩
            have g1 : 0 ≤ (mx * 30011 + z2) % 2147483587 := Int.emod_nonneg _ (by decide)
            refine ⟨_, _, _, _, mx * 2147483647 + (mx * 30011 + z2) % 2147483587, p + 1, z2, rfl, ?_, by omega, by omega, b2.1, b2.2⟩
            rw [← hG, upd_upd, upd_upd]
            rfl
      · exact ⟨_, _, _, _, x, p, z, rfl, by
          funext b
          by_cases e : b = a
          · subst e; rw [upd_same, h1]
          · rw [upd_ne e], hx, hp, hz0, hz1⟩
    · rintro σ' H' ⟨y2, y3, y4, y5, x', p', z', rfl, rfl, hx', hp', hz0', hz1'⟩
      have e1 : upd H a (stL x' p' L z') a = some (stL x' p' L z') := upd_same
      refine cSs_cons (ps_set (i := 5) nd rfl (.inl rfl) (pe_op op_mod (pe_callTy call_int1 (by rfl) mi boot_int (pa_cons (pe_ix ix_list (pv 0) pe_int (fun _ _ => rfl)) pa_nil)) (pv 1))) ?_
      refine ⟨_, rfl, a, _, 0, _, rfl, rfl, gi e1, rfl, .inl ⟨_, rfl, _, rfl, _, _, rfl, rfl, hm0, ?_⟩⟩
      refine cSs_cons (ps_asg (pe_op op_fdivW (pe_ix ix_list (pv 0) pe_int (fun _ _ => rfl)) (pv 1)) (pg_sub (pv 0) pe_int set_list)) ?_
      refine ⟨_, rfl, a, _, 0, _, rfl, rfl, gi e1, rfl, _, rfl, _, _, rfl, rfl, wide_div (b := 64) hm0 (by omega) (by decide) (by decide), _, rfl, a, _, 0, 0, rfl, rfl, e1, rfl, ?_⟩
      refine cSs_one (ps_ret (pv 5)) ?_
      refine ⟨_, rfl, ?_⟩
      rw [upd_upd]
      refine q _ _ (.int (x' % m)) ⟨x' % m, rfl, Int.emod_nonneg _ (by omega), Int.emod_lt_of_pos _ hm0⟩ (fun C e => st_tr h1 h2 ⟨Int.ediv_nonneg hx' (by omega), hp', hz0', hz1'⟩ e) (.int _)
abbrev SpFns (K : PySem.W.Frag) : Sp := SpS K (fun _ : Unit => []) (fun _ => True) (fun _ d => ∃ (fs : List (List Nat)) (p : Nat), d = fnsD fs ∧ Fns p fs ∧ Closed fs)
set_option maxHeartbeats 1000000 in
theorem ok_fns {fd' : Addr} {fdd : FuncData} (F : Fun K "_law_functions" "_law_functions" sFns f fd) (FD : Fun K "_law_draw" "_law_draw" sDraw fd' fdd) (bd : Binds K fdd ["state", "limit"] []) (gd : mg "_law_draw" = some (.ref fd')) (ml : mg "len" = none) (mi : mg "int" = none) (mr : mg "range" = none) (mt : mg "tuple" = none) (ms : mg "list" = none) :
    FnOk P w K mg base CX0 2 f fd ["state"] (SpFns K) := by
  have GD : FnOk P w K mg base CX0 1 fd' fdd ["state", "limit"] (SpDraw K) := ok_draw FD ml mi
  refine fn_S F scFns (fun _ => rfl) fun cdv A outer s H E _ a hr hpre C hC => ?_
  have nd := scFns.nd
  have hu : (A.deeper (envOfC "_law_functions" (defScope sFns) s.heap.objs.size f cdv)).units + 65 < cLine := by have := hr.un; omega
  show STs C _ _ [.r (.ref a), .u, .u, .u, .u, .u, .u, .u] _
  -- points
  refine sts_set 1 nd (P := fun d => ∃ p : Nat, d = nD p ∧ 2 ≤ p ∧ p ≤ 3) (ev_i2 op_add ev_int (ev_callS 0 GD hr gd FD.kp bd hC (P := fun d => ∃ j : Int, d = .int j ∧ 0 ≤ j ∧ j < 2) (ea_cons ev_int ea_nil) fun ds p => ⟨2, p, by decide, fun d q => q⟩) fun dx dy px py => ?_) ?_
  · obtain ⟨j, rfl, j0, j1⟩ := py
    exact ⟨2, j, px, rfl, (2 + j).toNat, by unfold nD; congr 1; omega, by omega, by omega⟩
  rintro _ ⟨p, rfl, p2, p3⟩
  -- found
  refine sts_setO 2 nd (en_lst (ea_cons (ev_tupR rfl mt mr (ev_var 1) (RgOk.of_le (by decide) (by omega) (by decide) (by omega))) ea_nil)) fun d q => ?_
  rw [show d = fnsD [List.range p] by rw [show d = _ from q, rgD_nat]; rfl]
  clear q d
  have F0 : Fns p [List.range p] := ⟨by show 1 ≤ 1; decide, by show 1 ≤ 9; decide, p3, fun t ht => by rw [List.mem_singleton.mp ht, List.length_range], fun t ht x hx => by rw [List.mem_singleton.mp ht] at hx; exact List.mem_range.mp hx⟩
  refine sts_forN 3 (T := fun ds => ds.length ≤ 2) (Nb := fun _ => False) (fun ds k sl => ∃ fs, sl = [.r (.ref a), .d (nD p), .own (fnsD fs), .u, .u, .u, .u, .u] ∧ Fns p fs ∧ fs.length ≤ k + 1) rfl nd (it_range1P mr (ev_i2 op_add ev_int (ev_callS 0 GD hr gd FD.kp bd hC (P := fun d => ∃ j : Int, d = .int j ∧ 0 ≤ j ∧ j < 2) (ea_cons ev_int ea_nil) fun ds p => ⟨2, p, by decide, fun d q => q⟩) fun dx dy px py => ?_))
    (fun ds _ => ⟨_, rfl, F0, by show 1 ≤ 1; decide⟩) (fun ds k d sl' pT hd hI => ?_) (fun ds sl' pT hI => ?_) (fun _ h => h.elim)
  · obtain ⟨j, rfl, j0, j1⟩ := py
    refine ⟨1, j, px, rfl, _, rfl, by omega, by omega, ?_⟩
    rw [rgD_length]; omega
  · obtain ⟨fs, rfl, Ff, hl⟩ := hI
    have hk := (List.getElem?_eq_some_iff.mp hd).1
    refine sts_set 4 nd (P := fun d => ∃ t : List Nat, d = tupN t ∧ t.length = p ∧ ∀ x ∈ t, x < p) (EV.imp (ev_tupleLP mt (T := fun ds => ∃ t : List Nat, ds = t.map nD ∧ t.length = p ∧ ∀ x ∈ t, x < p) (EV.imp (EVN.ev (en_lc rfl nd (lcok 7 (blkOk_by (N := fnsN) (sc := defScope sFns) (by decide +kernel))) (lc_read (T := fun ds => ds.length = p) (U := fun _ _ _ z => ∃ x : Nat, z = nD x ∧ x < p)
      (it_range1P mr ((ev_var 1).imp fun d q => ⟨(p : Int), q, by omega, by omega, by rw [rgD_length]; omega⟩)) (fun ds q => by omega) (fun s0 H0 L cl fp ds k d q hd => ?_)))) fun d q => ?_)) fun d ⟨ds, e, t, e2, h⟩ => ⟨t, by rw [e, e2]; rfl, h⟩) ?_
    · exact (ev_callS 0 GD hr gd FD.kp bd hC (P := fun d => ∃ j : Int, d = .int j ∧ 0 ≤ j ∧ j < p) (ea_cons (ev_var 1) ea_nil) fun ds q => ⟨(p : Int), q, ⟨by omega, by omega⟩, fun d q => q⟩).imp fun d ⟨j, e, j0, j1⟩ => ⟨j.toNat, by rw [e]; unfold nD; congr 1; omega, by omega⟩
    · obtain ⟨ds, out, rfl, q1, hl, h⟩ := q
      obtain ⟨t, e1, e2, e3⟩ := drawn (g := nD) hl h
      exact ⟨_, rfl, t, e1, by omega, e3⟩
    rintro _ ⟨t, rfl, tl, tt⟩
    refine sts_if (T := fun b => b = true → t ∉ fs) (N := fun sl => ∃ fs', sl = [.r (.ref a), .d (nD p), .own (fnsD fs'), .u, .u, .u, .u, .u] ∧ Fns p fs' ∧ fs'.length ≤ fs.length + 1) ((et_notInL hu (ev_var 4) (eb_own 2) (flat_shaped (flat_tupN 0 t)) (flat_shaped (flat_fns 0 fs))).imp fun b hb e h => ?_) (fun h => ?_) (fun _ => ?_) fun sl' h => ?_
    · have hb : b = _ := hb
      rw [hb, Bool.not_eq_true', ← Bool.not_eq_true] at e
      exact e ((mem_fns fs t).mpr h)
    · refine sts_append 2 (xs := fs.map tupN) (ev_var 4) (by rw [List.length_map]; have := Ff.le; omega) fun d q => ?_
      rw [show d = _ from q]
      refine sts_end ⟨fs ++ [t], by rw [fnsD, List.map_append] <;> rfl, Ff.snoc (by omega) tl tt, by rw [List.length_append]; exact Nat.le_refl _⟩
    · exact sts_end ⟨fs, rfl, Ff, by omega⟩
    · obtain ⟨fs', rfl, F', l'⟩ := h
      exact sts_end ⟨fs', rfl, F', by omega⟩
  obtain ⟨fs, rfl, Ff, -⟩ := hI
  clear F0 pT
  -- twelve times
  have LL : ∀ fs : List (List Nat), fnsD fs = .list (fs.map tupN) := fun _ => rfl
  refine sts_forI 3 (fun _ sl => ∃ fs, sl = [.r (.ref a), .d (nD p), .own (fnsD fs), .u, .u, .u, .u, .u] ∧ Fns p fs) _ rfl nd (it_range1 mr ev_int (by decide) (by decide)) ⟨fs, rfl, Ff⟩ (fun k d sl' hd hI => ?_) (fun sl' hI => ?_)
  · obtain ⟨fs, rfl, Ff⟩ := hI
    refine sts_forI 4 (fun _ sl => ∃ fs, sl = [.r (.ref a), .d (nD p), .own (fnsD fs), .u, .u, .u, .u, .u] ∧ Fns p fs) _ rfl nd (it_l (en_listO 2 (ds := fs.map tupN) ms).ev) ⟨fs, rfl, Ff⟩ (fun k d sl' hd hI => ?_) (fun sl' hI => ?_)
    · obtain ⟨gs, rfl, Fg⟩ := hI
      obtain ⟨t, ht, rfl, _⟩ := map_get hd
      refine sts_forI 5 (fun _ sl => ∃ fs, sl = [.r (.ref a), .d (nD p), .own (fnsD fs), .u, .d (tupN t), .u, .u, .u] ∧ Fns p fs) _ rfl nd (it_l (en_listO 2 (ds := gs.map tupN) ms).ev) ⟨gs, rfl, Fg⟩ (fun k d sl' hd hI => ?_) (fun sl' hI => ?_)
      · obtain ⟨hs, rfl, Fh⟩ := hI
        obtain ⟨u, hu2, rfl, _⟩ := map_get hd
        have tl := Ff.len t ht
        have ul := Fg.len u hu2
        refine sts_set 6 nd (P := is (tupN (comp t u))) (ev_tupleL mt (en_lc rfl nd (lcok 7 (blkOk_by (N := fnsN) (sc := defScope sFns) (by decide +kernel))) (lc_readm (out := (comp t u).map nD) (it_range1 mr (ev_var 1) (by omega) (by omega)) (by rw [rgD_length]; omega) (by rw [List.length_map, comp_len, rgD_length]; omega) fun s0 H0 L cl fp j d z hd hz => ?_)).ev) fun d q => ?_
        · obtain ⟨rfl, e1, e2⟩ := comp_item hd hz tl ul (Ff.lt t ht)
          exact ev_ixT (ev_var 5) (ev_ixT (ev_var 4) (ev_var 7) e1) e2
        rw [show d = _ from q]
        refine sts_if (T := fun b => b = true → hs.length < 9) (N := fun sl => ∃ fs', sl = [.r (.ref a), .d (nD p), .own (fnsD fs'), .u, .d (tupN t), .u, .u, .u] ∧ Fns p fs') (EVT.imp (EVW.t (ew_and (et_notInL hu (ev_var 6) (eb_own 2) (flat_shaped (flat_tupN 0 _)) (flat_shaped (flat_fns 0 hs))) fun _ => ew_and1 (et_lt (ev_lenL ml (eb_own 2)) ev_int))) fun b hb e => ?_) (fun h => ?_) (fun _ => ?_) fun sl' h => ?_
        · have hb : b = _ := hb
          rw [hb, Bool.and_eq_true] at e
          have := of_decide_eq_true e.2
          rw [List.length_map] at this
          omega
        · refine sts_append 2 (xs := hs.map tupN) (ev_var 6) (by rw [List.length_map]; have := Fh.le; omega) fun d q => ?_
          rw [show d = _ from q]
          exact sts_end ⟨hs ++ [comp t u], by rw [fnsD, List.map_append] <;> rfl, Fh.snoc (h rfl) (by rw [comp_len]; exact tl) (comp_lt (Ff.lt t ht) ul (Fg.lt u hu2))⟩
        · exact sts_end ⟨hs, rfl, Fh⟩
        · obtain ⟨fs', rfl, F'⟩ := h
          exact sts_end ⟨fs', rfl, F'⟩
      · obtain ⟨fs, rfl, Ff⟩ := hI
        exact sts_end ⟨fs, rfl, Ff⟩
    · obtain ⟨fs, rfl, Ff⟩ := hI
      exact sts_end ⟨fs, rfl, Ff⟩
  obtain ⟨fs, rfl, Ff⟩ := hI
  refine sts_freeze 2 ?_
  refine sts_forI 4 (fun k sl => sl = [.r (.ref a), .d (nD p), .d (fnsD fs), .u, .u, .u, .u, .u] ∧ ∀ i t, i < k → fs[i]? = some t → ∀ u ∈ fs, comp t u ∈ fs) _ rfl nd (it_l (ds := fs.map tupN) (ev_var 2)) ⟨rfl, fun i t h => absurd h (by omega)⟩ (fun k d sl' hd hI => ?_) (fun sl' hI => ?_)
  · obtain ⟨rfl, hI⟩ := hI
    obtain ⟨t, ht, rfl, htk⟩ := map_get hd
    refine sts_forI 5 (fun k sl => sl = [.r (.ref a), .d (nD p), .d (fnsD fs), .u, .d (tupN t), .u, .u, .u] ∧ ∀ i u, i < k → fs[i]? = some u → comp t u ∈ fs) _ rfl nd (it_l (ds := fs.map tupN) (ev_var 2)) ⟨rfl, fun i t h => absurd h (by omega)⟩ (fun k d sl' hd hJ => ?_) (fun sl' hJ => ?_)
    · obtain ⟨rfl, hJ⟩ := hJ
      obtain ⟨u, hu2, rfl, huk⟩ := map_get hd
      have tl := Ff.len t ht
      have ul := Ff.len u hu2
      refine sts_ifR (T := fun b => b = false → comp t u ∈ fs) ((et_notInL hu (d := tupN (comp t u)) (ds := fs.map tupN) (ev_tupleL mt (en_lc rfl nd (lcok 7 (blkOk_by (N := fnsN) (sc := defScope sFns) (by decide +kernel))) (lc_readm (out := (comp t u).map nD) (it_range1 mr (ev_var 1) (by omega) (by omega)) (by rw [rgD_length]; omega) (by rw [List.length_map, comp_len, rgD_length]; omega) fun s0 H0 L cl fp j d z hd hz => ?_)).ev) (ev_var 2).bo (flat_shaped (flat_tupN 0 _)) (flat_shaped (flat_fns 0 fs))).imp fun b hb e => ?_) (fun _ => ?_) (fun h => ?_)
      · obtain ⟨rfl, e1, e2⟩ := comp_item hd hz tl ul (Ff.lt t ht)
        exact ev_ixT (ev_var 5) (ev_ixT (ev_var 4) (ev_var 7) e1) e2
      · have hb : b = _ := hb
        rw [hb, Bool.not_eq_false'] at e
        exact (mem_fns fs _).mp e
      · refine sts_ret (en_lst (ea_cons (ev_tup (ea_cons ev_int (ea_cons ev_int ea_nil))) (ea_cons (ev_tup (ea_cons ev_int (ea_cons ev_int ea_nil))) (ea_cons (ev_tup (ea_cons ev_int (ea_cons ev_int ea_nil))) ea_nil)))).ev fun d q => ?_
        exact ⟨[[0, 1], [0, 0], [1, 1]], 2, q, ⟨by decide, by decide, by decide, by decide, by decide⟩, by unfold Closed; decide⟩
      · refine sts_end ⟨rfl, fun i v hi hv => ?_⟩
        by_cases q : i = k
        · subst q
          rw [huk] at hv
          cases hv
          exact h rfl
        · exact hJ i v (by omega) hv
    · obtain ⟨rfl, hJ⟩ := hJ
      refine sts_end ⟨rfl, fun i v hi hv u hu2 => ?_⟩
      by_cases q : i = k
      · subst q
        rw [htk] at hv
        cases hv
        obtain ⟨j, hj, e⟩ := List.getElem_of_mem hu2
        exact hJ j u (by rw [List.length_map]; exact hj) (by rw [← e]; exact List.getElem?_eq_getElem hj)
      · exact hI i v (by omega) hv u hu2
  · obtain ⟨rfl, hI⟩ := hI
    refine sts_ret (ev_var 2) fun d q => ⟨fs, p, q, Ff, fun t ht u hu2 => ?_⟩
    obtain ⟨j, hj, e⟩ := List.getElem_of_mem ht
    exact hI j t (by rw [List.length_map]; exact hj) (by rw [← e]; exact List.getElem?_eq_getElem hj) u hu2
end
end K03
namespace K03
open PySem PySem.Spec PyProof.Rows L2 DL RD
section
variable {P : Program} {w : World} {K : PySem.W.Frag} {mg : Str → Option Value} {base : Heap} {f : Addr} {fd : FuncData} {k : Nat}
abbrev SpProd (K : PySem.W.Frag) : Sp := SpD K (fun y : Nat × Nat × Nat × Nat => [nD y.1, nD y.2.1, nD y.2.2.1, nD y.2.2.2]) (fun y => y.1 ≤ 3 ∧ 1 ≤ y.2.1) (fun y d => d = nD (prodN y.1 y.2.1 y.2.2.1 y.2.2.2))
theorem ok_prod (F : Fun K "_law_product" "_law_product" sProd f fd) (mi : mg "int" = none) (mx : mg "max" = none) : FnOk P w K mg base CX0 (k + 1) f fd ["kind", "count", "x", "y"] (SpProd K) := by
  refine fn_D F scProd (fun _ => rfl) fun cdv A outer s H E ⟨kd, n, x, y⟩ hr hpre C hC => ?_
  obtain ⟨(h3 : kd ≤ 3), (h1 : 1 ≤ n)⟩ := hpre
  show STs C _ _ [.d (nD kd), .d (nD n), .d (nD x), .d (nD y)] _
  have e0 : ∀ {m : Nat}, ((kd : Int) = (m : Nat)) = (kd = m) := fun {m} => propext ⟨fun h => by omega, fun h => by omega⟩
  refine sts_ifR (et_eqI (ev_var 0) ev_int) (fun h => ?_) (fun h => ?_)
  · have h : kd = 0 := by
      have := of_decide_eq_true (show decide ((kd : Int) = 0) = true from h.symm)
      omega
    refine sts_ret (ev_mod (ev_toInt mi (ev_add (ev_var 2) (ev_var 3))) (ev_var 1) (by omega)) fun d p => ?_
    show d = nD (prodN kd n x y)
    rw [show d = _ from p, prodN, if_pos h, nD, Int.natCast_emod, Int.natCast_add]
  · have h : kd ≠ 0 := by
      have := of_decide_eq_false (show decide ((kd : Int) = 0) = false from h.symm)
      omega
    refine sts_ifR (et_eqI (ev_var 0) ev_int) (fun h' => ?_) (fun h' => ?_)
    · have h' : kd = 1 := by
        have := of_decide_eq_true (show decide ((kd : Int) = 1) = true from h'.symm)
        omega
      refine sts_ret (ev_max2 rfl mx (ev_var 2) (ev_var 3)) fun d p => ?_
      show d = nD (prodN kd n x y)
      rw [show d = _ from p, prodN, if_neg h, if_pos h', nD]
      congr 1
      split <;> omega
    · have h' : kd ≠ 1 := by
        have := of_decide_eq_false (show decide ((kd : Int) = 1) = false from h'.symm)
        omega
      refine sts_ifR (et_eqI (ev_var 0) ev_int) (fun h2 => ?_) (fun h2 => ?_)
      · have h2 : kd = 2 := by
          have := of_decide_eq_true (show decide ((kd : Int) = 2) = true from h2.symm)
          omega
        refine sts_ret (P := is (nD (prodN kd n x y))) (ev_ifE (et_eqI (ev_var 3) ev_int) (fun q => ?_) (fun q => ?_)) fun d p => p
        · have q : y = 0 := by have := of_decide_eq_true q; omega
          exact (ev_var 2).eq (by rw [prodN, if_neg h, if_neg h', if_pos h2, if_pos q])
        · have q : y ≠ 0 := by have := of_decide_eq_false q; omega
          exact (ev_var 3).eq (by rw [prodN, if_neg h, if_neg h', if_pos h2, if_neg q])
      · have h2 : kd ≠ 2 := by
          have := of_decide_eq_false (show decide ((kd : Int) = 2) = false from h2.symm)
          omega
        refine sts_ret (P := is (nD (prodN kd n x y))) (ev_ifE (et_eqI (ev_var 2) ev_int) (fun q => ?_) (fun q => ?_)) fun d p => p
        · have q : x = 0 := by have := of_decide_eq_true q; omega
          exact (ev_var 3).eq (by rw [prodN, if_neg h, if_neg h', if_neg h2, if_pos q])
        · have q : x ≠ 0 := by have := of_decide_eq_false q; omega
          exact (ev_var 2).eq (by rw [prodN, if_neg h, if_neg h', if_neg h2, if_neg q])
abbrev tableN : List Str := ["state", "kind", "found", "count", "j", "two", "one", "y", "x"]
theorem scTable : FnScope tableN ["state"] (defScope sTable) := ⟨rfl, rfl, rfl, by decide +kernel, rfl, by decide +kernel, by decide +kernel⟩
abbrev SpTable (K : PySem.W.Frag) : Sp := SpS K (fun _ : Unit => []) (fun _ => True) (fun _ d => ∃ T, d = tbD T ∧ Tab T)
set_option maxHeartbeats 1000000 in
theorem ok_table {fd' ff fp : Addr} {fdd fdf fdp : FuncData} (F : Fun K "_law_table" "_law_table" sTable f fd) (FD : Fun K "_law_draw" "_law_draw" sDraw fd' fdd) (FF : Fun K "_law_functions" "_law_functions" sFns ff fdf) (FP : Fun K "_law_product" "_law_product" sProd fp fdp)
    (bd : Binds K fdd ["state", "limit"] []) (bf : Binds K fdf ["state"] []) (bp : Binds K fdp ["kind", "count", "x", "y"] []) (gd : mg "_law_draw" = some (.ref fd')) (gf : mg "_law_functions" = some (.ref ff)) (gp : mg "_law_product" = some (.ref fp))
    (ml : mg "len" = none) (mi : mg "int" = none) (mr : mg "range" = none) (mt : mg "tuple" = none) (ms : mg "list" = none) (mx : mg "max" = none) : FnOk P w K mg base CX0 3 f fd ["state"] (SpTable K) := by
  have GD : FnOk P w K mg base CX0 1 fd' fdd ["state", "limit"] (SpDraw K) := ok_draw FD ml mi
  have GF : FnOk P w K mg base CX0 2 ff fdf ["state"] (SpFns K) := ok_fns FF FD bd gd ml mi mr mt ms
  have GP : FnOk P w K mg base CX0 1 fp fdp ["kind", "count", "x", "y"] (SpProd K) := ok_prod FP mi mx
  refine fn_S F scTable (fun _ => rfl) fun cdv A outer s H E _ a hr hpre C hC => ?_
  have nd := scTable.nd
  have hu : (A.deeper (envOfC "_law_table" (defScope sTable) s.heap.objs.size f cdv)).units + 65 < cLine := by have := hr.un; omega
  show STs C _ _ [.r (.ref a), .u, .u, .u, .u, .u, .u, .u, .u] _
  refine sts_set 1 nd (P := fun d => ∃ q : Nat, d = nD q ∧ q < 6) ((ev_callS 0 GD (hr.mono (by decide)) gd FD.kp bd hC (P := fun d => ∃ j : Int, d = .int j ∧ 0 ≤ j ∧ j < 6) (ea_cons ev_int ea_nil) fun ds p => ⟨6, p, by decide, fun d q => q⟩).imp fun d ⟨j, e, j0, j1⟩ => ⟨j.toNat, by rw [e]; unfold nD; congr 1; omega, by omega⟩) ?_
  rintro _ ⟨kd, rfl, k6⟩
  refine sts_ifR (et_gt (ev_var 1) ev_int) (fun h => ?_) (fun h => ?_)
  · -- functions
    refine sts_set 2 nd (ev_callS 0 GF (hr.mono (by decide)) gf FF.kp bf hC (P := fun d => ∃ (fs : List (List Nat)) (p : Nat), d = fnsD fs ∧ Fns p fs ∧ Closed fs) ea_nil fun ds p => ⟨(), p, trivial, fun d q => q⟩) ?_
    rintro _ ⟨fs, p, rfl, Ff, Fc⟩
    refine sts_ret (P := is (tbD (fnT fs))) (en_lc rfl nd (lcok 6 (blkOk_by (N := tableN) (sc := defScope sTable) (by decide +kernel))) (lc_readm (out := (fnT fs).map fun r => .list (r.map nD)) (it_l (ds := fs.map tupN) (ev_var 2)) (by rw [List.length_map]; have := Ff.le; omega) (by simp [fnT]) fun s0 H0 L cl fp i d z hd hz => ?_)).ev fun d q => ⟨_, q, fn_tab Ff Fc⟩
    obtain ⟨t, ht, rfl, htk⟩ := map_get hd
    have ez : z = .list ((fs.map fun b => fs.idxOf (comp t b)).map nD) := by
      rw [fnT, List.map_map, List.getElem?_map, htk] at hz
      exact (Option.some.inj hz).symm
    subst ez
    refine (en_lc rfl nd (lcok 5 (blkOk_by (N := tableN) (sc := relS _ (defScope sTable)) (by decide +kernel))) (lc_readm (out := (fs.map fun b => fs.idxOf (comp t b)).map nD) (it_l (ds := fs.map tupN) (ev_var 2)) (by rw [List.length_map]; have := Ff.le; omega) (by simp) fun s1 H1 L1 cl1 fp1 i2 d2 z2 hd2 hz2 => ?_)).ev
    obtain ⟨u, hu2, rfl, huk⟩ := map_get hd2
    have ez : z2 = nD (fs.idxOf (comp t u)) := by
      rw [List.map_map, List.getElem?_map, huk] at hz2
      exact (Option.some.inj hz2).symm
    subst ez
    have tl := Ff.len t ht
    have ul := Ff.len u hu2
    have p3 := Ff.p3
    have hin := Fc t ht u hu2
    obtain ⟨i1, i2, i3⟩ := idx_fns hin
    refine ev_index hu (ds := fs.map tupN) (d := tupN (comp t u)) (ev_var 2) (ev_tupleL mt (en_lc rfl nd (lcok 4 (blkOk_by (N := tableN) (sc := relS _ (relS _ (defScope sTable))) (by decide +kernel))) (lc_readm (out := (comp t u).map nD) (it_range1 (n := (p : Int)) mr ((ev_lenT ml (ev_var 6).bo).eq (by rw [List.length_map, tl])) (by omega) (by omega)) (by rw [rgD_length]; omega) (by rw [List.length_map, comp_len, rgD_length]; omega) fun s2 H2 L2 cl2 fp2 j d z hd hz => ?_)).ev) (flat_shaped (flat_tupN 0 _)) (flat_shaped (flat_fns 0 fs)) i1 i2 i3
    obtain ⟨rfl, e1, e2⟩ := comp_item hd hz tl ul (Ff.lt t ht)
    exact ev_ixT (ev_var 5) (ev_ixT (ev_var 6) (ev_var 4) e1) e2
  · -- products
    have hk3 : kd ≤ 3 := by
      have := of_decide_eq_false (show decide ((3 : Int) < (kd : Nat)) = false from h.symm)
      omega
    refine sts_set 3 nd (P := fun d => ∃ n : Nat, d = nD n ∧ 1 ≤ n ∧ n ≤ 5) (ev_i2 op_add ev_int (ev_callS 0 GD (hr.mono (by decide)) gd FD.kp bd hC (P := fun d => ∃ j : Int, d = .int j ∧ 0 ≤ j ∧ j < 5) (ea_cons ev_int ea_nil) fun ds p => ⟨5, p, by decide, fun d q => q⟩) fun dx dy px py => ?_) ?_
    · obtain ⟨j, rfl, j0, j1⟩ := py
      exact ⟨1, j, px, rfl, (1 + j).toNat, by unfold nD; congr 1; omega, by omega, by omega⟩
    rintro _ ⟨n, rfl, n1, n5⟩
    refine sts_ret (P := is (tbD ((List.range n).map fun x => (List.range n).map fun y => prodN kd n x y))) (en_lc rfl nd (lcok 8 (blkOk_by (N := tableN) (sc := defScope sTable) (by decide +kernel))) (lc_readm (out := ((List.range n).map fun x => (List.range n).map fun y => prodN kd n x y).map fun r => .list (r.map nD)) (it_range1 mr (ev_var 3) (by omega) (by omega)) (by rw [rgD_length]; omega) (by simp [rgD_length]) fun s0 H0 L cl fp i d z hd hz => ?_)).ev fun d q => ⟨_, q, prod_tab n1 (by omega)⟩
    rw [rgD_nat] at hd
    have hi := (List.getElem?_eq_some_iff.mp hd).1
    rw [List.length_map, List.length_range] at hi
    rw [List.getElem?_map, List.getElem?_range hi] at hd
    have hd := Option.some.inj hd
    subst hd
    have ez : z = .list (((List.range n).map fun y => prodN kd n i y).map nD) := by
      rw [List.getElem?_map, List.getElem?_map, List.getElem?_range hi] at hz
      exact (Option.some.inj hz).symm
    subst ez
    refine (en_lc rfl nd (lcok 7 (blkOk_by (N := tableN) (sc := relS _ (defScope sTable)) (by decide +kernel))) (lc_readm (out := ((List.range n).map fun y => prodN kd n i y).map nD) (it_range1 mr (ev_var 3) (by omega) (by omega)) (by rw [rgD_length]; omega) (by simp [rgD_length]) fun s1 H1 L1 cl1 fp1 j d z hd hz => ?_)).ev
    rw [rgD_nat] at hd
    have hj := (List.getElem?_eq_some_iff.mp hd).1
    rw [List.length_map, List.length_range] at hj
    rw [List.getElem?_map, List.getElem?_range hj] at hd
    have hd := Option.some.inj hd
    subst hd
    have ez : z = nD (prodN kd n i j) := by
      rw [List.getElem?_map, List.getElem?_map, List.getElem?_range hj] at hz
      exact (Option.some.inj hz).symm
    subst ez
    exact ev_call GP (hr.mono (by decide)) gp FP.kp bp (ea_cons (ev_var 1) (ea_cons (ev_var 3) (ea_cons (ev_var 8) (ea_cons (ev_var 7) ea_nil)))) fun ds p => ⟨(kd, n, i, j), p, ⟨hk3, n1⟩, fun d q => q⟩
end
end K03
namespace K03
open PySem PySem.Spec PyProof.Rows L2 DL RD
section
variable {P : Program} {w : World} {K : PySem.W.Frag} {mg : Str → Option Value} {base : Heap} {f : Addr} {fd : FuncData} {k : Nat}
abbrev mixN : List Str := ["state", "count", "left", "made", "k"]
theorem scMixed : FnScope mixN ["state", "count"] (defScope sMixed) := ⟨rfl, rfl, rfl, by decide +kernel, rfl, by decide +kernel, by decide +kernel⟩
abbrev SpMixed (K : PySem.W.Frag) : Sp := SpS K (fun n : Nat => [nD n]) (fun n => n ≤ 100) (fun n d => ∃ ns : List Nat, d = .list (ns.map nD) ∧ ns.Perm (List.range n))
theorem ok_mixed {fd' : Addr} {fdd : FuncData} (F : Fun K "_law_mixed" "_law_mixed" sMixed f fd) (FD : Fun K "_law_draw" "_law_draw" sDraw fd' fdd) (bd : Binds K fdd ["state", "limit"] []) (gd : mg "_law_draw" = some (.ref fd')) (ml : mg "len" = none) (mi : mg "int" = none) (mr : mg "range" = none) (ms : mg "list" = none) :
    FnOk P w K mg base CX0 2 f fd ["state", "count"] (SpMixed K) := by
  have GD : FnOk P w K mg base CX0 1 fd' fdd ["state", "limit"] (SpDraw K) := ok_draw FD ml mi
  refine fn_S F scMixed (fun _ => rfl) fun cdv A outer s H E n a hr hpre C hC => ?_
  have hn : n ≤ 100 := hpre
  have nd := scMixed.nd
  show STs C _ _ [.r (.ref a), .d (nD n), .u, .u, .u] _
  refine sts_setO 2 nd (en_listR rfl ms mr (ev_var 1) (RgOk.of_le (by decide) (by omega) (by decide) (by omega))) fun d q => ?_
  rw [show d = .list ((List.range n).map nD) by rw [show d = _ from q, rgD_nat]]
  refine sts_setO 3 nd (en_lst ea_nil) fun d q => ?_
  rw [show d = _ from q]
  refine sts_forI 4 (fun k sl => ∃ ls qs : List Nat, sl = [.r (.ref a), .d (nD n), .own (.list (ls.map nD)), .own (.list (qs.map nD)), .u] ∧ (qs ++ ls).Perm (List.range n) ∧ ls.length + k = n) _ rfl nd (it_range1 mr (ev_var 1) (by omega) (by omega)) ⟨List.range n, [], rfl, List.Perm.refl _, by rw [List.length_range]; rfl⟩ (fun k d sl' hd hI => ?_) (fun sl' hI => ?_)
  · obtain ⟨ls, qs, rfl, hp, hl⟩ := hI
    have hk := (List.getElem?_eq_some_iff.mp hd).1
    rw [rgD_length] at hk
    have hq : qs.length + ls.length = n := by
      have := hp.length_eq
      rw [List.length_append, List.length_range] at this
      exact this
    refine sts_appendM 3 (xs := qs.map nD) (em_pop 2 (xs := ls.map nD) (ev_callS 0 GD hr gd FD.kp bd hC (ea_cons (ev_lenL ml (eb_own 2)) ea_nil) fun ds p => ⟨((ls.map nD).length : Int), p, ⟨by rw [List.length_map]; omega, by rw [List.length_map]; omega⟩, fun d ⟨j, e, j0, j1⟩ => ⟨j.toNat, by rw [e]; congr 1; omega, by omega⟩⟩) (by rw [List.length_map]; omega)) (by rw [List.length_map]; omega) (fun d sl' h => ?_) (fun d sl' h => ?_)
    · obtain ⟨k', h1, rfl⟩ := h
      rfl
    · obtain ⟨k', h1, rfl⟩ := h
      rw [List.getElem?_map] at h1
      obtain ⟨x, hx, rfl⟩ := Option.map_eq_some_iff.mp h1
      have hk' := (List.getElem?_eq_some_iff.mp hx).1
      have hx' := (List.getElem?_eq_some_iff.mp hx).2
      have ee : (ls.map nD).eraseIdx k' = (ls.eraseIdx k').map nD := by
        have : ∀ (l : List Nat) (i : Nat), (l.map nD).eraseIdx i = (l.eraseIdx i).map nD := by
          intro l
          induction l with
          | nil => intro i; rfl
          | cons y l ih => intro i; cases i with
            | zero => rfl
            | succ i =>
              rw [List.map_cons, List.eraseIdx_cons_succ, List.eraseIdx_cons_succ, List.map_cons, ih]
        exact this ls k'
      rw [ee, show qs.map nD ++ [nD x] = (qs ++ [x]).map nD by rw [List.map_append] <;> rfl]
      refine sts_end ⟨ls.eraseIdx k', qs ++ [x], rfl, ?_, by rw [List.length_eraseIdx_of_lt hk']; omega⟩
      refine List.Perm.trans ?_ hp
      rw [List.append_assoc]
      refine List.Perm.append_left qs ?_
      rw [← hx']
      exact erase_perm hk'
  · obtain ⟨ls, qs, rfl, hp, hl⟩ := hI
    rw [rgD_length] at hl
    have : ls = [] := List.length_eq_zero_iff.mp (by omega)
    subst this
    exact sts_retO 3 ⟨qs, rfl, by rw [List.append_nil] at hp; exact hp⟩
abbrev lnkN : List Str := ["mul", "size", "pairs", "s", "f"]
theorem scLinked : FnScope lnkN ["mul"] (defScope sLinked) := ⟨rfl, rfl, rfl, by decide +kernel, rfl, by decide +kernel, by decide +kernel⟩
/-- mul[x][y] -/
theorem tat_at {T : List (List Nat)} (t : Tab T) {x y : Nat} (hx : x < T.length) (hy : y < T.length) : atI (T.map tupN) (x : Int) = some (tupN (T.getD x [])) ∧ atI ((T.getD x []).map nD) (y : Int) = some (nD (tat T x y)) := by
  refine ⟨atI_nat ?_, at_nD ?_⟩
  · rw [List.getElem?_map, List.getD_eq_getElem?_getD, List.getElem?_eq_getElem hx]
    rfl
  · rw [t.row _ (getD_mem [] hx)]; exact hy
abbrev SpLinked (K : PySem.W.Frag) : Sp := SpD K (fun T : List (List Nat) => [mulD T]) Tab (fun T d => d = prsL (lks T T.length))
theorem lks_len {T : List (List Nat)} (t : Tab T) (m : Nat) (hm : m ≤ T.length) : (lks T m).length ≤ 100 := by
  have h9 := t.le
  have key : ∀ m, (lks T m).length ≤ m * T.length := by
    intro m
    induction m with
    | zero => simp [lks]
    | succ m ih =>
      have e : lks T (m + 1) = lks T m ++ lkRow T m := by
        unfold lks
        rw [List.range_succ, List.flatMap_append]
        simp
      rw [e, List.length_append, Nat.succ_mul]
      refine Nat.add_le_add ih ?_
      unfold lkRow
      rw [List.length_map]
      refine Nat.le_trans (List.length_filter_le _ _) ?_
      rw [List.length_range]
      exact Nat.le_refl _
  refine Nat.le_trans (key m) (Nat.le_trans (Nat.mul_le_mul (show m ≤ 9 by omega) h9) (by decide))
theorem ok_linked (F : Fun K "_law_linked" "_law_linked" sLinked f fd) (ml : mg "len" = none) (mr : mg "range" = none) (ms : mg "list" = none) : FnOk P w K mg base CX0 (k + 1) f fd ["mul"] (SpLinked K) := by
  refine fn_D F scLinked (fun _ => rfl) fun cdv A outer s H E T hr t C hC => ?_
  have t : Tab T := t
  have nd := scLinked.nd
  have h9 := t.le
  show STs C _ _ [.d (mulD T), .u, .u, .u, .u] _
  refine sts_set 1 nd (en_listR rfl ms mr (ev_lenT ml (ev_var 0).bo) (RgOk.of_le (by decide) (by rw [List.length_map]; omega) (by decide) (by rw [List.length_map]; omega))).ev fun d q => ?_
  rw [show d = .list ((List.range T.length).map nD) by rw [show d = _ from q, List.length_map, rgD_nat]]
  refine sts_set 2 nd (en_lst ea_nil).ev fun d q => ?_
  rw [show d = _ from q]
  refine sts_forI 3 (fun k sl => sl = [.d (mulD T), .d (.list ((List.range T.length).map nD)), .d (prsL (lks T k)), .u, .u]) _ rfl nd (it_l (ev_var 1)) rfl (fun k d sl' hd hI => ?_) (fun sl' hI => ?_)
  · subst hI
    have hk := (List.getElem?_eq_some_iff.mp hd).1
    rw [List.length_map, List.length_range] at hk
    rw [List.getElem?_map, List.getElem?_range hk] at hd
    have hd := Option.some.inj hd
    subst hd
    refine sts_set 2 nd (P := is (.list ((lks T k).map lkD ++ (lkRow T k).map lkD))) (EV.eq (en_cat (xs := (lks T k).map lkD) (ev_var 2) (en_lcF rfl nd (lcok 4 (blkOk_by (N := lnkN) (sc := defScope sLinked) (by decide +kernel))) (lc_readF (ws := List.range T.length) (enc := nD) (isLk T k) (fun f => lkD (k, f)) (it_l (ev_var 1)) (by rw [List.length_range]; omega) (fun s0 H0 L cl fp f hf => ?_) (fun s0 H0 L cl fp f hf hq => ?_))).ev ?_).ev ?_) fun d q => ?_
    · have hf := List.mem_range.mp hf
      obtain ⟨a1, a2⟩ := tat_at t hk hf
      obtain ⟨b1, b2⟩ := tat_at t hf hf
      exact (EVW.t (ew_and (et_eqI (ev_ixT (ev_ixT (ev_var 0) (ev_var 3) a1) (ev_var 4) a2) (ev_var 3)) fun _ => ew_and1 (et_eqI (ev_ixT (ev_ixT (ev_var 0) (ev_var 4) b1) (ev_var 4) b2) (ev_var 4)))).eq (by
        unfold isLk
        congr 1 <;> (refine decide_eq_decide.mpr ?_; omega))
    · exact ev_tup (ea_cons (ev_var 3) (ea_cons (ev_var 4) ea_nil))
    · rw [List.length_map, List.length_map]
      have := lks_len t k (by omega)
      have : ((List.range T.length).filter (isLk T k)).length ≤ T.length := Nat.le_trans (List.length_filter_le _ _) (by rw [List.length_range]; exact Nat.le_refl _)
      omega
    · congr 2
      unfold lkRow
      rw [List.map_map]
      rfl
    · rw [show d = _ from q]
      have e : lks T (k + 1) = lks T k ++ lkRow T k := by
        unfold lks
        rw [List.range_succ, List.flatMap_append]
        simp
      have e2 : PyData.list ((lks T k).map lkD ++ (lkRow T k).map lkD) = prsL (lks T (k + 1)) := by rw [e, prsL, List.map_append]
      rw [e2]
      exact sts_end rfl
  · subst hI
    refine sts_ret (ev_var 2) fun d q => ?_
    rw [List.length_map, List.length_range] at q
    exact q
end
end K03
namespace K03
open PySem PySem.Spec PyProof.Rows L2 DL RD
section
variable {P : Program} {w : World} {K : PySem.W.Frag} {mg : Str → Option Value} {base : Heap} {f : Addr} {fd : FuncData} {k : Nat}
abbrev turnN : List Str := ["mul", "pairs", "names", "k", "fresh", "s", "f", "x", "y", "other", "low"]
theorem scTurns : FnScope turnN ["mul", "pairs"] (defScope sTurns) := ⟨rfl, rfl, rfl, by decide +kernel, rfl, by decide +kernel, by decide +kernel⟩
abbrev SpTurns (K : PySem.W.Frag) : Sp := SpD K (fun T : List (List Nat) => [mulD T, prsL (lks T T.length)]) Tab (fun T d => ∃ c, d = dTD (dk (lks T T.length) c) ∧ (∀ p ∈ lks T T.length, c p < (lks T T.length).length) ∧ Stable T (lks T T.length) c)
set_option maxHeartbeats 2000000 in
theorem ok_turns (F : Fun K "_law_turns" "_law_turns" sTurns f fd) (ml : mg "len" = none) (mr : mg "range" = none) (mn : mg "min" = none) : FnOk P w K mg base CX0 (k + 1) f fd ["mul", "pairs"] (SpTurns K) := by
  refine fn_D F scTurns (fun _ => rfl) fun cdv A outer s H E T hr t C hC => ?_
  have t : Tab T := t
  have nd := scTurns.nd
  have h9 := t.le
  have hu : (A.deeper (envOfC "_law_turns" (defScope sTurns) s.heap.objs.size f cdv)).units + 1 < cLine := by have := hr.un; omega
  have hps := lks_len t T.length (Nat.le_refl _)
  have nps := lks_nodup T T.length
  have mps : ∀ p, p ∈ lks T T.length → p.1 < T.length ∧ p.2 < T.length := fun p h => ⟨(mem_lks.mp h).1, (mem_lks.mp h).2.1⟩
  show STs C _ _ [.d (mulD T), .d (prsL (lks T T.length)), .u, .u, .u, .u, .u, .u, .u, .u, .u] _
  generalize hpsd : lks T T.length = ps at hps nps mps
  have lps : (ps.map lkD).length = ps.length := List.length_map _
  refine sts_setO 2 nd en_dictT fun d q => ?_
  rw [show d = _ from q]
  refine sts_forI 3 (fun k sl => sl = [.d (mulD T), .d (prsL ps), .own (dTD (dk (ps.take k) fun p => ps.idxOf p)), .u, .u, .u, .u, .u, .u, .u, .u]) _ rfl nd (it_range1 mr (ev_lenL ml (ev_var 1).bo) (by rw [lps]; omega) (by rw [lps]; omega)) rfl (fun k d sl' hd hI => ?_) (fun sl' hI => ?_)
  · subst hI
    have hk := (List.getElem?_eq_some_iff.mp hd).1
    rw [rgD_length, lps] at hk
    have hk : k < ps.length := by omega
    rw [rgD_get (by rw [lps]; omega)] at hd
    injection hd with hd
    subst hd
    rw [Int.zero_add]
    have hpk : ps[k]? = some ps[k] := List.getElem?_eq_getElem hk
    refine sts_dputT 2 (k := pk ps[k]) (kvs := dk (ps.take k) fun p => ps.idxOf p) hu (ev_var 3) (ev_ixL (ds := ps.map lkD) (ev_var 1) (ev_var 3) (atI_nat (by rw [List.getElem?_map, hpk]; rfl))) (by rw [dk_len, List.length_take]; omega) fun d q => ?_
    have hnew : ps[k] ∉ ps.take k := fun h => by
      obtain ⟨j, hj, e⟩ := List.getElem_of_mem h
      rw [List.getElem_take] at e
      rw [List.length_take] at hj
      have := (List.getElem_inj nps).mp e
      omega
    have hix : ps.idxOf ps[k] = k := nps.idxOf_getElem k hk
    have e : putD (dk (ps.take k) fun p => ps.idxOf p) (pk ps[k]) d = dk (ps.take (k + 1)) fun p => ps.idxOf p := by
      rw [show d = nD (ps.idxOf ps[k]) by rw [hix]; exact q, dk_new (c := fun p => ps.idxOf p) hnew, List.take_add_one, hpk]
      rfl
    rw [e]
    exact sts_end rfl
  · subst hI
    have e0 : (rgD 0 ((ps.map lkD).length : Int)).length = ps.length := by rw [rgD_length, lps]; omega
    rw [e0, List.take_length]
    -- the rounds
    have hin : ∀ u w, edT T ps u w → u ∈ ps ∧ w ∈ ps := fun u w h => ⟨h.1, h.2.1⟩
    have rt : ∀ {c : Pr → Nat} {d : PyData}, Val ps (edT T ps) c → (∀ u w, edT T ps u w → c u = c w) → d = dTD (dk ps c) → ∃ c, d = dTD (dk ps c) ∧ (∀ p ∈ ps, c p < ps.length) ∧ Stable T ps c := fun {c d} v h e => ⟨c, e, val_lt v, stable_of h⟩
    refine sts_forI 3 (fun k sl => ∃ c, sl = [.d (mulD T), .d (prsL ps), .own (dTD (dk ps c)), .u, .u, .u, .u, .u, .u, .u, .u] ∧ Val ps (edT T ps) c ∧ (All ps (edT T ps) c ∨ k ≤ cnt ps (edT T ps) c) ∧ ∀ p ∈ ps, ps.idxOf p = mu ps (edT T ps) p → Stl ps (edT T ps) c p) _ rfl nd (it_range1 mr (ev_lenL ml (ev_var 1).bo) (by rw [lps]; omega) (by rw [lps]; omega)) ⟨_, rfl, val_start, .inr (Nat.zero_le _), fun p _ h => h⟩ (fun k d sl' hd hI => ?_) (fun sl' hI => ?_)
    · obtain ⟨c0, rfl, v0, hk0, hs0⟩ := hI
      refine sts_set 4 nd ev_int fun d q => ?_
      rw [show d = nD 0 from q]
      refine sts_wk (sl' := [.d (mulD T), .d (prsL ps), .own (dTD (dk ps c0)), .u, .d (nD 0), .u, .u, .u, .u, .u, .u]) ?_ (by repeat (first | exact trivial | refine ⟨by first | exact .inr rfl | exact .inl rfl, ?_⟩))
      let Sl0 : (Pr → Nat) → Nat → Sl → Sl → Sl → List Sl := fun c fr a b x => [.d (mulD T), .d (prsL ps), .own (dTD (dk ps c)), .u, .d (nD fr), a, b, x, .u, .u, .u]
      refine sts_forG (fun i sl => ∃ c fr L, sl = [.d (mulD T), .d (prsL ps), .own (dTD (dk ps c)), .u, .d (nD fr), .u, .u, .u, .u, .u, .u] ∧ RInv ps (edT T ps) c0 c fr L ∧ ∀ (i' : Nat) (p : Pr), i' < i → ps[i']? = some p → ∀ x y, x < T.length → y < T.length → tat T x y = p.2 → turnT T p x y ∈ ps → (p, turnT T p x y) ∈ L) rfl (it_l (ev_var 1)) ⟨c0, 0, [], rfl, RInv.start v0, fun i' p h => absurd h (by omega)⟩ (fun i d sl' hd hI => ?_) (fun sl' hI => ?_)
      · obtain ⟨c, fr, L, rfl, rI, cov⟩ := hI
        rw [List.getElem?_map] at hd
        obtain ⟨⟨ps1, pf⟩, hp, rfl⟩ := Option.map_eq_some_iff.mp hd
        have pm : (ps1, pf) ∈ ps := List.mem_of_getElem? hp
        obtain ⟨(b1 : ps1 < T.length), (b2 : pf < T.length)⟩ := mps _ pm
        refine ⟨_, ga_t2 5 6 rfl nd, fun sl2 e => ?_⟩
        rw [show sl2 = _ from e]
        refine sts_forI 7 (fun j sl => ∃ c fr L, sl = [.d (mulD T), .d (prsL ps), .own (dTD (dk ps c)), .u, .d (nD fr), .d (nD ps1), .d (nD pf), .u, .u, .u, .u] ∧ RInv ps (edT T ps) c0 c fr L ∧ (∀ (i' : Nat) (p : Pr), i' < i → ps[i']? = some p → ∀ x y, x < T.length → y < T.length → tat T x y = p.2 → turnT T p x y ∈ ps → (p, turnT T p x y) ∈ L) ∧
            ∀ x y, x < j → y < T.length → tat T x y = pf → turnT T (ps1, pf) x y ∈ ps → ((ps1, pf), turnT T (ps1, pf) x y) ∈ L) _ rfl nd (it_range1 mr (ev_lenT ml (ev_var 0).bo) (by rw [List.length_map]; omega) (by rw [List.length_map]; omega)) ⟨c, fr, L, rfl, rI, cov, fun x y h => absurd h (by omega)⟩ (fun j d sl' hd hI => ?_) (fun sl' hI => ?_)
        · obtain ⟨c, fr, L, rfl, rI, cov, cov1⟩ := hI
          have hj := (List.getElem?_eq_some_iff.mp hd).1
          rw [rgD_length, List.length_map] at hj
          have hj : j < T.length := by omega
          rw [rgD_get (by rw [List.length_map]; omega)] at hd
          injection hd with hd
          subst hd
          rw [Int.zero_add]
          refine sts_forI 8 (fun l sl => ∃ c fr L, sl = [.d (mulD T), .d (prsL ps), .own (dTD (dk ps c)), .u, .d (nD fr), .d (nD ps1), .d (nD pf), .d (nD j), .u, .u, .u] ∧ RInv ps (edT T ps) c0 c fr L ∧ (∀ (i' : Nat) (p : Pr), i' < i → ps[i']? = some p → ∀ x y, x < T.length → y < T.length → tat T x y = p.2 → turnT T p x y ∈ ps → (p, turnT T p x y) ∈ L) ∧
              (∀ x y, x < j → y < T.length → tat T x y = pf → turnT T (ps1, pf) x y ∈ ps → ((ps1, pf), turnT T (ps1, pf) x y) ∈ L) ∧ ∀ y, y < l → tat T j y = pf → turnT T (ps1, pf) j y ∈ ps → ((ps1, pf), turnT T (ps1, pf) j y) ∈ L) _ rfl nd (it_range1 mr (ev_lenT ml (ev_var 0).bo) (by rw [List.length_map]; omega) (by rw [List.length_map]; omega)) ⟨c, fr, L, rfl, rI, cov, cov1, fun y h => absurd h (by omega)⟩ (fun l d sl' hd hI => ?_) (fun sl' hI => ?_)
          · obtain ⟨c, fr, L, rfl, rI, cov, cov1, cov2⟩ := hI
            have hl := (List.getElem?_eq_some_iff.mp hd).1
            rw [rgD_length, List.length_map] at hl
            have hl : l < T.length := by omega
            rw [rgD_get (by rw [List.length_map]; omega)] at hd
            injection hd with hd
            subst hd
            rw [Int.zero_add]
            obtain ⟨a1, a2⟩ := tat_at t b1 hj
            obtain ⟨a3, a4⟩ := tat_at t hl hj
            obtain ⟨a5, a6⟩ := tat_at t hj hl
            refine sts_set 9 nd (P := is (lkD (turnT T (ps1, pf) j l))) (ev_tup (ea_cons (ev_ixT (ev_ixT (ev_var 0) (ev_var 5) a1) (ev_var 7) a2) (ea_cons (ev_ixT (ev_ixT (ev_var 0) (ev_var 8) a3) (ev_var 7) a4) ea_nil))) fun d q => ?_
            rw [show d = _ from q]
            clear q d
            generalize hoth : turnT T (ps1, pf) j l = oth
            -- what is known behind this turn
            have wide : ∀ {L' : List (Pr × Pr)}, (∀ e ∈ L, e ∈ L') → (tat T j l = pf → oth ∈ ps → ((ps1, pf), oth) ∈ L') →
                (∀ (i' : Nat) (p : Pr), i' < i → ps[i']? = some p → ∀ x y, x < T.length → y < T.length → tat T x y = p.2 → turnT T p x y ∈ ps → (p, turnT T p x y) ∈ L') ∧
                (∀ x y, x < j → y < T.length → tat T x y = pf → turnT T (ps1, pf) x y ∈ ps → ((ps1, pf), turnT T (ps1, pf) x y) ∈ L') ∧ ∀ y, y < l + 1 → tat T j y = pf → turnT T (ps1, pf) j y ∈ ps → ((ps1, pf), turnT T (ps1, pf) j y) ∈ L' := fun {L'} hsub hnew =>
              ⟨fun i' p h1 h2 x y h3 h4 h5 h6 => hsub _ (cov i' p h1 h2 x y h3 h4 h5 h6), fun x y h1 h2 h3 h4 => hsub _ (cov1 x y h1 h2 h3 h4), fun y h1 h2 h3 => by
                by_cases ey : y = l
                · subst ey
                  rw [hoth] at h3 ⊢
                  exact hnew h2 h3
                · exact hsub _ (cov2 y (by omega) h2 h3)⟩
            have hed : tat T j l = pf → oth ∈ ps → edT T ps (ps1, pf) oth := fun h1 h2 => ⟨pm, h2, j, l, hj, hl, h1, hoth.symm⟩
            have vps := (dk_val (c := c) (q := (ps1, pf)) (ps := ps)).1 pm
            refine sts_if (T := fun b => (b = true → tat T j l = pf ∧ oth ∈ ps ∧ c oth ≠ c (ps1, pf)) ∧ (b = false → tat T j l = pf → oth ∈ ps → c oth = c (ps1, pf)))
              (N := fun sl => ∃ c fr L, sl = [.d (mulD T), .d (prsL ps), .own (dTD (dk ps c)), .u, .d (nD fr), .d (nD ps1), .d (nD pf), .d (nD j), .u, .u, .u] ∧ RInv ps (edT T ps) c0 c fr L ∧ (∀ (i' : Nat) (p : Pr), i' < i → ps[i']? = some p → ∀ x y, x < T.length → y < T.length → tat T x y = p.2 → turnT T p x y ∈ ps → (p, turnT T p x y) ∈ L) ∧
                (∀ x y, x < j → y < T.length → tat T x y = pf → turnT T (ps1, pf) x y ∈ ps → ((ps1, pf), turnT T (ps1, pf) x y) ∈ L) ∧ ∀ y, y < l + 1 → tat T j y = pf → turnT T (ps1, pf) j y ∈ ps → ((ps1, pf), turnT T (ps1, pf) j y) ∈ L)
              (EVT.imp (EVW.t (ew_and (et_eqI (ev_ixT (ev_ixT (ev_var 0) (ev_var 7) a5) (ev_var 8) a6) (ev_var 6)) fun _ => ew_and (et_inDO 2 (k := pk oth) (kvs := dk ps c) hu (ev_var 9)) fun h2 => ew_and1 (et_neI (i := (c oth : Nat)) (j := (c (ps1, pf) : Nat)) (ev_dgetTO 2 (k := pk oth) (kvs := dk ps c) hu (ev_var 9) ((dk_val (c := c)).1 (by rw [(dk_val (c := c) (q := oth) (ps := ps)).2] at h2; exact of_decide_eq_true h2))) (ev_dgetTO 2 (k := pk (ps1, pf)) (kvs := dk ps c) hu (ev_tup (ea_cons (ev_var 5) (ea_cons (ev_var 6) ea_nil)) (by show 2 ≤ 100000; decide)) vps)))) fun b hb => ?_)
              (fun h => ?_) (fun h => ?_) (fun sl' h => ?_)
            · have hb : b = (decide ((tat T j l : Int) = (pf : Nat)) && ((valD (dk ps c) (pk oth)).isSome && decide ((c oth : Int) ≠ (c (ps1, pf) : Nat)))) := hb
              rw [(dk_val (c := c) (q := oth) (ps := ps)).2] at hb
              constructor
              · intro e
                rw [hb, Bool.and_eq_true, Bool.and_eq_true, decide_eq_true_eq, decide_eq_true_eq, decide_eq_true_eq] at e
                exact ⟨by omega, e.2.1, by have := e.2.2; omega⟩
              · intro e h1 h2
                rw [hb] at e
                by_cases hc : c oth = c (ps1, pf)
                · exact hc
                · rw [decide_eq_true (by omega), decide_eq_true h2, decide_eq_true (by omega)] at e
                  cases e
            · obtain ⟨h1, h2, h3⟩ := h.1 rfl
              have vot := (dk_val (c := c) (q := oth) (ps := ps)).1 h2
              refine sts_set 10 nd (P := is (nD (min (c oth) (c (ps1, pf))))) (EV.eq (ev_min2 rfl mn (i := (c oth : Nat)) (j := (c (ps1, pf) : Nat)) (ev_dgetTO 2 (k := pk oth) (kvs := dk ps c) hu (ev_var 9) vot) (ev_dgetTO 2 (k := pk (ps1, pf)) (kvs := dk ps c) hu (ev_tup (ea_cons (ev_var 5) (ea_cons (ev_var 6) ea_nil)) (by show 2 ≤ 100000; decide)) vps)) (by unfold nD; congr 1; split <;> omega)) fun d q => ?_
              rw [show d = _ from q]
              refine sts_dputT 2 (k := pk oth) (kvs := dk ps c) hu (ev_var 10) (ev_var 9) (by rw [dk_len]; omega) fun d q => ?_
              rw [show d = _ from q, dk_put h2]
              refine sts_dputT 2 (k := pk (ps1, pf)) (kvs := dk ps fun p => if p = oth then min (c oth) (c (ps1, pf)) else c p) hu (ev_var 10) (ev_tup (ea_cons (ev_var 5) (ea_cons (ev_var 6) ea_nil)) (by show 2 ≤ 100000; decide)) (by rw [dk_len]; omega) fun d q => ?_
              rw [show d = _ from q, dk_put pm]
              refine sts_set 4 nd (ev_add (ev_var 4) ev_int) fun d q => ?_
              rw [show d = nD (fr + 1) by rw [show d = _ from q]; rfl]
              refine sts_end ⟨stepE c (ps1, pf) oth, fr + 1, _, rfl, rI.merge pm h2 (hed h1 h2), wide (L' := ((ps1, pf), oth) :: L) (fun e he => List.mem_cons_of_mem _ he) (fun _ _ => List.mem_cons_self)⟩
            · by_cases h1 : tat T j l = pf
              · by_cases h2 : oth ∈ ps
                · exact sts_end ⟨c, fr, _, rfl, rI.alike pm h2 (hed h1 h2) (h.2 rfl h1 h2), wide (L' := ((ps1, pf), oth) :: L) (fun e he => List.mem_cons_of_mem _ he) (fun _ _ => List.mem_cons_self)⟩
                · exact sts_end ⟨c, fr, L, rfl, rI, wide (fun e he => he) (fun _ h => absurd h h2)⟩
              · exact sts_end ⟨c, fr, L, rfl, rI, wide (fun e he => he) (fun h _ => absurd h h1)⟩
            · obtain ⟨c, fr, L, rfl, h⟩ := h
              exact sts_end ⟨c, fr, L, rfl, h⟩
          · obtain ⟨c, fr, L, rfl, rI, cov, cov1, cov2⟩ := hI
            rw [rgD_length, List.length_map] at cov2
            refine sts_end ⟨c, fr, L, rfl, rI, cov, fun x y h1 h2 h3 h4 => ?_⟩
            by_cases e : x = j
            · subst e; exact cov2 y (by omega) h3 h4
            · exact cov1 x y (by omega) h2 h3 h4
        · obtain ⟨c, fr, L, rfl, rI, cov, cov1⟩ := hI
          rw [rgD_length, List.length_map] at cov1
          refine sts_end ⟨c, fr, L, rfl, rI, fun i' p h1 h2 x y h3 h4 h5 h6 => ?_⟩
          by_cases e : i' = i
          · subst e
            rw [hp] at h2
            cases h2
            exact cov1 x y (by omega) h4 h5 h6
          · exact cov i' p (by omega) h2 x y h3 h4 h5 h6
      · obtain ⟨c, fr, L, rfl, rI, cov⟩ := hI
        rw [lps] at cov
        have hL : ∀ u w, edT T ps u w → (u, w) ∈ L := fun u w h => by
          obtain ⟨h1, h2, x, y, hx, hy, e1, e2⟩ := h
          obtain ⟨i', hi', e⟩ := List.getElem_of_mem h1
          rw [e2] at h2 ⊢
          exact cov i' u hi' (by rw [← e]; exact List.getElem?_eq_getElem hi') x y hx hy e1 h2
        refine sts_ifR (et_eqI (ev_var 4) ev_int) (fun h => ?_) (fun h => ?_)
        · have hf : fr = 0 := by
            have := of_decide_eq_true (show decide ((fr : Int) = 0) = true from h.symm)
            omega
          obtain ⟨ec, hs⟩ := rI.same hf
          refine sts_retO 2 (rt (c := c) rI.val (fun u w h => ?_) rfl)
          rw [ec]
          exact hs _ (hL u w h)
        · refine sts_end ⟨c, rfl, rI.val, ?_, fun p hp h => rI.keep p hp (hs0 p hp h)⟩
          rcases hk0 with ha | hk0
          · exact .inl (All.keep rI ha)
          · rcases round rI hin hL hs0 with h | h
            · exact .inl h
            · exact .inr (by omega)
    · obtain ⟨c, rfl, v, hk, hs⟩ := hI
      rw [e0] at hk
      refine sts_retO 2 (rt (c := c) v (All.stable (hk.elim id fun h => cnt_all h) hin) rfl)
end
end K03
namespace K03
open PySem PySem.Spec PyProof.Rows L2 DL RD
section
variable {P : Program} {w : World} {K : PySem.W.Frag} {mg : Str → Option Value} {base : Heap} {f : Addr} {fd : FuncData} {k : Nat}
abbrev rdrN : List Str := ["state", "count", "table", "size", "names", "back", "mul", "letters", "pairs", "turns", "chosen", "k", "x", "y", "pair"]
theorem scReader : FnScope rdrN ["state", "count"] (defScope sReader) := ⟨rfl, rfl, rfl, by decide +kernel, rfl, by decide +kernel, by decide +kernel⟩
abbrev SpReader (K : PySem.W.Frag) : Sp := SpS K (fun n : Nat => [nD n]) (fun n => n ≤ 64) (fun n d => ∃ r, d = rdD r ∧ Fits n r)
theorem idx_nat {ns : List Nat} {x : Nat} (h : x ∈ ns) : (ns.map nD)[ns.idxOf x]? = some (nD x) ∧ PyData.eqv (nD x) (nD x) = true ∧ ∀ (m : Nat) (z' : PyData), m < ns.idxOf x → (ns.map nD)[m]? = some z' → PyData.eqv z' (nD x) = false := by
  have hl := List.idxOf_lt_length_of_mem h
  refine ⟨?_, (eqv_flat _ _ 0 flat_nD flat_nD).mpr rfl, fun m z hm hz => ?_⟩
  · rw [List.getElem?_map, List.getElem?_eq_getElem hl, List.getElem_idxOf hl]
    rfl
  · rw [List.getElem?_map] at hz
    obtain ⟨u, hu, rfl⟩ := Option.map_eq_some_iff.mp hz
    cases e : PyData.eqv (nD u) (nD x) with
    | false => rfl
    | true =>
      have e2 := nD_inj ((eqv_flat _ _ 0 flat_nD flat_nD).mp e)
      subst e2
      obtain ⟨h1, h2⟩ := List.getElem?_eq_some_iff.mp hu
      have := List.not_of_lt_findIdx (p := fun x => x == u) (xs := ns) (i := m) hm
      rw [h2] at this
      simp at this
theorem flat_nats (n : Nat) (ns : List Nat) : flat (n + 1) (.list (ns.map nD)) = true := by
  rw [flat]
  exact flats_map ns fun _ _ => flat_nD
set_option maxHeartbeats 2000000 in
theorem ok_reader {fd' ff fp ft fm fl fu : Addr} {fdd fdf fdp fdt fdm fdl fdu : FuncData} (F : Fun K "_law_reader" "_law_reader" sReader f fd) (FD : Fun K "_law_draw" "_law_draw" sDraw fd' fdd) (FF : Fun K "_law_functions" "_law_functions" sFns ff fdf) (FP : Fun K "_law_product" "_law_product" sProd fp fdp)
    (FT : Fun K "_law_table" "_law_table" sTable ft fdt) (FM : Fun K "_law_mixed" "_law_mixed" sMixed fm fdm) (FL : Fun K "_law_linked" "_law_linked" sLinked fl fdl) (FU : Fun K "_law_turns" "_law_turns" sTurns fu fdu)
    (bd : Binds K fdd ["state", "limit"] []) (bf : Binds K fdf ["state"] []) (bp : Binds K fdp ["kind", "count", "x", "y"] []) (bt : Binds K fdt ["state"] []) (bm : Binds K fdm ["state", "count"] []) (bl : Binds K fdl ["mul"] []) (bu : Binds K fdu ["mul", "pairs"] [])
    (gd : mg "_law_draw" = some (.ref fd')) (gf : mg "_law_functions" = some (.ref ff)) (gp : mg "_law_product" = some (.ref fp)) (gt : mg "_law_table" = some (.ref ft)) (gm : mg "_law_mixed" = some (.ref fm)) (gl : mg "_law_linked" = some (.ref fl)) (gu : mg "_law_turns" = some (.ref fu))
    (ml : mg "len" = none) (mi : mg "int" = none) (mr : mg "range" = none) (mt : mg "tuple" = none) (ms : mg "list" = none) (mx : mg "max" = none) (mn : mg "min" = none) : FnOk P w K mg base CX0 4 f fd ["state", "count"] (SpReader K) := by
  have GD : FnOk P w K mg base CX0 1 fd' fdd ["state", "limit"] (SpDraw K) := ok_draw FD ml mi
  have GT : FnOk P w K mg base CX0 3 ft fdt ["state"] (SpTable K) := ok_table FT FD FF FP bd bf bp gd gf gp ml mi mr mt ms mx
  have GM : FnOk P w K mg base CX0 2 fm fdm ["state", "count"] (SpMixed K) := ok_mixed FM FD bd gd ml mi mr ms
  have GL : FnOk P w K mg base CX0 1 fl fdl ["mul"] (SpLinked K) := ok_linked FL ml mr ms
  have GU : FnOk P w K mg base CX0 1 fu fdu ["mul", "pairs"] (SpTurns K) := ok_turns FU ml mr mn
  refine fn_S F scReader (fun _ => rfl) fun cdv A outer s H E n a hr hpre C hC => ?_
  have hn : n ≤ 64 := hpre
  have nd := scReader.nd
  have hu : (A.deeper (envOfC "_law_reader" (defScope sReader) s.heap.objs.size f cdv)).units + 65 < cLine := by have := hr.un; omega
  show STs C _ _ [.r (.ref a), .d (nD n), .u, .u, .u, .u, .u, .u, .u, .u, .u, .u, .u, .u, .u] _
  refine sts_set 2 nd (ev_callS 0 GT (hr.mono (by decide)) gt FT.kp bt hC (P := fun d => ∃ T, d = tbD T ∧ Tab T) ea_nil fun ds p => ⟨(), p, trivial, fun d q => q⟩) ?_
  rintro _ ⟨T, rfl, t⟩
  have h9 := t.le
  refine sts_set 3 nd (P := is (nD T.length)) ((ev_lenL ml (ev_var 2).bo).eq (by rw [List.length_map]; rfl)) fun d q => ?_
  rw [show d = _ from q]
  refine sts_set 4 nd (ev_callS 0 GM (hr.mono (by decide)) gm FM.kp bm hC (P := fun d => ∃ ns : List Nat, d = .list (ns.map nD) ∧ ns.Perm (List.range T.length)) (ea_cons (ev_var 3) ea_nil) fun ds p => ⟨T.length, p, by show T.length ≤ 100; omega, fun d q => q⟩) ?_
  rintro _ ⟨ns, rfl, hp⟩
  have hl : ns.length = T.length := by rw [hp.length_eq, List.length_range]
  have hm : ∀ x, x < T.length → x ∈ ns := fun x hx => hp.mem_iff.mpr (List.mem_range.mpr hx)
  have hi : ∀ x, x < T.length → ns.idxOf x < T.length := fun x hx => by rw [← hl]; exact List.idxOf_lt_length_of_mem (hm x hx)
  -- back
  refine sts_set 5 nd (P := is (.list (((List.range T.length).map fun x => ns.idxOf x).map nD))) (en_lc rfl nd (lcok 11 (blkOk_by (N := rdrN) (sc := defScope sReader) (by decide +kernel))) (lc_readm (out := ((List.range T.length).map fun x => ns.idxOf x).map nD) (it_range1 mr (ev_var 3) (by omega) (by omega)) (by rw [rgD_length]; omega) (by simp [rgD_length]) fun s0 H0 L cl fp i d z hd hz => ?_)).ev fun d q => ?_
  · have hk := (List.getElem?_eq_some_iff.mp hd).1
    rw [rgD_nat] at hd
    have hk := (List.getElem?_eq_some_iff.mp hd).1
    rw [List.length_map, List.length_range] at hk
    rw [List.getElem?_map, List.getElem?_range hk] at hd
    have hd := Option.some.inj hd
    subst hd
    have ez : z = nD (ns.idxOf i) := by
      rw [List.getElem?_map, List.getElem?_map, List.getElem?_range hk] at hz
      exact (Option.some.inj hz).symm
    subst ez
    obtain ⟨i1, i2, i3⟩ := idx_nat (hm i hk)
    exact ev_index hu (ev_var 4) (ev_var 11) (flat_shaped (flat_nD (n := 0))) (flat_shaped (flat_nats 0 ns)) i1 i2 i3
  rw [show d = _ from q]
  -- mul
  refine sts_set 6 nd (P := is (mulD (mixT T ns))) (ev_tupleL mt (en_lc rfl nd (lcok 12 (blkOk_by (N := rdrN) (sc := defScope sReader) (by decide +kernel))) (lc_readm (out := (mixT T ns).map tupN) (it_range1 mr (ev_var 3) (by omega) (by omega)) (by rw [rgD_length]; omega) (by simp [rgD_length, mixT]) fun s0 H0 L cl fp i d z hd hz => ?_)).ev) fun d q => ?_
  · rw [rgD_nat] at hd
    have hk := (List.getElem?_eq_some_iff.mp hd).1
    rw [List.length_map, List.length_range] at hk
    rw [List.getElem?_map, List.getElem?_range hk] at hd
    have hd := Option.some.inj hd
    subst hd
    have ez : z = .tuple (((List.range T.length).map fun y => ns.getD (tat T (ns.idxOf i) (ns.idxOf y)) 0).map nD) := by
      rw [mixT, List.map_map, List.getElem?_map, List.getElem?_range hk] at hz
      exact (Option.some.inj hz).symm
    subst ez
    refine ev_tupleL mt (en_lc rfl nd (lcok 13 (blkOk_by (N := rdrN) (sc := relS _ (defScope sReader)) (by decide +kernel))) (lc_readm (out := ((List.range T.length).map fun y => ns.getD (tat T (ns.idxOf i) (ns.idxOf y)) 0).map nD) (it_range1 mr (ev_var 3) (by omega) (by omega)) (by rw [rgD_length]; omega) (by simp [rgD_length]) fun s1 H1 L1 cl1 fp1 j d z hd hz => ?_)).ev
    rw [rgD_nat] at hd
    have hj := (List.getElem?_eq_some_iff.mp hd).1
    rw [List.length_map, List.length_range] at hj
    rw [List.getElem?_map, List.getElem?_range hj] at hd
    have hd := Option.some.inj hd
    subst hd
    have ez : z = nD (ns.getD (tat T (ns.idxOf i) (ns.idxOf j)) 0) := by
      rw [List.getElem?_map, List.getElem?_map, List.getElem?_range hj] at hz
      exact (Option.some.inj hz).symm
    subst ez
    have bk : ∀ x, x < T.length → atI (((List.range T.length).map fun x => ns.idxOf x).map nD) (x : Int) = some (nD (ns.idxOf x)) := fun x hx => atI_nat (by
      rw [List.getElem?_map, List.getElem?_map, List.getElem?_range hx]; rfl)
    have r1 : atI (T.map fun r => PyData.list (r.map nD)) ((ns.idxOf i : Nat) : Int) = some (.list ((T.getD (ns.idxOf i) []).map nD)) := atI_nat (by
      rw [List.getElem?_map, List.getD_eq_getElem?_getD, List.getElem?_eq_getElem (hi i hk)]; rfl)
    have r2 := (tat_at t (hi i hk) (hi j hj)).2
    exact ev_ixL (ev_var 4) (ev_ixL (ev_ixL (ev_var 2) (ev_ixL (ev_var 5) (ev_var 12) (bk i hk)) r1) (ev_ixL (ev_var 5) (ev_var 13) (bk j hj)) r2) (at_nD (by rw [hl]; exact t.tlt (hi i hk) (hi j hj)))
  rw [show d = _ from q]
  have tM := mix_tab t hp
  have lM : (mixT T ns).length = T.length := by unfold mixT; rw [List.length_map, List.length_range]
  generalize hM : mixT T ns = M at tM lM
  -- letters
  refine sts_set 7 nd (P := fun d => ∃ ls : List Nat, d = tupN ls ∧ ls.length = n ∧ ∀ x ∈ ls, x < M.length) (EV.imp (ev_tupleLP mt (T := fun ds => ∃ ls : List Nat, ds = ls.map nD ∧ ls.length = n ∧ ∀ x ∈ ls, x < M.length) (EV.imp (EVN.ev (en_lc rfl nd (lcok 11 (blkOk_by (N := rdrN) (sc := defScope sReader) (by decide +kernel))) (lc_read (T := fun ds => ds.length = n) (U := fun _ _ _ z => ∃ x : Nat, z = nD x ∧ x < M.length)
      (it_range1P mr ((ev_var 1).imp fun d q => ⟨(n : Int), q, by omega, by omega, by rw [rgD_length]; omega⟩)) (fun ds q => by omega) (fun s0 H0 L cl fp ds k d q hd => ?_)))) fun d q => ?_)) fun d ⟨ds, e, t, e2, h⟩ => ⟨t, by rw [e, e2]; rfl, h⟩) ?_
  · have hpos := t.pos
    exact (ev_callS 0 GD (hr.mono (by decide)) gd FD.kp bd hC (P := fun d => ∃ j : Int, d = .int j ∧ 0 ≤ j ∧ j < T.length) (ea_cons (ev_var 3) ea_nil) fun ds q => ⟨(T.length : Int), q, ⟨by omega, by omega⟩, fun d q => q⟩).imp fun d ⟨j, e, j0, j1⟩ => ⟨j.toNat, by rw [e]; unfold nD; congr 1; omega, by omega⟩
  · obtain ⟨ds, out, rfl, q1, hl, h⟩ := q
    obtain ⟨ls, e1, e2, e3⟩ := drawn (g := nD) hl h
    exact ⟨_, rfl, ls, e1, by omega, e3⟩
  rintro _ ⟨ls, rfl, hls, hlt⟩
  refine sts_set 8 nd (ev_call GL (hr.mono (by decide)) gl FL.kp bl (P := is (prsL (lks M M.length))) (ea_cons (ev_var 6) ea_nil) fun ds p => ⟨M, p, tM, fun d q => q⟩) fun d q => ?_
  rw [show d = _ from q]
  refine sts_set 9 nd (ev_call GU (hr.mono (by decide)) gu FU.kp bu (P := fun d => ∃ c, d = dTD (dk (lks M M.length) c) ∧ (∀ p ∈ lks M M.length, c p < (lks M M.length).length) ∧ Stable M (lks M M.length) c) (ea_cons (ev_var 6) (ea_cons (ev_var 8) ea_nil)) fun ds p => ⟨M, p, tM, fun d q => q⟩) ?_
  rintro _ ⟨c, rfl, hc, hst⟩
  have hps := lks_len tM M.length (Nat.le_refl _)
  have lps : ((lks M M.length).map lkD).length = (lks M M.length).length := List.length_map _
  refine sts_set 10 nd (P := fun d => ∃ cs : List Nat, d = .list (cs.map nD) ∧ cs.length = (lks M M.length).length) (EV.imp (EVN.ev (en_lc rfl nd (lcok 11 (blkOk_by (N := rdrN) (sc := defScope sReader) (by decide +kernel))) (lc_read (T := fun ds => ds.length = (lks M M.length).length) (U := fun _ _ _ z => ∃ x : Nat, z = nD x ∧ True)
      (it_range1P mr ((ev_lenL (ds := (lks M M.length).map lkD) ml (ev_var 8).bo).imp fun d q => ⟨_, q, by rw [lps]; omega, by rw [lps]; omega, by rw [rgD_length, lps]; omega⟩)) (fun ds q => by omega) (fun s0 H0 L cl fp ds k d q hd => ?_)))) fun d q => ?_) ?_
  · exact (ev_callS 0 GD (hr.mono (by decide)) gd FD.kp bd hC (P := fun d => ∃ j : Int, d = .int j ∧ 0 ≤ j ∧ j < 2) (ea_cons ev_int ea_nil) fun ds q => ⟨2, q, by decide, fun d q => q⟩).imp fun d ⟨j, e, j0, j1⟩ => ⟨j.toNat, by rw [e]; unfold nD; congr 1; omega, trivial⟩
  · obtain ⟨ds, out, rfl, q1, hl, h⟩ := q
    obtain ⟨cs, e1, e2, e3⟩ := drawn (g := nD) hl h
    exact ⟨cs, by rw [e1], by omega⟩
  rintro _ ⟨cs, rfl, hcs⟩
  refine sts_ret (P := is (rdD ⟨ls, M, (lks M M.length).filter fun p => decide (cs.getD (c p) 0 = 1)⟩)) (ev_tup (ea_cons (ev_var 7) (ea_cons (ev_var 6) (ea_cons (ev_tupleL mt (en_lcF rfl nd (lcok 14 (blkOk_by (N := rdrN) (sc := defScope sReader) (by decide +kernel))) (lc_readF (ws := lks M M.length) (enc := lkD) (fun p => decide (cs.getD (c p) 0 = 1)) lkD (it_l (ev_var 8)) (by omega) (fun s0 H0 L cl fp p hp => ?_) (fun s0 H0 L cl fp p hp hq => ev_var 14))).ev) ea_nil)))) fun d q => ⟨_, q, fits_of tM hls hlt hst fun x => decide (cs.getD x 0 = 1)⟩
  have hu1 : (A.deeper (envOfC "_law_reader" (defScope sReader) s.heap.objs.size f cdv)).units + 1 < cLine := by omega
  have vp := (dk_val (c := c) (q := p) (ps := lks M M.length)).1 hp
  have hcp := hc p hp
  exact (et_eqI (i := (cs.getD (c p) 0 : Nat)) (j := 1) (ev_ixL (ds := cs.map nD) (ev_var 10) (ev_dgetT (k := pk p) (kvs := dk (lks M M.length) c) hu1 (ev_var 9) (ev_var 14) vp) (at_nD (by omega))) ev_int).eq (decide_eq_decide.mpr (by omega))
end
end K03
namespace K03
open PySem PySem.Spec PyProof.Rows L2 DL RD
abbrev sValue : Stmt := topS 1
abbrev sSettled : Stmt := topS 2
abbrev sPairOf : Stmt := topS 3
abbrev sAccepts : Stmt := topS 4
abbrev sRow : Stmt := topS 14
abbrev sWord : Stmt := topS 15
abbrev sWorth : Stmt := topS 16
abbrev sLSettled : Stmt := topS 17
abbrev sLPair : Stmt := topS 18
abbrev sLAccepts : Stmt := topS 19
abbrev sLaw : Stmt := topS 20
/-! ### the program: values, pairs -/
theorem scValue : FnScope ["reader", "row", "letters", "mul", "_", "found", "letter"] ["reader", "row"] (defScope sValue) := ⟨rfl, rfl, rfl, by decide +kernel, rfl, by decide +kernel, by decide +kernel⟩
theorem scSettled : FnScope ["mul", "x", "power"] ["mul", "x"] (defScope sSettled) := ⟨rfl, rfl, rfl, by decide +kernel, rfl, by decide +kernel, by decide +kernel⟩
theorem scPairOf : FnScope ["reader", "word", "beginning", "again", "mul", "f"] ["reader", "word"] (defScope sPairOf) := ⟨rfl, rfl, rfl, by decide +kernel, rfl, by decide +kernel, by decide +kernel⟩
theorem scAccepts : FnScope ["reader", "word"] ["reader", "word"] (defScope sAccepts) := ⟨rfl, rfl, rfl, by decide +kernel, rfl, by decide +kernel, by decide +kernel⟩
section
variable {P : Program} {w : World} {K : PySem.W.Frag} {mg : Str → Option Value} {base : Heap} {f : Addr} {fd : FuncData} {k : Nat}
abbrev SpValue (K : PySem.W.Frag) : Sp := SpD K (fun y : Nat × Rdr × List Nat => [rdD y.2.1, natsD y.2.2]) (fun y => Fits y.1 y.2.1 ∧ y.2.2 ≠ [] ∧ ∀ l ∈ y.2.2, l < y.1) (fun y d => d = nD (val y.2.1 y.2.2))
theorem ok_value (F : Fun K "value" "value" sValue f fd) : FnOk P w K mg base CX0 (k + 1) f fd ["reader", "row"] (SpValue K) := by
  refine fn_D F scValue (fun _ => rfl) fun cdv A outer s H E ⟨n, r, row⟩ hr hpre C hC => ?_
  obtain ⟨(ft : Fits n r), (h0 : row ≠ []), (hl : ∀ l ∈ row, l < n)⟩ := hpre
  have nd := scValue.nd
  cases row with
  | nil => exact absurd rfl h0
  | cons a t =>
  have ha := hl a List.mem_cons_self
  have ht : ∀ l ∈ t, l < n := fun l h => hl l (List.mem_cons_of_mem _ h)
  show STs C _ _ [.d (rdD r), .d (natsD (a :: t)), .u, .u, .u, .u, .u] _
  refine sts_unpack3 2 3 4 rfl nd (ev_var 0) ?_
  refine sts_set 5 nd (ev_ixT (ev_var 2) (ev_ixL (ev_var 1) ev_int (at_hd a t)) (let_at ft ha)) fun d q => ?_
  rw [show d = _ from q]
  refine sts_forL 6 (fun k sl => ∃ x6, sl = [.d (rdD r), .d (natsD (a :: t)), .d (tupN r.letters), .d (mulD r.mul), .d (.tuple (r.acc.map lkD)), .d (nD ((t.take k).foldl (fun v l => tat r.mul v (lv r l)) (lv r a))), x6]) rfl nd (it_l (en_slice (ev_var 1) (eo_some ev_int) eo_none).ev) ⟨_, rfl⟩ (fun k d sl' hd hI => ?_) (fun sl' hI => ?_)
  · obtain ⟨x6, rfl⟩ := hI
    rw [cut_tail, List.getElem?_map] at hd
    obtain ⟨l, hl', rfl⟩ := Option.map_eq_some_iff.mp hd
    have hln := ht l (List.mem_of_getElem? hl')
    have hv := fold_lt ft (t.take k) (lv r a) (lv_lt ft ha) fun x hx => ht x (List.mem_of_mem_take hx)
    have g := mul_at ft.tab hv (lv_lt ft hln)
    refine sts_set 5 nd (ev_ixT (ev_ixT (ev_var 3) (ev_var 5) g.1) (ev_ixT (ev_var 2) (ev_var 6) (let_at ft hln)) g.2) fun d q => ?_
    rw [show d = _ from q]
    refine sts_nil ⟨.d (nD l), ?_⟩
    rw [foldl_take hl']
    rfl
  · obtain ⟨x6, rfl⟩ := hI
    rw [cut_tail, List.length_map, List.take_length]
    exact sts_ret (ev_var 5) fun d q => q
abbrev SpSettled (K : PySem.W.Frag) : Sp := SpD K (fun y : List (List Nat) × Nat => [mulD y.1, nD y.2]) (fun y => Tab y.1 ∧ y.2 < y.1.length) (fun y d => d = nD (stv y.1 y.2))
theorem ok_settled (F : Fun K "settled_value" "settled_value" sSettled f fd) : FnOk P w K mg base CX0 (k + 1) f fd ["mul", "x"] (SpSettled K) := by
  refine fn_D F scSettled (fun _ => rfl) fun cdv A outer s H E ⟨T, x⟩ hr hpre C hC => ?_
  obtain ⟨(t : Tab T), (hx : x < T.length)⟩ := hpre
  have nd := scSettled.nd
  obtain ⟨m1, i1, l1⟩ := sx_spec t hx
  show STs C _ _ [.d (mulD T), .d (nD x), .u] _
  refine sts_set 2 nd (ev_var 1) fun d q => ?_
  rw [show d = _ from q]
  refine sts_while (m0 := sx T x) (Nb := fun _ => False) (fun m sl => ∃ k, k + m = sx T x ∧ sl = [.d (mulD T), .d (nD x), .d (nD (pw T x k))]) ⟨0, Nat.zero_add _, rfl⟩ (fun m sl' hI => ?_) (fun _ h => h.elim)
  obtain ⟨k, hk, rfl⟩ := hI
  have hp := pw_lt t hx k
  have g := mul_at t hp hp
  have g2 := mul_at t hp hx
  refine ⟨_, et_neI (ev_ixT (ev_ixT (ev_var 0) (ev_var 2) g.1) (ev_var 2) g.2) (ev_var 2), fun h => ?_, fun h => ?_⟩
  · have h : tat T (pw T x k) (pw T x k) ≠ pw T x k := by
      have h := of_decide_eq_true (show decide (((tat T (pw T x k) (pw T x k) : Nat) : Int) ≠ ((pw T x k : Nat) : Int)) = true from h.symm)
      omega
    refine sts_set 2 nd (ev_ixT (ev_ixT (ev_var 0) (ev_var 2) g2.1) (ev_var 1) g2.2) fun d q => ?_
    rw [show d = _ from q]
    have hm : m ≠ 0 := fun e => h (by
      have : k = sx T x := by omega
      subst this
      exact i1)
    exact sts_nil ⟨m - 1, by omega, k + 1, by omega, rfl⟩
  · have h : tat T (pw T x k) (pw T x k) = pw T x k := by
      have h := of_decide_eq_false (show decide (((tat T (pw T x k) (pw T x k) : Nat) : Int) ≠ ((pw T x k : Nat) : Int)) = false from h.symm)
      omega
    have := l1 k h
    have e : k = sx T x := by omega
    subst e
    exact sts_ret (ev_var 2) fun d q => q
abbrev SpPair (K : PySem.W.Frag) : Sp := SpD K (fun y : Nat × Rdr × Wn => [rdD y.2.1, wnD y.2.2]) (fun y => Fits y.1 y.2.1 ∧ OkW y.1 y.2.2) (fun y d => d = lkD (prW y.2.1 y.2.2))
theorem ok_pair_of {fv fs : Addr} {dv ds : FuncData} (F : Fun K "pair_of" "pair_of" sPairOf f fd) (FV : Fun K "value" "value" sValue fv dv) (FS : Fun K "settled_value" "settled_value" sSettled fs ds) (bv : Binds K dv ["reader", "row"] []) (bs : Binds K ds ["mul", "x"] [])
    (gv : mg "value" = some (.ref fv)) (gs : mg "settled_value" = some (.ref fs)) : FnOk P w K mg base CX0 2 f fd ["reader", "word"] (SpPair K) := by
  have GV : FnOk P w K mg base CX0 1 fv dv ["reader", "row"] (SpValue K) := ok_value FV
  have GS : FnOk P w K mg base CX0 1 fs ds ["mul", "x"] (SpSettled K) := ok_settled FS
  refine fn_D F scPairOf (fun _ => rfl) fun cdv A outer s H E ⟨n, r, b, g⟩ hr hpre C hC => ?_
  obtain ⟨(ft : Fits n r), (ok : OkW n (b, g))⟩ := hpre
  have nd := scPairOf.nd
  have hg0 : g ≠ [] := ok.1
  have hg : ∀ l ∈ g, l < n := ok.2.2
  have hb : ∀ l ∈ b, l < n := ok.2.1
  have hf := ok.f_lt ft
  show STs C _ _ [.d (rdD r), .d (wnD (b, g)), .u, .u, .u, .u] _
  refine sts_unpack2 2 3 rfl nd (ev_var 1) ?_
  refine sts_set 4 nd (ev_ixT (i := 1) (ev_var 0) ev_int rfl) fun d q => ?_
  rw [show d = _ from q]
  refine sts_set 5 nd (ev_call GS hr gs FS.kp bs (P := is (nD (stv r.mul (val r g)))) (ea_cons (ev_var 4) (ea_cons (ev_call GV hr gv FV.kp bv (P := is (nD (val r g))) (ea_cons (ev_var 0) (ea_cons (ev_var 3) ea_nil)) fun ds p => ⟨(n, r, g), p, ⟨ft, hg0, hg⟩, fun d q => q⟩) ea_nil)) fun ds p => ⟨(r.mul, val r g), p, ⟨ft.tab, val_lt' ft hg0 hg⟩, fun d q => q⟩) fun d q => ?_
  rw [show d = _ from q]
  refine sts_ifR (et_not (et_truL (ds := b.map nD) (ev_var 2).bo)) (fun h => ?_) (fun h => ?_)
  · have e : b = [] := by
      cases b with
      | nil => rfl
      | cons x b => cases h
    refine sts_ret (ev_tup (ea_cons (ev_var 5) (ea_cons (ev_var 5) ea_nil))) fun d q => ?_
    rw [show d = _ from q]
    unfold prW
    rw [if_pos e]
    rfl
  · have e : b ≠ [] := fun e => by subst e; cases h
    have hvb := val_lt' ft e hb
    have gm := mul_at ft.tab hvb hf
    refine sts_ret (ev_tup (ea_cons (ev_ixT (ev_ixT (ev_var 4) (ev_call GV hr gv FV.kp bv (P := is (nD (val r b))) (ea_cons (ev_var 0) (ea_cons (ev_var 2) ea_nil)) fun ds p => ⟨(n, r, b), p, ⟨ft, e, hb⟩, fun d q => q⟩) gm.1) (ev_var 5) gm.2) (ea_cons (ev_var 5) ea_nil))) fun d q => ?_
    rw [show d = _ from q]
    unfold prW
    rw [if_neg e]
    rfl
abbrev SpAccepts (K : PySem.W.Frag) : Sp := SpD K (fun y : Nat × Rdr × Wn => [rdD y.2.1, wnD y.2.2]) (fun y => Fits y.1 y.2.1 ∧ OkW y.1 y.2.2) (fun y d => d = .bool (accW y.2.1 y.2.2))
theorem ok_accepts {fp fv fs : Addr} {dp dv ds : FuncData} (F : Fun K "accepts" "accepts" sAccepts f fd) (FP : Fun K "pair_of" "pair_of" sPairOf fp dp) (FV : Fun K "value" "value" sValue fv dv) (FS : Fun K "settled_value" "settled_value" sSettled fs ds) (bp : Binds K dp ["reader", "word"] []) (bv : Binds K dv ["reader", "row"] []) (bs : Binds K ds ["mul", "x"] [])
    (gp : mg "pair_of" = some (.ref fp)) (gv : mg "value" = some (.ref fv)) (gs : mg "settled_value" = some (.ref fs)) : FnOk P w K mg base CX0 3 f fd ["reader", "word"] (SpAccepts K) := by
  have GP : FnOk P w K mg base CX0 2 fp dp ["reader", "word"] (SpPair K) := ok_pair_of FP FV FS bv bs gv gs
  refine fn_D F scAccepts (fun _ => rfl) fun cdv A outer s H E ⟨n, r, wd⟩ hr hpre C hC => ?_
  obtain ⟨(ft : Fits n r), (ok : OkW n wd)⟩ := hpre
  have hu : (A.deeper (envOfC "accepts" (defScope sAccepts) s.heap.objs.size f cdv)).units + 65 < cLine := by have := hr.un; omega
  show STs C _ _ [.d (rdD r), .d (wnD wd)] _
  exact sts_ret (ev_inT hu (ev_call GP (hr.mono (by decide)) gp FP.kp bp (P := is (lkD (prW r wd))) (ea_cons (ev_var 0) (ea_cons (ev_var 1) ea_nil)) fun ds p => ⟨(n, r, wd), p, ⟨ft, ok⟩, fun d q => q⟩) (ev_ixT (i := 2) (ev_var 0) ev_int rfl).bo (flat_shaped (flat_lkD 0 _)) (flat_shaped (flat_accs 0 r))) fun d q => by
    rw [show d = _ from q, mem_acc]
    rfl
end
end K03
namespace K03
open PySem PySem.Spec PyProof.Rows L2 DL RD
/-! ### the law's own words and pairs -/
theorem scRow : FnScope ["state", "count", "low", "most", "k"] ["state", "count", "low", "most"] (defScope sRow) := ⟨rfl, rfl, rfl, by decide +kernel, rfl, by decide +kernel, by decide +kernel⟩
theorem scWord : FnScope ["state", "count", "most"] ["state", "count", "most"] (defScope sWord) := ⟨rfl, rfl, rfl, by decide +kernel, rfl, by decide +kernel, by decide +kernel⟩
theorem scWorth : FnScope ["reader", "row", "now", "letter"] ["reader", "row"] (defScope sWorth) := ⟨rfl, rfl, rfl, by decide +kernel, rfl, by decide +kernel, by decide +kernel⟩
theorem scLSettled : FnScope ["mul", "v", "now", "k"] ["mul", "v"] (defScope sLSettled) := ⟨rfl, rfl, rfl, by decide +kernel, rfl, by decide +kernel, by decide +kernel⟩
theorem scLPair : FnScope ["reader", "word", "f"] ["reader", "word"] (defScope sLPair) := ⟨rfl, rfl, rfl, by decide +kernel, rfl, by decide +kernel, by decide +kernel⟩
theorem scLAccepts : FnScope ["reader", "word"] ["reader", "word"] (defScope sLAccepts) := ⟨rfl, rfl, rfl, by decide +kernel, rfl, by decide +kernel, by decide +kernel⟩
section
variable {P : Program} {w : World} {K : PySem.W.Frag} {mg : Str → Option Value} {base : Heap} {f : Addr} {fd : FuncData} {k : Nat}
abbrev SpRow (K : PySem.W.Frag) : Sp := SpS K (fun y : Nat × Nat × Nat => [nD y.1, nD y.2.1, nD y.2.2]) (fun y => 0 < y.1 ∧ y.1 ≤ 1000 ∧ y.2.1 ≤ y.2.2 ∧ y.2.2 ≤ 100)
  (fun y d => ∃ ns : List Nat, d = natsD ns ∧ y.2.1 ≤ ns.length ∧ ns.length ≤ y.2.2 ∧ ∀ x ∈ ns, x < y.1)
theorem ok_row {fd' : Addr} {fdd : FuncData} (F : Fun K "_law_row" "_law_row" sRow f fd) (FD : Fun K "_law_draw" "_law_draw" sDraw fd' fdd) (bd : Binds K fdd ["state", "limit"] []) (gd : mg "_law_draw" = some (.ref fd')) (ml : mg "len" = none) (mi : mg "int" = none) (mr : mg "range" = none) :
    FnOk P w K mg base CX0 2 f fd ["state", "count", "low", "most"] (SpRow K) := by
  have GD : FnOk P w K mg base CX0 1 fd' fdd ["state", "limit"] (SpDraw K) := ok_draw FD ml mi
  refine fn_S F scRow (fun _ => rfl) fun cdv A outer s H E ⟨c, lo, hi⟩ a hr hpre C hC => ?_
  obtain ⟨(c0 : 0 < c), (c1 : c ≤ 1000), (l0 : lo ≤ hi), (l1 : hi ≤ 100)⟩ := hpre
  show STs C _ _ [.r (.ref a), .d (nD c), .d (nD lo), .d (nD hi), .u] _
  refine sts_ret (P := fun d => ∃ ns : List Nat, d = natsD ns ∧ lo ≤ ns.length ∧ ns.length ≤ hi ∧ ∀ x ∈ ns, x < c) (EV.imp (EVN.ev (en_lc rfl scRow.nd (lcok 4 (blkOk_by (N := ["state", "count", "low", "most", "k"]) (sc := defScope sRow) (by decide +kernel)))
    (lc_read (T := fun ds => lo ≤ ds.length ∧ ds.length ≤ hi) (U := fun _ _ _ z => ∃ x : Nat, z = nD x ∧ x < c) (it_range1P mr ?_) (fun ds p => by omega) (fun s0 H0 L cl fp ds k d p hd => ?_)))) (fun d p => ?_)) (fun d p => p)
  · refine ev_i2 op_add (ev_var 2) (ev_callS 0 GD hr gd FD.kp bd hC (P := fun d => ∃ j : Int, d = .int j ∧ 0 ≤ j ∧ j < hi - lo + 1) (ea_cons (ev_add (ev_sub (ev_var 3) (ev_var 2)) ev_int) ea_nil) fun ds p => ⟨(hi : Int) - lo + 1, p, ⟨by omega, by omega⟩, fun d q => q⟩) fun dx dy px py => ?_
    obtain ⟨j, rfl, j0, j1⟩ := py
    refine ⟨(lo : Int), j, px, rfl, _, rfl, by omega, by omega, ?_⟩
    rw [rgD_length]
    omega
  · exact (ev_callS 0 GD hr gd FD.kp bd hC (P := fun d => ∃ j : Int, d = .int j ∧ 0 ≤ j ∧ j < c) (ea_cons (ev_var 1) ea_nil) fun ds p => ⟨(c : Int), p, ⟨by omega, by omega⟩, fun d q => q⟩).imp fun d ⟨j, e, j0, j1⟩ => ⟨j.toNat, by rw [e]; unfold nD; congr 1; omega, by omega⟩
  · obtain ⟨ds, out, rfl, ⟨q1, q2⟩, hl, h⟩ := p
    obtain ⟨ns, e1, e2, e3⟩ := drawn (g := nD) hl h
    exact ⟨ns, by rw [e1]; rfl, by omega, by omega, e3⟩
def WnOk (c m : Nat) (w : Wn) : Prop := w.1.length ≤ m ∧ w.2.length ≤ m ∧ OkW c w
abbrev SpWord (K : PySem.W.Frag) : Sp := SpS K (fun y : Nat × Nat => [nD y.1, nD y.2]) (fun y => 0 < y.1 ∧ y.1 ≤ 1000 ∧ 1 ≤ y.2 ∧ y.2 ≤ 100) (fun y d => ∃ w, d = wnD w ∧ WnOk y.1 y.2 w)
theorem ok_word {fd' fr : Addr} {fdd fdr : FuncData} (F : Fun K "_law_word" "_law_word" sWord f fd) (FR : Fun K "_law_row" "_law_row" sRow fr fdr) (FD : Fun K "_law_draw" "_law_draw" sDraw fd' fdd) (bd : Binds K fdd ["state", "limit"] []) (br : Binds K fdr ["state", "count", "low", "most"] [])
    (gd : mg "_law_draw" = some (.ref fd')) (gr : mg "_law_row" = some (.ref fr)) (ml : mg "len" = none) (mi : mg "int" = none) (mr : mg "range" = none) : FnOk P w K mg base CX0 3 f fd ["state", "count", "most"] (SpWord K) := by
  have GR : FnOk P w K mg base CX0 2 fr fdr ["state", "count", "low", "most"] (SpRow K) := ok_row FR FD bd gd ml mi mr
  refine fn_S F scWord (fun _ => rfl) fun cdv A outer s H E ⟨c, m⟩ a hr hpre C hC => ?_
  obtain ⟨(c0 : 0 < c), (c1 : c ≤ 1000), (m0 : 1 ≤ m), (m1 : m ≤ 100)⟩ := hpre
  show STs C _ _ [.r (.ref a), .d (nD c), .d (nD m)] _
  refine sts_ret (ev_tupP (ea_consP (ev_callS 0 GR hr gr FR.kp br hC (P := fun d => ∃ ns : List Nat, d = natsD ns ∧ ns.length ≤ m ∧ ∀ x ∈ ns, x < c) (ea_cons (ev_var 1) (ea_cons ev_int (ea_cons (ev_var 2) ea_nil))) fun ds p => ⟨(c, 0, m), p, ⟨c0, c1, Nat.zero_le _, m1⟩, fun d ⟨ns, e, _, q1, q2⟩ => ⟨ns, e, q1, q2⟩⟩)
    (ea_consP (ev_callS 0 GR hr gr FR.kp br hC (P := fun d => ∃ ns : List Nat, d = natsD ns ∧ 1 ≤ ns.length ∧ ns.length ≤ m ∧ ∀ x ∈ ns, x < c) (ea_cons (ev_var 1) (ea_cons ev_int (ea_cons (ev_var 2) ea_nil))) fun ds p => ⟨(c, 1, m), p, ⟨c0, c1, m0, m1⟩, fun d q => q⟩) ea_nil)) ?_) fun d p => ?_
  · rintro ds ⟨d, ds', rfl, _, d2, ds2, rfl, _, e⟩
    rw [show ds2 = [] from e]
    show 2 ≤ 100000
    decide
  · obtain ⟨ds, rfl, d1, ds', rfl, ⟨n1, rfl, q1, q2⟩, d2, ds2, rfl, ⟨n2, rfl, r1, r2, r3⟩, e⟩ := p
    have e : ds2 = [] := e
    subst e
    exact ⟨(n1, n2), rfl, q1, r2, List.length_pos_iff.mp r1, q2, r3⟩
theorem ok_worth (F : Fun K "_law_worth" "_law_worth" sWorth f fd) : FnOk P w K mg base CX0 (k + 1) f fd ["reader", "row"] (SpValue K) := by
  refine fn_D F scWorth (fun _ => rfl) fun cdv A outer s H E ⟨n, r, row⟩ hr hpre C hC => ?_
  obtain ⟨(ft : Fits n r), (h0 : row ≠ []), (hl : ∀ l ∈ row, l < n)⟩ := hpre
  have nd := scWorth.nd
  cases row with
  | nil => exact absurd rfl h0
  | cons a t =>
  have ha := hl a List.mem_cons_self
  have ht : ∀ l ∈ t, l < n := fun l h => hl l (List.mem_cons_of_mem _ h)
  show STs C _ _ [.d (rdD r), .d (natsD (a :: t)), .u, .u] _
  refine sts_set 2 nd (ev_ixT (ev_ixT (i := 0) (ev_var 0) ev_int rfl) (ev_ixL (ev_var 1) ev_int (at_hd a t)) (let_at ft ha)) fun d q => ?_
  rw [show d = _ from q]
  refine sts_forL 3 (fun k sl => ∃ x6, sl = [.d (rdD r), .d (natsD (a :: t)), .d (nD ((t.take k).foldl (fun v l => tat r.mul v (lv r l)) (lv r a))), x6]) rfl nd (it_l (en_slice (ev_var 1) (eo_some ev_int) eo_none).ev) ⟨_, rfl⟩ (fun k d sl' hd hI => ?_) (fun sl' hI => ?_)
  · obtain ⟨x6, rfl⟩ := hI
    rw [cut_tail, List.getElem?_map] at hd
    obtain ⟨l, hl', rfl⟩ := Option.map_eq_some_iff.mp hd
    have hln := ht l (List.mem_of_getElem? hl')
    have hv := fold_lt ft (t.take k) (lv r a) (lv_lt ft ha) fun x hx => ht x (List.mem_of_mem_take hx)
    have g := mul_at ft.tab hv (lv_lt ft hln)
    refine sts_set 2 nd (ev_ixT (ev_ixT (ev_ixT (i := 1) (ev_var 0) ev_int rfl) (ev_var 2) g.1) (ev_ixT (ev_ixT (i := 0) (ev_var 0) ev_int rfl) (ev_var 3) (let_at ft hln)) g.2) fun d q => ?_
    rw [show d = _ from q]
    refine sts_nil ⟨.d (nD l), ?_⟩
    rw [foldl_take hl']
    rfl
  · obtain ⟨x6, rfl⟩ := hI
    rw [cut_tail, List.length_map, List.take_length]
    exact sts_ret (ev_var 2) fun d q => q
theorem ok_lsettled (F : Fun K "_law_settled" "_law_settled" sLSettled f fd) (ml : mg "len" = none) (mr : mg "range" = none) : FnOk P w K mg base CX0 (k + 1) f fd ["mul", "v"] (SpSettled K) := by
  refine fn_D F scLSettled (fun _ => rfl) fun cdv A outer s H E ⟨T, x⟩ hr hpre C hC => ?_
  obtain ⟨(t : Tab T), (hx : x < T.length)⟩ := hpre
  have nd := scLSettled.nd
  have h9 := t.le
  obtain ⟨m1, i1, l1⟩ := sx_spec t hx
  have lT : (T.map tupN).length = T.length := List.length_map _
  show STs C _ _ [.d (mulD T), .d (nD x), .u, .u] _
  refine sts_set 2 nd (ev_var 1) fun d q => ?_
  rw [show d = _ from q]
  refine sts_forL 3 (ds := rgD 0 (T.length + 1)) (fun k sl => k ≤ sx T x ∧ ∃ x3, sl = [.d (mulD T), .d (nD x), .d (nD (pw T x k)), x3]) rfl nd (it_range1 mr ((ev_add (ev_lenT (ds := T.map tupN) ml (ev_var 0).bo) ev_int).eq (by rw [lT])) (by omega) (by omega)) ⟨Nat.zero_le _, _, rfl⟩ (fun k d sl' hd hI => ?_) (fun sl' hI => ?_)
  · obtain ⟨hk, x3, rfl⟩ := hI
    have hp := pw_lt t hx k
    have g := mul_at t hp hp
    have g2 := mul_at t hp hx
    refine sts_ifR (et_eqI (ev_ixT (ev_ixT (ev_var 0) (ev_var 2) g.1) (ev_var 2) g.2) (ev_var 2)) (fun h => ?_) (fun h => ?_)
    · have h : tat T (pw T x k) (pw T x k) = pw T x k := by
        have h := of_decide_eq_true (show decide (((tat T (pw T x k) (pw T x k) : Nat) : Int) = ((pw T x k : Nat) : Int)) = true from h.symm)
        omega
      have := l1 k h
      have e : k = sx T x := by omega
      subst e
      exact sts_ret (ev_var 2) fun d q => q
    · have h : tat T (pw T x k) (pw T x k) ≠ pw T x k := by
        have h := of_decide_eq_false (show decide (((tat T (pw T x k) (pw T x k) : Nat) : Int) = ((pw T x k : Nat) : Int)) = false from h.symm)
        omega
      refine sts_set 2 nd (ev_ixT (ev_ixT (ev_var 0) (ev_var 2) g2.1) (ev_var 1) g2.2) fun d q => ?_
      rw [show d = _ from q]
      have hm : k ≠ sx T x := fun e => h (by subst e; exact i1)
      exact sts_nil ⟨by omega, _, rfl⟩
  · obtain ⟨hk, _⟩ := hI
    rw [rgD_length] at hk
    omega
theorem ok_lpair {fv fs : Addr} {dv ds : FuncData} (F : Fun K "_law_pair" "_law_pair" sLPair f fd) (FV : Fun K "_law_worth" "_law_worth" sWorth fv dv) (FS : Fun K "_law_settled" "_law_settled" sLSettled fs ds) (bv : Binds K dv ["reader", "row"] []) (bs : Binds K ds ["mul", "v"] [])
    (gv : mg "_law_worth" = some (.ref fv)) (gs : mg "_law_settled" = some (.ref fs)) (ml : mg "len" = none) (mr : mg "range" = none) : FnOk P w K mg base CX0 2 f fd ["reader", "word"] (SpPair K) := by
  have GV : FnOk P w K mg base CX0 1 fv dv ["reader", "row"] (SpValue K) := ok_worth FV
  have GS : FnOk P w K mg base CX0 1 fs ds ["mul", "v"] (SpSettled K) := ok_lsettled FS ml mr
  refine fn_D F scLPair (fun _ => rfl) fun cdv A outer s H E ⟨n, r, b, g⟩ hr hpre C hC => ?_
  obtain ⟨(ft : Fits n r), (ok : OkW n (b, g))⟩ := hpre
  have nd := scLPair.nd
  have hg0 : g ≠ [] := ok.1
  have hg : ∀ l ∈ g, l < n := ok.2.2
  have hb : ∀ l ∈ b, l < n := ok.2.1
  have hf := ok.f_lt ft
  show STs C _ _ [.d (rdD r), .d (wnD (b, g)), .u] _
  refine sts_set 2 nd (ev_call GS hr gs FS.kp bs (P := is (nD (stv r.mul (val r g)))) (ea_cons (ev_ixT (i := 1) (ev_var 0) ev_int rfl) (ea_cons (ev_call GV hr gv FV.kp bv (P := is (nD (val r g))) (ea_cons (ev_var 0) (ea_cons (ev_ixT (i := 1) (ev_var 1) ev_int rfl) ea_nil)) fun ds p => ⟨(n, r, g), p, ⟨ft, hg0, hg⟩, fun d q => q⟩) ea_nil)) fun ds p => ⟨(r.mul, val r g), p, ⟨ft.tab, val_lt' ft hg0 hg⟩, fun d q => q⟩) fun d q => ?_
  rw [show d = _ from q]
  refine sts_ifR (et_eqI (ev_lenL (ds := b.map nD) ml (ev_ixT (i := 0) (ev_var 1) ev_int rfl).bo) ev_int) (fun h => ?_) (fun h => ?_)
  · have e : b = [] := by
      have h := of_decide_eq_true (show decide ((((b.map nD).length : Nat) : Int) = 0) = true from h.symm)
      rw [List.length_map] at h
      exact List.length_eq_zero_iff.mp (by omega)
    refine sts_ret (ev_tup (ea_cons (ev_var 2) (ea_cons (ev_var 2) ea_nil))) fun d q => ?_
    rw [show d = _ from q]
    unfold prW
    rw [if_pos e]
    rfl
  · have e : b ≠ [] := fun e => by subst e; cases h
    have hvb := val_lt' ft e hb
    have gm := mul_at ft.tab hvb hf
    refine sts_ret (ev_tup (ea_cons (ev_ixT (ev_ixT (ev_ixT (i := 1) (ev_var 0) ev_int rfl) (ev_call GV hr gv FV.kp bv (P := is (nD (val r b))) (ea_cons (ev_var 0) (ea_cons (ev_ixT (i := 0) (ev_var 1) ev_int rfl) ea_nil)) fun ds p => ⟨(n, r, b), p, ⟨ft, e, hb⟩, fun d q => q⟩) gm.1) (ev_var 2) gm.2) (ea_cons (ev_var 2) ea_nil))) fun d q => ?_
    rw [show d = _ from q]
    unfold prW
    rw [if_neg e]
    rfl
theorem ok_laccepts {fp fv fs : Addr} {dp dv ds : FuncData} (F : Fun K "_law_accepts" "_law_accepts" sLAccepts f fd) (FP : Fun K "_law_pair" "_law_pair" sLPair fp dp) (FV : Fun K "_law_worth" "_law_worth" sWorth fv dv) (FS : Fun K "_law_settled" "_law_settled" sLSettled fs ds) (bp : Binds K dp ["reader", "word"] []) (bv : Binds K dv ["reader", "row"] []) (bs : Binds K ds ["mul", "v"] [])
    (gp : mg "_law_pair" = some (.ref fp)) (gv : mg "_law_worth" = some (.ref fv)) (gs : mg "_law_settled" = some (.ref fs)) (ml : mg "len" = none) (mr : mg "range" = none) : FnOk P w K mg base CX0 3 f fd ["reader", "word"] (SpAccepts K) := by
  have GP : FnOk P w K mg base CX0 2 fp dp ["reader", "word"] (SpPair K) := ok_lpair FP FV FS bv bs gv gs ml mr
  refine fn_D F scLAccepts (fun _ => rfl) fun cdv A outer s H E ⟨n, r, wd⟩ hr hpre C hC => ?_
  obtain ⟨(ft : Fits n r), (ok : OkW n wd)⟩ := hpre
  have hu : (A.deeper (envOfC "_law_accepts" (defScope sLAccepts) s.heap.objs.size f cdv)).units + 65 < cLine := by have := hr.un; omega
  show STs C _ _ [.d (rdD r), .d (wnD wd)] _
  exact sts_ret (ev_inT hu (ev_call GP (hr.mono (by decide)) gp FP.kp bp (P := is (lkD (prW r wd))) (ea_cons (ev_var 0) (ea_cons (ev_var 1) ea_nil)) fun ds p => ⟨(n, r, wd), p, ⟨ft, ok⟩, fun d q => q⟩) (ev_ixT (i := 2) (ev_var 0) ev_int rfl).bo (flat_shaped (flat_lkD 0 _)) (flat_shaped (flat_accs 0 r))) fun d q => by
    rw [show d = _ from q, mem_acc]
    rfl
end
end K03
namespace K03
open PySem PySem.Spec PyProof.Rows L2 DL RD
section
variable {P : Program} {w : World} {K : PySem.W.Frag} {mg : Str → Option Value} {base : Heap} {f : Addr} {fd : FuncData} {k : Nat}
structure Tx (K : PySem.W.Frag) (mg : Str → Option Value) (f_value f_settled f_pair f_accepts f_draw f_fns f_prod f_table f_mixed f_linked f_turns f_reader f_row f_word f_worth f_lsettled f_lpair f_laccepts : Addr) (d_value d_settled d_pair d_accepts d_draw d_fns d_prod d_table d_mixed d_linked d_turns d_reader d_row d_word d_worth d_lsettled d_lpair d_laccepts : FuncData) : Prop where
  F_value : Fun K "value" "value" sValue f_value d_value
  F_settled : Fun K "settled_value" "settled_value" sSettled f_settled d_settled
  F_pair : Fun K "pair_of" "pair_of" sPairOf f_pair d_pair
  F_accepts : Fun K "accepts" "accepts" sAccepts f_accepts d_accepts
  F_draw : Fun K "_law_draw" "_law_draw" sDraw f_draw d_draw
  F_fns : Fun K "_law_functions" "_law_functions" sFns f_fns d_fns
  F_prod : Fun K "_law_product" "_law_product" sProd f_prod d_prod
  F_table : Fun K "_law_table" "_law_table" sTable f_table d_table
  F_mixed : Fun K "_law_mixed" "_law_mixed" sMixed f_mixed d_mixed
  F_linked : Fun K "_law_linked" "_law_linked" sLinked f_linked d_linked
  F_turns : Fun K "_law_turns" "_law_turns" sTurns f_turns d_turns
  F_reader : Fun K "_law_reader" "_law_reader" sReader f_reader d_reader
  F_row : Fun K "_law_row" "_law_row" sRow f_row d_row
  F_word : Fun K "_law_word" "_law_word" sWord f_word d_word
  F_worth : Fun K "_law_worth" "_law_worth" sWorth f_worth d_worth
  F_lsettled : Fun K "_law_settled" "_law_settled" sLSettled f_lsettled d_lsettled
  F_lpair : Fun K "_law_pair" "_law_pair" sLPair f_lpair d_lpair
  F_laccepts : Fun K "_law_accepts" "_law_accepts" sLAccepts f_laccepts d_laccepts
  b_value : Binds K d_value ["reader", "row"] []
  b_settled : Binds K d_settled ["mul", "x"] []
  b_pair : Binds K d_pair ["reader", "word"] []
  b_accepts : Binds K d_accepts ["reader", "word"] []
  b_draw : Binds K d_draw ["state", "limit"] []
  b_fns : Binds K d_fns ["state"] []
  b_prod : Binds K d_prod ["kind", "count", "x", "y"] []
  b_table : Binds K d_table ["state"] []
  b_mixed : Binds K d_mixed ["state", "count"] []
  b_linked : Binds K d_linked ["mul"] []
  b_turns : Binds K d_turns ["mul", "pairs"] []
  b_reader : Binds K d_reader ["state", "count"] []
  b_row : Binds K d_row ["state", "count", "low", "most"] []
  b_word : Binds K d_word ["state", "count", "most"] []
  b_worth : Binds K d_worth ["reader", "row"] []
  b_lsettled : Binds K d_lsettled ["mul", "v"] []
  b_lpair : Binds K d_lpair ["reader", "word"] []
  b_laccepts : Binds K d_laccepts ["reader", "word"] []
  g_value : mg "value" = some (.ref f_value)
  g_settled : mg "settled_value" = some (.ref f_settled)
  g_pair : mg "pair_of" = some (.ref f_pair)
  g_accepts : mg "accepts" = some (.ref f_accepts)
  g_draw : mg "_law_draw" = some (.ref f_draw)
  g_fns : mg "_law_functions" = some (.ref f_fns)
  g_prod : mg "_law_product" = some (.ref f_prod)
  g_table : mg "_law_table" = some (.ref f_table)
  g_mixed : mg "_law_mixed" = some (.ref f_mixed)
  g_linked : mg "_law_linked" = some (.ref f_linked)
  g_turns : mg "_law_turns" = some (.ref f_turns)
  g_reader : mg "_law_reader" = some (.ref f_reader)
  g_row : mg "_law_row" = some (.ref f_row)
  g_word : mg "_law_word" = some (.ref f_word)
  g_worth : mg "_law_worth" = some (.ref f_worth)
  g_lsettled : mg "_law_settled" = some (.ref f_lsettled)
  g_lpair : mg "_law_pair" = some (.ref f_lpair)
  g_laccepts : mg "_law_accepts" = some (.ref f_laccepts)
  m_len : mg "len" = none
  m_int : mg "int" = none
  m_range : mg "range" = none
  m_tuple : mg "tuple" = none
  m_list : mg "list" = none
  m_max : mg "max" = none
  m_min : mg "min" = none
  m_isinstance : mg "isinstance" = none
  m_bool : mg "bool" = none
  m_all : mg "all" = none
abbrev lawN : List Str := ["script", "state", "count", "reader", "k", "word", "due", "copy", "told", "worth", "cut", "others", "other"]
theorem scLaw : FnScope lawN ["script"] (defScope sLaw) := ⟨rfl, rfl, rfl, by decide +kernel, rfl, by decide +kernel, by decide +kernel⟩
set_option maxHeartbeats 2000000 in
theorem ok_law {f_value f_settled f_pair f_accepts f_draw f_fns f_prod f_table f_mixed f_linked f_turns f_reader f_row f_word f_worth f_lsettled f_lpair f_laccepts : Addr} {d_value d_settled d_pair d_accepts d_draw d_fns d_prod d_table d_mixed d_linked d_turns d_reader d_row d_word d_worth d_lsettled d_lpair d_laccepts : FuncData} (F : Fun K "law" "law" sLaw f fd) (T : Tx K mg f_value f_settled f_pair f_accepts f_draw f_fns f_prod f_table f_mixed f_linked f_turns f_reader f_row f_word f_worth f_lsettled f_lpair f_laccepts d_value d_settled d_pair d_accepts d_draw d_fns d_prod d_table d_mixed d_linked d_turns d_reader d_row d_word d_worth d_lsettled d_lpair d_laccepts) : FnOk P w K mg base CX0 5 f fd ["script"] (spLaw K) := by
  have GD : FnOk P w K mg base CX0 1 f_draw d_draw ["state", "limit"] (SpDraw K) := ok_draw T.F_draw T.m_len T.m_int
  have GR : FnOk P w K mg base CX0 4 f_reader d_reader ["state", "count"] (SpReader K) := ok_reader T.F_reader T.F_draw T.F_fns T.F_prod T.F_table T.F_mixed T.F_linked T.F_turns T.b_draw T.b_fns T.b_prod T.b_table T.b_mixed T.b_linked T.b_turns T.g_draw T.g_fns T.g_prod T.g_table T.g_mixed T.g_linked T.g_turns T.m_len T.m_int T.m_range T.m_tuple T.m_list T.m_max T.m_min
  have GW : FnOk P w K mg base CX0 3 f_word d_word ["state", "count", "most"] (SpWord K) := ok_word T.F_word T.F_row T.F_draw T.b_draw T.b_row T.g_draw T.g_row T.m_len T.m_int T.m_range
  have GV : FnOk P w K mg base CX0 1 f_value d_value ["reader", "row"] (SpValue K) := ok_value T.F_value
  have GP : FnOk P w K mg base CX0 2 f_pair d_pair ["reader", "word"] (SpPair K) := ok_pair_of T.F_pair T.F_value T.F_settled T.b_value T.b_settled T.g_value T.g_settled
  have GA : FnOk P w K mg base CX0 3 f_accepts d_accepts ["reader", "word"] (SpAccepts K) := ok_accepts T.F_accepts T.F_pair T.F_value T.F_settled T.b_pair T.b_value T.b_settled T.g_pair T.g_value T.g_settled
  have GH : FnOk P w K mg base CX0 1 f_worth d_worth ["reader", "row"] (SpValue K) := ok_worth T.F_worth
  have GI : FnOk P w K mg base CX0 2 f_lpair d_lpair ["reader", "word"] (SpPair K) := ok_lpair T.F_lpair T.F_worth T.F_lsettled T.b_worth T.b_lsettled T.g_worth T.g_lsettled T.m_len T.m_range
  have GC : FnOk P w K mg base CX0 3 f_laccepts d_laccepts ["reader", "word"] (SpAccepts K) := ok_laccepts T.F_laccepts T.F_lpair T.F_worth T.F_lsettled T.b_lpair T.b_worth T.b_lsettled T.g_lpair T.g_worth T.g_lsettled T.m_len T.m_range
  have nd := scLaw.nd
  refine F.ok scLaw (fun vs H Q E h => ?_) (fun cdv A outer s H vs Q E hr h => ?_)
  · obtain ⟨a, ns, rfl, _⟩ := h
    rfl
  obtain ⟨a, ns, rfl, hS, hn, q⟩ := h
  refine ⟨_, pss_c _, law_open (n := 11) nd rfl rfl (.inl rfl) (.inl rfl) (.inl rfl) rfl T.m_list hS hn q fun sa C hC => ?_⟩
  have hu := hr.units
  show STs C _ _ [.u, .r (.ref sa), .u, .u, .u, .u, .u, .u, .u, .u, .u, .u, .u] _
  refine sts_set 2 nd (P := fun d => ∃ n : Nat, d = nD n ∧ 1 ≤ n ∧ n ≤ 4) (ev_i2 op_add ev_int (ev_callS 1 GD (hr.mono (by decide)) T.g_draw T.F_draw.kp T.b_draw hC (P := fun d => ∃ j : Int, d = .int j ∧ 0 ≤ j ∧ j < 4) (ea_cons ev_int ea_nil) fun ds p => ⟨4, p, by decide, fun d q => q⟩) fun dx dy px py => ?_) ?_
  · obtain ⟨j, rfl, j0, j1⟩ := py
    exact ⟨1, j, px, rfl, (1 + j).toNat, by unfold nD; congr 1; omega, by omega, by omega⟩
  rintro _ ⟨n, rfl, n1, n4⟩
  refine sts_set 3 nd (ev_callS 1 GR (hr.mono (by decide)) T.g_reader T.F_reader.kp T.b_reader hC (P := fun d => ∃ r, d = rdD r ∧ Fits n r) (ea_cons (ev_var 2) ea_nil) fun ds p => ⟨n, p, by show n ≤ 64; omega, fun d q => q⟩) ?_
  rintro _ ⟨r, rfl, ft⟩
  refine sts_forI 4 (fun _ sl => sl = [.u, .r (.ref sa), .d (nD n), .d (rdD r), .u, .u, .u, .u, .u, .u, .u, .u, .u]) _ rfl nd (it_range1 T.m_range ev_int (by decide) (by decide)) rfl (fun k d sl' hd hI => ?_) (fun sl' hI => ?_)
  rotate_left 1
  · subst hI
    exact sts_ret ev_bl fun d q => q
  subst hI
  clear hd
  -- word
  refine sts_set 5 nd (ev_callS 1 GW (hr.mono (by decide)) T.g_word T.F_word.kp T.b_word hC (P := fun d => ∃ w, d = wnD w ∧ WnOk n 6 w) (ea_cons (ev_var 2) (ea_cons ev_int ea_nil)) fun ds p => ⟨(n, 6), p, ⟨by show 0 < n; omega, by show n ≤ 1000; omega, by show 1 ≤ 6; decide, by show 6 ≤ 100; decide⟩, fun d q => q⟩) ?_
  rintro _ ⟨⟨b, g⟩, rfl, wl1, wl2, ok⟩
  have wl1 : b.length ≤ 6 := wl1
  have wl2 : g.length ≤ 6 := wl2
  refine sts_set 6 nd (ev_call GI (hr.mono (by decide)) T.g_lpair T.F_lpair.kp T.b_lpair (P := is (lkD (prW r (b, g)))) (ea_cons (ev_var 3) (ea_cons (ev_var 5) ea_nil)) fun ds p => ⟨(n, r, (b, g)), p, ⟨ft, ok⟩, fun d q => q⟩) fun d q => ?_
  rw [show d = _ from q]
  refine sts_set 7 nd (P := is (wnD (b, g))) (ev_tup (ea_cons (en_listL T.m_list (ev_ixT (i := 0) (ev_var 5) ev_int rfl)).ev (ea_cons (en_listL T.m_list (ev_ixT (i := 1) (ev_var 5) ev_int rfl)).ev ea_nil))) fun d q => ?_
  rw [show d = _ from q]
  refine sts_set 8 nd (ev_call GA (hr.mono (by decide)) T.g_accepts T.F_accepts.kp T.b_accepts (P := is (.bool (accW r (b, g)))) (ea_cons (ev_var 3) (ea_cons (ev_var 7) ea_nil)) fun ds p => ⟨(n, r, (b, g)), p, ⟨ft, ok⟩, fun d q => q⟩) fun d q => ?_
  rw [show d = _ from q]
  have ew := eqv_self (flat_wnD 0 (b, g))
  have ep := eqv_self (flat_lkD 0 (prW r (b, g)))
  have ev := eqv_self (flat_nD (n := 0) (x := val r g))
  have hg0 : g ≠ [] := ok.1
  have hg : ∀ l ∈ g, l < n := ok.2.2
  refine sts_ifR (EVW.t (ew_or (t := false) (EVT.eq (et_ne hu (ev_var 8) (ev_call GC (hr.mono (by decide)) T.g_laccepts T.F_laccepts.kp T.b_laccepts (P := is (.bool (accW r (b, g)))) (ea_cons (ev_var 3) (ea_cons (ev_var 5) ea_nil)) fun ds p => ⟨(n, r, (b, g)), p, ⟨ft, ok⟩, fun d q => q⟩).bo rfl rfl) (by rw [eqv_bl]; simp)) fun _ =>
    ew_or (t := false) (EVT.eq (et_not (et_val (ev_isi (r := true) T.m_isinstance T.m_bool (ev_var 8) boot_bool (.inr (.inl ⟨_, rfl, by decide +kernel⟩))))) rfl) fun _ =>
    ew_or (t := false) (EVT.eq (et_ne hu (ev_call GP (hr.mono (by decide)) T.g_pair T.F_pair.kp T.b_pair (P := is (lkD (prW r (b, g)))) (ea_cons (ev_var 3) (ea_cons (ev_var 7) ea_nil)) fun ds p => ⟨(n, r, (b, g)), p, ⟨ft, ok⟩, fun d q => q⟩) (ev_var 6).bo (flat_shaped (flat_lkD 0 _)) (flat_shaped (flat_lkD 0 _))) (by rw [ep]; rfl)) fun _ =>
    ew_or1 (t := false) (EVT.eq (et_ne hu (ev_var 7) (ev_var 5).bo (flat_shaped (flat_wnD 0 _)) (flat_shaped (flat_wnD 0 _))) (by rw [ew]; rfl)))) (fun h => nomatch h) (fun _ => ?_)
  -- worth
  refine sts_set 9 nd (ev_call GV (hr.mono (by decide)) T.g_value T.F_value.kp T.b_value (P := is (nD (val r g))) (ea_cons (ev_var 3) (ea_cons (ev_ixT (i := 1) (ev_var 7) ev_int rfl) ea_nil)) fun ds p => ⟨(n, r, g), p, ⟨ft, hg0, hg⟩, fun d q => q⟩) fun d q => ?_
  rw [show d = _ from q]
  refine sts_ifR (EVW.t (ew_or (t := false) (EVT.eq (et_ne hu (ev_var 9) (ev_call GH (hr.mono (by decide)) T.g_worth T.F_worth.kp T.b_worth (P := is (nD (val r g))) (ea_cons (ev_var 3) (ea_cons (ev_ixT (i := 1) (ev_var 5) ev_int rfl) ea_nil)) fun ds p => ⟨(n, r, g), p, ⟨ft, hg0, hg⟩, fun d q => q⟩).bo rfl rfl) (by rw [ev]; rfl)) fun _ =>
    ew_or (t := false) (et_val (ev_isi (r := false) T.m_isinstance T.m_bool (ev_var 9) boot_bool (.inl ⟨_, rfl, by decide +kernel⟩))) fun _ =>
    ew_or1 (t := false) (EVT.eq (et_ne hu (ev_var 7) (ev_var 5).bo (flat_shaped (flat_wnD 0 _)) (flat_shaped (flat_wnD 0 _))) (by rw [ew]; rfl)))) (fun h => nomatch h) (fun _ => ?_)
  -- cut
  refine sts_set 10 nd (ev_callS 1 GD (hr.mono (by decide)) T.g_draw T.F_draw.kp T.b_draw hC (P := fun d => ∃ j : Nat, d = nD j) (ea_cons (ev_add (ev_lenL (ds := g.map nD) T.m_len (ev_ixT (i := 1) (ev_var 5) ev_int rfl).bo) ev_int) ea_nil) fun ds p => ⟨_, p, ⟨by rw [List.length_map]; omega, by rw [List.length_map]; omega⟩, fun d ⟨j, e, j0, j1⟩ => ⟨j.toNat, by rw [e]; unfold nD; congr 1; omega⟩⟩) ?_
  rintro _ ⟨j, rfl⟩
  have hgl : (g.map nD).length = g.length := List.length_map _
  have hbl : (b.map nD).length = b.length := List.length_map _
  refine sts_setO 11 nd (en_lst (ds := [wnD (b ++ g, g), wnD (b ++ g.take j, g.drop j ++ g.take j)]) (ea_cons (EV.eq (ev_tup (ea_cons (en_cat (ev_ixT (i := 0) (ev_var 5) ev_int rfl) (ev_ixT (i := 1) (ev_var 5) ev_int rfl) (by show (b.map nD).length + (g.map nD).length ≤ 1000000; omega)).ev (ea_cons (en_listL T.m_list (ev_ixT (i := 1) (ev_var 5) ev_int rfl)).ev ea_nil))) ?_) (ea_cons (EV.eq (ev_tup (ea_cons (en_cat (ev_ixT (i := 0) (ev_var 5) ev_int rfl) (en_slice (ev_ixT (i := 1) (ev_var 5) ev_int rfl) eo_none (eo_some (ev_var 10))).ev ?_).ev (ea_cons (en_cat (en_slice (ev_ixT (i := 1) (ev_var 5) ev_int rfl) (eo_some (ev_var 10)) eo_none).ev (en_slice (ev_ixT (i := 1) (ev_var 5) ev_int rfl) eo_none (eo_some (ev_var 10))).ev ?_).ev ea_nil))) ?_) ea_nil))) fun d q => ?_
  · rw [wnD, natsD, natsD, List.map_append]
  · rw [cut_to, List.length_map, List.length_map, List.length_take]; omega
  · rw [cut_to, cut_from, List.length_map, List.length_map, List.length_take, List.length_drop]; omega
  · rw [wnD, natsD, natsD, List.map_append, List.map_append, cut_to, cut_from]
  rw [show d = _ from q]
  refine sts_append 11 (xs := [wnD (b ++ g, g), wnD (b ++ g.take j, g.drop j ++ g.take j)]) (P := fun d => ∃ k : Nat, d = wnD (b, (List.replicate (k + 1) g).flatten)) (EV.imp (ev_tupP (ea_consP (en_listL T.m_list (ev_ixT (i := 0) (ev_var 5) ev_int rfl)).ev (ea_consP (en_repP (P := fun k => 1 ≤ k) (ev_ixT (i := 1) (ev_var 5) ev_int rfl) (ev_i2 op_add ev_int (ev_callS 1 GD (hr.mono (by decide)) T.g_draw T.F_draw.kp T.b_draw hC (P := fun d => ∃ j : Int, d = .int j ∧ 0 ≤ j ∧ j < 4) (ea_cons ev_int ea_nil) fun ds p => ⟨4, p, by decide, fun d q => q⟩) fun dx dy px py => ?_)).ev ea_nil)) ?_) ?_) (by show 2 < 1000000; decide) ?_
  · obtain ⟨i, rfl, i0, i1⟩ := py
    refine ⟨1, i, px, rfl, (1 + i).toNat, by congr 1; omega, by omega, ?_, by omega⟩
    have : (1 + i).toNat ≤ 4 := by omega
    have := Nat.mul_le_mul (show (g.map nD).length ≤ 6 by omega) this
    show (g.map nD).length * (1 + i).toNat ≤ 1000000
    omega
  · rintro ds ⟨d, ds', rfl, _, d2, ds2, rfl, _, e⟩
    rw [show ds2 = [] from e]
    show 2 ≤ 100000
    decide
  · rintro d ⟨ds, rfl, d1, ds', rfl, e1, d2, ds2, rfl, ⟨k, rfl, hk⟩, e⟩
    refine ⟨k - 1, ?_⟩
    rw [show ds2 = [] from e, show d1 = _ from e1, natsD_rep, show k - 1 + 1 = k by omega]
    rfl
  rintro _ ⟨m, rfl⟩
  refine sts_freeze 11 ?_
  have items : ∀ d ∈ [wnD (b ++ g, g), wnD (b ++ g.take j, g.drop j ++ g.take j)] ++ [wnD (b, (List.replicate (m + 1) g).flatten)], ∃ o, d = wnD o ∧ OkW n o ∧ accW r o = accW r (b, g) := by
    intro d hd
    rcases List.mem_cons.mp hd with rfl | hd
    · exact ⟨_, rfl, ok_r ok, acc_r ft ok⟩
    rcases List.mem_cons.mp hd with rfl | hd
    · exact ⟨_, rfl, ok_cut ok j, acc_cut ft ok j⟩
    rw [List.mem_singleton.mp hd]
    exact ⟨_, rfl, ok_rep ok m, acc_rep ft ok m⟩
  have hos : ([wnD (b ++ g, g), wnD (b ++ g.take j, g.drop j ++ g.take j)] ++ [wnD (b, (List.replicate (m + 1) g).flatten)]).length = 3 := rfl
  generalize [wnD (b ++ g, g), wnD (b ++ g.take j, g.drop j ++ g.take j)] ++ [wnD (b, (List.replicate (m + 1) g).flatten)] = os at items hos
  refine sts_ifR (T := isB false) (EVT.eq (et_not (et_val (ev_all (bs := os.map fun _ => true) rfl T.m_all (en_lc rfl nd (lcok 12 (blkOk_by (N := lawN) (sc := defScope sLaw) (by decide +kernel))) (lc_readm (ds := os) (out := (os.map fun _ => true).map PyData.bool) (it_l (ev_var 11)) ?_ (by simp) fun s0 H0 L cl fp i d z hd hz => ?_)).ev.bo))) ?_) (fun h => nomatch h) (fun _ => ?_)
  · rw [hos]; decide
  · obtain ⟨o, rfl, oo, oa⟩ := items d (List.mem_of_getElem? hd)
    have ez : z = .bool true := by
      rw [List.map_map, List.getElem?_map, hd] at hz
      exact (Option.some.inj hz).symm
    rw [ez]
    exact (ev_eq hu (ev_call GA (hr.mono (by decide)) T.g_accepts T.F_accepts.kp T.b_accepts (P := is (.bool (accW r (b, g)))) (ea_cons (ev_var 3) (ea_cons (ev_var 12) ea_nil)) fun ds p => ⟨(n, r, o), p, ⟨ft, oo⟩, fun d q => by rw [show d = _ from q, oa]⟩) (ev_var 8).bo rfl rfl).eq (by rw [eqv_bl]; simp)
  · simp
  · exact sts_end rfl
end
end K03
namespace K03
open PySem PySem.Spec PyProof.Rows L2 DL RD
/-! ### what the top leaves -/
theorem all_mk {l : PySem.W.OpenLaw} {w : World} {K : PySem.W.Frag} {h : Heap} {mg : Str → Option Value} {fa f1 f2 f3 f4 f5 f6 f7 f8 f9 f10 f11 f12 f13 f14 f15 f16 f17 f18 f19 : Addr} (X : K.In h) (G : h.Ns mainGlobals mg) (hfa : mg "law" = some (.ref fa))
    {od1 an1 od2 an2 od3 an3 od4 an4 od5 an5 od6 an6 od7 an7 od8 an8 od9 an9 od10 an10 od11 an11 od12 an12 od13 an13 od14 an14 od15 an15 od16 an16 od17 an17 od18 an18 od19 an19 : Option Addr} {sl1 sl2 sl3 sl4 sl5 sl6 sl7 sl8 sl9 sl10 sl11 sl12 sl13 sl14 sl15 sl16 sl17 sl18 sl19 : Array (Option Value)} {oc1 kV1 dc1 pm1 cd1 ct1 oc2 kV2 dc2 pm2 cd2 ct2 oc3 kV3 dc3 pm3 cd3 ct3 oc4 kV4 dc4 pm4 cd4 ct4 oc5 kV5 dc5 pm5 cd5 ct5 oc6 kV6 dc6 pm6 cd6 ct6 oc7 kV7 dc7 pm7 cd7 ct7 oc8 kV8 dc8 pm8 cd8 ct8 oc9 kV9 dc9 pm9 cd9 ct9 oc10 kV10 dc10 pm10 cd10 ct10 oc11 kV11 dc11 pm11 cd11 ct11 oc12 kV12 dc12 pm12 cd12 ct12 oc13 kV13 dc13 pm13 cd13 ct13 oc14 kV14 dc14 pm14 cd14 ct14 oc15 kV15 dc15 pm15 cd15 ct15 oc16 kV16 dc16 pm16 cd16 ct16 oc17 kV17 dc17 pm17 cd17 ct17 oc18 kV18 dc18 pm18 cd18 ct18 oc19 kV19 dc19 pm19 cd19 ct19 : Value}
    (a1 : PySem.W.nsIn K mainGlobals "value" = some (some (.ref f1))) (l1 : K.lookup f1 = some ⟨oc1, od1, .func (PySem.W.fnOf "value" "value" (defArgs sValue) (defBody sValue) (defScope sValue) .none kV1 dc1 pm1 an1 cd1 ct1), sl1⟩) (c1 : PySem.W.codeIn K cd1 "value" = true) (k1 : PySem.W.keepIn K (.ref f1) = true)
    (a2 : PySem.W.nsIn K mainGlobals "settled_value" = some (some (.ref f2))) (l2 : K.lookup f2 = some ⟨oc2, od2, .func (PySem.W.fnOf "settled_value" "settled_value" (defArgs sSettled) (defBody sSettled) (defScope sSettled) .none kV2 dc2 pm2 an2 cd2 ct2), sl2⟩) (c2 : PySem.W.codeIn K cd2 "settled_value" = true) (k2 : PySem.W.keepIn K (.ref f2) = true)
    (a3 : PySem.W.nsIn K mainGlobals "pair_of" = some (some (.ref f3))) (l3 : K.lookup f3 = some ⟨oc3, od3, .func (PySem.W.fnOf "pair_of" "pair_of" (defArgs sPairOf) (defBody sPairOf) (defScope sPairOf) .none kV3 dc3 pm3 an3 cd3 ct3), sl3⟩) (c3 : PySem.W.codeIn K cd3 "pair_of" = true) (k3 : PySem.W.keepIn K (.ref f3) = true)
    (a4 : PySem.W.nsIn K mainGlobals "accepts" = some (some (.ref f4))) (l4 : K.lookup f4 = some ⟨oc4, od4, .func (PySem.W.fnOf "accepts" "accepts" (defArgs sAccepts) (defBody sAccepts) (defScope sAccepts) .none kV4 dc4 pm4 an4 cd4 ct4), sl4⟩) (c4 : PySem.W.codeIn K cd4 "accepts" = true) (k4 : PySem.W.keepIn K (.ref f4) = true)
    (a5 : PySem.W.nsIn K mainGlobals "_law_draw" = some (some (.ref f5))) (l5 : K.lookup f5 = some ⟨oc5, od5, .func (PySem.W.fnOf "_law_draw" "_law_draw" (defArgs sDraw) (defBody sDraw) (defScope sDraw) .none kV5 dc5 pm5 an5 cd5 ct5), sl5⟩) (c5 : PySem.W.codeIn K cd5 "_law_draw" = true) (k5 : PySem.W.keepIn K (.ref f5) = true)
    (a6 : PySem.W.nsIn K mainGlobals "_law_functions" = some (some (.ref f6))) (l6 : K.lookup f6 = some ⟨oc6, od6, .func (PySem.W.fnOf "_law_functions" "_law_functions" (defArgs sFns) (defBody sFns) (defScope sFns) .none kV6 dc6 pm6 an6 cd6 ct6), sl6⟩) (c6 : PySem.W.codeIn K cd6 "_law_functions" = true) (k6 : PySem.W.keepIn K (.ref f6) = true)
    (a7 : PySem.W.nsIn K mainGlobals "_law_product" = some (some (.ref f7))) (l7 : K.lookup f7 = some ⟨oc7, od7, .func (PySem.W.fnOf "_law_product" "_law_product" (defArgs sProd) (defBody sProd) (defScope sProd) .none kV7 dc7 pm7 an7 cd7 ct7), sl7⟩) (c7 : PySem.W.codeIn K cd7 "_law_product" = true) (k7 : PySem.W.keepIn K (.ref f7) = true)
    (a8 : PySem.W.nsIn K mainGlobals "_law_table" = some (some (.ref f8))) (l8 : K.lookup f8 = some ⟨oc8, od8, .func (PySem.W.fnOf "_law_table" "_law_table" (defArgs sTable) (defBody sTable) (defScope sTable) .none kV8 dc8 pm8 an8 cd8 ct8), sl8⟩) (c8 : PySem.W.codeIn K cd8 "_law_table" = true) (k8 : PySem.W.keepIn K (.ref f8) = true)
    (a9 : PySem.W.nsIn K mainGlobals "_law_mixed" = some (some (.ref f9))) (l9 : K.lookup f9 = some ⟨oc9, od9, .func (PySem.W.fnOf "_law_mixed" "_law_mixed" (defArgs sMixed) (defBody sMixed) (defScope sMixed) .none kV9 dc9 pm9 an9 cd9 ct9), sl9⟩) (c9 : PySem.W.codeIn K cd9 "_law_mixed" = true) (k9 : PySem.W.keepIn K (.ref f9) = true)
    (a10 : PySem.W.nsIn K mainGlobals "_law_linked" = some (some (.ref f10))) (l10 : K.lookup f10 = some ⟨oc10, od10, .func (PySem.W.fnOf "_law_linked" "_law_linked" (defArgs sLinked) (defBody sLinked) (defScope sLinked) .none kV10 dc10 pm10 an10 cd10 ct10), sl10⟩) (c10 : PySem.W.codeIn K cd10 "_law_linked" = true) (k10 : PySem.W.keepIn K (.ref f10) = true)
    (a11 : PySem.W.nsIn K mainGlobals "_law_turns" = some (some (.ref f11))) (l11 : K.lookup f11 = some ⟨oc11, od11, .func (PySem.W.fnOf "_law_turns" "_law_turns" (defArgs sTurns) (defBody sTurns) (defScope sTurns) .none kV11 dc11 pm11 an11 cd11 ct11), sl11⟩) (c11 : PySem.W.codeIn K cd11 "_law_turns" = true) (k11 : PySem.W.keepIn K (.ref f11) = true)
    (a12 : PySem.W.nsIn K mainGlobals "_law_reader" = some (some (.ref f12))) (l12 : K.lookup f12 = some ⟨oc12, od12, .func (PySem.W.fnOf "_law_reader" "_law_reader" (defArgs sReader) (defBody sReader) (defScope sReader) .none kV12 dc12 pm12 an12 cd12 ct12), sl12⟩) (c12 : PySem.W.codeIn K cd12 "_law_reader" = true) (k12 : PySem.W.keepIn K (.ref f12) = true)
    (a13 : PySem.W.nsIn K mainGlobals "_law_row" = some (some (.ref f13))) (l13 : K.lookup f13 = some ⟨oc13, od13, .func (PySem.W.fnOf "_law_row" "_law_row" (defArgs sRow) (defBody sRow) (defScope sRow) .none kV13 dc13 pm13 an13 cd13 ct13), sl13⟩) (c13 : PySem.W.codeIn K cd13 "_law_row" = true) (k13 : PySem.W.keepIn K (.ref f13) = true)
    (a14 : PySem.W.nsIn K mainGlobals "_law_word" = some (some (.ref f14))) (l14 : K.lookup f14 = some ⟨oc14, od14, .func (PySem.W.fnOf "_law_word" "_law_word" (defArgs sWord) (defBody sWord) (defScope sWord) .none kV14 dc14 pm14 an14 cd14 ct14), sl14⟩) (c14 : PySem.W.codeIn K cd14 "_law_word" = true) (k14 : PySem.W.keepIn K (.ref f14) = true)
    (a15 : PySem.W.nsIn K mainGlobals "_law_worth" = some (some (.ref f15))) (l15 : K.lookup f15 = some ⟨oc15, od15, .func (PySem.W.fnOf "_law_worth" "_law_worth" (defArgs sWorth) (defBody sWorth) (defScope sWorth) .none kV15 dc15 pm15 an15 cd15 ct15), sl15⟩) (c15 : PySem.W.codeIn K cd15 "_law_worth" = true) (k15 : PySem.W.keepIn K (.ref f15) = true)
    (a16 : PySem.W.nsIn K mainGlobals "_law_settled" = some (some (.ref f16))) (l16 : K.lookup f16 = some ⟨oc16, od16, .func (PySem.W.fnOf "_law_settled" "_law_settled" (defArgs sLSettled) (defBody sLSettled) (defScope sLSettled) .none kV16 dc16 pm16 an16 cd16 ct16), sl16⟩) (c16 : PySem.W.codeIn K cd16 "_law_settled" = true) (k16 : PySem.W.keepIn K (.ref f16) = true)
    (a17 : PySem.W.nsIn K mainGlobals "_law_pair" = some (some (.ref f17))) (l17 : K.lookup f17 = some ⟨oc17, od17, .func (PySem.W.fnOf "_law_pair" "_law_pair" (defArgs sLPair) (defBody sLPair) (defScope sLPair) .none kV17 dc17 pm17 an17 cd17 ct17), sl17⟩) (c17 : PySem.W.codeIn K cd17 "_law_pair" = true) (k17 : PySem.W.keepIn K (.ref f17) = true)
    (a18 : PySem.W.nsIn K mainGlobals "_law_accepts" = some (some (.ref f18))) (l18 : K.lookup f18 = some ⟨oc18, od18, .func (PySem.W.fnOf "_law_accepts" "_law_accepts" (defArgs sLAccepts) (defBody sLAccepts) (defScope sLAccepts) .none kV18 dc18 pm18 an18 cd18 ct18), sl18⟩) (c18 : PySem.W.codeIn K cd18 "_law_accepts" = true) (k18 : PySem.W.keepIn K (.ref f18) = true)
    (a19 : PySem.W.nsIn K mainGlobals "law" = some (some (.ref f19))) (l19 : K.lookup f19 = some ⟨oc19, od19, .func (PySem.W.fnOf "law" "law" (defArgs sLaw) (defBody sLaw) (defScope sLaw) .none kV19 dc19 pm19 an19 cd19 ct19), sl19⟩) (c19 : PySem.W.codeIn K cd19 "law" = true) (k19 : PySem.W.keepIn K (.ref f19) = true)
    (z1 : PySem.W.nsIn K mainGlobals "len" = some none)
    (z2 : PySem.W.nsIn K mainGlobals "int" = some none)
    (z3 : PySem.W.nsIn K mainGlobals "range" = some none)
    (z4 : PySem.W.nsIn K mainGlobals "tuple" = some none)
    (z5 : PySem.W.nsIn K mainGlobals "list" = some none)
    (z6 : PySem.W.nsIn K mainGlobals "max" = some none)
    (z7 : PySem.W.nsIn K mainGlobals "min" = some none)
    (z8 : PySem.W.nsIn K mainGlobals "isinstance" = some none)
    (z9 : PySem.W.nsIn K mainGlobals "bool" = some none)
    (z10 : PySem.W.nsIn K mainGlobals "all" = some none)
    : ∃ fd : FuncData, (∀ (s : Shared) (v : Value), BindsTo s fd ⟨[v], []⟩ [("script", v)]) ∧ ∀ base : Heap, K.In base → base.Ns mainGlobals mg → FnOk l.prog w K mg base CX0 5 fa fd ["script"] (spLaw K) := by
  have e := hfa.symm.trans (PySem.W.mg_of X G a19)
  cases e
  have F1 := fun_mk (st := sValue) l1 c1 k1
  have F2 := fun_mk (st := sSettled) l2 c2 k2
  have F3 := fun_mk (st := sPairOf) l3 c3 k3
  have F4 := fun_mk (st := sAccepts) l4 c4 k4
  have F5 := fun_mk (st := sDraw) l5 c5 k5
  have F6 := fun_mk (st := sFns) l6 c6 k6
  have F7 := fun_mk (st := sProd) l7 c7 k7
  have F8 := fun_mk (st := sTable) l8 c8 k8
  have F9 := fun_mk (st := sMixed) l9 c9 k9
  have F10 := fun_mk (st := sLinked) l10 c10 k10
  have F11 := fun_mk (st := sTurns) l11 c11 k11
  have F12 := fun_mk (st := sReader) l12 c12 k12
  have F13 := fun_mk (st := sRow) l13 c13 k13
  have F14 := fun_mk (st := sWord) l14 c14 k14
  have F15 := fun_mk (st := sWorth) l15 c15 k15
  have F16 := fun_mk (st := sLSettled) l16 c16 k16
  have F17 := fun_mk (st := sLPair) l17 c17 k17
  have F18 := fun_mk (st := sLAccepts) l18 c18 k18
  have F19 := fun_mk (st := sLaw) l19 c19 k19
  have b1 := F1.binds (ps := ["reader", "row"]) fun _ _ _ _ _ _ us hl => match us, hl with | [_, _], _ => rfl
  have b2 := F2.binds (ps := ["mul", "x"]) fun _ _ _ _ _ _ us hl => match us, hl with | [_, _], _ => rfl
  have b3 := F3.binds (ps := ["reader", "word"]) fun _ _ _ _ _ _ us hl => match us, hl with | [_, _], _ => rfl
  have b4 := F4.binds (ps := ["reader", "word"]) fun _ _ _ _ _ _ us hl => match us, hl with | [_, _], _ => rfl
  have b5 := F5.binds (ps := ["state", "limit"]) fun _ _ _ _ _ _ us hl => match us, hl with | [_, _], _ => rfl
  have b6 := F6.binds (ps := ["state"]) fun _ _ _ _ _ _ us hl => match us, hl with | [_], _ => rfl
  have b7 := F7.binds (ps := ["kind", "count", "x", "y"]) fun _ _ _ _ _ _ us hl => match us, hl with | [_, _, _, _], _ => rfl
  have b8 := F8.binds (ps := ["state"]) fun _ _ _ _ _ _ us hl => match us, hl with | [_], _ => rfl
  have b9 := F9.binds (ps := ["state", "count"]) fun _ _ _ _ _ _ us hl => match us, hl with | [_, _], _ => rfl
  have b10 := F10.binds (ps := ["mul"]) fun _ _ _ _ _ _ us hl => match us, hl with | [_], _ => rfl
  have b11 := F11.binds (ps := ["mul", "pairs"]) fun _ _ _ _ _ _ us hl => match us, hl with | [_, _], _ => rfl
  have b12 := F12.binds (ps := ["state", "count"]) fun _ _ _ _ _ _ us hl => match us, hl with | [_, _], _ => rfl
  have b13 := F13.binds (ps := ["state", "count", "low", "most"]) fun _ _ _ _ _ _ us hl => match us, hl with | [_, _, _, _], _ => rfl
  have b14 := F14.binds (ps := ["state", "count", "most"]) fun _ _ _ _ _ _ us hl => match us, hl with | [_, _, _], _ => rfl
  have b15 := F15.binds (ps := ["reader", "row"]) fun _ _ _ _ _ _ us hl => match us, hl with | [_, _], _ => rfl
  have b16 := F16.binds (ps := ["mul", "v"]) fun _ _ _ _ _ _ us hl => match us, hl with | [_, _], _ => rfl
  have b17 := F17.binds (ps := ["reader", "word"]) fun _ _ _ _ _ _ us hl => match us, hl with | [_, _], _ => rfl
  have b18 := F18.binds (ps := ["reader", "word"]) fun _ _ _ _ _ _ us hl => match us, hl with | [_, _], _ => rfl
  have T : Tx K mg _ _ _ _ _ _ _ _ _ _ _ _ _ _ _ _ _ _ _ _ _ _ _ _ _ _ _ _ _ _ _ _ _ _ _ _ := ⟨F1, F2, F3, F4, F5, F6, F7, F8, F9, F10, F11, F12, F13, F14, F15, F16, F17, F18, b1, b2, b3, b4, b5, b6, b7, b8, b9, b10, b11, b12, b13, b14, b15, b16, b17, b18, PySem.W.mg_of X G a1, PySem.W.mg_of X G a2, PySem.W.mg_of X G a3, PySem.W.mg_of X G a4, PySem.W.mg_of X G a5, PySem.W.mg_of X G a6, PySem.W.mg_of X G a7, PySem.W.mg_of X G a8, PySem.W.mg_of X G a9, PySem.W.mg_of X G a10, PySem.W.mg_of X G a11, PySem.W.mg_of X G a12, PySem.W.mg_of X G a13, PySem.W.mg_of X G a14, PySem.W.mg_of X G a15, PySem.W.mg_of X G a16, PySem.W.mg_of X G a17, PySem.W.mg_of X G a18, PySem.W.mg_none_of X G z1, PySem.W.mg_none_of X G z2, PySem.W.mg_none_of X G z3, PySem.W.mg_none_of X G z4, PySem.W.mg_none_of X G z5, PySem.W.mg_none_of X G z6, PySem.W.mg_none_of X G z7, PySem.W.mg_none_of X G z8, PySem.W.mg_none_of X G z9, PySem.W.mg_none_of X G z10⟩
  exact ⟨PySem.W.fnOf "law" "law" (defArgs sLaw) (defBody sLaw) (defScope sLaw) .none kV19 dc19 pm19 an19 cd19 ct19, fun s v => .of_eq rfl, fun base _ _ => ok_law F19 T⟩
end K03
open PySem PySem.W PyProof.Rows
set_option maxHeartbeats 0 in
theorem PySem.Challenge.cw_unendtold_k03_whole_words_written_otherw_holds : PySem.Challenge.rw_unendtold_k03_whole_words_written_otherw.Holds := by
  w_on; o_law; k_head; (case hw => w_witness2)
  k_fill
  refine L2.walk_of (l := PySem.Challenge.rw_unendtold_k03_whole_words_written_otherw) (n := 63) (k := 5) (x := "script") (CX := fun _ => L2.CX0) (sp := fun w => DL.spLaw _) rfl (by decide) rfl ⟨rfl, by decide, by decide⟩ (fun w h Y => PySem.W.kIn_of Y) ?F (fun _ _ a ns hl _ hS => ⟨a, ns, rfl, hS, hl, fun _ => rfl⟩) (fun _ _ _ _ _ h => h)
  case F =>
    intro w mg fa h KX G hmg
    refine' K03.all_mk KX G hmg ?a1 ?l1 ?c1 ?k1 ?a2 ?l2 ?c2 ?k2 ?a3 ?l3 ?c3 ?k3 ?a4 ?l4 ?c4 ?k4 ?a5 ?l5 ?c5 ?k5 ?a6 ?l6 ?c6 ?k6 ?a7 ?l7 ?c7 ?k7 ?a8 ?l8 ?c8 ?k8 ?a9 ?l9 ?c9 ?k9 ?a10 ?l10 ?c10 ?k10 ?a11 ?l11 ?c11 ?k11 ?a12 ?l12 ?c12 ?k12 ?a13 ?l13 ?c13 ?k13 ?a14 ?l14 ?c14 ?k14 ?a15 ?l15 ?c15 ?k15 ?a16 ?l16 ?c16 ?k16 ?a17 ?l17 ?c17 ?k17 ?a18 ?l18 ?c18 ?k18 ?a19 ?l19 ?c19 ?k19 ?z1 ?z2 ?z3 ?z4 ?z5 ?z6 ?z7 ?z8 ?z9 ?z10
    (case a1 => k_is); (case l1 => k_is); (case c1 => k_is); (case k1 => k_is); (case a2 => k_is); (case l2 => k_is); (case c2 => k_is); (case k2 => k_is); (case a3 => k_is); (case l3 => k_is); (case c3 => k_is); (case k3 => k_is); (case a4 => k_is); (case l4 => k_is); (case c4 => k_is); (case k4 => k_is); (case a5 => k_is); (case l5 => k_is); (case c5 => k_is); (case k5 => k_is); (case a6 => k_is); (case l6 => k_is); (case c6 => k_is); (case k6 => k_is); (case a7 => k_is); (case l7 => k_is); (case c7 => k_is); (case k7 => k_is); (case a8 => k_is); (case l8 => k_is); (case c8 => k_is); (case k8 => k_is); (case a9 => k_is); (case l9 => k_is); (case c9 => k_is); (case k9 => k_is); (case a10 => k_is); (case l10 => k_is); (case c10 => k_is); (case k10 => k_is); (case a11 => k_is); (case l11 => k_is); (case c11 => k_is); (case k11 => k_is); (case a12 => k_is); (case l12 => k_is); (case c12 => k_is); (case k12 => k_is); (case a13 => k_is); (case l13 => k_is); (case c13 => k_is); (case k13 => k_is); (case a14 => k_is); (case l14 => k_is); (case c14 => k_is); (case k14 => k_is); (case a15 => k_is); (case l15 => k_is); (case c15 => k_is); (case k15 => k_is); (case a16 => k_is); (case l16 => k_is); (case c16 => k_is); (case k16 => k_is); (case a17 => k_is); (case l17 => k_is); (case c17 => k_is); (case k17 => k_is); (case a18 => k_is); (case l18 => k_is); (case c18 => k_is); (case k18 => k_is); (case a19 => k_is); (case l19 => k_is); (case c19 => k_is); (case k19 => k_is); (case z1 => k_is); (case z2 => k_is); (case z3 => k_is); (case z4 => k_is); (case z5 => k_is); (case z6 => k_is); (case z7 => k_is); (case z8 => k_is); (case z9 => k_is); (case z10 => k_is)

