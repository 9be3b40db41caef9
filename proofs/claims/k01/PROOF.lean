import PyProof.Rows.All
import Wide.All
import OpenK.AllK
import Wide.FinOn
import HandS.ForMost
import HandS.Wide
import HandS.Style
import HandS.Conv
import HandS.Gcd
import KE.KMathG
import KE.KMathGC
import PySem.Challenge.RW_unendtold_k01_words
set_option Elab.async false
set_option linter.all false
set_option maxRecDepth 100000
/-! A logic of data over the hand layer: expressions and statements speak of trees of data, the heap stays behind. -/
namespace DL
open PySem PySem.Spec PyProof.Rows L2

/-! ### readings as such -/
section
variable {X : Cx}
def cE (X : Cx) (e : Expr) : TE := fun σ H Q => ∀ (pins : List (Addr × Obj)) (s : Shared), Inv X pins σ H s → wpAny (model X.prog X.w) X.A (eval e X.env) (EP X pins σ Q) X.xe s
def cT (X : Cx) (e : Expr) : TT := fun σ H Q => ∀ (pins : List (Addr × Obj)) (s : Shared), Inv X pins σ H s → wpAny (model X.prog X.w) X.A (isTrue e X.env (eval e X.env)) (TP X pins σ Q) X.xe s
def cA (X : Cx) (es : List Expr) : TA := fun σ H Q => ∀ (pos : Pos) (pins : List (Addr × Obj)) (s : Shared), Inv X pins σ H s → wpAny (model X.prog X.w) X.A (spliced (backTo pos (starEach es X.env))) (AP X pins σ Q) X.xe s
def cS (X : Cx) (st : Stmt) : TS := fun D σ H => ∀ (pins : List (Addr × Obj)) (s : Shared), Inv X pins σ H s → wpAny (model X.prog X.w) X.A (exec st X.env) (SP X pins D) X.xe s
def cSs (X : Cx) (st : List Stmt) : TS := fun D σ H => ∀ (pins : List (Addr × Obj)) (s : Shared), Inv X pins σ H s → wpAny (model X.prog X.w) X.A (execs st X.env) (SP X pins D) X.xe s
def cG (X : Cx) (tg : Expr) : TG := fun v σ H Q => ∀ (pins : List (Addr × Obj)) (s : Shared) (u : Value), Inv X pins σ H s → RelV v u →
  wpAny (model X.prog X.w) X.A (assign tg X.env u) (fun _ s' => ∃ σ' H', Inv X pins σ' H' s' ∧ Q σ' H') X.xe s
def cI (X : Cx) (tg iter : Expr) : TI := fun σ H R => ∀ (pins : List (Addr × Obj)) (s : Shared), Inv X pins σ H s →
  wpAny (model X.prog X.w) X.A (eval iter X.env) (fun v s1 => wpAny (model X.prog X.w) X.A (pyIter v) (PIE X pins σ tg R) X.xe s1) X.xe s
theorem pe_c (e : Expr) : PE X e (cE X e) := ⟨fun pins s _ _ _ I h => h pins s I⟩
theorem pt_c (e : Expr) : PT X e (cT X e) := ⟨fun pins s _ _ _ I h => h pins s I⟩
theorem pa_c (es : List Expr) : PA X es (cA X es) := ⟨fun pos pins s _ _ _ I h => h pos pins s I⟩
theorem ps_c (st : Stmt) : PS X st (cS X st) := ⟨fun pins s _ _ _ I h => h pins s I⟩
theorem pss_c (st : List Stmt) : PSs X st (cSs X st) := ⟨fun pins s _ _ _ I h => h pins s I⟩
theorem pg_c (tg : Expr) : PG X tg (cG X tg) := ⟨fun pins s _ _ _ u _ I r h => h pins s u I r⟩
theorem pi_c (tg iter : Expr) : PI X tg iter (cI X tg iter) := ⟨fun pins s _ _ _ I h => h pins s I⟩
theorem ofE {e : Expr} {t : TE} {σ : L2.St} {H : Hp} {Q : VK} (p : PE X e t) (h : t σ H Q) : cE X e σ H Q := fun pins s I => p.run pins s σ H Q I h
theorem ofT {e : Expr} {t : TT} {σ : L2.St} {H : Hp} {Q : Bool → Hp → Prop} (p : PT X e t) (h : t σ H Q) : cT X e σ H Q := fun pins s I => p.run pins s σ H Q I h
theorem ofA {es : List Expr} {t : TA} {σ : L2.St} {H : Hp} {Q : List V → Hp → Prop} (p : PA X es t) (h : t σ H Q) : cA X es σ H Q := fun pos pins s I => p.run pos pins s σ H Q I h
theorem ofS {st : Stmt} {t : TS} {σ : L2.St} {H : Hp} {D : Ends} (p : PS X st t) (h : t D σ H) : cS X st D σ H := fun pins s I => p.run pins s σ H D I h
theorem ofSs {st : List Stmt} {t : TS} {σ : L2.St} {H : Hp} {D : Ends} (p : PSs X st t) (h : t D σ H) : cSs X st D σ H := fun pins s I => p.run pins s σ H D I h
theorem ofG {tg : Expr} {t : TG} {v : V} {σ : L2.St} {H : Hp} {Q : L2.St → Hp → Prop} (p : PG X tg t) (h : t v σ H Q) : cG X tg v σ H Q := fun pins s u I r => p.run pins s σ H v u Q I r h
theorem ofI {tg iter : Expr} {t : TI} {σ : L2.St} {H : Hp} {R : It → Hp → Prop} (p : PI X tg iter t) (h : t σ H R) : cI X tg iter σ H R := fun pins s I => p.run pins s σ H R I h
end

/-! ### data and what stands for it -/
def keyD : Key → PyData
  | .inl i => .int i
  | .inr x => .str x
mutual
inductive Rep (K : PySem.W.Frag) (B : Hp) : V → PyData → Prop
  | non : Rep K B .non .none
  | bl (b : Bool) : Rep K B (.bl b) (.bool b)
  | int (i : Int) : Rep K B (.int i) (.int i)
  | str (x : Str) : Rep K B (.str x) (.str x)
  | tup {a : Addr} {vs : List V} {ds : List PyData} : SqT K B a vs → Reps K B vs ds → Rep K B (.ref a) (.tuple ds)
  | obj {a : Addr} {o : HO} {d : PyData} : B a = some o → ObjR K B o d → Rep K B (.ref a) d
inductive ObjR (K : PySem.W.Frag) (B : Hp) : HO → PyData → Prop
  | lst {vs : List V} {ds : List PyData} : Reps K B vs ds → ObjR K B (.lst vs) (.list ds)
  | dT {kvs : List (List Key × V)} {ps : List (PyData × PyData)} : RepT K B kvs ps → ObjR K B (.dT kvs) (.dict ps)
  | dK {kvs : List (Key × V)} {ps : List (PyData × PyData)} : RepK K B kvs ps → ObjR K B (.dK kvs) (.dict ps)
inductive Reps (K : PySem.W.Frag) (B : Hp) : List V → List PyData → Prop
  | nil : Reps K B [] []
  | cons {v : V} {vs : List V} {d : PyData} {ds : List PyData} : Rep K B v d → Reps K B vs ds → Reps K B (v :: vs) (d :: ds)
inductive RepT (K : PySem.W.Frag) (B : Hp) : List (List Key × V) → List (PyData × PyData) → Prop
  | nil : RepT K B [] []
  | cons {k : List Key} {v : V} {kvs : List (List Key × V)} {d : PyData} {ps : List (PyData × PyData)} : Rep K B v d → RepT K B kvs ps → RepT K B ((k, v) :: kvs) ((.tuple (k.map keyD), d) :: ps)
inductive RepK (K : PySem.W.Frag) (B : Hp) : List (Key × V) → List (PyData × PyData) → Prop
  | nil : RepK K B [] []
  | cons {k : Key} {v : V} {kvs : List (Key × V)} {d : PyData} {ps : List (PyData × PyData)} : Rep K B v d → RepK K B kvs ps → RepK K B ((k, v) :: kvs) ((keyD k, d) :: ps)
end
theorem sqT_mono {K : PySem.W.Frag} {B B' : Hp} (e : Same B B') {a : Addr} {xs : List V} (h : SqT K B a xs) : SqT K B' a xs := by
  rcases h with (h | ⟨o, h⟩) | h
  · exact .inl (.inl (e _ _ h))
  · exact .inl (.inr ⟨o, e _ _ h⟩)
  · exact .inr h
section
variable {K : PySem.W.Frag} {B B' : Hp}
mutual
theorem Rep.mono (e : Same B B') : ∀ {v : V} {d : PyData}, Rep K B v d → Rep K B' v d
  | _, _, .non => .non
  | _, _, .bl b => .bl b
  | _, _, .int i => .int i
  | _, _, .str x => .str x
  | _, _, .tup h r => .tup (sqT_mono e h) (Reps.mono e r)
  | _, _, .obj h r => .obj (e _ _ h) (ObjR.mono e r)
theorem ObjR.mono (e : Same B B') : ∀ {o : HO} {d : PyData}, ObjR K B o d → ObjR K B' o d
  | _, _, .lst r => .lst (Reps.mono e r)
  | _, _, .dT r => .dT (RepT.mono e r)
  | _, _, .dK r => .dK (RepK.mono e r)
theorem Reps.mono (e : Same B B') : ∀ {vs : List V} {ds : List PyData}, Reps K B vs ds → Reps K B' vs ds
  | _, _, .nil => .nil
  | _, _, .cons h r => .cons (Rep.mono e h) (Reps.mono e r)
theorem RepT.mono (e : Same B B') : ∀ {kvs : List (List Key × V)} {ps : List (PyData × PyData)}, RepT K B kvs ps → RepT K B' kvs ps
  | _, _, .nil => .nil
  | _, _, .cons h r => .cons (Rep.mono e h) (RepT.mono e r)
theorem RepK.mono (e : Same B B') : ∀ {kvs : List (Key × V)} {ps : List (PyData × PyData)}, RepK K B kvs ps → RepK K B' kvs ps
  | _, _, .nil => .nil
  | _, _, .cons h r => .cons (Rep.mono e h) (RepK.mono e r)
end
theorem Reps.length : ∀ {vs : List V} {ds : List PyData}, Reps K B vs ds → vs.length = ds.length
  | _, _, .nil => rfl
  | _, _, .cons _ r => by rw [List.length_cons, List.length_cons, Reps.length r]
theorem Reps.get : ∀ {vs : List V} {ds : List PyData} {i : Nat} {d : PyData}, Reps K B vs ds → ds[i]? = some d → ∃ v, vs[i]? = some v ∧ Rep K B v d
  | _, _, _, _, .nil, h => by simp at h
  | _, _, 0, _, .cons r _, h => by simp at h; subst h; exact ⟨_, rfl, r⟩
  | _, _, i + 1, _, .cons _ t, h => by
    obtain ⟨v, a, b⟩ := Reps.get (i := i) t (by simpa using h)
    exact ⟨v, by simpa using a, b⟩
theorem Reps.getV : ∀ {vs : List V} {ds : List PyData} {i : Nat} {v : V}, Reps K B vs ds → vs[i]? = some v → ∃ d, ds[i]? = some d ∧ Rep K B v d
  | _, _, _, _, .nil, h => by simp at h
  | _, _, 0, _, .cons r _, h => by simp at h; subst h; exact ⟨_, rfl, r⟩
  | _, _, i + 1, _, .cons _ t, h => by
    obtain ⟨v, a, b⟩ := Reps.getV (i := i) t (by simpa using h)
    exact ⟨v, by simpa using a, b⟩
theorem Reps.append : ∀ {vs ws : List V} {ds es : List PyData}, Reps K B vs ds → Reps K B ws es → Reps K B (vs ++ ws) (ds ++ es)
  | _, _, _, _, .nil, s => s
  | _, _, _, _, .cons r t, s => .cons r (Reps.append t s)
theorem Reps.take : ∀ {vs : List V} {ds : List PyData} (n : Nat), Reps K B vs ds → Reps K B (vs.take n) (ds.take n)
  | _, _, 0, _ => .nil
  | _, _, _ + 1, .nil => .nil
  | _, _, n + 1, .cons r t => .cons r (Reps.take n t)
theorem Reps.drop : ∀ {vs : List V} {ds : List PyData} (n : Nat), Reps K B vs ds → Reps K B (vs.drop n) (ds.drop n)
  | _, _, 0, r => r
  | _, _, _ + 1, .nil => .nil
  | _, _, n + 1, .cons r t => Reps.drop n t
theorem Reps.set : ∀ {vs : List V} {ds : List PyData} {v : V} {d : PyData} (i : Nat), Reps K B vs ds → Rep K B v d → Reps K B (vs.set i v) (ds.set i d)
  | _, _, _, _, _, .nil, _ => .nil
  | _, _, _, _, 0, .cons _ t, q => .cons q t
  | _, _, _, _, i + 1, .cons r t, q => .cons r (Reps.set i t q)
theorem Reps.ints : ∀ {vs : List V} {ns : List Int}, Reps K B vs (ns.map PyData.int) → vs = ns.map V.int
  | _, [], h => by cases h; rfl
  | _, n :: ns, h => by
    cases h with
    | cons r t =>
      rw [Reps.ints t]
      cases r with
      | int i => rfl
      | obj _ q => cases q
theorem Reps.ofInts : ∀ ns : List Int, Reps K B (ns.map V.int) (ns.map PyData.int)
  | [] => .nil
  | n :: ns => .cons (.int n) (Reps.ofInts ns)
theorem Reps.bls : ∀ {vs : List V} {bs : List Bool}, Reps K B vs (bs.map PyData.bool) → vs = bs.map V.bl
  | _, [], h => by cases h; rfl
  | _, n :: ns, h => by
    cases h with
    | cons r t =>
      rw [Reps.bls t]
      cases r with
      | bl i => rfl
      | obj _ q => cases q
theorem Rep.int_inv {v : V} {i : Int} (h : Rep K B v (.int i)) : v = .int i := by
  cases h with
  | int i => rfl
  | obj _ q => cases q
theorem Rep.bl_inv {v : V} {i : Bool} (h : Rep K B v (.bool i)) : v = .bl i := by
  cases h with
  | bl i => rfl
  | obj _ q => cases q
theorem Rep.non_inv {v : V} (h : Rep K B v .none) : v = .non := by
  cases h with
  | non => rfl
  | obj _ q => cases q
theorem Rep.str_inv {v : V} {i : Str} (h : Rep K B v (.str i)) : v = .str i := by
  cases h with
  | str i => rfl
  | obj _ q => cases q
theorem Rep.lst_inv {v : V} {ds : List PyData} (h : Rep K B v (.list ds)) : ∃ a vs, v = .ref a ∧ B a = some (.lst vs) ∧ Reps K B vs ds := by
  cases h with
  | obj e q =>
    cases q with
    | lst r => exact ⟨_, _, rfl, e, r⟩
theorem Rep.tup_inv {v : V} {ds : List PyData} (h : Rep K B v (.tuple ds)) : ∃ a vs, v = .ref a ∧ SqT K B a vs ∧ Reps K B vs ds := by
  cases h with
  | tup e r => exact ⟨_, _, rfl, e, r⟩
  | obj e q => cases q
mutual
theorem Rep.dp : ∀ (d : PyData) (v : V), Rep K B v d → d.canLay0 = true → Dp K B v d
  | .none, _, h, _ => by rw [h.non_inv]; exact .non
  | .bool b, _, h, _ => by rw [h.bl_inv]; exact .bl b
  | .int b, _, h, _ => by rw [h.int_inv]; exact .int b
  | .str b, _, h, _ => by rw [h.str_inv]; exact .str b
  | .list ds, _, h, c => by
    obtain ⟨a, vs, rfl, e, r⟩ := h.lst_inv
    exact .lst (SqL.of e) (Reps.dp ds vs r (by simpa [PyData.canLay0] using c))
  | .tuple ds, _, h, c => by
    obtain ⟨a, vs, rfl, e, r⟩ := h.tup_inv
    exact .tup e (Reps.dp ds vs r (by simpa [PyData.canLay0] using c))
  | .dict _, _, _, c => by simp [PyData.canLay0] at c
theorem Reps.dp : ∀ (ds : List PyData) (vs : List V), Reps K B vs ds → PyData.canLayAll0 ds = true → DpAll K B vs ds
  | [], _, h, _ => by cases h; exact .nil
  | d :: ds, _, h, c => by
    cases h with
    | cons r t =>
      have c2 : d.canLay0 = true ∧ PyData.canLayAll0 ds = true := by simpa [PyData.canLayAll0] using c
      exact .cons (Rep.dp d _ r c2.1) (Reps.dp ds _ t c2.2)
end
end

/-! ### the heap without some objects -/
def cut (M : List Addr) (H : Hp) : Hp := fun a => if a ∈ M then none else H a
theorem cut_in {M : List Addr} {H : Hp} {a : Addr} (h : a ∈ M) : cut M H a = none := if_pos h
theorem cut_out {M : List Addr} {H : Hp} {a : Addr} (h : a ∉ M) : cut M H a = H a := if_neg h
theorem cut_some {M : List Addr} {H : Hp} {a : Addr} {o : HO} (h : cut M H a = some o) : a ∉ M ∧ H a = some o := by
  unfold cut at h
  by_cases q : a ∈ M
  · rw [if_pos q] at h; cases h
  · rw [if_neg q] at h; exact ⟨q, h⟩
theorem cut_same {M M' : List Addr} {H H' : Hp} (h : ∀ a o, a ∉ M → H a = some o → a ∉ M' ∧ H' a = some o) : Same (cut M H) (cut M' H') := fun a o e => by
  obtain ⟨p, q⟩ := cut_some e
  obtain ⟨p', q'⟩ := h a o p q
  rw [cut_out p', q']
theorem cut_le (M : List Addr) (H : Hp) : Same (cut M H) H := fun a o e => (cut_some e).2
theorem cut_upd {M : List Addr} {H : Hp} {a : Addr} {o : HO} (h : a ∈ M) : cut M (upd H a o) = cut M H := by
  funext b
  by_cases q : b ∈ M
  · rw [cut_in q, cut_in q]
  · rw [cut_out q, cut_out q, upd_ne (fun e => q (by rw [e]; exact h))]
theorem cut_nil {H : Hp} : cut [] H = H := by
  funext b
  exact cut_out (by simp)

/-! ### the state that is drawn from -/
def StOK (H : Hp) (a : Addr) : Prop := ∃ (x p : Int) (L : Addr) (z : Int) (ns : List Int),
  H a = some (.lst [.int x, .int p, .ref L, .int z]) ∧ H L = some (.lst (ns.map V.int)) ∧ 0 ≤ x ∧ 0 ≤ p ∧ 0 ≤ z ∧ z < 2147483647 ∧ ns.length ≤ 1000
theorem StOK.mono {H H' : Hp} {a : Addr} (e : Same H H') (h : StOK H a) : StOK H' a := by
  obtain ⟨x, p, L, z, ns, h1, h2, r⟩ := h
  exact ⟨x, p, L, z, ns, e _ _ h1, e _ _ h2, r⟩

/-- st: the state that is drawn from, where there is one; M: what may be changed by others -/
structure Cfg where
  st : Option Addr
  M : List Addr
  hst : ∀ a, st = some a → a ∈ M

/-- an expression's step: nothing that was tracked changes but the state -/
structure Tr (C : Cfg) (H H' : Hp) : Prop where
  keep : ∀ a o, C.st ≠ some a → H a = some o → H' a = some o
  ok : ∀ a, C.st = some a → ∀ O, StOK (cut O H) a → StOK (cut O H') a
theorem Tr.refl {C : Cfg} (H : Hp) : Tr C H H := ⟨fun _ _ _ h => h, fun _ _ _ h => h⟩
theorem Tr.trans {C : Cfg} {H H1 H2 : Hp} (a : Tr C H H1) (b : Tr C H1 H2) : Tr C H H2 := ⟨fun x o n h => b.keep x o n (a.keep x o n h), fun x n O h => b.ok x n O (a.ok x n O h)⟩
theorem Tr.of {C : Cfg} {H H1 : Hp} (a : Same H H1) : Tr C H H1 := ⟨fun x o _ h => a x o h, fun x _ O h => h.mono (cut_same fun b o n q => ⟨n, a b o q⟩)⟩
theorem same_new {H : Hp} {p : Addr} {o : HO} (h : H p = none) : Same H (upd H p o) := fun b x e => by
  rw [upd_ne (ne_of_none e h)]
  exact e
theorem Tr.new {C : Cfg} {H : Hp} {p : Addr} {o : HO} (h : H p = none) : Tr C H (upd H p o) := .of (same_new h)
theorem Tr.cutS {C : Cfg} {H H1 : Hp} (t : Tr C H H1) (O : List Addr) : Same (cut (O ++ C.M) H) (cut (O ++ C.M) H1) :=
  cut_same fun a o n h => ⟨n, t.keep a o (fun e => n (List.mem_append_right _ (C.hst a e))) h⟩
theorem Tr.cutM {C : Cfg} {H H1 : Hp} (t : Tr C H H1) : Same (cut C.M H) (cut C.M H1) :=
  cut_same fun a o n h => ⟨n, t.keep a o (fun e => n (C.hst a e)) h⟩
theorem Tr.none {C : Cfg} {H H1 : Hp} (t : Tr C H H1) {p : Addr} (hp : H1 p = none) (hn : C.st ≠ some p) : H p = none := by
  cases q : H p with
  | none => rfl
  | some o => rw [t.keep p o hn q] at hp; cases hp
/-! ### slots -/
/-- what is known of a slot: nothing; data; a list or dict of the def's own that it may change; just this value -/
inductive Sl where
  | u | d (x : PyData) | own (x : PyData) | r (v : V)
inductive Slot (K : PySem.W.Frag) (B H : Hp) : Option V → Sl → List Addr → Prop
  | u {o : Option V} : Slot K B H o .u []
  | d {v : V} {x : PyData} : Rep K B v x → Slot K B H (some v) (.d x) []
  | r {v : V} : Slot K B H (some v) (.r v) []
  | own {p : Addr} {o : HO} {x : PyData} : H p = some o → ObjR K B o x → Slot K B H (some (.ref p)) (.own x) [p]
inductive Slots (K : PySem.W.Frag) (B H : Hp) : L2.St → List Sl → List Addr → Prop
  | nil : Slots K B H [] [] []
  | cons {o : Option V} {s : Sl} {F O : List Addr} {σ : L2.St} {sl : List Sl} : Slot K B H o s F → Slots K B H σ sl O → Slots K B H (o :: σ) (s :: sl) (F ++ O)
section
variable {K : PySem.W.Frag} {B B' H H' : Hp}
theorem Slot.mono {o : Option V} {s : Sl} {F : List Addr} (e : Same B B') (h : ∀ a ∈ F, ∀ x, H a = some x → H' a = some x) (q : Slot K B H o s F) : Slot K B' H' o s F := by
  cases q with
  | u => exact .u
  | d r => exact .d (r.mono e)
  | r => exact .r
  | own a b => exact .own (h _ (by simp) _ a) (b.mono e)
theorem Slots.mono (e : Same B B') : ∀ {σ : L2.St} {sl : List Sl} {O : List Addr}, (∀ a ∈ O, ∀ x, H a = some x → H' a = some x) → Slots K B H σ sl O → Slots K B' H' σ sl O
  | _, _, _, _, .nil => .nil
  | _, _, _, h, .cons a b => .cons (a.mono e fun x m => h x (List.mem_append_left _ m)) (Slots.mono e (fun x m => h x (List.mem_append_right _ m)) b)
theorem Slots.set {o : Option V} {s : Sl} {F : List Addr} (q : Slot K B H o s F) (hF : F.Nodup) {σ : L2.St} {sl : List Sl} {O : List Addr} (h : Slots K B H σ sl O) : ∀ (i : Nat), (∀ a ∈ F, a ∉ O) → O.Nodup →
    ∃ O', Slots K B H (σ.set i o) (sl.set i s) O' ∧ O'.Nodup ∧ ∀ a ∈ O', a ∈ O ∨ a ∈ F := by
  induction h with
  | nil => exact fun i _ n => ⟨[], .nil, n, fun a h => absurd h (by simp)⟩
  | @cons o₀ s₀ F₀ O₀ σ sl a b ih =>
    intro i d n
    rw [List.nodup_append] at n
    cases i with
    | zero =>
      refine ⟨F ++ O₀, .cons q b, ?_, fun x h => ?_⟩
      · rw [List.nodup_append]
        exact ⟨hF, n.2.1, fun x h y h' e => d x h (List.mem_append_right _ (e ▸ h'))⟩
      · rcases List.mem_append.mp h with h | h
        · exact .inr h
        · exact .inl (List.mem_append_right _ h)
    | succ i =>
      obtain ⟨O', s', n', m'⟩ := ih i (fun x h h' => d x h (List.mem_append_right _ h')) n.2.1
      refine ⟨F₀ ++ O', .cons a s', ?_, fun x h => ?_⟩
      · rw [List.nodup_append]
        refine ⟨n.1, n', fun x h y h' e => ?_⟩
        rcases m' y h' with z | z
        · exact n.2.2 x h y z e
        · exact d y z (List.mem_append_left _ (e ▸ h))
      · rcases List.mem_append.mp h with h | h
        · exact .inl (List.mem_append_left _ h)
        · rcases m' x h with z | z
          · exact .inl (List.mem_append_right _ z)
          · exact .inr z
theorem Slots.len : ∀ {σ : L2.St} {sl : List Sl} {O : List Addr}, Slots K B H σ sl O → σ.length = sl.length
  | _, _, _, .nil => rfl
  | _, _, _, .cons _ b => by rw [List.length_cons, List.length_cons, Slots.len b]
theorem Slots.getD : ∀ {σ : L2.St} {sl : List Sl} {O : List Addr} {i : Nat} {x : PyData}, Slots K B H σ sl O → sl[i]? = some (.d x) → ∃ v, σ[i]? = some (some v) ∧ Rep K B v x
  | _, _, _, _, _, .nil, h => by simp at h
  | _, _, _, 0, _, .cons a _, h => by
    simp at h
    subst h
    cases a with
    | d r => exact ⟨_, rfl, r⟩
  | _, _, _, i + 1, _, .cons _ b, h => by
    obtain ⟨v, p, q⟩ := Slots.getD (i := i) b (by simpa using h)
    exact ⟨v, by simpa using p, q⟩
theorem Slots.getR : ∀ {σ : L2.St} {sl : List Sl} {O : List Addr} {i : Nat} {x : V}, Slots K B H σ sl O → sl[i]? = some (.r x) → σ[i]? = some (some x)
  | _, _, _, _, _, .nil, h => by simp at h
  | _, _, _, 0, _, .cons a _, h => by
    simp at h
    subst h
    cases a with
    | r => rfl
  | _, _, _, i + 1, _, .cons _ b, h => by
    have p := Slots.getR (i := i) b (by simpa using h)
    simpa using p
theorem Slots.getO : ∀ {σ : L2.St} {sl : List Sl} {O : List Addr} {i : Nat} {x : PyData}, Slots K B H σ sl O → sl[i]? = some (.own x) → ∃ p o, σ[i]? = some (some (.ref p)) ∧ H p = some o ∧ ObjR K B o x ∧ p ∈ O
  | _, _, _, _, _, .nil, h => by simp at h
  | _, _, _, 0, _, .cons a _, h => by
    simp at h
    subst h
    cases a with
    | own e r => exact ⟨_, _, rfl, e, r, by simp⟩
  | _, _, _, i + 1, _, .cons _ b, h => by
    obtain ⟨p, o, h1, h2, h3, h4⟩ := Slots.getO (i := i) b (by simpa using h)
    exact ⟨p, o, by simpa using h1, h2, h3, List.mem_append_right _ h4⟩
/-- an own object changes -/
theorem Slots.mut {o' : HO} {y : PyData} (q : ObjR K B o' y) {p : Addr} {σ : L2.St} {sl : List Sl} {O : List Addr} (h : Slots K B H σ sl O) : ∀ {i : Nat} {x : PyData}, O.Nodup → sl[i]? = some (.own x) → σ[i]? = some (some (.ref p)) →
    Slots K B (upd H p o') σ (sl.set i (.own y)) O ∧ p ∈ O := by
  induction h with
  | nil => intro i x n h; simp at h
  | @cons o₀ s₀ F₀ O₀ σ sl a b ih =>
    intro i x n h e
    cases i with
    | zero =>
      simp at h e
      subst h e
      cases a with
      | own a1 a2 =>
        refine ⟨.cons (.own upd_same q) (b.mono (Same.refl B) fun z hz u hu => ?_), by simp⟩
        rw [upd_ne]
        · exact hu
        · intro e
          subst e
          exact (List.nodup_append.mp n).2.2 z (by simp) z hz rfl
    | succ i =>
      obtain ⟨s', m⟩ := ih (i := i) (List.nodup_append.mp n).2.1 (by simpa using h) (by simpa using e)
      refine ⟨.cons (a.mono (Same.refl B) fun z hz u hu => ?_) s', List.mem_append_right _ m⟩
      rw [upd_ne]
      · exact hu
      · intro e
        subst e
        exact (List.nodup_append.mp n).2.2 z hz z m rfl
end

structure EnvOk (K : PySem.W.Frag) (C : Cfg) (H : Hp) (σ : L2.St) (sl : List Sl) (O : List Addr) : Prop where
  slots : ∃ O1, Slots K (cut (O ++ C.M) H) H σ sl O1 ∧ O1.Nodup ∧ ∀ a ∈ O1, a ∈ O
  dj : ∀ a ∈ O, a ∉ C.M
  to : ∀ a ∈ O, H a ≠ none
  tm : ∀ a ∈ C.M, H a ≠ none
  ok : ∀ a, C.st = some a → StOK (cut O H) a
/-- a statement's step -/
structure Step (C : Cfg) (O : List Addr) (H : Hp) (O' : List Addr) (H' : Hp) : Prop where
  keep : ∀ a o, C.st ≠ some a → a ∉ O → H a = some o → H' a = some o
  old : ∀ a ∈ O', a ∈ O ∨ H a = none
  ok : ∀ a, C.st = some a → ∀ Ox, StOK (cut Ox H) a → StOK (cut Ox H') a
  ns : ∀ a ∈ O', C.st ≠ some a
section
variable {K : PySem.W.Frag} {C : Cfg} {H H' H1 H2 : Hp} {σ : L2.St} {sl : List Sl} {O O1 O2 : List Addr}
theorem EnvOk.fresh (E : EnvOk K C H σ sl O) {p : Addr} (h : H p = none) : p ∉ O ∧ p ∉ C.M := ⟨fun z => E.to p z h, fun z => E.tm p z h⟩
theorem EnvOk.notSt (E : EnvOk K C H σ sl O) {p : Addr} (h : p ∈ O) : C.st ≠ some p := fun e => E.dj p h (C.hst p e)
theorem EnvOk.tr (E : EnvOk K C H σ sl O) (t : Tr C H H') : EnvOk K C H' σ sl O := by
  obtain ⟨O1, s, n, m⟩ := E.slots
  refine ⟨⟨O1, s.mono (t.cutS O) (fun a h x e => t.keep a x (E.notSt (m a h)) e), n, m⟩, E.dj, fun a h => ?_, fun a h => ?_, fun a e => t.ok a e O (E.ok a e)⟩
  · cases q : H a with
    | none => exact absurd q (E.to a h)
    | some o => rw [t.keep a o (E.notSt h) q]; simp
  · by_cases e : C.st = some a
    · have z := t.ok a e O (E.ok a e)
      obtain ⟨x, p, L, z, ns, h1, _⟩ := z
      rw [cut_le _ _ _ _ h1]
      simp
    · cases q : H a with
      | none => exact absurd q (E.tm a h)
      | some o => rw [t.keep a o e q]; simp
/-- one more object that is kept out -/
theorem EnvOk.add (E : EnvOk K C H σ sl O) {p : Addr} {o : HO} (h : H p = none) : EnvOk K C (upd H p o) σ sl (p :: O) := by
  have E1 := E.tr (Tr.new (o := o) h)
  obtain ⟨n1, n2⟩ := E.fresh h
  obtain ⟨O1, s, n, m⟩ := E.slots
  refine ⟨⟨O1, s.mono (cut_same fun a u na e => ⟨?_, ?_⟩) (fun a ha x e => ?_), n, fun a h => List.mem_cons_of_mem _ (m a h)⟩, fun a ha => ?_, fun a ha => ?_, E1.tm, fun a e => ?_⟩
  · intro z
    rcases List.mem_append.mp z with z | z
    · rcases List.mem_cons.mp z with rfl | z
      · rw [h] at e; cases e
      · exact na (List.mem_append_left _ z)
    · exact na (List.mem_append_right _ z)
  · rw [upd_ne (ne_of_none e h)]; exact e
  · rw [upd_ne (ne_of_none e h)]; exact e
  · rcases List.mem_cons.mp ha with rfl | z
    · exact n2
    · exact E.dj a z
  · rcases List.mem_cons.mp ha with rfl | z
    · rw [upd_same]; simp
    · exact E1.to a z
  · refine (E.ok a e).mono (cut_same fun b u nb q => ⟨?_, ?_⟩)
    · intro z
      rcases List.mem_cons.mp z with rfl | z
      · rw [h] at q; cases q
      · exact nb z
    · rw [upd_ne (ne_of_none q h)]; exact q
theorem Step.refl (E : EnvOk K C H σ sl O) : Step C O H O H := ⟨fun _ _ _ _ h => h, fun _ h => .inl h, fun _ _ _ h => h, fun _ h => E.notSt h⟩
theorem Step.tr (E : EnvOk K C H σ sl O) (t : Tr C H H') : Step C O H O H' := ⟨fun a o n _ h => t.keep a o n h, fun _ h => .inl h, fun a e Ox h => t.ok a e Ox h, fun _ h => E.notSt h⟩
theorem Step.trans (a : Step C O H O1 H1) (b : Step C O1 H1 O2 H2) : Step C O H O2 H2 := by
  refine ⟨fun x o n m h => b.keep x o n (fun z => ?_) (a.keep x o n m h), fun x h => ?_, fun x e Ox h => b.ok x e Ox (a.ok x e Ox h), b.ns⟩
  · rcases a.old x z with z | z
    · exact m z
    · rw [h] at z; cases z
  · rcases b.old x h with z | z
    · exact a.old x z
    · cases q : H x with
      | none => exact .inr rfl
      | some o =>
        by_cases hx : x ∈ O
        · exact .inl hx
        · rw [a.keep x o (b.ns x h) hx q] at z; cases z
/-- what was known and not the def's own stays -/
theorem Step.cutS (a : Step C O H O1 H1) : Same (cut (O ++ C.M) H) (cut (O1 ++ C.M) H1) := cut_same fun x o n h => by
  rw [List.mem_append] at n
  refine ⟨fun z => ?_, a.keep x o (fun e => n (.inr (C.hst x e))) (fun z => n (.inl z)) h⟩
  rcases List.mem_append.mp z with z | z
  · rcases a.old x z with y | y
    · exact n (.inl y)
    · rw [h] at y; cases y
  · exact n (.inr z)
/-- a slot is set to data -/
theorem EnvOk.setD (E : EnvOk K C H σ sl O) {v : V} {d : PyData} (r : Rep K (cut (O ++ C.M) H) v d) (i : Nat) : EnvOk K C H (σ.set i (some v)) (sl.set i (.d d)) O := by
  obtain ⟨O1, s, n, m⟩ := E.slots
  obtain ⟨O2, s2, n2, m2⟩ := Slots.set (F := []) (.d r) List.nodup_nil s i (fun a h => absurd h (by simp)) n
  exact ⟨⟨O2, s2, n2, fun a h => (m2 a h).elim (m a) fun z => absurd z (by simp)⟩, E.dj, E.to, E.tm, E.ok⟩
theorem EnvOk.setU (E : EnvOk K C H σ sl O) (o : Option V) (i : Nat) : EnvOk K C H (σ.set i o) (sl.set i .u) O := by
  obtain ⟨O1, s, n, m⟩ := E.slots
  obtain ⟨O2, s2, n2, m2⟩ := Slots.set (F := []) .u List.nodup_nil s i (fun a h => absurd h (by simp)) n
  exact ⟨⟨O2, s2, n2, fun a h => (m2 a h).elim (m a) fun z => absurd z (by simp)⟩, E.dj, E.to, E.tm, E.ok⟩
theorem EnvOk.setR (E : EnvOk K C H σ sl O) (v : V) (i : Nat) : EnvOk K C H (σ.set i (some v)) (sl.set i (.r v)) O := by
  obtain ⟨O1, s, n, m⟩ := E.slots
  obtain ⟨O2, s2, n2, m2⟩ := Slots.set (F := []) .r List.nodup_nil s i (fun a h => absurd h (by simp)) n
  exact ⟨⟨O2, s2, n2, fun a h => (m2 a h).elim (m a) fun z => absurd z (by simp)⟩, E.dj, E.to, E.tm, E.ok⟩
/-- a slot is set to a new object of the def's own: p was not tracked ahead of this step -/
theorem EnvOk.setO (E : EnvOk K C H σ sl O) (t : Tr C H H1) {p : Addr} {o : HO} {d : PyData} (hp : H p = none) (ho : H1 p = some o) (r : ObjR K (cut (p :: (O ++ C.M)) H1) o d) (i : Nat) :
    EnvOk K C H1 (σ.set i (some (.ref p))) (sl.set i (.own d)) (p :: O) ∧ Step C O H (p :: O) H1 := by
  obtain ⟨n1, n2⟩ := E.fresh hp
  have ns : C.st ≠ some p := fun e => n2 (C.hst p e)
  have E1 := E.tr t
  obtain ⟨O1, s, n, m⟩ := E.slots
  have s1 : Slots K (cut (p :: (O ++ C.M)) H1) H1 σ sl O1 := s.mono (cut_same fun a u na e => by
    refine ⟨fun z => ?_, t.keep a u (fun e => na (List.mem_append_right _ (C.hst a e))) e⟩
    rcases List.mem_cons.mp z with rfl | z
    · rw [hp] at e; cases e
    · exact na z) (fun a h x e => t.keep a x (E.notSt (m a h)) e)
  obtain ⟨O2, s2, nd2, m2⟩ := Slots.set (F := [p]) (.own ho r) (by simp) s1 i (fun a h => by
    rw [List.mem_singleton] at h
    subst h
    exact fun z => n1 (m _ z)) n
  refine ⟨⟨⟨O2, s2, nd2, fun a h => ?_⟩, fun a h => ?_, fun a h => ?_, E1.tm, fun a e => ?_⟩, ⟨fun a u n _ h => t.keep a u n h, fun a h => ?_, fun a e Ox h => t.ok a e Ox h, fun a h => ?_⟩⟩
  · rcases m2 a h with z | z
    · exact List.mem_cons_of_mem _ (m a z)
    · rw [List.mem_singleton] at z; rw [z]; exact List.mem_cons_self
  · rcases List.mem_cons.mp h with rfl | z
    · exact n2
    · exact E.dj a z
  · rcases List.mem_cons.mp h with rfl | z
    · rw [ho]; simp
    · exact E1.to a z
  · refine t.ok a e (p :: O) ((E.ok a e).mono (cut_same fun b u nb q => ⟨fun z => ?_, q⟩))
    rcases List.mem_cons.mp z with rfl | z
    · rw [hp] at q; cases q
    · exact nb z
  · rcases List.mem_cons.mp h with rfl | z
    · exact .inr hp
    · exact .inl z
  · rcases List.mem_cons.mp h with rfl | z
    · exact ns
    · exact E.notSt z
/-- an own object is changed -/
theorem EnvOk.mut (E : EnvOk K C H σ sl O) {i : Nat} {x y : PyData} {p : Addr} {o : HO} (h1 : sl[i]? = some (.own x)) (h2 : σ[i]? = some (some (.ref p))) (r : ObjR K (cut (O ++ C.M) H) o y) :
    EnvOk K C (upd H p o) σ (sl.set i (.own y)) O ∧ Step C O H O (upd H p o) := by
  obtain ⟨O1, s, n, m⟩ := E.slots
  obtain ⟨s2, mp⟩ := Slots.mut r s n h1 h2
  have hp := m p mp
  have ec : cut (O ++ C.M) (upd H p o) = cut (O ++ C.M) H := cut_upd (List.mem_append_left _ hp)
  have nst := E.notSt hp
  have tr : ∀ a, H a ≠ none → upd H p o a ≠ none := fun a h => by
    by_cases e : a = p
    · subst e; rw [upd_same]; simp
    · rw [upd_ne e]; exact h
  refine ⟨⟨⟨O1, by rw [ec]; exact s2, n, m⟩, E.dj, fun a h => tr a (E.to a h), fun a h => tr a (E.tm a h), fun a e => ?_⟩, ⟨fun a u _ na h => ?_, fun a h => .inl h, fun a e Ox h => ?_, fun a h => E.notSt h⟩⟩
  · rw [cut_upd hp]; exact E.ok a e
  · rw [upd_ne (fun z => na (by rw [z]; exact hp))]; exact h
  · obtain ⟨x1, p1, L1, z1, ns1, g1, g2, g3⟩ := E.ok a e
    obtain ⟨x2, p2, L2', z2, ns2, k1, k2, k3⟩ := h
    have eL : L1 = L2' := by
      have a1 := (cut_some g1).2
      have a2 := (cut_some k1).2
      rw [a1] at a2
      injection a2 with a2
      injection a2 with a2
      injection a2 with _ a2
      injection a2 with _ a2
      injection a2 with a2 _
      injection a2
    have nL : L2' ≠ p := fun z => (cut_some g2).1 (by rw [eL, z]; exact hp)
    have na : a ≠ p := fun z => nst (by rw [← z]; exact e)
    refine ⟨x2, p2, L2', z2, ns2, ?_, ?_, k3⟩
    · rw [cut_out (cut_some k1).1, upd_ne na]; exact (cut_some k1).2
    · rw [cut_out (cut_some k2).1, upd_ne nL]; exact (cut_some k2).2
/-- an own object becomes plain data, never to be changed again -/
theorem EnvOk.freeze (E : EnvOk K C H σ sl O) {i : Nat} {x : PyData} (h1 : sl[i]? = some (.own x)) : ∃ O', EnvOk K C H σ (sl.set i (.d x)) O' ∧ Step C O H O' H := by
  obtain ⟨O1, s, n, m⟩ := E.slots
  obtain ⟨p, o, g1, g2, g3, g4⟩ := s.getO h1
  have hp := m p g4
  let O' := O.filter fun a => decide (a ≠ p)
  have sub : ∀ a ∈ O', a ∈ O := fun a h => (List.mem_filter.mp h).1
  have np : p ∉ O' := fun h => by have z := (List.mem_filter.mp h).2; simp at z
  have e1 : Same (cut (O ++ C.M) H) (cut (O' ++ C.M) H) := cut_same fun a u na e => ⟨fun z => na (by
    rcases List.mem_append.mp z with z | z
    · exact List.mem_append_left _ (sub a z)
    · exact List.mem_append_right _ z), e⟩
  have s1 : Slots K (cut (O' ++ C.M) H) H σ sl O1 := s.mono e1 fun _ _ _ h => h
  have rp : Rep K (cut (O' ++ C.M) H) (.ref p) x := .obj (by
    rw [cut_out]
    · exact g2
    · intro z
      rcases List.mem_append.mp z with z | z
      · exact np z
      · exact E.dj p hp z) (g3.mono e1)
  have key : ∀ {σ : L2.St} {sl : List Sl} {O1 : List Addr}, Slots K (cut (O' ++ C.M) H) H σ sl O1 → O1.Nodup → ∀ {i : Nat}, sl[i]? = some (.own x) → σ[i]? = some (some (.ref p)) → ∃ O2, Slots K (cut (O' ++ C.M) H) H σ (sl.set i (.d x)) O2 ∧ O2.Nodup ∧ ∀ a ∈ O2, a ∈ O1 ∧ a ≠ p := by
    intro σ sl O1 s
    induction s with
    | nil => intro _ i h; simp at h
    | @cons o₀ s₀ F₀ O₀ σ sl a b ih =>
      intro n i h e
      rw [List.nodup_append] at n
      cases i with
      | zero =>
        simp at h e
        subst h e
        cases a with
        | own a1 a2 =>
          refine ⟨[] ++ O₀, .cons (.d rp) b, by simpa using n.2.1, fun a h => ⟨List.mem_append_right _ (by simpa using h), fun z => ?_⟩⟩
          exact n.2.2 p (by simp) a (by simpa using h) z.symm
      | succ i =>
        have h' : sl[i]? = some (.own x) := by simpa using h
        have e' : σ[i]? = some (some (.ref p)) := by simpa using e
        obtain ⟨O2, s2, n2, m2⟩ := ih n.2.1 h' e'
        obtain ⟨p', _, q1, _, _, q4⟩ := b.getO h'
        have ep : p' = p := by rw [q1] at e'; simpa using e'
        subst ep
        refine ⟨F₀ ++ O2, .cons a s2, ?_, fun z hz => ?_⟩
        · rw [List.nodup_append]
          exact ⟨n.1, n2, fun x hx y hy e => n.2.2 x hx y (m2 y hy).1 e⟩
        · rcases List.mem_append.mp hz with hz | hz
          · exact ⟨List.mem_append_left _ hz, fun e => n.2.2 z hz p' q4 e⟩
          · exact ⟨List.mem_append_right _ (m2 z hz).1, (m2 z hz).2⟩
  obtain ⟨O2, s2, n2, m2⟩ := key s1 n h1 g1
  refine ⟨O', ⟨⟨O2, s2, n2, fun a h => List.mem_filter.mpr ⟨m a (m2 a h).1, decide_eq_true (m2 a h).2⟩⟩, fun a h => E.dj a (sub a h), fun a h => E.to a (sub a h), E.tm, fun a e => (E.ok a e).mono (cut_same fun b u nb q => ⟨fun z => nb (sub b z), q⟩)⟩,
    ⟨fun _ _ _ _ h => h, fun a h => .inl (sub a h), fun _ _ _ h => h, fun a h => E.notSt (sub a h)⟩⟩
end
end DL
/-! The logic's judgements, and its rules for expressions. -/
namespace DL
open PySem PySem.Spec PyProof.Rows L2

abbrev is (d : PyData) : PyData → Prop := fun x => x = d
abbrev isL (ds : List PyData) : List PyData → Prop := fun x => x = ds
abbrev isB (b : Bool) : Bool → Prop := fun x => x = b

/-- e gives some data of which P holds -/
def EV (C : Cfg) (X : Cx) (e : Expr) (sl : List Sl) (P : PyData → Prop) : Prop :=
  ∀ (σ : L2.St) (H : Hp) (O : List Addr), EnvOk X.K C H σ sl O → ∀ Q : VK, (∀ v H' d, P d → Tr C H H' → Rep X.K (cut (O ++ C.M) H') v d → Q v H') → cE X e σ H Q
/-- the same, but it may lean on what the def will change: to be asked at once -/
def EVB (C : Cfg) (X : Cx) (e : Expr) (sl : List Sl) (P : PyData → Prop) : Prop :=
  ∀ (σ : L2.St) (H : Hp) (O : List Addr), EnvOk X.K C H σ sl O → ∀ Q : VK, (∀ v H' d, P d → Tr C H H' → Rep X.K H' v d → Q v H') → cE X e σ H Q
/-- e gives a new list or dict, no one else's -/
def EVN (C : Cfg) (X : Cx) (e : Expr) (sl : List Sl) (P : PyData → Prop) : Prop :=
  ∀ (σ : L2.St) (H : Hp) (O : List Addr), EnvOk X.K C H σ sl O → ∀ Q : VK, (∀ p o H' d, P d → Tr C H H' → H p = none → H' p = some o → ObjR X.K (cut (p :: (O ++ C.M)) H') o d → Q (.ref p) H') → cE X e σ H Q
def EVT (C : Cfg) (X : Cx) (e : Expr) (sl : List Sl) (P : Bool → Prop) : Prop :=
  ∀ (σ : L2.St) (H : Hp) (O : List Addr), EnvOk X.K C H σ sl O → ∀ Q : Bool → Hp → Prop, (∀ b H', P b → Tr C H H' → Q b H') → cT X e σ H Q
def EVA (C : Cfg) (X : Cx) (es : List Expr) (sl : List Sl) (P : List PyData → Prop) : Prop :=
  ∀ (σ : L2.St) (H : Hp) (O : List Addr), EnvOk X.K C H σ sl O → ∀ Q : List V → Hp → Prop, (∀ vs H' ds, P ds → Tr C H H' → Reps X.K (cut (O ++ C.M) H') vs ds → Q vs H') → cA X es σ H Q

section
variable {C : Cfg} {X : Cx} {e a b c : Expr} {es : List Expr} {sl : List Sl} {P P' Pa Pb Pc : PyData → Prop} {pos : Pos} {K : PySem.W.Frag} {H H' : Hp} {σ : L2.St} {O : List Addr}
theorem EnvOk.var (E : EnvOk K C H σ sl O) {i : Nat} {d : PyData} (h : sl[i]? = some (.d d)) : ∃ v, σ[i]? = some (some v) ∧ Rep K (cut (O ++ C.M) H) v d := by
  obtain ⟨O1, s, _, _⟩ := E.slots
  exact s.getD h
theorem EnvOk.raw (E : EnvOk K C H σ sl O) {i : Nat} {v : V} (h : sl[i]? = some (.r v)) : σ[i]? = some (some v) := by
  obtain ⟨O1, s, _, _⟩ := E.slots
  exact s.getR h
theorem EnvOk.own (E : EnvOk K C H σ sl O) {i : Nat} {d : PyData} (h : sl[i]? = some (.own d)) : ∃ p o, σ[i]? = some (some (.ref p)) ∧ H p = some o ∧ ObjR K (cut (O ++ C.M) H) o d ∧ p ∈ O := by
  obtain ⟨O1, s, n, m⟩ := E.slots
  obtain ⟨p, o, h1, h2, h3, h4⟩ := s.getO h
  exact ⟨p, o, h1, h2, h3, m p h4⟩
theorem EV.imp (h : EV C X e sl P) (k : ∀ d, P d → P' d) : EV C X e sl P' := fun σ H O E Q q => h σ H O E Q fun v H' d p t r => q v H' d (k d p) t r
theorem EVN.imp (h : EVN C X e sl P) (k : ∀ d, P d → P' d) : EVN C X e sl P' := fun σ H O E Q q => h σ H O E Q fun p o H' d pd t n ho r => q p o H' d (k d pd) t n ho r
theorem EV.bo (h : EV C X e sl P) : EVB C X e sl P := fun σ H O E Q q => h σ H O E Q fun v H' d p t r => q v H' d p t (r.mono (cut_le _ _))
theorem EVN.ev (h : EVN C X e sl P) : EV C X e sl P := fun σ H O E Q q => h σ H O E Q fun p o H' d pd t n ho r => by
  obtain ⟨n1, n2⟩ := E.fresh n
  refine q _ _ d pd t (.obj ?_ (r.mono (cut_same fun a u na x => ⟨fun z => na (List.mem_cons_of_mem _ z), x⟩)))
  rw [cut_out (by intro z; exact (List.mem_append.mp z).elim n1 n2)]
  exact ho
theorem EV.eq {d d' : PyData} (h : EV C X e sl (is d)) (k : d = d') : EV C X e sl (is d') := h.imp fun x p => p.trans k
theorem EVT.imp {P P' : Bool → Prop} (h : EVT C X e sl P) (k : ∀ d, P d → P' d) : EVT C X e sl P' := fun σ H O E Q q => h σ H O E Q fun b H' p t => q b H' (k b p) t
theorem EVT.eq {b b' : Bool} (h : EVT C X e sl (isB b)) (k : b = b') : EVT C X e sl (isB b') := h.imp fun x p => p.trans k

/-! names and constants -/
theorem ev_var (i : Nat) {x : Str} {d : PyData} (hs : sl[i]? = some (.d d) := by rfl) (hN : X.N[i]? = some x := by rfl) (hv : Vis X.env.scope x := by first | exact Or.inl rfl | exact Or.inr (Or.inl rfl) | exact Or.inr (Or.inr rfl))
    (hd : (x == ("__debug__" : Str)) = false := by decide) (hcd : (x == ("__classdict__" : Str)) = false := by decide) : EV C X (.Name x pos) sl (is d) := fun σ H O E Q k => by
  obtain ⟨v, h1, h2⟩ := E.var hs
  exact ofE (pe_var hN hv hd hcd) ⟨v, h1, k v H d rfl (Tr.refl H) h2⟩
/-- a list or dict of the def's own, asked at once -/
theorem eb_own (i : Nat) {x : Str} {d : PyData} (hs : sl[i]? = some (.own d) := by rfl) (hN : X.N[i]? = some x := by rfl) (hv : Vis X.env.scope x := by first | exact Or.inl rfl | exact Or.inr (Or.inl rfl) | exact Or.inr (Or.inr rfl))
    (hd : (x == ("__debug__" : Str)) = false := by decide) (hcd : (x == ("__classdict__" : Str)) = false := by decide) : EVB C X (.Name x pos) sl (is d) := fun σ H O E Q k => by
  obtain ⟨p, o, h1, h2, h3, h4⟩ := E.own hs
  exact ofE (pe_var hN hv hd hcd) ⟨.ref p, h1, k _ H d rfl (Tr.refl H) (.obj h2 (h3.mono (cut_le _ _)))⟩
theorem ev_int {i : Int} {j : Nat} : EV C X (.Constant (.int i) j pos) sl (is (.int i)) := fun σ H O E Q k => ofE pe_int (k _ H _ rfl (Tr.refl H) (.int i))
theorem ev_bl {i : Bool} {j : Nat} : EV C X (.Constant (.bool i) j pos) sl (is (.bool i)) := fun σ H O E Q k => ofE pe_bl (k _ H _ rfl (Tr.refl H) (.bl i))
theorem ev_non {j : Nat} : EV C X (.Constant .none j pos) sl (is .none) := fun σ H O E Q k => ofE pe_non (k _ H _ rfl (Tr.refl H) .non)
theorem ev_str {x : Str} {j : Nat} : EV C X (.Constant (.str x) j pos) sl (is (.str x)) := fun σ H O E Q k => ofE pe_str (k _ H _ rfl (Tr.refl H) (.str x))

/-! operators -/
theorem ev_op {op : Operator} {r : R2} (ho : OpR X (binaryOp op) r) (ha : EV C X a sl Pa) (hb : EV C X b sl Pb)
    (hr : ∀ σ H O x y dx dy, EnvOk X.K C H σ sl O → Pa dx → Pb dy → Rep X.K (cut (O ++ C.M) H) x dx → Rep X.K (cut (O ++ C.M) H) y dy → ∀ Q : VK, (∀ v H' d, P d → Tr C H H' → Rep X.K (cut (O ++ C.M) H') v d → Q v H') → r x y H Q) :
    EV C X (.BinOp a op b pos) sl P := fun σ H O E Q k => ofE (pe_op ho (pe_c a) (pe_c b)) (ha σ H O E _ fun x H1 dx px t1 r1 => hb σ H1 O (E.tr t1) _ fun y H2 dy py t2 r2 =>
  hr σ H2 O x y dx dy ((E.tr t1).tr t2) px py (r1.mono (t2.cutS O)) r2 Q fun v H3 d p t3 r3 => k v H3 d p ((t1.trans t2).trans t3) r3)
theorem ev_i2 {op : Operator} {g : Int → Int → Int} (ho : OpR X (binaryOp op) (rI0 fun i j => .int (g i j))) (ha : EV C X a sl Pa) (hb : EV C X b sl Pb) (h : ∀ dx dy, Pa dx → Pb dy → ∃ i j, dx = .int i ∧ dy = .int j ∧ P (.int (g i j))) :
    EV C X (.BinOp a op b pos) sl P := ev_op ho ha hb fun σ H O x y dx dy E px py rx ry Q k => by
  obtain ⟨i, j, rfl, rfl, p⟩ := h dx dy px py
  exact ⟨i, j, rx.int_inv, ry.int_inv, k _ H _ p (Tr.refl H) (.int _)⟩
theorem ev_i2c {op : Operator} {Cn : Int → Int → Prop} {g : Int → Int → Int} (ho : OpR X (binaryOp op) (rI Cn fun i j => .int (g i j))) (ha : EV C X a sl Pa) (hb : EV C X b sl Pb) (h : ∀ dx dy, Pa dx → Pb dy → ∃ i j, dx = .int i ∧ dy = .int j ∧ Cn i j ∧ P (.int (g i j))) :
    EV C X (.BinOp a op b pos) sl P := ev_op ho ha hb fun σ H O x y dx dy E px py rx ry Q k => by
  obtain ⟨i, j, rfl, rfl, c, p⟩ := h dx dy px py
  exact ⟨i, j, rx.int_inv, ry.int_inv, c, k _ H _ p (Tr.refl H) (.int _)⟩
variable {i j : Int}
theorem ev_add (ha : EV C X a sl (is (.int i))) (hb : EV C X b sl (is (.int j))) : EV C X (.BinOp a .Add b pos) sl (is (.int (i + j))) := ev_i2 op_add ha hb fun _ _ p q => ⟨i, j, p, q, rfl⟩
theorem ev_sub (ha : EV C X a sl (is (.int i))) (hb : EV C X b sl (is (.int j))) : EV C X (.BinOp a .Sub b pos) sl (is (.int (i - j))) := ev_i2 op_sub ha hb fun _ _ p q => ⟨i, j, p, q, rfl⟩
theorem ev_mul (ha : EV C X a sl (is (.int i))) (hb : EV C X b sl (is (.int j))) (h : CMul i j) : EV C X (.BinOp a .Mult b pos) sl (is (.int (i * j))) := ev_i2c op_mul ha hb fun _ _ p q => ⟨i, j, p, q, h, rfl⟩
theorem ev_mulW (ha : EV C X a sl (is (.int i))) (hb : EV C X b sl (is (.int j))) (h : CMulW i j) : EV C X (.BinOp a .Mult b pos) sl (is (.int (i * j))) := ev_i2c op_mulW ha hb fun _ _ p q => ⟨i, j, p, q, h, rfl⟩
theorem ev_mod (ha : EV C X a sl (is (.int i))) (hb : EV C X b sl (is (.int j))) (h : 0 < j) : EV C X (.BinOp a .Mod b pos) sl (is (.int (i % j))) := ev_i2c op_mod ha hb fun _ _ p q => ⟨i, j, p, q, h, rfl⟩
theorem ev_fdiv (ha : EV C X a sl (is (.int i))) (hb : EV C X b sl (is (.int j))) (h : CDiv i j) : EV C X (.BinOp a .FloorDiv b pos) sl (is (.int (i / j))) := ev_i2c op_fdiv ha hb fun _ _ p q => ⟨i, j, p, q, h, rfl⟩
theorem ev_pow (ha : EV C X a sl (is (.int i))) (hb : EV C X b sl (is (.int j))) (h : CPow i j) : EV C X (.BinOp a .Pow b pos) sl (is (.int (i ^ j.toNat))) := ev_i2c op_pow ha hb fun _ _ p q => ⟨i, j, p, q, h, rfl⟩
theorem ev_neg (ha : EV C X a sl (is (.int i))) : EV C X (.UnaryOp .USub a pos) sl (is (.int (-i))) := fun σ H O E Q k => ofE (pe_un un_neg (pe_c a)) (ha σ H O E _ fun x H1 dx px t1 r1 => by
  have px : dx = .int i := px
  subst px
  exact ⟨i, r1.int_inv, k _ H1 _ rfl t1 (.int _)⟩)
/-- a new object from two -/
theorem obj_new (E : EnvOk X.K C H σ sl O) {o : HO} {d : PyData} {p : Addr} (hp : H p = none) (r : ObjR X.K (cut (O ++ C.M) H) o d) : ObjR X.K (cut (p :: (O ++ C.M)) (upd H p o)) o d := r.mono (cut_same fun a u na x => by
  refine ⟨fun z => ?_, ?_⟩
  · rcases List.mem_cons.mp z with rfl | z
    · rw [hp] at x; cases x
    · exact na z
  · rw [upd_ne (ne_of_none x hp)]; exact x)
theorem en_cat {xs ys : List PyData} (ha : EV C X a sl (is (.list xs))) (hb : EV C X b sl (is (.list ys))) (hz : xs.length + ys.length ≤ 1000000) : EVN C X (.BinOp a .Add b pos) sl (is (.list (xs ++ ys))) := fun σ H O E Q k =>
  ofE (pe_op op_cat (pe_c a) (pe_c b)) (ha σ H O E _ fun x H1 dx px t1 r1 => hb σ H1 O (E.tr t1) _ fun y H2 dy py t2 r2 => by
    have px : dx = .list xs := px
    have py : dy = .list ys := py
    subst px py
    obtain ⟨p1, vs, rfl, h1, s1⟩ := (r1.mono (t2.cutS O)).lst_inv
    obtain ⟨p2, ws, rfl, h2, s2⟩ := r2.lst_inv
    refine ⟨p1, p2, vs, ws, rfl, rfl, (cut_some h1).2, (cut_some h2).2, ?_, fun p hp => ?_⟩
    · rw [s1.length, s2.length]; exact Nat.le_trans hz (by decide)
    · have E2 := (E.tr t1).tr t2
      exact k p _ _ _ rfl ((t1.trans t2).trans (Tr.new hp)) ((t1.trans t2).none hp fun e => (E2.fresh hp).2 (C.hst p e)) upd_same (obj_new E2 hp (.lst (s1.append s2))))
theorem ev_catT {xs ys : List PyData} (ha : EV C X a sl (is (.tuple xs))) (hb : EV C X b sl (is (.tuple ys))) (h0 : xs ≠ []) (hz : xs.length + ys.length ≤ 1000000) : EV C X (.BinOp a .Add b pos) sl (is (.tuple (xs ++ ys))) :=
  ev_op op_catT ha hb fun σ H O x y dx dy E px py rx ry Q k => by
    have px : dx = .tuple xs := px
    have py : dy = .tuple ys := py
    subst px py
    obtain ⟨p1, vs, rfl, h1, s1⟩ := rx.tup_inv
    obtain ⟨p2, ws, rfl, h2, s2⟩ := ry.tup_inv
    refine ⟨p1, p2, vs, ws, rfl, rfl, sqT_mono (cut_le _ _) h1, sqT_mono (cut_le _ _) h2, fun e => ?_, ?_, fun e => ?_, fun _ p hp => ?_⟩
    · subst e; cases s1; exact h0 rfl
    · rw [s1.length, s2.length]; exact Nat.le_trans hz (by decide)
    · subst e
      cases s2
      rw [List.append_nil] at k
      exact k _ H _ rfl (Tr.refl H) rx
    · have n := E.fresh hp
      have e1 : Same (cut (O ++ C.M) H) (cut (O ++ C.M) (upd H p (.tup (vs ++ ws)))) := (Tr.new (C := C) hp).cutS O
      refine k _ _ _ rfl (Tr.new hp) (.tup (.inl (.inl ?_)) ((s1.append s2).mono e1))
      rw [cut_out (by intro z; exact (List.mem_append.mp z).elim n.1 n.2), upd_same]
end
end DL
/-! Comparisons, tests, subscripts, slices, built-ins. -/
namespace DL
open PySem PySem.Spec PyProof.Rows L2
def cW (X : Cx) (e : Expr) : TT := fun σ H Q => ∀ (whole : Sem Value) (pins : List (Addr × Obj)) (s : Shared), Inv X pins σ H s → wpAny (model X.prog X.w) X.A (isTrue e X.env whole) (TP X pins σ Q) X.xe s
theorem pw_c {X : Cx} (e : Expr) : PW X e (cW X e) := ⟨fun whole pins s _ _ _ I h => h whole pins s I⟩
theorem ofW {X : Cx} {e : Expr} {t : TT} {σ : L2.St} {H : Hp} {Q : Bool → Hp → Prop} (p : PW X e t) (h : t σ H Q) : cW X e σ H Q := fun whole pins s I => p.run whole pins s σ H Q I h
def EVW (C : Cfg) (X : Cx) (e : Expr) (sl : List Sl) (P : Bool → Prop) : Prop :=
  ∀ (σ : L2.St) (H : Hp) (O : List Addr), EnvOk X.K C H σ sl O → ∀ Q : Bool → Hp → Prop, (∀ b H', P b → Tr C H H' → Q b H') → cW X e σ H Q
def cO (X : Cx) (e : Option Expr) : TO := fun σ H Q => ∀ (pins : List (Addr × Obj)) (s : Shared), Inv X pins σ H s → wpAny (model X.prog X.w) X.A (evalPart e X.env) (fun u s' => ∃ o H', Inv X pins σ H' s' ∧ IsPart u o ∧ Q o H') X.xe s
theorem po_c {X : Cx} (e : Option Expr) : PO X e (cO X e) := ⟨fun pins s _ _ _ I h => h pins s I⟩
theorem ofO {X : Cx} {e : Option Expr} {t : TO} {σ : L2.St} {H : Hp} {Q : Option Int → Hp → Prop} (p : PO X e t) (h : t σ H Q) : cO X e σ H Q := fun pins s I => p.run pins s σ H Q I h
def EVO (C : Cfg) (X : Cx) (e : Option Expr) (sl : List Sl) (o : Option Int) : Prop :=
  ∀ (σ : L2.St) (H : Hp) (O : List Addr), EnvOk X.K C H σ sl O → ∀ Q : Option Int → Hp → Prop, (∀ H', Tr C H H' → Q o H') → cO X e σ H Q

section
variable {C : Cfg} {X : Cx} {e a b c : Expr} {es : List Expr} {sl : List Sl} {P P' Pa Pb Pc : PyData → Prop} {pos : Pos} {K : PySem.W.Frag} {H H' : Hp} {σ : L2.St} {O : List Addr} {i j : Int}
/-! ### comparisons -/
/-- a comparison whose answer is a bool that hangs on the data alone -/
theorem et_cmp {op : CmpOp} {r : R2} {T : Bool → Prop} (ho : OpR X (compareOp op) r) (ha : EV C X a sl Pa) (hb : EVB C X b sl Pb) (hm : behindInMarks op b = false)
    (hr : ∀ H x y dx dy, Pa dx → Pb dy → Rep X.K H x dx → Rep X.K H y dy → ∃ t, T t ∧ ∀ Q : VK, Q (.bl t) H → r x y H Q) : EVT C X (.Compare a [op] [b] pos) sl T := fun σ H O E Q k =>
  ofT (pt_cmpR ho (pe_c a) (pe_c b) hm) (ha σ H O E _ fun x H1 dx px t1 r1 => hb σ H1 O (E.tr t1) _ fun y H2 dy py t2 r2 => by
    obtain ⟨t, pt, q⟩ := hr H2 x y dx dy px py ((r1.mono (t2.cutS O)).mono (cut_le _ _)) r2
    exact q _ ⟨t, rfl, k t H2 pt (t1.trans t2)⟩)
theorem ev_cmp {op : CmpOp} {r : R2} {T : Bool → Prop} (ho : OpR X (compareOp op) r) (ha : EV C X a sl Pa) (hb : EVB C X b sl Pb) (hm : behindInMarks op b = false)
    (hr : ∀ H x y dx dy, Pa dx → Pb dy → Rep X.K H x dx → Rep X.K H y dy → ∃ t, T t ∧ ∀ Q : VK, Q (.bl t) H → r x y H Q) : EV C X (.Compare a [op] [b] pos) sl (fun d => ∃ t, T t ∧ d = .bool t) := fun σ H O E Q k =>
  ofE (pe_cmpR ho (pe_c a) (pe_c b) hm) (ha σ H O E _ fun x H1 dx px t1 r1 => hb σ H1 O (E.tr t1) _ fun y H2 dy py t2 r2 => by
    obtain ⟨t, pt, q⟩ := hr H2 x y dx dy px py ((r1.mono (t2.cutS O)).mono (cut_le _ _)) r2
    exact q _ (k _ H2 _ ⟨t, pt, rfl⟩ (t1.trans t2) (.bl t)))
/-- the same where the left side, too, may be the def's own -/
theorem et_cmpB {op : CmpOp} {r : R2} {T : Bool → Prop} (ho : OpR X (compareOp op) r) (i : Nat) {x : Str} {d : PyData} {px : Pos} (hs : sl[i]? = some (.own d)) (hN : X.N[i]? = some x) (hv : Vis X.env.scope x) (hb : EVB C X b sl Pb) (hm : behindInMarks op b = false)
    (hr : ∀ H x y dy, Pb dy → Rep X.K H x d → Rep X.K H y dy → ∃ t, T t ∧ ∀ Q : VK, Q (.bl t) H → r x y H Q)
    (hd : (x == ("__debug__" : Str)) = false := by decide) (hcd : (x == ("__classdict__" : Str)) = false := by decide) : EVT C X (.Compare (.Name x px) [op] [b] pos) sl T := fun σ H O E Q k => by
  obtain ⟨p, o, h1, h2, h3, h4⟩ := E.own hs
  refine ofT (pt_cmpR ho (pe_var hN hv hd hcd) (pe_c b) hm) ⟨.ref p, h1, hb σ H O E _ fun y H2 dy py t2 r2 => ?_⟩
  have h2' : H2 p = some o := t2.keep _ _ (E.notSt h4) h2
  obtain ⟨t, pt, q⟩ := hr H2 (.ref p) y dy py (.obj h2' ((h3.mono (t2.cutS O)).mono (cut_le _ _))) r2
  exact q _ ⟨t, rfl, k t H2 pt t2⟩
theorem i2b {g : Int → Int → Bool} : ∀ (H : Hp) (x y : V) (dx dy : PyData), is (.int i) dx → is (.int j) dy → Rep X.K H x dx → Rep X.K H y dy → ∃ t, isB (g i j) t ∧ ∀ Q : VK, Q (.bl t) H → rI0 (fun i j => .bl (g i j)) x y H Q := fun H x y dx dy px py rx ry => by
  have px : dx = .int i := px
  have py : dy = .int j := py
  subst px py
  exact ⟨g i j, rfl, fun Q q => ⟨i, j, rx.int_inv, ry.int_inv, q⟩⟩
theorem et_lt (ha : EV C X a sl (is (.int i))) (hb : EV C X b sl (is (.int j))) : EVT C X (.Compare a [.Lt] [b] pos) sl (isB (decide (i < j))) := et_cmp op_lt ha hb.bo (nomark _) (i2b (g := fun i j => decide (i < j)))
theorem et_le (ha : EV C X a sl (is (.int i))) (hb : EV C X b sl (is (.int j))) : EVT C X (.Compare a [.LtE] [b] pos) sl (isB (decide (i ≤ j))) := et_cmp op_le ha hb.bo (nomark _) (i2b (g := fun i j => decide (i ≤ j)))
theorem et_gt (ha : EV C X a sl (is (.int i))) (hb : EV C X b sl (is (.int j))) : EVT C X (.Compare a [.Gt] [b] pos) sl (isB (decide (j < i))) := et_cmp op_gt ha hb.bo (nomark _) (i2b (g := fun i j => decide (j < i)))
theorem et_ge (ha : EV C X a sl (is (.int i))) (hb : EV C X b sl (is (.int j))) : EVT C X (.Compare a [.GtE] [b] pos) sl (isB (decide (j ≤ i))) := et_cmp op_ge ha hb.bo (nomark _) (i2b (g := fun i j => decide (j ≤ i)))
theorem rel_eqD {d1 d2 : PyData} (s1 : SeqAt.shaped d1 = true) (s2 : SeqAt.shaped d2 = true) : ∀ (H : Hp) (x y : V) (dx dy : PyData), is d1 dx → is d2 dy → Rep X.K H x dx → Rep X.K H y dy → ∃ t, isB (PyData.eqv d1 d2) t ∧ ∀ Q : VK, Q (.bl t) H → rEqD X.K x y H Q := fun H x y dx dy px py rx ry => by
  have px : dx = d1 := px
  have py : dy = d2 := py
  subst px py
  refine ⟨_, rfl, fun Q q => ⟨dx, dy, Rep.dp _ _ rx ?_, Rep.dp _ _ ry ?_, s1, s2, q⟩⟩
  · unfold SeqAt.shaped at s1; exact (Bool.and_eq_true _ _ ▸ s1).1
  · unfold SeqAt.shaped at s2; exact (Bool.and_eq_true _ _ ▸ s2).1
theorem rel_neD {d1 d2 : PyData} (s1 : SeqAt.shaped d1 = true) (s2 : SeqAt.shaped d2 = true) : ∀ (H : Hp) (x y : V) (dx dy : PyData), is d1 dx → is d2 dy → Rep X.K H x dx → Rep X.K H y dy → ∃ t, isB (!PyData.eqv d1 d2) t ∧ ∀ Q : VK, Q (.bl t) H → rNeD X.K x y H Q := fun H x y dx dy px py rx ry => by
  have px : dx = d1 := px
  have py : dy = d2 := py
  subst px py
  refine ⟨_, rfl, fun Q q => ⟨dx, dy, Rep.dp _ _ rx ?_, Rep.dp _ _ ry ?_, s1, s2, q⟩⟩
  · unfold SeqAt.shaped at s1; exact (Bool.and_eq_true _ _ ▸ s1).1
  · unfold SeqAt.shaped at s2; exact (Bool.and_eq_true _ _ ▸ s2).1
/-- == and != of data -/
theorem et_eq (hu : X.A.units + 64 < cLine) {d1 d2 : PyData} (ha : EV C X a sl (is d1)) (hb : EVB C X b sl (is d2)) (s1 : SeqAt.shaped d1 = true) (s2 : SeqAt.shaped d2 = true) : EVT C X (.Compare a [.Eq] [b] pos) sl (isB (PyData.eqv d1 d2)) :=
  et_cmp (op_eqD hu) ha hb (nomark _) (rel_eqD s1 s2)
theorem et_ne (hu : X.A.units + 64 < cLine) {d1 d2 : PyData} (ha : EV C X a sl (is d1)) (hb : EVB C X b sl (is d2)) (s1 : SeqAt.shaped d1 = true) (s2 : SeqAt.shaped d2 = true) : EVT C X (.Compare a [.NotEq] [b] pos) sl (isB (!PyData.eqv d1 d2)) :=
  et_cmp (op_neD hu) ha hb (nomark _) (rel_neD s1 s2)
/-- of two ints -/
theorem i2eq : ∀ (H : Hp) (x y : V) (dx dy : PyData), is (.int i) dx → is (.int j) dy → Rep X.K H x dx → Rep X.K H y dy → ∃ t, isB (decide (i = j)) t ∧ ∀ Q : VK, Q (.bl t) H → rEq x y H Q := fun H x y dx dy px py rx ry => by
  have px : dx = .int i := px
  have py : dy = .int j := py
  subst px py
  rw [rx.int_inv, ry.int_inv]
  refine ⟨decide (i = j), rfl, fun Q q => ⟨rfl, ?_⟩⟩
  have e : decide (V.int i = V.int j) = decide (i = j) := by simp
  rw [e]; exact q
theorem i2ne : ∀ (H : Hp) (x y : V) (dx dy : PyData), is (.int i) dx → is (.int j) dy → Rep X.K H x dx → Rep X.K H y dy → ∃ t, isB (decide (i ≠ j)) t ∧ ∀ Q : VK, Q (.bl t) H → rNe x y H Q := fun H x y dx dy px py rx ry => by
  have px : dx = .int i := px
  have py : dy = .int j := py
  subst px py
  rw [rx.int_inv, ry.int_inv]
  refine ⟨decide (i ≠ j), rfl, fun Q q => ⟨rfl, ?_⟩⟩
  have e : (!decide (V.int i = V.int j)) = decide (i ≠ j) := by simp
  rw [e]; exact q
theorem et_eqI (ha : EV C X a sl (is (.int i))) (hb : EV C X b sl (is (.int j))) : EVT C X (.Compare a [.Eq] [b] pos) sl (isB (decide (i = j))) := et_cmp op_eq ha hb.bo (nomark _) i2eq
theorem et_neI (ha : EV C X a sl (is (.int i))) (hb : EV C X b sl (is (.int j))) : EVT C X (.Compare a [.NotEq] [b] pos) sl (isB (decide (i ≠ j))) := et_cmp op_ne ha hb.bo (nomark _) i2ne
theorem EV.bool {T : Bool → Prop} {t : Bool} (h : EV C X e sl (fun d => ∃ t, T t ∧ d = .bool t)) (k : ∀ u, T u → u = t) : EV C X e sl (is (.bool t)) := h.imp fun d p => by
  obtain ⟨u, p1, rfl⟩ := p
  rw [k u p1]
theorem ev_eqI (ha : EV C X a sl (is (.int i))) (hb : EV C X b sl (is (.int j))) : EV C X (.Compare a [.Eq] [b] pos) sl (is (.bool (decide (i = j)))) := (ev_cmp op_eq ha hb.bo (nomark _) i2eq).bool fun _ p => p
theorem ev_neI (ha : EV C X a sl (is (.int i))) (hb : EV C X b sl (is (.int j))) : EV C X (.Compare a [.NotEq] [b] pos) sl (is (.bool (decide (i ≠ j)))) := (ev_cmp op_ne ha hb.bo (nomark _) i2ne).bool fun _ p => p
theorem ev_lt (ha : EV C X a sl (is (.int i))) (hb : EV C X b sl (is (.int j))) : EV C X (.Compare a [.Lt] [b] pos) sl (is (.bool (decide (i < j)))) := (ev_cmp op_lt ha hb.bo (nomark _) (i2b (g := fun i j => decide (i < j)))).bool fun _ p => p
theorem ev_le (ha : EV C X a sl (is (.int i))) (hb : EV C X b sl (is (.int j))) : EV C X (.Compare a [.LtE] [b] pos) sl (is (.bool (decide (i ≤ j)))) := (ev_cmp op_le ha hb.bo (nomark _) (i2b (g := fun i j => decide (i ≤ j)))).bool fun _ p => p
theorem ev_eq (hu : X.A.units + 64 < cLine) {d1 d2 : PyData} (ha : EV C X a sl (is d1)) (hb : EVB C X b sl (is d2)) (s1 : SeqAt.shaped d1 = true) (s2 : SeqAt.shaped d2 = true) : EV C X (.Compare a [.Eq] [b] pos) sl (is (.bool (PyData.eqv d1 d2))) :=
  (ev_cmp (op_eqD hu) ha hb (nomark _) (rel_eqD s1 s2)).bool fun _ p => p
theorem ev_ne (hu : X.A.units + 64 < cLine) {d1 d2 : PyData} (ha : EV C X a sl (is d1)) (hb : EVB C X b sl (is d2)) (s1 : SeqAt.shaped d1 = true) (s2 : SeqAt.shaped d2 = true) : EV C X (.Compare a [.NotEq] [b] pos) sl (is (.bool (!PyData.eqv d1 d2))) :=
  (ev_cmp (op_neD hu) ha hb (nomark _) (rel_neD s1 s2)).bool fun _ p => p
/-- x is True, x is False of a bool -/
theorem ev_isB {t u : Bool} (ha : EV C X a sl (is (.bool t))) (hb : EV C X b sl (is (.bool u))) : EV C X (.Compare a [.Is] [b] pos) sl (is (.bool (decide (t = u)))) := (ev_cmp (T := isB (decide (t = u))) op_isBl ha hb.bo (nomark _) (fun H x y dx dy px py rx ry => by
  have px : dx = .bool t := px
  have py : dy = .bool u := py
  subst px py
  exact ⟨_, rfl, fun Q q => ⟨t, u, rx.bl_inv, ry.bl_inv, q⟩⟩)).bool fun _ p => p
theorem et_isB {t u : Bool} (ha : EV C X a sl (is (.bool t))) (hb : EV C X b sl (is (.bool u))) : EVT C X (.Compare a [.Is] [b] pos) sl (isB (decide (t = u))) := et_cmp (T := isB (decide (t = u))) op_isBl ha hb.bo (nomark _) (fun H x y dx dy px py rx ry => by
  have px : dx = .bool t := px
  have py : dy = .bool u := py
  subst px py
  exact ⟨_, rfl, fun Q q => ⟨t, u, rx.bl_inv, ry.bl_inv, q⟩⟩)

/-! ### tests -/
theorem et_val {t : Bool} (h : EV C X e sl (is (.bool t))) (he : ∀ whole, isTrue e X.env whole = (do let v ← whole; standAt e.pos; holding [v] (truthy v)) := by intro _; rfl) : EVT C X e sl (isB t) := fun σ H O E Q k =>
  ofT (pt_val (pe_c e) he) (h σ H O E _ fun v H1 d p t1 r1 => by
    have p : d = .bool t := p
    subst p
    exact ⟨t, r1.bl_inv, k t H1 rfl t1⟩)
theorem et_valP {T : Bool → Prop} (h : EV C X e sl (fun d => ∃ t, T t ∧ d = .bool t)) (he : ∀ whole, isTrue e X.env whole = (do let v ← whole; standAt e.pos; holding [v] (truthy v)) := by intro _; rfl) : EVT C X e sl T := fun σ H O E Q k =>
  ofT (pt_val (pe_c e) he) (h σ H O E _ fun v H1 d p t1 r1 => by
    obtain ⟨t, pt, rfl⟩ := p
    exact ⟨t, r1.bl_inv, k t H1 pt t1⟩)
theorem et_not {t : Bool} (h : EVT C X a sl (isB t)) : EVT C X (.UnaryOp .Not a pos) sl (isB (!t)) := fun σ H O E Q k => ofT (pt_not (pt_c a)) (h σ H O E _ fun b H1 p t1 => by
  have p : b = t := p
  subst p
  exact k _ H1 rfl t1)
theorem ev_not {t : Bool} (h : EV C X a sl (is (.bool t))) : EV C X (.UnaryOp .Not a pos) sl (is (.bool (!t))) := fun σ H O E Q k => ofE (pe_not (pe_c a)) (h σ H O E _ fun v H1 d p t1 r1 => by
  have p : d = .bool t := p
  subst p
  exact ⟨t, r1.bl_inv, k _ H1 _ rfl t1 (.bl _)⟩)
theorem ew_and1 {t : Bool} (h : EVT C X a sl (isB t)) : EVW C X (.BoolOp .And [a] pos) sl (isB t) := fun σ H O E Q k => ofW (pw_and1 (pt_c a)) (h σ H O E Q k)
theorem ew_or1 {t : Bool} (h : EVT C X a sl (isB t)) : EVW C X (.BoolOp .Or [a] pos) sl (isB t) := fun σ H O E Q k => ofW (pw_or1 (pt_c a)) (h σ H O E Q k)
theorem ew_and {t u : Bool} (h : EVT C X a sl (isB t)) (h2 : t = true → EVW C X (.BoolOp .And (b :: es) pos) sl (isB u)) : EVW C X (.BoolOp .And (a :: b :: es) pos) sl (isB (t && u)) := fun σ H O E Q k =>
  ofW (pw_and (pt_c a) (pw_c _)) (h σ H O E _ fun c H1 p t1 => by
    have p : c = t := p
    subst p
    cases c with
    | true =>
      show cW X (.BoolOp .And (b :: es) pos) σ H1 Q
      exact h2 rfl σ H1 O (E.tr t1) Q fun d H2 p2 t2 => by
        have p2 : d = u := p2
        subst p2
        exact k _ H2 (by simp) (t1.trans t2)
    | false =>
      show Q false H1
      exact k _ H1 (by simp) t1)
theorem ew_or {t u : Bool} (h : EVT C X a sl (isB t)) (h2 : t = false → EVW C X (.BoolOp .Or (b :: es) pos) sl (isB u)) : EVW C X (.BoolOp .Or (a :: b :: es) pos) sl (isB (t || u)) := fun σ H O E Q k =>
  ofW (pw_or (pt_c a) (pw_c _)) (h σ H O E _ fun c H1 p t1 => by
    have p : c = t := p
    subst p
    cases c with
    | false => 
      show cW X (.BoolOp .Or (b :: es) pos) σ H1 Q
      exact h2 rfl σ H1 O (E.tr t1) Q fun d H2 p2 t2 => by
        have p2 : d = u := p2
        subst p2
        exact k _ H2 (by simp) (t1.trans t2)
    | true =>
      show Q true H1
      exact k _ H1 (by simp) t1)
theorem EVW.t {T : Bool → Prop} (h : EVW C X e sl T) : EVT C X e sl T := fun σ H O E Q k => ofT (pw_c e).pt (h σ H O E Q k)
theorem ev_one {op : BoolOp} (h : EV C X a sl P) : EV C X (.BoolOp op [a] pos) sl P := fun σ H O E Q k => ofE (pe_one (pe_c a)) (h σ H O E Q k)
theorem ev_and {t u : Bool} (h : EV C X a sl (is (.bool t))) (h2 : t = true → EV C X (.BoolOp .And (b :: es) pos) sl (is (.bool u))) : EV C X (.BoolOp .And (a :: b :: es) pos) sl (is (.bool (t && u))) := fun σ H O E Q k =>
  ofE (pe_and (pe_c a) (pe_c _)) (h σ H O E _ fun v H1 d p t1 r1 => by
    have p : d = .bool t := p
    subst p
    refine ⟨t, r1.bl_inv, ?_⟩
    cases t with
    | true =>
      show cE X (.BoolOp .And (b :: es) pos) σ H1 Q
      exact h2 rfl σ H1 O (E.tr t1) Q fun v2 H2 d2 p2 t2 r2 => by
        have p2 : d2 = .bool u := p2
        subst p2
        exact k _ H2 _ (by simp) (t1.trans t2) r2
    | false =>
      show Q (.bl false) H1
      exact k _ H1 _ (by simp) t1 (.bl false))
theorem ev_or {t u : Bool} (h : EV C X a sl (is (.bool t))) (h2 : t = false → EV C X (.BoolOp .Or (b :: es) pos) sl (is (.bool u))) : EV C X (.BoolOp .Or (a :: b :: es) pos) sl (is (.bool (t || u))) := fun σ H O E Q k =>
  ofE (pe_or (pe_c a) (pe_c _)) (h σ H O E _ fun v H1 d p t1 r1 => by
    have p : d = .bool t := p
    subst p
    refine ⟨t, r1.bl_inv, ?_⟩
    cases t with
    | false =>
      show cE X (.BoolOp .Or (b :: es) pos) σ H1 Q
      exact h2 rfl σ H1 O (E.tr t1) Q fun v2 H2 d2 p2 t2 r2 => by
        have p2 : d2 = .bool u := p2
        subst p2
        exact k _ H2 _ (by simp) (t1.trans t2) r2
    | true =>
      show Q (.bl true) H1
      exact k _ H1 _ (by simp) t1 (.bl true))
theorem ev_ifE {t : Bool} (hc : EVT C X c sl (isB t)) (ha : t = true → EV C X a sl P) (hb : t = false → EV C X b sl P) : EV C X (.IfExp c a b pos) sl P := fun σ H O E Q k => ofE (pe_ifExp (pt_c c) (pe_c a) (pe_c b)) (hc σ H O E _ fun u H1 p t1 => by
  have p : u = t := p
  subst p
  cases u with
  | true =>
    show cE X a σ H1 Q
    exact ha rfl σ H1 O (E.tr t1) Q fun v H2 d p2 t2 r2 => k v H2 d p2 (t1.trans t2) r2
  | false =>
    show cE X b σ H1 Q
    exact hb rfl σ H1 O (E.tr t1) Q fun v H2 d p2 t2 r2 => k v H2 d p2 (t1.trans t2) r2)

/-! ### items, slices -/
theorem atI_rep {B : Hp} {vs : List V} {ds : List PyData} {d : PyData} (r : Reps K B vs ds) (h : atI ds i = some d) : ∃ v, atI vs i = some v ∧ Rep K B v d := by
  unfold atI at h ⊢
  rw [r.length]
  cases q : ixN ds.length i with
  | none => rw [q] at h; cases h
  | some j =>
    rw [q] at h
    exact r.get h
theorem ev_ixL {ds : List PyData} {d : PyData} (ha : EV C X a sl (is (.list ds))) (hb : EV C X b sl (is (.int i))) (h : atI ds i = some d) (hp : PlainIx b := by exact fun _ _ => rfl) : EV C X (.Subscript a b pos) sl (is d) := fun σ H O E Q k =>
  ofE (pe_ix ix_list (pe_c a) (pe_c b) hp) (ha σ H O E _ fun x H1 dx px t1 r1 => hb σ H1 O (E.tr t1) _ fun y H2 dy py t2 r2 => by
    have px : dx = .list ds := px
    have py : dy = .int i := py
    subst px py
    obtain ⟨p1, vs, rfl, h1, s1⟩ := (r1.mono (t2.cutS O)).lst_inv
    obtain ⟨v, h2, r3⟩ := atI_rep s1 h
    exact ⟨p1, vs, i, v, rfl, r2.int_inv, SqL.of (cut_some h1).2, h2, k v H2 d rfl (t1.trans t2) r3⟩)
theorem ev_ixT {ds : List PyData} {d : PyData} (ha : EV C X a sl (is (.tuple ds))) (hb : EV C X b sl (is (.int i))) (h : atI ds i = some d) (hp : PlainIx b := by exact fun _ _ => rfl) : EV C X (.Subscript a b pos) sl (is d) := fun σ H O E Q k =>
  ofE (pe_ix ix_tup (pe_c a) (pe_c b) hp) (ha σ H O E _ fun x H1 dx px t1 r1 => hb σ H1 O (E.tr t1) _ fun y H2 dy py t2 r2 => by
    have px : dx = .tuple ds := px
    have py : dy = .int i := py
    subst px py
    obtain ⟨p1, vs, rfl, h1, s1⟩ := (r1.mono (t2.cutS O)).tup_inv
    obtain ⟨v, h2, r3⟩ := atI_rep s1 h
    exact ⟨p1, vs, i, v, rfl, r2.int_inv, sqT_mono (cut_le _ _) h1, h2, k v H2 d rfl (t1.trans t2) r3⟩)
/-- an item of the def's own list -/
theorem ev_ixO (n : Nat) {x : Str} {px : Pos} {ds : List PyData} {d : PyData} (hb : EV C X b sl (is (.int i))) (h : atI ds i = some d) (hs : sl[n]? = some (.own (.list ds)) := by rfl) (hN : X.N[n]? = some x := by rfl)
    (hv : Vis X.env.scope x := by first | exact Or.inl rfl | exact Or.inr (Or.inl rfl) | exact Or.inr (Or.inr rfl)) (hp : PlainIx b := by exact fun _ _ => rfl)
    (hd : (x == ("__debug__" : Str)) = false := by decide) (hcd : (x == ("__classdict__" : Str)) = false := by decide) : EV C X (.Subscript (.Name x px) b pos) sl (is d) := fun σ H O E Q k => by
  obtain ⟨p, o, h1, h2, h3, h4⟩ := E.own hs
  refine ofE (pe_ix ix_list (pe_var hN hv hd hcd) (pe_c b) hp) ⟨.ref p, h1, hb σ H O E _ fun y H2 dy py t2 r2 => ?_⟩
  have py : dy = .int i := py
  subst py
  cases h3 with
  | lst s1 =>
    obtain ⟨v, h5, r3⟩ := atI_rep (s1.mono (t2.cutS O)) h
    exact ⟨p, _, i, v, rfl, r2.int_inv, SqL.of (t2.keep _ _ (E.notSt h4) h2), h5, k v H2 d rfl t2 r3⟩
/-- the items of xs[lo:hi] -/
def cutL {α : Type} (xs : List α) (lo hi : Option Int) : List α := (xs.drop (HT.sIx xs.length 0 lo)).take (HT.sIx xs.length xs.length hi - HT.sIx xs.length 0 lo)
theorem cut_rep {B : Hp} {vs : List V} {ds : List PyData} (r : Reps K B vs ds) (lo hi : Option Int) : Reps K B (cutV vs lo hi) (cutL ds lo hi) := by
  unfold cutV cutL
  rw [r.length]
  exact (r.drop _).take _
theorem eo_none : EVO C X none sl none := fun σ H O E Q k => ofO po_none (k H (Tr.refl H))
theorem eo_some (h : EV C X e sl (is (.int i))) : EVO C X (some e) sl (some i) := fun σ H O E Q k => ofO (po_some (pe_c e)) (h σ H O E _ fun v H1 d p t1 r1 => by
  have p : d = .int i := p
  subst p
  exact ⟨i, r1.int_inv, k H1 t1⟩)
theorem en_slice {lo hi : Option Expr} {l u : Option Int} {p2 : Pos} {ds : List PyData} (ha : EV C X a sl (is (.list ds))) (hl : EVO C X lo sl l) (hh : EVO C X hi sl u) : EVN C X (.Subscript a (.Slice lo hi none p2) pos) sl (is (.list (cutL ds l u))) := fun σ H O E Q k =>
  ofE (pe_slice sl_list (pe_c a) (po_c lo) (po_c hi)) (ha σ H O E _ fun x H1 dx px t1 r1 => hl σ H1 O (E.tr t1) _ fun H2 t2 => hh σ H2 O ((E.tr t1).tr t2) _ fun H3 t3 => by
    have px : dx = .list ds := px
    subst px
    obtain ⟨p1, vs, rfl, h1, s1⟩ := ((r1.mono (t2.cutS O)).mono (t3.cutS O)).lst_inv
    have tt := (t1.trans t2).trans t3
    have E3 := E.tr tt
    exact ⟨p1, vs, rfl, SqL.of (cut_some h1).2, fun p hp => k p _ _ _ rfl (tt.trans (Tr.new hp)) (tt.none hp fun e => (E3.fresh hp).2 (C.hst p e)) upd_same (obj_new E3 hp (.lst (cut_rep s1 _ _)))⟩)
/-! ### displays, arguments -/
theorem ea_nil : EVA C X [] sl (isL []) := fun σ H O E Q k => ofA pa_nil (k [] H [] rfl (Tr.refl H) .nil)
theorem ea_consP {T : List PyData → Prop} (h : EV C X e sl P) (ht : EVA C X es sl T) (hs : starEach (e :: es) X.env = (false, eval e X.env) :: starEach es X.env := by rfl) : EVA C X (e :: es) sl (fun l => ∃ d ds, l = d :: ds ∧ P d ∧ T ds) := fun σ H O E Q k =>
  ofA (pa_cons (pe_c e) (pa_c es) hs) (h σ H O E _ fun v H1 d p t1 r1 => ht σ H1 O (E.tr t1) _ fun vs H2 ds pt t2 r2 => k _ H2 _ ⟨d, ds, rfl, p, pt⟩ (t1.trans t2) (.cons (r1.mono (t2.cutS O)) r2))
theorem EVA.imp {T T' : List PyData → Prop} (h : EVA C X es sl T) (k : ∀ d, T d → T' d) : EVA C X es sl T' := fun σ H O E Q q => h σ H O E Q fun v H' d p t r => q v H' d (k d p) t r
theorem ea_cons {d : PyData} {ds : List PyData} (h : EV C X e sl (is d)) (ht : EVA C X es sl (isL ds)) (hs : starEach (e :: es) X.env = (false, eval e X.env) :: starEach es X.env := by rfl) : EVA C X (e :: es) sl (isL (d :: ds)) :=
  (ea_consP h ht hs).imp fun l ⟨d', ds', e1, p, q⟩ => by
    have p : d' = d := p
    have q : ds' = ds := q
    rw [e1, p, q]
theorem ev_tupP {T : List PyData → Prop} {x1 : Nat} (h : EVA C X es sl T) (hz : ∀ ds, T ds → ds.length ≤ 100000) : EV C X (.Tuple es x1 pos) sl (fun d => ∃ ds, d = .tuple ds ∧ T ds) := fun σ H O E Q k =>
  ofE (pe_tup (pa_c es)) (h σ H O E _ fun vs H1 ds p t1 r1 => by
    have E1 := E.tr t1
    refine ⟨by rw [r1.length]; exact Nat.le_trans (hz ds p) (by decide), fun q hq => k _ _ _ ⟨ds, rfl, p⟩ (t1.trans (Tr.new hq)) (.tup (.inl (.inl ?_)) (r1.mono ((Tr.new (C := C) hq).cutS O)))⟩
    rw [cut_out (by intro z; exact (List.mem_append.mp z).elim (E1.fresh hq).1 (E1.fresh hq).2), upd_same])
theorem ev_tup {ds : List PyData} {x1 : Nat} (h : EVA C X es sl (isL ds)) (hz : ds.length ≤ 100000 := by first | decide | (simp only [List.length_cons, List.length_nil]; decide)) : EV C X (.Tuple es x1 pos) sl (is (.tuple ds)) := (ev_tupP h (fun d p => by have p : d = ds := p; rw [p]; exact hz)).imp fun d ⟨ds', e1, p⟩ => by
  have p : ds' = ds := p
  rw [e1, p]
theorem en_lst {ds : List PyData} (h : EVA C X es sl (isL ds)) (hz : ds.length ≤ 100000 := by first | decide | (simp only [List.length_cons, List.length_nil]; decide)) : EVN C X (.List es pos) sl (is (.list ds)) := fun σ H O E Q k =>
  ofE (pe_lst (pa_c es)) (h σ H O E _ fun vs H1 ds' p t1 r1 => by
    have p : ds' = ds := p
    subst p
    have E1 := E.tr t1
    exact ⟨by rw [r1.length]; exact Nat.le_trans hz (by decide), fun q hq => k q _ _ _ rfl (t1.trans (Tr.new hq)) (t1.none hq fun e => (E1.fresh hq).2 (C.hst q e)) upd_same (obj_new E1 hq (.lst r1))⟩)
end
end DL
/-! Calls, comprehensions. -/
namespace DL
open PySem PySem.Spec PyProof.Rows L2
section
variable {C : Cfg} {X : Cx} {e a b c : Expr} {es : List Expr} {sl : List Sl} {P P' Pa Pb Pc : PyData → Prop} {pos p : Pos} {K : PySem.W.Frag} {H H' : Hp} {σ : L2.St} {O : List Addr} {i j : Int} {x : Str}
/-! ### built-ins by name -/
theorem ev_cb1 {id : String} {r : List V → Hp → VK → Prop} (hc : CallR X (.builtin id) r) (hg : Gl X x) (hm : X.mg x = none) (hv : bootBuiltins x = some (.builtin id)) (h : EVB C X e sl P)
    (hr : ∀ σ H O y dy, EnvOk X.K C H σ sl O → P dy → Rep X.K H y dy → ∀ Q : VK, (∀ v H' d, P' d → Tr C H H' → Rep X.K (cut (O ++ C.M) H') v d → Q v H') → r [y] H Q)
    (hn : x ≠ "__name__" := by decide) (hdb : (x == ("__debug__" : Str)) = false := by decide)
    (he : starEach [e] X.env = (false, eval e X.env) :: starEach [] X.env := by rfl) : EV C X (.Call (.Name x p) [e] [] pos) sl P' := fun σ H O E Q k =>
  ofE (pe_callB hc hg hm hv (pa_cons (pe_c e) pa_nil he) hn hdb he (by rfl)) (h σ H O E _ fun y H1 dy py t1 r1 => hr σ H1 O y dy (E.tr t1) py r1 Q fun v H2 d pd t2 r2 => k v H2 d pd (t1.trans t2) r2)
theorem ev_ct1 {T : String} {r : List V → Hp → VK → Prop} (hc : CallR X (.type T) r) (hg : Gl X x) (hm : X.mg x = none) (hv : bootBuiltins x = some (.type T)) (h : EVB C X e sl P)
    (hr : ∀ σ H O y dy, EnvOk X.K C H σ sl O → P dy → Rep X.K H y dy → ∀ Q : VK, (∀ v H' d, P' d → Tr C H H' → Rep X.K (cut (O ++ C.M) H') v d → Q v H') → r [y] H Q)
    (hn : x ≠ "__name__" := by decide) (hdb : (x == ("__debug__" : Str)) = false := by decide)
    (he : starEach [e] X.env = (false, eval e X.env) :: starEach [] X.env := by rfl) : EV C X (.Call (.Name x p) [e] [] pos) sl P' := fun σ H O E Q k =>
  ofE (pe_callTy hc hg hm hv (pa_cons (pe_c e) pa_nil he) hn hdb he (by rfl)) (h σ H O E _ fun y H1 dy py t1 r1 => hr σ H1 O y dy (E.tr t1) py r1 Q fun v H2 d pd t2 r2 => k v H2 d pd (t1.trans t2) r2)
theorem ev_lenL {ds : List PyData} (hm : X.mg "len" = none) (h : EVB C X e sl (is (.list ds))) (hg : Gl X "len" := by rfl) (he : starEach [e] X.env = (false, eval e X.env) :: starEach [] X.env := by rfl) :
    EV C X (.Call (.Name "len" p) [e] [] pos) sl (is (.int ds.length)) := ev_cb1 call_len_seq hg hm PySem.boot_len h (fun σ H O y dy E py ry Q k => by
  have py : dy = .list ds := py
  subst py
  obtain ⟨q, vs, rfl, h1, s1⟩ := ry.lst_inv
  exact ⟨q, vs, rfl, .inl (SqL.of h1), by rw [s1.length]; exact k _ H _ rfl (Tr.refl H) (.int _)⟩) (by decide) (by decide) he
theorem ev_lenT {ds : List PyData} (hm : X.mg "len" = none) (h : EVB C X e sl (is (.tuple ds))) (hg : Gl X "len" := by rfl) (he : starEach [e] X.env = (false, eval e X.env) :: starEach [] X.env := by rfl) :
    EV C X (.Call (.Name "len" p) [e] [] pos) sl (is (.int ds.length)) := ev_cb1 call_len_seq hg hm PySem.boot_len h (fun σ H O y dy E py ry Q k => by
  have py : dy = .tuple ds := py
  subst py
  obtain ⟨q, vs, rfl, h1, s1⟩ := ry.tup_inv
  exact ⟨q, vs, rfl, .inr h1, by rw [s1.length]; exact k _ H _ rfl (Tr.refl H) (.int _)⟩) (by decide) (by decide) he
/-- int(x) of an int -/
theorem ev_toInt (hm : X.mg "int" = none) (h : EV C X e sl (is (.int i))) (hg : Gl X "int" := by rfl) (he : starEach [e] X.env = (false, eval e X.env) :: starEach [] X.env := by rfl) :
    EV C X (.Call (.Name "int" p) [e] [] pos) sl (is (.int i)) := ev_ct1 call_int1 hg hm boot_int h.bo (fun σ H O y dy E py ry Q k => by
  have py : dy = .int i := py
  subst py
  exact .inl ⟨i, by rw [ry.int_inv], k _ H _ rfl (Tr.refl H) (.int _)⟩) (by decide) (by decide) he
theorem ev_all {bs : List Bool} (hc : X.calm = true) (hm : X.mg "all" = none) (h : EVB C X e sl (is (.list (bs.map PyData.bool)))) (hg : Gl X "all" := by rfl) (he : starEach [e] X.env = (false, eval e X.env) :: starEach [] X.env := by rfl) :
    EV C X (.Call (.Name "all" p) [e] [] pos) sl (is (.bool (bs.all id))) := ev_cb1 (cr_all hc) hg hm (by decide +kernel) h (fun σ H O y dy E py ry Q k => by
  have py : dy = .list (bs.map PyData.bool) := py
  subst py
  obtain ⟨q, vs, rfl, h1, s1⟩ := ry.lst_inv
  rw [s1.bls] at h1
  exact ⟨q, bs, rfl, SqL.of h1, k _ H _ rfl (Tr.refl H) (.bl _)⟩) (by decide) (by decide) he
theorem ev_any {bs : List Bool} (hc : X.calm = true) (hm : X.mg "any" = none) (h : EVB C X e sl (is (.list (bs.map PyData.bool)))) (hg : Gl X "any" := by rfl) (he : starEach [e] X.env = (false, eval e X.env) :: starEach [] X.env := by rfl) :
    EV C X (.Call (.Name "any" p) [e] [] pos) sl (is (.bool (bs.any id))) := ev_cb1 (cr_any hc) hg hm (by decide +kernel) h (fun σ H O y dy E py ry Q k => by
  have py : dy = .list (bs.map PyData.bool) := py
  subst py
  obtain ⟨q, vs, rfl, h1, s1⟩ := ry.lst_inv
  rw [s1.bls] at h1
  exact ⟨q, bs, rfl, SqL.of h1, k _ H _ rfl (Tr.refl H) (.bl _)⟩) (by decide) (by decide) he
/-- max of a list of ints -/
theorem ev_maxL {ns : List Int} {m : Int} (hc : X.calm = true) (hm : X.mg "max" = none) (h : EVB C X e sl (is (.list (ns.map PyData.int)))) (hne : 0 < ns.length) (hmx : ∀ k, k ∈ ns → (∀ y, y ∈ ns → y ≤ k) → k = m)
    (hg : Gl X "max" := by rfl) (he : starEach [e] X.env = (false, eval e X.env) :: starEach [] X.env := by rfl) :
    EV C X (.Call (.Name "max" p) [e] [] pos) sl (is (.int m)) := ev_cb1 (cr_max hc) hg hm (by decide +kernel) h (fun σ H O y dy E py ry Q k => by
  have py : dy = .list (ns.map PyData.int) := py
  subst py
  obtain ⟨q, vs, rfl, h1, s1⟩ := ry.lst_inv
  rw [s1.ints] at h1
  exact ⟨q, ns, rfl, SqL.of h1, hne, fun m' h1 h2 => by rw [hmx m' h1 h2]; exact k _ H _ rfl (Tr.refl H) (.int _)⟩) (by decide) (by decide) he
theorem ev_max2 (hc : X.calm = true) (hm : X.mg "max" = none) (ha : EV C X a sl (is (.int i))) (hb : EV C X b sl (is (.int j))) (hg : Gl X "max" := by rfl)
    (he : starEach [a, b] X.env = (false, eval a X.env) :: starEach [b] X.env := by rfl) (he2 : starEach [b] X.env = (false, eval b X.env) :: starEach [] X.env := by rfl) (hpl : (backTo pos (starEach [b] X.env)).any (·.1) = false := by rfl) :
    EV C X (.Call (.Name "max" p) [a, b] [] pos) sl (is (.int (if j > i then j else i))) := fun σ H O E Q k =>
  ofE (pe_callB (call_max2 hc) hg hm (by decide +kernel) (pa_cons (pe_c a) (pa_cons (pe_c b) pa_nil he2) he) (by decide) (by decide) he hpl) (ha σ H O E _ fun y H1 dy py t1 r1 => hb σ H1 O (E.tr t1) _ fun z H2 dz pz t2 r2 => by
    have py : dy = .int i := py
    have pz : dz = .int j := pz
    subst py pz
    exact ⟨i, j, by rw [r1.int_inv, r2.int_inv], k _ H2 _ rfl (t1.trans t2) (.int _)⟩)
theorem ev_min2 (hc : X.calm = true) (hm : X.mg "min" = none) (ha : EV C X a sl (is (.int i))) (hb : EV C X b sl (is (.int j))) (hg : Gl X "min" := by rfl)
    (he : starEach [a, b] X.env = (false, eval a X.env) :: starEach [b] X.env := by rfl) (he2 : starEach [b] X.env = (false, eval b X.env) :: starEach [] X.env := by rfl) (hpl : (backTo pos (starEach [b] X.env)).any (·.1) = false := by rfl) :
    EV C X (.Call (.Name "min" p) [a, b] [] pos) sl (is (.int (if j < i then j else i))) := fun σ H O E Q k =>
  ofE (pe_callB (call_min2 hc) hg hm (by decide +kernel) (pa_cons (pe_c a) (pa_cons (pe_c b) pa_nil he2) he) (by decide) (by decide) he hpl) (ha σ H O E _ fun y H1 dy py t1 r1 => hb σ H1 O (E.tr t1) _ fun z H2 dz pz t2 r2 => by
    have py : dy = .int i := py
    have pz : dz = .int j := pz
    subst py pz
    exact ⟨i, j, by rw [r1.int_inv, r2.int_inv], k _ H2 _ rfl (t1.trans t2) (.int _)⟩)
/-- math.lcm of two ints -/
def rLcm : List V → Hp → VK → Prop := fun vs H Q => ∃ a b : Int, vs = [.int a, .int b] ∧ a.natAbs < 2 ^ 64 ∧ b.natAbs < 2 ^ 64 ∧ Q (.int ((Nat.lcm a.natAbs b.natAbs : Nat) : Int)) H
theorem cr_lcm : CallR X (.builtin "math.lcm") rLcm := by
  intro pins s σ H vs us Q I r h
  obtain ⟨a, b, rfl, ha, hb, q⟩ := h
  obtain ⟨t, u, rfl⟩ := Vals.int2 r
  exact PySem.W.mc_lcm ha hb fun _ => ⟨.int _, H, I.tok _, ⟨_, rfl⟩, q⟩
theorem ev_lcm (hm : X.mg x = some (.builtin "math.lcm")) (ha : EV C X a sl (is (.int i))) (hb : EV C X b sl (is (.int j))) (h1 : i.natAbs < 2 ^ 64) (h2 : j.natAbs < 2 ^ 64) (hg : Gl X x := by rfl) (hdb : (x == ("__debug__" : Str)) = false := by decide)
    (he : starEach [a, b] X.env = (false, eval a X.env) :: starEach [b] X.env := by rfl) (he2 : starEach [b] X.env = (false, eval b X.env) :: starEach [] X.env := by rfl) (hpl : (backTo pos (starEach [b] X.env)).any (·.1) = false := by rfl) :
    EV C X (.Call (.Name x p) [a, b] [] pos) sl (is (.int ((Nat.lcm i.natAbs j.natAbs : Nat) : Int))) := fun σ H O E Q k =>
  ofE (pe_callBfun cr_lcm hg hm (pa_cons (pe_c a) (pa_cons (pe_c b) pa_nil he2) he) hdb he hpl) (ha σ H O E _ fun y H1 dy py t1 r1 => hb σ H1 O (E.tr t1) _ fun z H2 dz pz t2 r2 => by
    have py : dy = .int i := py
    have pz : dz = .int j := pz
    subst py pz
    exact ⟨i, j, by rw [r1.int_inv, r2.int_inv], h1, h2, k _ H2 _ rfl (t1.trans t2) (.int _)⟩)
/-- list(xs) -/
theorem en_listOf {ds : List PyData} (hm : X.mg "list" = none) (h : EV C X e sl (fun d => d = .list ds ∨ d = .tuple ds)) (hg : Gl X "list" := by rfl) (he : starEach [e] X.env = (false, eval e X.env) :: starEach [] X.env := by rfl) :
    EVN C X (.Call (.Name "list" p) [e] [] pos) sl (is (.list ds)) := fun σ H O E Q k =>
  ofE (pe_callTy call_list_of hg hm boot_list (pa_cons (pe_c e) pa_nil he) (by decide) (by decide) he (by rfl)) (h σ H O E _ fun y H1 dy py t1 r1 => by
    have E1 := E.tr t1
    rcases py with rfl | rfl
    · obtain ⟨q, vs, rfl, h1, s1⟩ := r1.lst_inv
      exact ⟨q, vs, rfl, .inl (SqL.of (cut_some h1).2), fun l hl => k l _ _ _ rfl (t1.trans (Tr.new hl)) (t1.none hl fun e => (E1.fresh hl).2 (C.hst l e)) upd_same (obj_new E1 hl (.lst s1))⟩
    · obtain ⟨q, vs, rfl, h1, s1⟩ := r1.tup_inv
      exact ⟨q, vs, rfl, .inr (sqT_mono (cut_le _ _) h1), fun l hl => k l _ _ _ rfl (t1.trans (Tr.new hl)) (t1.none hl fun e => (E1.fresh hl).2 (C.hst l e)) upd_same (obj_new E1 hl (.lst s1))⟩)
theorem en_listL {ds : List PyData} (hm : X.mg "list" = none) (h : EV C X e sl (is (.list ds))) (hg : Gl X "list" := by rfl) (he : starEach [e] X.env = (false, eval e X.env) :: starEach [] X.env := by rfl) :
    EVN C X (.Call (.Name "list" p) [e] [] pos) sl (is (.list ds)) := en_listOf hm (h.imp fun _ p => .inl p) hg he
theorem en_listT {ds : List PyData} (hm : X.mg "list" = none) (h : EV C X e sl (is (.tuple ds))) (hg : Gl X "list" := by rfl) (he : starEach [e] X.env = (false, eval e X.env) :: starEach [] X.env := by rfl) :
    EVN C X (.Call (.Name "list" p) [e] [] pos) sl (is (.list ds)) := en_listOf hm (h.imp fun _ p => .inr p) hg he
/-- list(own list) -/
theorem en_listO (n : Nat) {px : Pos} {ds : List PyData} (hm : X.mg "list" = none) (hs : sl[n]? = some (.own (.list ds)) := by rfl) (hN : X.N[n]? = some x := by rfl)
    (hv : Vis X.env.scope x := by first | exact Or.inl rfl | exact Or.inr (Or.inl rfl) | exact Or.inr (Or.inr rfl)) (hg : Gl X "list" := by rfl) (hd : (x == ("__debug__" : Str)) = false := by decide) (hcd : (x == ("__classdict__" : Str)) = false := by decide)
    (he : starEach [Expr.Name x px] X.env = (false, eval (Expr.Name x px) X.env) :: starEach [] X.env := by rfl) :
    EVN C X (.Call (.Name "list" p) [.Name x px] [] pos) sl (is (.list ds)) := fun σ H O E Q k => by
  obtain ⟨q, o, h1, h2, h3, h4⟩ := E.own hs
  cases h3 with
  | lst s1 =>
    exact ofE (pe_callTy call_list_of hg hm boot_list (pa_cons (pe_var hN hv hd hcd) pa_nil he) (by decide) (by decide) he (by rfl)) ⟨.ref q, h1, q, _, rfl, .inl (SqL.of h2), fun l hl =>
      k l _ _ _ rfl (Tr.new hl) hl upd_same (obj_new E hl (.lst s1))⟩
/-- tuple(xs) -/
theorem ev_tupleL {ds : List PyData} (hm : X.mg "tuple" = none) (h : EV C X e sl (is (.list ds))) (hg : Gl X "tuple" := by rfl) (he : starEach [e] X.env = (false, eval e X.env) :: starEach [] X.env := by rfl) :
    EV C X (.Call (.Name "tuple" p) [e] [] pos) sl (is (.tuple ds)) := fun σ H O E Q k =>
  ofE (pe_callTy call_tuple_of hg hm boot_tuple (pa_cons (pe_c e) pa_nil he) (by decide) (by decide) he (by rfl)) (h σ H O E _ fun y H1 dy py t1 r1 => by
    have py : dy = .list ds := py
    subst py
    have E1 := E.tr t1
    obtain ⟨q, vs, rfl, h1, s1⟩ := r1.lst_inv
    refine ⟨q, vs, rfl, .inl ⟨SqL.of (cut_some h1).2, fun l hl => k _ _ _ rfl (t1.trans (Tr.new hl)) (.tup (.inl (.inl ?_)) (s1.mono ((Tr.new (C := C) hl).cutS O)))⟩⟩
    rw [cut_out (by intro z; exact (List.mem_append.mp z).elim (E1.fresh hl).1 (E1.fresh hl).2), upd_same])
/-- list(range(n)) -/
def rgD (lo hi : Int) : List PyData := (List.range (hi - lo).toNat).map fun k => PyData.int (lo + (k : Nat))
theorem rg_reps {B : Hp} (lo hi : Int) : Reps K B (rgV lo hi) (rgD lo hi) := by
  unfold rgV rgD
  generalize (List.range (hi - lo).toNat) = l
  induction l with
  | nil => exact .nil
  | cons k l ih => exact .cons (.int _) ih
theorem en_listR {p2 pos2 : Pos} (hc : X.calm = true) (hm : X.mg "list" = none) (hm2 : X.mg "range" = none) (h : EV C X e sl (is (.int i))) (hz : RgOk 0 i) (hg : Gl X "list" := by rfl) (hg2 : Gl X "range" := by rfl)
    (he : starEach [e] X.env = (false, eval e X.env) :: starEach [] X.env := by rfl)
    (na : starEach [Expr.Call (.Name "range" p2) [e] [] pos2] X.env = (false, eval (Expr.Call (.Name "range" p2) [e] [] pos2) X.env) :: starEach [] X.env := by rfl) :
    EVN C X (.Call (.Name "list" p) [.Call (.Name "range" p2) [e] [] pos2] [] pos) sl (is (.list (rgD 0 i))) := fun σ H O E Q k =>
  ofE (pe_listRg hc hg hm (prg_1 hg2 hm2 (pe_c e) he) na) (h σ H O E _ fun y H1 dy py t1 r1 => by
    have py : dy = .int i := py
    subst py
    have E1 := E.tr t1
    exact ⟨i, r1.int_inv, hz, fun q hq => k q _ _ _ rfl (t1.trans (Tr.new hq)) (t1.none hq fun e => (E1.fresh hq).2 (C.hst q e)) upd_same (obj_new E1 hq (.lst (rg_reps 0 i)))⟩)

/-! ### the program's own defs -/
/-- from data that pre allows, data of which post holds; nothing that stood is changed -/
def SpD (K : PySem.W.Frag) {α : Type} (args : α → List PyData) (pre : α → Prop) (post : α → PyData → Prop) : Sp := fun vs H Q _ =>
  ∃ (M : List Addr) (x : α), (∀ a ∈ M, H a ≠ none) ∧ Reps K (cut M H) vs (args x) ∧ pre x ∧ ∀ v H' d, post x d → Same H H' → Rep K (cut M H') v d → Q v H'
/-- the same with the state ahead of the arguments; only the state changes -/
def SpS (K : PySem.W.Frag) {α : Type} (args : α → List PyData) (pre : α → Prop) (post : α → PyData → Prop) : Sp := fun vs H Q _ =>
  ∃ (M : List Addr) (a : Addr) (vs' : List V) (x : α), a ∈ M ∧ (∀ b ∈ M, H b ≠ none) ∧ StOK H a ∧ vs = .ref a :: vs' ∧ Reps K (cut M H) vs' (args x) ∧ pre x ∧
    ∀ v H' d, post x d → (∀ C : Cfg, C.st = some a → Tr C H H') → Rep K (cut M H') v d → Q v H'
theorem ev_call {α : Type} {args : α → List PyData} {pre : α → Prop} {post : α → PyData → Prop} {f : Addr} {fd : FuncData} {k : Nat} {ps : List Str} {T : List PyData → Prop}
    (F : FnOk X.prog X.w X.K X.mg X.base CX0 k f fd ps (SpD X.K args pre post)) (hr : Room k X.A) (hm : X.mg x = some (.ref f)) (hk : PySem.W.keepIn X.K (.ref f) = true) (hb : Binds X.K fd ps [])
    (ha : EVA C X (e :: es) sl T) (hp : ∀ ds, T ds → ∃ y, ds = args y ∧ pre y ∧ ∀ d, post y d → P d) (hg : Gl X x := by rfl) (hdb : (x == ("__debug__" : Str)) = false := by decide)
    (he : starEach (e :: es) X.env = (false, eval e X.env) :: starEach es X.env := by rfl) (hpl : (backTo pos (starEach es X.env)).any (·.1) = false := by rfl) : EV C X (.Call (.Name x p) (e :: es) [] pos) sl P := fun σ H O E Q q =>
  ofE (pe_call F hr hg hm hk hb .nil pass0 (pa_c _) hdb he hpl) (ha σ H O E _ fun vs H1 ds pd t1 r1 => by
    obtain ⟨y, rfl, hy, hpost⟩ := hp ds pd
    have E1 := E.tr t1
    show SpD X.K args pre post (vs ++ []) H1 Q E0
    rw [List.append_nil]
    exact ⟨O ++ C.M, y, fun a ha => (List.mem_append.mp ha).elim (E1.to a) (E1.tm a), r1, hy, fun v H2 d po sm rp => q v H2 d (hpost d po) (t1.trans (.of sm)) rp⟩)
/-- a call that draws: the state's name ahead -/
theorem ev_callS {α : Type} {args : α → List PyData} {pre : α → Prop} {post : α → PyData → Prop} {f : Addr} {fd : FuncData} {k : Nat} {ps : List Str} {T : List PyData → Prop} {st : Addr} {sx : Str} {sp : Pos} (n : Nat)
    (F : FnOk X.prog X.w X.K X.mg X.base CX0 k f fd ps (SpS X.K args pre post)) (hr : Room k X.A) (hm : X.mg x = some (.ref f)) (hk : PySem.W.keepIn X.K (.ref f) = true) (hb : Binds X.K fd ps []) (hst : C.st = some st)
    (ha : EVA C X es sl T) (hp : ∀ ds, T ds → ∃ y, ds = args y ∧ pre y ∧ ∀ d, post y d → P d) (hs : sl[n]? = some (.r (.ref st)) := by rfl) (hN : X.N[n]? = some sx := by rfl)
    (hv : Vis X.env.scope sx := by first | exact Or.inl rfl | exact Or.inr (Or.inl rfl) | exact Or.inr (Or.inr rfl)) (hg : Gl X x := by rfl) (hdb : (x == ("__debug__" : Str)) = false := by decide)
    (hd2 : (sx == ("__debug__" : Str)) = false := by decide) (hcd : (sx == ("__classdict__" : Str)) = false := by decide)
    (he : starEach (Expr.Name sx sp :: es) X.env = (false, eval (Expr.Name sx sp) X.env) :: starEach es X.env := by rfl) (hpl : (backTo pos (starEach es X.env)).any (·.1) = false := by rfl) :
    EV C X (.Call (.Name x p) (.Name sx sp :: es) [] pos) sl P := fun σ H O E Q q =>
  ofE (pe_call F hr hg hm hk hb .nil pass0 (pa_cons (pe_var hN hv hd2 hcd) (pa_c es) he) hdb he hpl) ⟨.ref st, E.raw hs, ha σ H O E _ fun vs H1 ds pd t1 r1 => by
    obtain ⟨y, rfl, hy, hpost⟩ := hp ds pd
    have E1 := E.tr t1
    show SpS X.K args pre post ((.ref st :: vs) ++ []) H1 Q E0
    rw [List.append_nil]
    exact ⟨O ++ C.M, st, vs, y, List.mem_append_right _ (C.hst st hst), fun a ha => (List.mem_append.mp ha).elim (E1.to a) (E1.tm a), (E1.ok st hst).mono (cut_le _ _), rfl, r1, hy, fun v H2 d po tr rp => q v H2 d (hpost d po) (t1.trans (tr C hst)) rp⟩⟩
end
end DL
/-! What is walked, comprehensions, targets. -/
namespace DL
open PySem PySem.Spec PyProof.Rows L2

/-- J gives the items ds while what was known behind the making stays known -/
structure WalkD (K : PySem.W.Frag) (C : Cfg) (O : List Addr) (H0 : Hp) (J : It) (ds : List PyData) : Prop where
  goes : ∀ i H2, Same (cut (O ++ C.M) H0) H2 → i < ds.length → J.go i H2
  stops : ∀ H2, Same (cut (O ++ C.M) H0) H2 → J.stop ds.length H2
  yields : ∀ i H2 x H3, Same (cut (O ++ C.M) H0) H2 → i < ds.length → J.yld i H2 x H3 →
    ∃ d, ds[i]? = some d ∧ Same H2 H3 ∧ ∀ M', (∀ a ∈ M', H2 a ≠ none) → Same (cut (O ++ C.M) H0) (cut M' H2) → Rep K (cut M' H3) x d
def IT (C : Cfg) (X : Cx) (tg iter : Expr) (sl : List Sl) (P : List PyData → Prop) : Prop :=
  ∀ (σ : L2.St) (H : Hp) (O : List Addr), EnvOk X.K C H σ sl O → ∀ R : It → Hp → Prop, (∀ J H' ds, P ds → Tr C H H' → WalkD X.K C O H' J ds → R J H') → cI X tg iter σ H R
section
variable {C : Cfg} {X : Cx} {e a b c tg : Expr} {es : List Expr} {sl : List Sl} {P P' Pa Pb Pc : PyData → Prop} {pos p : Pos} {K : PySem.W.Frag} {H H' : Hp} {σ : L2.St} {O : List Addr} {i j : Int} {x : Str}
theorem walkD_list {q : Addr} {vs : List V} {ds : List PyData} (h : cut (O ++ C.M) H q = some (.lst vs)) (r : Reps K (cut (O ++ C.M) H) vs ds) : WalkD K C O H (Itl K q) ds := by
  have l := r.length
  refine ⟨fun i H2 s hi => ⟨vs, vs[i]'(by omega), SqL.of (s _ _ h), by simp [l, hi]⟩, fun H2 s => ⟨vs, SqL.of (s _ _ h), by omega⟩, fun i H2 y H3 s hi z => ?_⟩
  obtain ⟨rfl, z⟩ := z
  obtain ⟨d, h1, h2⟩ := r.getV (z vs (SqL.of (s _ _ h)))
  exact ⟨d, h1, Same.refl _, fun M' _ e => h2.mono e⟩
theorem walkD_tup {q : Addr} {vs : List V} {ds : List PyData} (h : SqT K (cut (O ++ C.M) H) q vs) (r : Reps K (cut (O ++ C.M) H) vs ds) : WalkD K C O H (Itt K q) ds := by
  have l := r.length
  refine ⟨fun i H2 s hi => ⟨vs, vs[i]'(by omega), sqT_mono s h, by simp [l, hi]⟩, fun H2 s => ⟨vs, sqT_mono s h, by omega⟩, fun i H2 y H3 s hi z => ?_⟩
  obtain ⟨rfl, z⟩ := z
  obtain ⟨d, h1, h2⟩ := r.getV (z vs (sqT_mono s h))
  exact ⟨d, h1, Same.refl _, fun M' _ e => h2.mono e⟩
theorem it_list {T : List PyData → Prop} (h : EV C X e sl (fun d => ∃ ds, d = .list ds ∧ T ds)) : IT C X tg e sl T := fun σ H O E R k => ofI (pi_list (pe_c e)) (h σ H O E _ fun v H1 d ⟨ds, e1, pt⟩ t1 r1 => by
  subst e1
  obtain ⟨q, vs, rfl, h1, s1⟩ := r1.lst_inv
  exact ⟨q, rfl, ⟨vs, SqL.of (cut_some h1).2⟩, k _ H1 ds pt t1 (walkD_list h1 s1)⟩)
theorem it_l {ds : List PyData} (h : EV C X e sl (is (.list ds))) : IT C X tg e sl (isL ds) := it_list (h.imp fun _ p => ⟨ds, p, rfl⟩)
theorem it_tuple {T : List PyData → Prop} (h : EV C X e sl (fun d => ∃ ds, d = .tuple ds ∧ T ds)) : IT C X tg e sl T := fun σ H O E R k => ofI (pi_tup (pe_c e)) (h σ H O E _ fun v H1 d ⟨ds, e1, pt⟩ t1 r1 => by
  subst e1
  obtain ⟨q, vs, rfl, h1, s1⟩ := r1.tup_inv
  exact ⟨q, rfl, ⟨vs, sqT_mono (cut_le _ _) h1⟩, k _ H1 ds pt t1 (walkD_tup h1 s1)⟩)
theorem it_t {ds : List PyData} (h : EV C X e sl (is (.tuple ds))) : IT C X tg e sl (isL ds) := it_tuple (h.imp fun _ p => ⟨ds, p, rfl⟩)
theorem rgD_length (lo hi : Int) : (rgD lo hi).length = (hi - lo).toNat := by unfold rgD; rw [List.length_map, List.length_range]
theorem rgD_get {lo hi : Int} {k : Nat} (h : k < (hi - lo).toNat) : (rgD lo hi)[k]? = some (.int (lo + (k : Nat))) := by
  unfold rgD
  rw [List.getElem?_map, List.getElem?_range h]
  rfl
theorem walkD_range (lo hi : Int) : WalkD K C O H (Itr lo (hi - lo).toNat) (rgD lo hi) := by
  refine ⟨fun i H2 _ hi => by rw [rgD_length] at hi; exact hi, fun H2 _ => by rw [rgD_length]; exact Nat.le_refl _, fun i H2 y H3 _ hi z => ?_⟩
  obtain ⟨rfl, rfl⟩ := z
  rw [rgD_length] at hi
  exact ⟨_, rgD_get hi, Same.refl _, fun M' _ _ => .int _⟩
theorem it_range1P {T : List PyData → Prop} (hm : X.mg "range" = none) (h : EV C X a sl (fun d => ∃ n : Int, d = .int n ∧ -(2 ^ 62) ≤ n ∧ n < 2 ^ 62 ∧ T (rgD 0 n))) (hg : Gl X "range" := by rfl) (hs : starEach [a] X.env = [(false, eval a X.env)] := by rfl) : IT C X tg (.Call (.Name "range" p) [a] [] pos) sl T := fun σ H O E R k =>
  ofI (pi_range1 hg hm (pa_cons (pe_c a) pa_nil hs) hs) (h σ H O E _ fun v H1 d ⟨n, e1, h1, h2, pt⟩ t1 r1 => by
    subst e1
    have w := walkD_range (K := X.K) (C := C) (O := O) (H := H1) 0 n
    rw [Int.sub_zero] at w
    exact ⟨n, by rw [r1.int_inv], h1, h2, k _ H1 _ pt t1 w⟩)
theorem it_range1 {n : Int} (hm : X.mg "range" = none) (h : EV C X a sl (is (.int n))) (h1 : -(2 ^ 62) ≤ n) (h2 : n < 2 ^ 62) (hg : Gl X "range" := by rfl) (hs : starEach [a] X.env = [(false, eval a X.env)] := by rfl) : IT C X tg (.Call (.Name "range" p) [a] [] pos) sl (isL (rgD 0 n)) :=
  it_range1P hm (h.imp fun _ p => ⟨n, p, h1, h2, rfl⟩) hg hs
theorem it_range2 {m n : Int} (hm : X.mg "range" = none) (ha : EV C X a sl (is (.int m))) (hb : EV C X b sl (is (.int n))) (h : -(2 ^ 62) ≤ m ∧ m < 2 ^ 62 ∧ -(2 ^ 62) ≤ n ∧ n < 2 ^ 62) (hg : Gl X "range" := by rfl)
    (hs : starEach [a, b] X.env = [(false, eval a X.env), (false, eval b X.env)] := by rfl) (hs2 : starEach [b] X.env = [(false, eval b X.env)] := by rfl) : IT C X tg (.Call (.Name "range" p) [a, b] [] pos) sl (isL (rgD m n)) := fun σ H O E R k =>
  ofI (pi_range2 hg hm (pa_cons (pe_c a) (pa_cons (pe_c b) pa_nil hs2) (by rw [hs, hs2])) hs hs2) (ha σ H O E _ fun v H1 d p1 t1 r1 => hb σ H1 O (E.tr t1) _ fun v2 H2 d2 p2 t2 r2 => by
    have p1 : d = .int m := p1
    have p2 : d2 = .int n := p2
    subst p1 p2
    exact ⟨m, n, by rw [r1.int_inv, r2.int_inv], h, k _ H2 _ rfl (t1.trans t2) (walkD_range m n)⟩)
/-- enumerate(xs): pairs -/
def enumD (ds : List PyData) : List PyData := ds.mapIdx fun k d => .tuple [.int (k : Nat), d]
theorem enumD_length (ds : List PyData) : (enumD ds).length = ds.length := by unfold enumD; rw [List.length_mapIdx]
theorem enumD_get {ds : List PyData} {k : Nat} {d : PyData} (h : ds[k]? = some d) : (enumD ds)[k]? = some (.tuple [.int (k : Nat), d]) := by
  unfold enumD
  rw [List.getElem?_mapIdx, h]
  rfl
theorem it_enumL {elts : List Expr} {kk : Nat} {tpos : Pos} {ds : List PyData} (hm : X.mg "enumerate" = none) (h : EV C X a sl (is (.list ds))) (hg : Gl X "enumerate" := by rfl) (hs : starEach [a] X.env = [(false, eval a X.env)] := by rfl) :
    IT C X (.Tuple elts kk tpos) (.Call (.Name "enumerate" p) [a] [] pos) sl (isL (enumD ds)) := fun σ H O E R k =>
  ofI (pi_enum hg hm (pa_cons (pe_c a) pa_nil hs) hs) (h σ H O E _ fun v H1 d p1 t1 r1 => by
    have p1 : d = .list ds := p1
    subst p1
    obtain ⟨q, vs, rfl, h1, s1⟩ := r1.lst_inv
    have l := s1.length
    refine ⟨q, vs, rfl, SqL.of (cut_some h1).2, k _ H1 _ rfl t1 ⟨fun i H2 s hi => ?_, fun H2 s => ?_, fun i H2 y H3 s hi z => ?_⟩⟩
    · rw [enumD_length] at hi
      exact ⟨vs, vs[i]'(by omega), SqL.of (s _ _ h1), by simp [l, hi]⟩
    · rw [enumD_length]
      exact ⟨vs, SqL.of (s _ _ h1), by omega⟩
    · obtain ⟨T, w, rfl, hT, rfl, z⟩ := z
      obtain ⟨d, g1, g2⟩ := s1.getV (z vs (SqL.of (s _ _ h1)))
      refine ⟨_, enumD_get g1, same_new hT, fun M' nM e => .tup (.inl (.inl ?_)) (.cons (.int _) (.cons (g2.mono ?_) .nil))⟩
      · rw [cut_out (fun m => nM T m hT), upd_same]
      · exact e.trans (cut_same fun a o n h => ⟨n, same_new hT a o h⟩))
def zipD : List PyData → List PyData → List PyData
  | d :: ds, e :: es => .tuple [d, e] :: zipD ds es
  | _, _ => []
theorem zipD_length : ∀ ds es : List PyData, (zipD ds es).length = min ds.length es.length
  | [], _ => by simp [zipD]
  | _ :: _, [] => by simp [zipD]
  | d :: ds, e :: es => by simp only [zipD, List.length_cons, zipD_length ds es]; omega
theorem zipD_get : ∀ {ds es : List PyData} {k : Nat} {d e : PyData}, ds[k]? = some d → es[k]? = some e → (zipD ds es)[k]? = some (.tuple [d, e])
  | [], _, _, _, _, h, _ => by simp at h
  | _ :: _, [], _, _, _, _, h => by simp at h
  | _ :: _, _ :: _, 0, _, _, h, h2 => by simp at h h2; subst h h2; rfl
  | _ :: _, _ :: _, k + 1, _, _, h, h2 => by
    simp only [zipD, List.getElem?_cons_succ]
    exact zipD_get (by simpa using h) (by simpa using h2)
theorem it_zipL {elts : List Expr} {kk : Nat} {tpos : Pos} {ds es : List PyData} (hm : X.mg "zip" = none) (ha : EV C X a sl (is (.list ds))) (hb : EV C X b sl (is (.list es))) (hg : Gl X "zip" := by rfl)
    (hs : starEach [a, b] X.env = (false, eval a X.env) :: starEach [b] X.env := by rfl) (hs2 : starEach [b] X.env = (false, eval b X.env) :: starEach [] X.env := by rfl) (hpl : (backTo pos (starEach [b] X.env)).any (·.1) = false := by rfl) :
    IT C X (.Tuple elts kk tpos) (.Call (.Name "zip" p) [a, b] [] pos) sl (isL (zipD ds es)) := fun σ H O E R k =>
  ofI (pi_zip hg hm (pa_cons (pe_c a) (pa_cons (pe_c b) pa_nil hs2) hs) hs hpl) (ha σ H O E _ fun v H1 d p1 t1 r1 => hb σ H1 O (E.tr t1) _ fun v2 H2 d2 p2 t2 r2 => by
    have p1 : d = .list ds := p1
    have p2 : d2 = .list es := p2
    subst p1 p2
    obtain ⟨q, vs, rfl, h1, s1⟩ := (r1.mono (t2.cutS O)).lst_inv
    obtain ⟨q2, ws, rfl, h2, s2⟩ := r2.lst_inv
    have l := s1.length
    have l2 := s2.length
    refine ⟨q, q2, vs, ws, rfl, SqL.of (cut_some h1).2, SqL.of (cut_some h2).2, k _ H2 _ rfl (t1.trans t2) ⟨fun i G s hi => ?_, fun G s => ?_, fun i G y H3 s hi z => ?_⟩⟩
    · rw [zipD_length] at hi
      exact ⟨vs, ws, vs[i]'(by omega), ws[i]'(by omega), SqL.of (s _ _ h1), SqL.of (s _ _ h2), by simp, by simp⟩
    · rw [zipD_length]
      exact ⟨vs, ws, SqL.of (s _ _ h1), SqL.of (s _ _ h2), by omega⟩
    · obtain ⟨T, w, w2, rfl, hT, rfl, z, z2⟩ := z
      obtain ⟨d, g1, g2⟩ := s1.getV (z vs (SqL.of (s _ _ h1)))
      obtain ⟨d2, f1, f2⟩ := s2.getV (z2 ws (SqL.of (s _ _ h2)))
      have up : ∀ M', Same (cut (O ++ C.M) H2) (cut M' G) → Same (cut (O ++ C.M) H2) (cut M' (upd G T (.tup [w, w2]))) := fun M' e => e.trans (cut_same fun a o n h => ⟨n, same_new hT a o h⟩)
      refine ⟨_, zipD_get g1 f1, same_new hT, fun M' nM e => .tup (.inl (.inl ?_)) (.cons (g2.mono (up M' e)) (.cons (f2.mono (up M' e)) .nil))⟩
      rw [cut_out (fun m => nM T m hT), upd_same])

/-! ### comprehensions -/
/-- a reading that gives a new object -/
def RdN (C : Cfg) (X : Cx) (t : TE) (sl : List Sl) (P : PyData → Prop) : Prop :=
  ∀ (σ : L2.St) (H : Hp) (O : List Addr), EnvOk X.K C H σ sl O → ∀ Q : VK, (∀ p o H' d, P d → Tr C H H' → H p = none → H' p = some o → ObjR X.K (cut (p :: (O ++ C.M)) H') o d → Q (.ref p) H') → t σ H Q
/-- an element's reading, in any block -/
def cBlk (X : Cx) (scope : Scope) (elt : Expr) : TE := fun σ H Q => ∀ (s : Shared) (H0 : Hp) (L : Addr) (cl : List (Str × Addr)) (fp : List Addr), cE (X.blk s H0 scope (compEnvC scope cl L X.env) fp) elt σ H Q
theorem pe_blk {scope : Scope} {elt : Expr} (s : Shared) (H0 : Hp) (L : Addr) (cl : List (Str × Addr)) (fp : List Addr) : PE (X.blk s H0 scope (compEnvC scope cl L X.env) fp) elt (cBlk X scope elt) := ⟨fun pins s1 σ H Q I h => h s H0 L cl fp pins s1 I⟩
theorem lc_read {iter elt : Expr} {scope : Scope} {n : Nat} {xs : Str} {px : Pos} {T : List PyData → Prop} {U : List PyData → Nat → PyData → PyData → Prop}
    (hi : IT C X (.Name xs px) iter sl T) (hT : ∀ ds, T ds → ds.length ≤ 1000000)
    (he : ∀ (s : Shared) (H : Hp) (L : Addr) (cl : List (Str × Addr)) (fp : List Addr) ds k d, T ds → ds[k]? = some d → EV C (X.blk s H scope (compEnvC scope cl L X.env) fp) elt ((sl.set n .u).set n (.d d)) (U ds k d)) :
    RdN C X (tLc (cI X (.Name xs px) iter) (gName n) tYes (cBlk X scope elt) [n]) sl (fun d => ∃ ds out, d = .list out ∧ T ds ∧ out.length = ds.length ∧ ∀ k y, ds[k]? = some y → ∃ z, out[k]? = some z ∧ U ds k y z) := fun σ H O E Q k => by
  refine hi σ H O E _ fun J H1 ds pT t1 w D hD => ?_
  have E1 := E.tr t1
  have lds := hT ds pT
  let B := cut (D :: (O ++ C.M))
  let Pv : Nat → Hp → Prop := fun i H2 => ∃ acc out, H2 D = some (.lst acc) ∧ Reps X.K (cut (D :: (O ++ C.M)) H2) acc out ∧ out.length = i ∧ (∀ k y, k < i → ds[k]? = some y → ∃ z, out[k]? = some z ∧ U ds k y z) ∧ Tr C (upd H1 D (.lst [])) H2
  have nst : C.st ≠ some D := fun e => (E1.fresh hD).2 (C.hst D e)
  have base : ∀ {H2 : Hp}, Tr C (upd H1 D (.lst [])) H2 → Same (cut (O ++ C.M) H1) (cut (D :: (O ++ C.M)) H2) := fun {H2} t => cut_same fun a o na h => by
    refine ⟨fun z => ?_, t.keep a o (fun e => na (List.mem_append_right _ (C.hst a e))) (by rw [upd_ne (ne_of_none h hD)]; exact h)⟩
    rcases List.mem_cons.mp z with rfl | z
    · rw [hD] at h; cases h
    · exact na z
  refine ⟨fun i m H2 => m = ds.length - i ∧ i ≤ ds.length ∧ ∃ acc out, H2 D = some (.lst acc) ∧ Reps X.K (cut (D :: (O ++ C.M)) H2) acc out ∧ out.length = i ∧ (∀ k y, k < i → ds[k]? = some y → ∃ z, out[k]? = some z ∧ U ds k y z) ∧ Same (cut (O ++ C.M) H1) (cut (D :: (O ++ C.M)) H2) ∧ Tr C H1 H2,
    ⟨ds.length, by simp, Nat.zero_le _, [], [], upd_same, .nil, rfl, fun k y h => absurd h (by omega), base (Tr.refl _), Tr.new hD⟩, ?_⟩
  rintro i m H2 ⟨rfl, hi2, acc, out, h1, h2, h3, h4, h5, h6⟩
  have E2 : EnvOk X.K C H2 σ sl (D :: O) := by
    have Ea := E1.add (o := .lst []) hD
    obtain ⟨O1, s, nd, m⟩ := E1.slots
    have Eh := E1.tr h6
    refine ⟨⟨O1, s.mono h5 (fun a h x e => h6.keep a x (E1.notSt (m a h)) e), nd, fun a h => List.mem_cons_of_mem _ (m a h)⟩, Ea.dj, fun a h => ?_, Eh.tm, fun a e => ?_⟩
    · rcases List.mem_cons.mp h with rfl | z
      · rw [h1]; simp
      · exact Eh.to a z
    · refine h6.ok a e (D :: O) ((E1.ok a e).mono (cut_same fun b u nb q => ⟨fun z => ?_, q⟩))
      rcases List.mem_cons.mp z with rfl | z
      · rw [hD] at q; cases q
      · exact nb z
  have hsame : Same (cut (O ++ C.M) H1) H2 := h5.trans (cut_le _ _)
  by_cases hlt : i < ds.length
  · refine .inr ⟨w.goes i H2 hsame hlt, fun H' => ∃ acc out, H' D = some (.lst acc) ∧ Reps X.K (cut (D :: (O ++ C.M)) H') acc out ∧ out.length = i + 1 ∧ (∀ k y, k < i + 1 → ds[k]? = some y → ∃ z, out[k]? = some z ∧ U ds k y z) ∧ Same (cut (O ++ C.M) H1) (cut (D :: (O ++ C.M)) H') ∧ Tr C H1 H',
      fun H' ⟨acc', out', g1, g2, g3, g4, g5, g6⟩ => ⟨ds.length - (i + 1), by omega, rfl, hlt, acc', out', g1, g2, g3, g4, g5, g6⟩, fun v H3 yl => ?_⟩
    obtain ⟨d, hd, sm, rp⟩ := w.yields i H2 v H3 hsame hlt yl
    have E3 := E2.tr (Tr.of sm)
    have rv : Rep X.K (cut ((D :: O) ++ C.M) H3) v d := rp _ (fun a h => by
      rcases List.mem_append.mp h with h | h
      · exact E2.to a h
      · exact E2.tm a h) h5
    have E4 := (E3.setU none n).setD rv n
    refine ⟨?_, fun s H0 L cl fp => ?_⟩
    · show wipe ((wipe σ [n]).set n (some v)) [n] = wipe σ [n]
      show ((σ.set n none).set n (some v)).set n none = σ.set n none
      rw [List.set_set, List.set_set]
    · refine he s H0 L cl fp ds i d pT hd ((σ.set n none).set n (some v)) H3 (D :: O) E4 _ fun y H4 z pz t4 r4 => ?_
      have hD4 : H4 D = some (.lst acc) := t4.keep D _ nst (sm _ _ h1)
      have c4 : Same (cut (D :: (O ++ C.M)) H2) (cut (D :: (O ++ C.M)) H4) := cut_same fun a o na h => ⟨na, t4.keep a o (fun e => na (List.mem_cons_of_mem _ (List.mem_append_right _ (C.hst a e)))) (sm a o h)⟩
      have eD : cut (D :: (O ++ C.M)) (upd H4 D (.lst (acc ++ [y]))) = cut (D :: (O ++ C.M)) H4 := cut_upd List.mem_cons_self
      have la : acc.length = i := by rw [h2.length, h3]
      refine ⟨acc, hD4, ?_, acc ++ [y], out ++ [z], upd_same, ?_, ?_, fun k y' hk hy => ?_, ?_, ?_⟩
      · rw [la]; exact Nat.lt_of_lt_of_le hlt (Nat.le_trans lds (by decide))
      · rw [eD]; exact (h2.mono c4).append (.cons r4 .nil)
      · rw [List.length_append, h3]; rfl
      · by_cases hki : k < i
        · obtain ⟨z', q1, q2⟩ := h4 k y' hki hy
          exact ⟨z', by rw [List.getElem?_append_left (by omega)]; exact q1, q2⟩
        · have ek : k = i := by omega
          subst ek
          rw [hd] at hy
          cases hy
          exact ⟨z, by rw [List.getElem?_append_right (by omega), h3]; simp, pz⟩
      · rw [eD]; exact h5.trans c4
      · have t24 : Tr C H1 H4 := h6.trans ((Tr.of sm).trans t4)
        refine ⟨fun a o ns h => ?_, fun a e Ox h => ?_⟩
        · rw [upd_ne (ne_of_none h hD)]; exact t24.keep a o ns h
        · have z := t24.ok a e (D :: Ox) (h.mono (cut_same fun b u nb q => ⟨fun z => by
            rcases List.mem_cons.mp z with rfl | z
            · rw [hD] at q; cases q
            · exact nb z, q⟩))
          refine z.mono (cut_same fun b u nb q => ⟨fun z => nb (List.mem_cons_of_mem _ z), ?_⟩)
          rw [upd_ne (fun e => nb (by rw [e]; exact List.mem_cons_self))]; exact q
  · have ei : i = ds.length := by omega
    refine .inl ⟨by rw [ei]; exact w.stops H2 hsame, ?_⟩
    refine k D _ H2 (.list out) ⟨ds, out, rfl, pT, by omega, fun kk y hy => h4 kk y (by have := (List.getElem?_eq_some_iff.mp hy).1; omega) hy⟩ (t1.trans h6) (t1.none hD nst) h1 (.lst h2)

theorem RdN.imp {t : TE} (h : RdN C X t sl P) (k : ∀ d, P d → P' d) : RdN C X t sl P' := fun σ H O E Q q => h σ H O E Q fun p o H' d pd t n ho r => q p o H' d (k d pd) t n ho r
theorem lc_readm {iter elt : Expr} {scope : Scope} {n : Nat} {xs : Str} {px : Pos} {ds out : List PyData}
    (hi : IT C X (.Name xs px) iter sl (isL ds)) (hT : ds.length ≤ 1000000) (hl : out.length = ds.length)
    (he : ∀ (s : Shared) (H : Hp) (L : Addr) (cl : List (Str × Addr)) (fp : List Addr) (k : Nat) d z, ds[k]? = some d → out[k]? = some z → EV C (X.blk s H scope (compEnvC scope cl L X.env) fp) elt ((sl.set n .u).set n (.d d)) (is z)) :
    RdN C X (tLc (cI X (.Name xs px) iter) (gName n) tYes (cBlk X scope elt) [n]) sl (is (.list out)) :=
  (lc_read (U := fun ds' k d z => ds' = ds → out[k]? = some z) hi (fun ds' p => by have p : ds' = ds := p; rw [p]; exact hT) (fun s H L cl fp ds' k d p hd => by
    have p : ds' = ds := p
    subst p
    have hk := (List.getElem?_eq_some_iff.mp hd).1
    have hz : out[k]? = some (out[k]'(by omega)) := List.getElem?_eq_getElem (by omega)
    exact (he s H L cl fp k d _ hd hz).imp fun z pz _ => by rw [pz]; exact hz)).imp fun d ⟨ds', out', e1, p, l, q⟩ => by
    have p : ds' = ds := p
    subst p
    rw [e1]
    congr 1
    refine List.ext_getElem? fun k => ?_
    by_cases hk : k < ds'.length
    · obtain ⟨z, q1, q2⟩ := q k _ (List.getElem?_eq_getElem hk)
      rw [q1, q2 rfl]
    · rw [List.getElem?_eq_none (by omega), List.getElem?_eq_none (by omega)]
/-- how a comprehension's own name is stored -/
structure LcOk (X : Cx) (scope : Scope) (n : Nat) (xs : Str) : Prop where
  ok : BlkOk X.N X.env.scope scope [(xs, n)]
  ix : X.N[n]? = some xs
  loc : ∀ (s : Shared) (H : Hp) (L : Addr) (cl : List (Str × Addr)) (fp : List Addr), Loc (compEnvC scope cl L X.env).scope xs
  st : ∀ (s : Shared) (H : Hp) (L : Addr) (cl : List (Str × Addr)) (fp : List Addr), (X.blk s H scope (compEnvC scope cl L X.env) fp).fn xs = true ∨ (compEnvC scope cl L X.env).scope.names.lookup xs = some .local
theorem lcok {scope : Scope} {xs : Str} (n : Nat) (ok : BlkOk X.N X.env.scope scope [(xs, n)]) (ix : X.N[n]? = some xs := by rfl)
    (loc : ∀ (s : Shared) (H : Hp) (L : Addr) (cl : List (Str × Addr)) (fp : List Addr), Loc (compEnvC scope cl L X.env).scope xs := by exact fun _ _ _ _ _ => .inl rfl)
    (st : ∀ (s : Shared) (H : Hp) (L : Addr) (cl : List (Str × Addr)) (fp : List Addr), (X.blk s H scope (compEnvC scope cl L X.env) fp).fn xs = true ∨ (compEnvC scope cl L X.env).scope.names.lookup xs = some .local := by exact fun _ _ _ _ _ => .inr rfl) : LcOk X scope n xs := ⟨ok, ix, loc, st⟩
theorem en_lc {iter elt : Expr} {scope : Scope} {n : Nat} {xs : Str} {px : Pos} (hc : X.calm = true) (hN : X.N.Nodup) (ok : LcOk X scope n xs) (h : RdN C X (tLc (cI X (.Name xs px) iter) (gName n) tYes (cBlk X scope elt) [n]) sl P)
    (hs : ∀ y, foldedSetIterable iter X.env y = pure y := by intro _; rfl) : EVN C X (.ListComp elt [⟨.Name xs px, iter, [], 0⟩] scope pos) sl P := fun σ H O E Q k =>
  ofE (pe_lc (own := [(xs, n)]) hc hN (pi_c _ _) ok.ok (fun s H L cl fp => pg_name hN ok.ix (ok.loc s H L cl fp) (ok.st s H L cl fp)) (fun _ _ _ _ _ => pts_nil) (fun s H0 L cl fp => pe_blk s H0 L cl fp) hs) (h σ H O E Q k)
end
end DL
/-! Statements, defs. -/
namespace DL
open PySem PySem.Spec PyProof.Rows L2
/-- what is wanted behind a block -/
structure Ps where
  nx : List Sl → Prop
  rt : PyData → Prop
  bk : List Sl → Prop := fun _ => False
  ct : List Sl → Prop := fun _ => False
structure Fin (K : PySem.W.Frag) (C : Cfg) (H : Hp) (O : List Addr) (D : Ends) (p : Ps) : Prop where
  nx : ∀ σ' H' O' sl', p.nx sl' → EnvOk K C H' σ' sl' O' → Step C O H O' H' → D.nx σ' H'
  rt : ∀ v H' d, p.rt d → Step C O H [] H' → Rep K (cut C.M H') v d → D.rt v H'
  bk : ∀ σ' H' O' sl', p.bk sl' → EnvOk K C H' σ' sl' O' → Step C O H O' H' → D.bk σ' H'
  ct : ∀ σ' H' O' sl', p.ct sl' → EnvOk K C H' σ' sl' O' → Step C O H O' H' → D.ct σ' H'
def STs (C : Cfg) (X : Cx) (ss : List Stmt) (sl : List Sl) (p : Ps) : Prop :=
  ∀ (σ : L2.St) (H : Hp) (O : List Addr), EnvOk X.K C H σ sl O → ∀ D : Ends, Fin X.K C H O D p → cSs X ss D σ H
def ST (C : Cfg) (X : Cx) (s : Stmt) (sl : List Sl) (p : Ps) : Prop :=
  ∀ (σ : L2.St) (H : Hp) (O : List Addr), EnvOk X.K C H σ sl O → ∀ D : Ends, Fin X.K C H O D p → cS X s D σ H
/-- a target is given data -/
def GA (C : Cfg) (X : Cx) (tg : Expr) (d : PyData) (sl : List Sl) (N : List Sl → Prop) : Prop :=
  ∀ (σ : L2.St) (H : Hp) (O : List Addr) (v : V), EnvOk X.K C H σ sl O → Rep X.K (cut (O ++ C.M) H) v d → ∀ Q : L2.St → Hp → Prop, (∀ σ' sl', N sl' → EnvOk X.K C H σ' sl' O → Q σ' H) → cG X tg v σ H Q
def cGs (X : Cx) (ts : List Expr) : TGs := fun vs σ H Q => ∀ (pins : List (Addr × Obj)) (s : Shared) (us : List Value), Inv X pins σ H s → Vals vs us →
  wpAny (model X.prog X.w) X.A (assignInOrder ((assignEach ts X.env).map (·.2)) us) (fun _ s' => ∃ σ' H', Inv X pins σ' H' s' ∧ Q σ' H') X.xe s
theorem pgs_c {X : Cx} (ts : List Expr) : PGs X ts (cGs X ts) := ⟨fun pins s _ _ _ us _ I r h => h pins s us I r⟩
theorem ofGs {X : Cx} {ts : List Expr} {t : TGs} {vs : List V} {σ : L2.St} {H : Hp} {Q : L2.St → Hp → Prop} (p : PGs X ts t) (h : t vs σ H Q) : cGs X ts vs σ H Q := fun pins s us I r => p.run pins s σ H vs us Q I r h
def GAs (C : Cfg) (X : Cx) (ts : List Expr) (ds : List PyData) (sl : List Sl) (N : List Sl → Prop) : Prop :=
  ∀ (σ : L2.St) (H : Hp) (O : List Addr) (vs : List V), EnvOk X.K C H σ sl O → Reps X.K (cut (O ++ C.M) H) vs ds → ∀ Q : L2.St → Hp → Prop, (∀ σ' sl', N sl' → EnvOk X.K C H σ' sl' O → Q σ' H) → cGs X ts vs σ H Q
section
variable {C : Cfg} {X : Cx} {e a b c tg : Expr} {es : List Expr} {sl : List Sl} {P P' Pa Pb Pc : PyData → Prop} {pos p1 : Pos} {K : PySem.W.Frag} {H H' : Hp} {σ : L2.St} {O O' : List Addr} {i j : Int} {x : Str} {p : Ps} {s : Stmt} {ss : List Stmt} {D : Ends}
theorem Fin.step (f : Fin K C H O D p) (st : Step C O H O' H') : Fin K C H' O' D p :=
  ⟨fun σ' H2 O2 sl' h E t => f.nx σ' H2 O2 sl' h E (st.trans t), fun v H2 d h t r => f.rt v H2 d h (st.trans t) r, fun σ' H2 O2 sl' h E t => f.bk σ' H2 O2 sl' h E (st.trans t), fun σ' H2 O2 sl' h E t => f.ct σ' H2 O2 sl' h E (st.trans t)⟩
theorem Step.last (t : Step C O H O H') : Step C O H [] H' := ⟨t.keep, fun a h => absurd h (by simp), t.ok, fun a h => absurd h (by simp)⟩
theorem sts_cons {N : List Sl → Prop} (h : ST C X s sl { p with nx := N }) (k : ∀ sl', N sl' → STs C X ss sl' p) : STs C X (s :: ss) sl p := fun σ H O E D f =>
  ofSs (pss_cons (ps_c s) (pss_c ss)) (h σ H O E { D with nx := cSs X ss D } ⟨fun σ' H' O' sl' n E' t => k sl' n σ' H' O' E' D (f.step t), f.rt, f.bk, f.ct⟩)
theorem sts_nil (h : p.nx sl) : STs C X [] sl p := fun σ H O E D f => ofSs pss_nil (f.nx σ H O sl h E (Step.refl E))
theorem sts_one (h : ST C X s sl p) : STs C X [s] sl p := sts_cons h fun _ n => sts_nil n
theorem STs.imp {p' : Ps} (h : STs C X ss sl p) (h1 : ∀ s, p.nx s → p'.nx s) (h2 : ∀ s, p.rt s → p'.rt s) (h3 : ∀ s, p.bk s → p'.bk s) (h4 : ∀ s, p.ct s → p'.ct s) : STs C X ss sl p' := fun σ H O E D f =>
  h σ H O E D ⟨fun σ' H' O' sl' n => f.nx σ' H' O' sl' (h1 _ n), fun v H' d n => f.rt v H' d (h2 _ n), fun σ' H' O' sl' n => f.bk σ' H' O' sl' (h3 _ n), fun σ' H' O' sl' n => f.ct σ' H' O' sl' (h4 _ n)⟩
/-! targets -/
theorem ga_name (n : Nat) {d : PyData} (hN : X.N.Nodup) (hi : X.N[n]? = some x := by rfl) (hx : Loc X.env.scope x := by first | exact .inl rfl | exact .inr rfl) (hf : X.fn x = true ∨ X.env.scope.names.lookup x = some .local := by first | exact .inl rfl | exact .inr rfl) :
    GA C X (.Name x pos) d sl (fun s => s = sl.set n (.d d)) := fun σ H O v E r Q k => ofG (pg_name hN hi hx hf) (k _ _ rfl (E.setD r n))
theorem gas_nil : GAs C X [] [] sl (fun s => s = sl) := fun σ H O vs E r Q k => ofGs pgs_nil (by cases r; exact ⟨rfl, k σ sl rfl E⟩)
theorem gas_cons {d : PyData} {ds : List PyData} {N N' : List Sl → Prop} (h : GA C X a d sl N) (t : ∀ sl', N sl' → GAs C X es ds sl' N') (hs : (assignEach (a :: es) X.env).map (·.2) = assign a X.env :: (assignEach es X.env).map (·.2) := by rfl) :
    GAs C X (a :: es) (d :: ds) sl N' := fun σ H O vs E r Q k => ofGs (pgs_cons (pg_c a) (pgs_c es) hs) (by
  cases r with
  | cons r1 r2 => exact ⟨_, _, rfl, h σ H O _ E r1 _ fun σ' sl' n E' => t sl' n σ' H O _ E' r2 Q k⟩)
theorem ga_tup {k : Nat} {ds : List PyData} {N : List Sl → Prop} (hc : X.calm = true) (h : GAs C X es ds sl N) (hn : (assignEach es X.env).length = ds.length := by rfl) (hst : (assignEach es X.env).findIdx? (·.1) = none := by rfl) :
    GA C X (.Tuple es k pos) (.tuple ds) sl N := fun σ H O v E r Q k => ofG (pg_tup hc (pgs_c es) hn hst) (by
  obtain ⟨q, vs, rfl, h1, s1⟩ := r.tup_inv
  exact ⟨q, vs, rfl, sqT_mono (cut_le _ _) h1, s1.length, h σ H O vs E s1 Q k⟩)
/-- one name, two names -/
theorem gas_n1 (n : Nat) {d : PyData} (hN : X.N.Nodup) (hi : X.N[n]? = some x := by rfl) (hx : Loc X.env.scope x := by first | exact .inl rfl | exact .inr rfl) (hf : X.fn x = true ∨ X.env.scope.names.lookup x = some .local := by first | exact .inl rfl | exact .inr rfl)
    (hs : (assignEach [Expr.Name x pos] X.env).map (·.2) = assign (Expr.Name x pos) X.env :: (assignEach [] X.env).map (·.2) := by rfl) : GAs C X [.Name x pos] [d] sl (fun s => s = sl.set n (.d d)) :=
  gas_cons (ga_name n hN hi hx hf) (fun sl' e => by rw [show sl' = _ from e]; exact gas_nil) hs

theorem ga_t2 (n m : Nat) {x y : Str} {px py pt : Pos} {kk : Nat} {d1 d2 : PyData} (hc : X.calm = true) (hN : X.N.Nodup)
    (hi : X.N[n]? = some x := by rfl) (hj : X.N[m]? = some y := by rfl) (hx : Loc X.env.scope x := by first | exact .inl rfl | exact .inr rfl) (hy : Loc X.env.scope y := by first | exact .inl rfl | exact .inr rfl)
    (hf : X.fn x = true ∨ X.env.scope.names.lookup x = some .local := by first | exact .inl rfl | exact .inr rfl) (hg : X.fn y = true ∨ X.env.scope.names.lookup y = some .local := by first | exact .inl rfl | exact .inr rfl)
    (a1 : (assignEach [.Name x px, .Name y py] X.env).map (·.2) = assign (.Name x px) X.env :: (assignEach [.Name y py] X.env).map (·.2) := by rfl) (a2 : (assignEach [Expr.Name y py] X.env).map (·.2) = assign (.Name y py) X.env :: (assignEach [] X.env).map (·.2) := by rfl)
    (hn : (assignEach [.Name x px, .Name y py] X.env).length = 2 := by rfl) (hst : (assignEach [.Name x px, .Name y py] X.env).findIdx? (·.1) = none := by rfl) :
    GA C X (.Tuple [.Name x px, .Name y py] kk pt) (.tuple [d1, d2]) sl (fun s => s = (sl.set n (.d d1)).set m (.d d2)) :=
  ga_tup hc (gas_cons (ga_name n hN hi hx hf) (fun sl' e => by rw [show sl' = _ from e]; exact gas_n1 m hN hj hy hg a2) a1) hn hst
theorem ga_t3 (n m l : Nat) {x y z : Str} {px py pz pt : Pos} {kk : Nat} {d1 d2 d3 : PyData} (hc : X.calm = true) (hN : X.N.Nodup)
    (hi : X.N[n]? = some x := by rfl) (hj : X.N[m]? = some y := by rfl) (hl : X.N[l]? = some z := by rfl) (hx : Loc X.env.scope x := by first | exact .inl rfl | exact .inr rfl) (hy : Loc X.env.scope y := by first | exact .inl rfl | exact .inr rfl) (hz : Loc X.env.scope z := by first | exact .inl rfl | exact .inr rfl)
    (hf : X.fn x = true ∨ X.env.scope.names.lookup x = some .local := by first | exact .inl rfl | exact .inr rfl) (hg : X.fn y = true ∨ X.env.scope.names.lookup y = some .local := by first | exact .inl rfl | exact .inr rfl) (hh : X.fn z = true ∨ X.env.scope.names.lookup z = some .local := by first | exact .inl rfl | exact .inr rfl)
    (a1 : (assignEach [.Name x px, .Name y py, .Name z pz] X.env).map (·.2) = assign (.Name x px) X.env :: (assignEach [.Name y py, .Name z pz] X.env).map (·.2) := by rfl)
    (a2 : (assignEach [.Name y py, .Name z pz] X.env).map (·.2) = assign (.Name y py) X.env :: (assignEach [.Name z pz] X.env).map (·.2) := by rfl) (a3 : (assignEach [Expr.Name z pz] X.env).map (·.2) = assign (.Name z pz) X.env :: (assignEach [] X.env).map (·.2) := by rfl)
    (hn : (assignEach [.Name x px, .Name y py, .Name z pz] X.env).length = 3 := by rfl) (hst : (assignEach [.Name x px, .Name y py, .Name z pz] X.env).findIdx? (·.1) = none := by rfl) :
    GA C X (.Tuple [.Name x px, .Name y py, .Name z pz] kk pt) (.tuple [d1, d2, d3]) sl (fun s => s = ((sl.set n (.d d1)).set m (.d d2)).set l (.d d3)) :=
  ga_tup hc (gas_cons (ga_name n hN hi hx hf) (fun sl' e => by rw [show sl' = _ from e]; exact gas_cons (ga_name m hN hj hy hg) (fun sl' e => by rw [show sl' = _ from e]; exact gas_n1 l hN hl hz hh a3) a2) a1) hn hst

/-! assignments -/
theorem sts_set (n : Nat) (hN : X.N.Nodup) (h : EV C X e sl P) (k : ∀ d, P d → STs C X ss (sl.set n (.d d)) p) (hi : X.N[n]? = some x := by rfl) (hx : Loc X.env.scope x := by first | exact .inl rfl | exact .inr rfl)
    (hs : swapsWith e (some (.Name x p1)) pos.line X.env = pure false := by rfl) (hf : X.fn x = true ∨ X.env.scope.names.lookup x = some .local := by first | exact .inl rfl | exact .inr rfl) : STs C X (.Assign [.Name x p1] e pos :: ss) sl p := fun σ H O E D f =>
  ofSs (pss_cons (ps_set hN hi hx (pe_c e) hs hf) (pss_c ss)) (h σ H O E _ fun v H1 d pd t1 r1 => k d pd _ H1 O ((E.tr t1).setD r1 n) D (f.step (Step.tr E t1)))
/-- a list or dict that the def will change -/
theorem sts_setO (n : Nat) (hN : X.N.Nodup) (h : EVN C X e sl P) (k : ∀ d, P d → STs C X ss (sl.set n (.own d)) p) (hi : X.N[n]? = some x := by rfl) (hx : Loc X.env.scope x := by first | exact .inl rfl | exact .inr rfl)
    (hs : swapsWith e (some (.Name x p1)) pos.line X.env = pure false := by rfl) (hf : X.fn x = true ∨ X.env.scope.names.lookup x = some .local := by first | exact .inl rfl | exact .inr rfl) : STs C X (.Assign [.Name x p1] e pos :: ss) sl p := fun σ H O E D f =>
  ofSs (pss_cons (ps_set hN hi hx (pe_c e) hs hf) (pss_c ss)) (h σ H O E _ fun q o H1 d pd t1 hq ho r1 => by
    obtain ⟨E1, st⟩ := E.setO t1 hq ho r1 n
    exact k d pd _ H1 (q :: O) E1 D (f.step st))
/-- y = [elt for x in iter], y a plain local name -/
theorem sts_lc (n : Nat) {m : Nat} {xs : Str} {px sp : Pos} {iter elt : Expr} {scope : Scope} (hc : X.calm = true) (hN : X.N.Nodup) (ok : LcOk X scope m xs) (h : RdN C X (tLc (cI X (.Name xs px) iter) (gName m) tYes (cBlk X scope elt) [m]) sl P)
    (k : ∀ d, P d → STs C X ss (sl.set n (.d d)) p) (hi : X.N[n]? = some x := by rfl) (hyl : X.env.scope.names.lookup x = some .local := by rfl)
    (hsw : swapsWith (.ListComp elt [⟨.Name xs px, iter, [], 0⟩] scope pos) (some (.Name x p1)) sp.line X.env = pure true := by exact sw_true rfl rfl rfl (by decide +kernel))
    (hs : ∀ y, foldedSetIterable iter X.env y = pure y := by intro _; rfl) : STs C X (.Assign [.Name x p1] (.ListComp elt [⟨.Name xs px, iter, [], 0⟩] scope pos) sp :: ss) sl p := fun σ H O E D f =>
  ofSs (pss_cons (ps_setLc (i := n) (own := [(xs, m)]) hc hN hi hyl hsw (pi_c _ _) ok.ok (fun s H L cl fp => pg_name hN ok.ix (ok.loc s H L cl fp) (ok.st s H L cl fp)) (fun _ _ _ _ _ => pts_nil) (fun s H0 L cl fp => pe_blk s H0 L cl fp) hs) (pss_c ss))
    (h σ H O E (fun v H1 => cSs X ss D (σ.set n (some v)) H1) fun q o H1 d pd t1 hq ho r1 => by
      obtain ⟨n1, n2⟩ := E.fresh hq
      have r2 : Rep X.K (cut (O ++ C.M) H1) (.ref q) d := .obj (by rw [cut_out (by intro z; exact (List.mem_append.mp z).elim n1 n2)]; exact ho) (r1.mono (cut_same fun a u na x => ⟨fun z => na (List.mem_cons_of_mem _ z), x⟩))
      exact k d pd _ H1 O ((E.tr t1).setD r2 n) D (f.step (Step.tr E t1)))
theorem sts_lcO (n : Nat) {m : Nat} {xs : Str} {px sp : Pos} {iter elt : Expr} {scope : Scope} (hc : X.calm = true) (hN : X.N.Nodup) (ok : LcOk X scope m xs) (h : RdN C X (tLc (cI X (.Name xs px) iter) (gName m) tYes (cBlk X scope elt) [m]) sl P)
    (k : ∀ d, P d → STs C X ss (sl.set n (.own d)) p) (hi : X.N[n]? = some x := by rfl) (hyl : X.env.scope.names.lookup x = some .local := by rfl)
    (hsw : swapsWith (.ListComp elt [⟨.Name xs px, iter, [], 0⟩] scope pos) (some (.Name x p1)) sp.line X.env = pure true := by exact sw_true rfl rfl rfl (by decide +kernel))
    (hs : ∀ y, foldedSetIterable iter X.env y = pure y := by intro _; rfl) : STs C X (.Assign [.Name x p1] (.ListComp elt [⟨.Name xs px, iter, [], 0⟩] scope pos) sp :: ss) sl p := fun σ H O E D f =>
  ofSs (pss_cons (ps_setLc (i := n) (own := [(xs, m)]) hc hN hi hyl hsw (pi_c _ _) ok.ok (fun s H L cl fp => pg_name hN ok.ix (ok.loc s H L cl fp) (ok.st s H L cl fp)) (fun _ _ _ _ _ => pts_nil) (fun s H0 L cl fp => pe_blk s H0 L cl fp) hs) (pss_c ss))
    (h σ H O E (fun v H1 => cSs X ss D (σ.set n (some v)) H1) fun q o H1 d pd t1 hq ho r1 => by
      obtain ⟨E1, st⟩ := E.setO t1 hq ho r1 n
      exact k d pd _ H1 (q :: O) E1 D (f.step st))
theorem sts_asg {N : PyData → List Sl → Prop} (h : EV C X e sl P) (hg : ∀ d, P d → GA C X tg d sl (N d)) (k : ∀ d sl', P d → N d sl' → STs C X ss sl' p) (hs : swapsWithSole [tg] e pos.line X.env = pure false := by rfl) (hw : swappedStores [tg] e X.env = pure none := by rfl)
    (h1 : (assignEach [tg] X.env).map (·.2) = [assign tg X.env] := by rfl) : STs C X (.Assign [tg] e pos :: ss) sl p := fun σ H O E D f =>
  ofSs (pss_cons (ps_asg (pe_c e) (pg_c tg) hs hw h1) (pss_c ss)) (h σ H O E _ fun v H1 d pd t1 r1 => hg d pd σ H1 O v (E.tr t1) r1 _ fun σ' sl' n E' => k d sl' pd n σ' H1 O E' D (f.step (Step.tr E t1)))
/-- a, b = e, a pair -/
theorem sts_unpack2 (n m : Nat) {x y : Str} {px py pt : Pos} {kk : Nat} {d1 d2 : PyData} (hc : X.calm = true) (hN : X.N.Nodup) (h : EV C X e sl (is (.tuple [d1, d2]))) (k : STs C X ss ((sl.set n (.d d1)).set m (.d d2)) p)
    (hi : X.N[n]? = some x := by rfl) (hj : X.N[m]? = some y := by rfl) (hx : Loc X.env.scope x := by first | exact .inl rfl | exact .inr rfl) (hy : Loc X.env.scope y := by first | exact .inl rfl | exact .inr rfl)
    (hf : X.fn x = true ∨ X.env.scope.names.lookup x = some .local := by first | exact .inl rfl | exact .inr rfl) (hg : X.fn y = true ∨ X.env.scope.names.lookup y = some .local := by first | exact .inl rfl | exact .inr rfl)
    (hs : swapsWithSole [.Tuple [.Name x px, .Name y py] kk pt] e pos.line X.env = pure false := by rfl) (hw : swappedStores [.Tuple [.Name x px, .Name y py] kk pt] e X.env = pure none := by rfl)
    (h1 : (assignEach [.Tuple [.Name x px, .Name y py] kk pt] X.env).map (·.2) = [assign (.Tuple [.Name x px, .Name y py] kk pt) X.env] := by rfl)
    (a1 : (assignEach [.Name x px, .Name y py] X.env).map (·.2) = assign (.Name x px) X.env :: (assignEach [.Name y py] X.env).map (·.2) := by rfl) (a2 : (assignEach [Expr.Name y py] X.env).map (·.2) = assign (.Name y py) X.env :: (assignEach [] X.env).map (·.2) := by rfl)
    (hn : (assignEach [.Name x px, .Name y py] X.env).length = 2 := by rfl) (hst : (assignEach [.Name x px, .Name y py] X.env).findIdx? (·.1) = none := by rfl) :
    STs C X (.Assign [.Tuple [.Name x px, .Name y py] kk pt] e pos :: ss) sl p :=
  sts_asg (N := fun _ s => s = (sl.set n (.d d1)).set m (.d d2)) h (fun d pd => by
    rw [show d = _ from pd]
    exact ga_tup hc (gas_cons (ga_name n hN hi hx hf) (fun sl' e => by rw [show sl' = _ from e]; exact gas_n1 m hN hj hy hg a2) a1) hn hst) (fun d sl' pd n => by rw [n]; exact k) hs hw h1
/-- a, b, c = e, a triple -/
theorem sts_unpack3 (n m l : Nat) {x y z : Str} {px py pz pt : Pos} {kk : Nat} {d1 d2 d3 : PyData} (hc : X.calm = true) (hN : X.N.Nodup) (h : EV C X e sl (is (.tuple [d1, d2, d3]))) (k : STs C X ss (((sl.set n (.d d1)).set m (.d d2)).set l (.d d3)) p)
    (hi : X.N[n]? = some x := by rfl) (hj : X.N[m]? = some y := by rfl) (hl : X.N[l]? = some z := by rfl) (hx : Loc X.env.scope x := by first | exact .inl rfl | exact .inr rfl) (hy : Loc X.env.scope y := by first | exact .inl rfl | exact .inr rfl) (hz : Loc X.env.scope z := by first | exact .inl rfl | exact .inr rfl)
    (hf : X.fn x = true ∨ X.env.scope.names.lookup x = some .local := by first | exact .inl rfl | exact .inr rfl) (hg : X.fn y = true ∨ X.env.scope.names.lookup y = some .local := by first | exact .inl rfl | exact .inr rfl) (hh : X.fn z = true ∨ X.env.scope.names.lookup z = some .local := by first | exact .inl rfl | exact .inr rfl)
    (hs : swapsWithSole [.Tuple [.Name x px, .Name y py, .Name z pz] kk pt] e pos.line X.env = pure false := by rfl) (hw : swappedStores [.Tuple [.Name x px, .Name y py, .Name z pz] kk pt] e X.env = pure none := by rfl)
    (h1 : (assignEach [.Tuple [.Name x px, .Name y py, .Name z pz] kk pt] X.env).map (·.2) = [assign (.Tuple [.Name x px, .Name y py, .Name z pz] kk pt) X.env] := by rfl)
    (a1 : (assignEach [.Name x px, .Name y py, .Name z pz] X.env).map (·.2) = assign (.Name x px) X.env :: (assignEach [.Name y py, .Name z pz] X.env).map (·.2) := by rfl)
    (a2 : (assignEach [.Name y py, .Name z pz] X.env).map (·.2) = assign (.Name y py) X.env :: (assignEach [.Name z pz] X.env).map (·.2) := by rfl) (a3 : (assignEach [Expr.Name z pz] X.env).map (·.2) = assign (.Name z pz) X.env :: (assignEach [] X.env).map (·.2) := by rfl)
    (hn : (assignEach [.Name x px, .Name y py, .Name z pz] X.env).length = 3 := by rfl) (hst : (assignEach [.Name x px, .Name y py, .Name z pz] X.env).findIdx? (·.1) = none := by rfl) :
    STs C X (.Assign [.Tuple [.Name x px, .Name y py, .Name z pz] kk pt] e pos :: ss) sl p :=
  sts_asg (N := fun _ s => s = ((sl.set n (.d d1)).set m (.d d2)).set l (.d d3)) h (fun d pd => by
    rw [show d = _ from pd]
    exact ga_tup hc (gas_cons (ga_name n hN hi hx hf) (fun sl' e => by rw [show sl' = _ from e]; exact gas_cons (ga_name m hN hj hy hg) (fun sl' e => by rw [show sl' = _ from e]; exact gas_n1 l hN hl hz hh a3) a2) a1) hn hst) (fun d sl' pd n => by rw [n]; exact k) hs hw h1

/-! if, return, append -/
theorem sts_if {T : Bool → Prop} {N : List Sl → Prop} {sa sb : List Stmt} (h : EVT C X c sl T) (ha : T true → STs C X sa sl { p with nx := N }) (hb : T false → STs C X sb sl { p with nx := N }) (k : ∀ sl', N sl' → STs C X ss sl' p) : STs C X (.If c sa sb pos :: ss) sl p :=
  sts_cons (N := N) (fun σ H O E D f => ofS (ps_if (pt_c c) (pss_c sa) (pss_c sb)) (h σ H O E _ fun b H1 pb t1 => by
    cases b with
    | true =>
      show cSs X sa D σ H1
      exact ha pb σ H1 O (E.tr t1) D (f.step (Step.tr E t1))
    | false =>
      show cSs X sb D σ H1
      exact hb pb σ H1 O (E.tr t1) D (f.step (Step.tr E t1)))) k
/-- the then-branch does not come back -/
theorem sts_ifR {T : Bool → Prop} {sa : List Stmt} (h : EVT C X c sl T) (ha : T true → STs C X sa sl { p with nx := fun _ => False }) (k : T false → STs C X ss sl p) : STs C X (.If c sa [] pos :: ss) sl p :=
  sts_if (N := fun s => s = sl ∧ T false) h (fun t => (ha t).imp (fun _ f => f.elim) (fun _ h => h) (fun _ h => h) (fun _ h => h)) (fun t => sts_nil ⟨rfl, t⟩) fun sl' n => by rw [n.1]; exact k n.2
theorem sts_ret (h : EV C X e sl P) (k : ∀ d, P d → p.rt d) : STs C X [.Return (some e) pos] sl p := fun σ H O E D f =>
  ofSs (pss_one (ps_ret (pe_c e))) (h σ H O E _ fun v H1 d pd t1 r1 => f.rt v H1 d (k d pd) (Step.tr E t1).last (r1.mono (cut_same fun a u na x => ⟨fun z => na (List.mem_append_right _ z), x⟩)))
theorem sts_retO (n : Nat) {d : PyData} (k : p.rt d) (hs : sl[n]? = some (.own d) := by rfl) (hN : X.N[n]? = some x := by rfl) (hv : Vis X.env.scope x := by first | exact Or.inl rfl | exact Or.inr (Or.inl rfl) | exact Or.inr (Or.inr rfl))
    (hd : (x == ("__debug__" : Str)) = false := by decide) (hcd : (x == ("__classdict__" : Str)) = false := by decide) : STs C X [.Return (some (.Name x p1)) pos] sl p := fun σ H O E D f => by
  obtain ⟨q, o, h1, h2, h3, h4⟩ := E.own hs
  refine ofSs (pss_one (ps_ret (pe_var hN hv hd hcd))) ⟨.ref q, h1, f.rt _ H d k (Step.refl E).last (.obj ?_ (h3.mono (cut_same fun a u na x => ⟨fun z => na (List.mem_append_right _ z), x⟩)))⟩
  rw [cut_out (E.dj q h4)]
  exact h2
theorem sts_append (n : Nat) {xs : List PyData} {px ap : Pos} (h : EV C X e sl P) (hz : xs.length < 1000000) (k : ∀ d, P d → STs C X ss (sl.set n (.own (.list (xs ++ [d])))) p) (hs : sl[n]? = some (.own (.list xs)) := by rfl) (hN : X.N[n]? = some x := by rfl)
    (hv : Vis X.env.scope x := by first | exact Or.inl rfl | exact Or.inr (Or.inl rfl) | exact Or.inr (Or.inr rfl)) (hd : (x == ("__debug__" : Str)) = false := by decide) (hcd : (x == ("__classdict__" : Str)) = false := by decide)
    (hsw : swapsWith (.Call (.Attribute (.Name x px) "append" ap) [e] [] p1) none pos.line X.env = pure false := by rfl) (hbase : attributeBase (.Name x px) "append" X.env (eval (.Name x px) X.env) = eval (.Name x px) X.env := by rfl)
    (hfew : ((backTo p1 (starEach [e] X.env)).all (fun x => !x.1) && (backToKw p1 (keywordEach [] X.env)).all (fun x => x.1.isSome)
      && decide ([e].length + ([] : List Keyword).length + (if ([] : List Keyword).isEmpty then 0 else 1) < 30)) = true := by rfl)
    (hline : (ap.endLine == p1.line) = true := by rfl) (hst : starEach [e] X.env = (false, eval e X.env) :: starEach [] X.env := by rfl) (hplain : (backTo p1 (starEach [] X.env)).any (·.1) = false := by rfl) :
    STs C X (.Expr (.Call (.Attribute (.Name x px) "append" ap) [e] [] p1) pos :: ss) sl p := fun σ H O E D f => by
  obtain ⟨q, o, h1, h2, h3, h4⟩ := E.own hs
  cases h3 with
  | @lst vs ds r =>
    refine ofSs (pss_cons (ps_expr (pe_bm PySem.F.plainAttrs_list PySem.F.slot_list_append PySem.F.type_list_append mt_append (pe_var hN hv hd hcd) (pa_cons (pe_c e) pa_nil hst) hbase hfew hline hst hplain) hsw) (pss_c ss))
      ⟨.ref q, h1, Or.inl ⟨rfl, _, SqL.of h2⟩, h σ H O E _ fun v H1 d pd t1 r1 => ⟨q, vs, v, rfl, rfl, t1.keep _ _ (E.notSt h4) h2, ?_, ?_⟩⟩
    · rw [r.length]; exact Nat.lt_of_lt_of_le hz (by decide)
    · have E1 := E.tr t1
      obtain ⟨E2, st⟩ := E1.mut (o := .lst (vs ++ [v])) (y := .list (xs ++ [d])) hs h1 (.lst ((r.mono (t1.cutS O)).append (.cons r1 .nil)))
      exact k d pd σ _ O E2 D (f.step ((Step.tr E t1).trans st))
/-- the def's own list or dict is changed no more -/
theorem sts_freeze (n : Nat) {d : PyData} (k : STs C X ss (sl.set n (.d d)) p) (hs : sl[n]? = some (.own d) := by rfl) : STs C X ss sl p := fun σ H O E D f => by
  obtain ⟨O', E', st⟩ := E.freeze hs
  exact k σ H O' E' D (f.step st)
theorem sts_break (h : p.bk sl) : STs C X [.Break pos] sl p := fun σ H O E D f => ofSs (pss_one ps_break) (f.bk σ H O sl h E (Step.refl E))
theorem sts_continue (h : p.ct sl) : STs C X [.Continue pos] sl p := fun σ H O E D f => ofSs (pss_one ps_continue) (f.ct σ H O sl h E (Step.refl E))
theorem sts_pass (k : STs C X ss sl p) : STs C X (.Pass pos :: ss) sl p := fun σ H O E D f => ofSs (pss_cons ps_pass (pss_c ss)) (k σ H O E D f)

/-! for -/
theorem sts_for {iter : Expr} {body : List Stmt} {T : List PyData → Prop} {Nb : List Sl → Prop} (Inv : List PyData → Nat → List Sl → Prop) (hc : X.calm = true) (hi : IT C X tg iter sl T) (h0 : ∀ ds, T ds → Inv ds 0 sl)
    (hb : ∀ ds k d sl', T ds → ds[k]? = some d → Inv ds k sl' → ∃ N, GA C X tg d sl' N ∧ ∀ sl2, N sl2 → STs C X body sl2 { p with nx := Inv ds (k + 1), ct := Inv ds (k + 1), bk := Nb })
    (k : ∀ ds sl', T ds → Inv ds ds.length sl' → STs C X ss sl' p) (kb : ∀ sl', Nb sl' → STs C X ss sl' p)
    (hp : PassesOwn (model X.prog X.w) X.A X.env X.xe := by exact PassesOwn.never) (hs : ∀ y, foldedSetIterable iter X.env y = pure y := by intro _; rfl) : STs C X (.For tg iter body [] pos :: ss) sl p := fun σ H O E D f =>
  ofSs (pss_cons (ps_for hp hc (pi_c tg iter) (pg_c tg) (pss_c body) hs) (pss_c ss)) (hi σ H O E _ fun J H1 ds pT t1 w => by
    have E1 := E.tr t1
    have st1 := Step.tr E t1
    refine ⟨fun i m σ H2 => m = ds.length - i ∧ i ≤ ds.length ∧ ∃ O2 sl2, Inv ds i sl2 ∧ EnvOk X.K C H2 σ sl2 O2 ∧ Step C O H1 O2 H2, ⟨ds.length, by simp, Nat.zero_le _, O, sl, h0 ds pT, E1, Step.refl E1⟩, ?_⟩
    rintro i m σ2 H2 ⟨rfl, hi2, O2, sl2, hI, E2, st2⟩
    have sm : Same (cut (O ++ C.M) H1) (cut (O2 ++ C.M) H2) := st2.cutS
    by_cases hlt : i < ds.length
    · refine .inr ⟨w.goes i H2 (sm.trans (cut_le _ _)) hlt, fun σ' H' => ∃ O2 sl2, Inv ds (i + 1) sl2 ∧ EnvOk X.K C H' σ' sl2 O2 ∧ Step C O H1 O2 H', fun σ' H' ⟨O3, sl3, a1, a2, a3⟩ => ⟨ds.length - (i + 1), by omega, rfl, hlt, O3, sl3, a1, a2, a3⟩, fun v H3 yl => ?_⟩
      obtain ⟨d, hd, s3, rp⟩ := w.yields i H2 v H3 (sm.trans (cut_le _ _)) hlt yl
      have t3 : Tr C H2 H3 := Tr.of s3
      have E3 := E2.tr t3
      have rv := rp (O2 ++ C.M) (fun a h => (List.mem_append.mp h).elim (E2.to a) (E2.tm a)) sm
      obtain ⟨N, hg, hbody⟩ := hb ds i d sl2 pT hd hI
      refine hg σ2 H3 O2 v E3 rv _ fun σ4 sl4 n4 E4 => ?_
      have st3 : Step C O H1 O2 H3 := st2.trans (Step.tr E2 t3)
      exact hbody sl4 n4 σ4 H3 O2 E4 _ ⟨fun σ' H' O' sl' n E' st => ⟨O', sl', n, E', st3.trans st⟩, fun v H' d pd st r => f.rt v H' d pd (st1.trans (st3.trans st)) r,
        fun σ' H' O' sl' n E' st => kb sl' n σ' H' O' E' D (f.step (st1.trans (st3.trans st))), fun σ' H' O' sl' n E' st => ⟨O', sl', n, E', st3.trans st⟩⟩
    · have ei : i = ds.length := by omega
      subst ei
      exact .inl ⟨w.stops H2 (sm.trans (cut_le _ _)), k ds sl2 pT hI σ2 H2 O2 E2 D (f.step (st1.trans st2))⟩)
/-- the target a name -/
theorem sts_forN (n : Nat) {iter : Expr} {body : List Stmt} {T : List PyData → Prop} {Nb : List Sl → Prop} (Inv : List PyData → Nat → List Sl → Prop) (hc : X.calm = true) (hN : X.N.Nodup) (hi : IT C X (.Name x p1) iter sl T) (h0 : ∀ ds, T ds → Inv ds 0 sl)
    (hb : ∀ ds k d sl', T ds → ds[k]? = some d → Inv ds k sl' → STs C X body (sl'.set n (.d d)) { p with nx := Inv ds (k + 1), ct := Inv ds (k + 1), bk := Nb })
    (k : ∀ ds sl', T ds → Inv ds ds.length sl' → STs C X ss sl' p) (kb : ∀ sl', Nb sl' → STs C X ss sl' p)
    (hx1 : X.N[n]? = some x := by rfl) (hx : Loc X.env.scope x := by first | exact .inl rfl | exact .inr rfl) (hf : X.fn x = true ∨ X.env.scope.names.lookup x = some .local := by first | exact .inl rfl | exact .inr rfl)
    (hp : PassesOwn (model X.prog X.w) X.A X.env X.xe := by exact PassesOwn.never) (hs : ∀ y, foldedSetIterable iter X.env y = pure y := by intro _; rfl) : STs C X (.For (.Name x p1) iter body [] pos :: ss) sl p :=
  sts_for Inv hc hi h0 (fun ds k d sl' pT hd hI => ⟨_, ga_name n hN hx1 hx hf, fun sl2 e => by rw [show sl2 = _ from e]; exact hb ds k d sl' pT hd hI⟩) k kb hp hs
/-- over items that are known, the target a name; no break -/
theorem sts_forL (n : Nat) {iter : Expr} {body : List Stmt} {ds : List PyData} (Inv : Nat → List Sl → Prop) (hc : X.calm = true) (hN : X.N.Nodup) (hi : IT C X (.Name x p1) iter sl (isL ds)) (h0 : Inv 0 sl)
    (hb : ∀ k d sl', ds[k]? = some d → Inv k sl' → STs C X body (sl'.set n (.d d)) { p with nx := Inv (k + 1), ct := Inv (k + 1), bk := fun _ => False })
    (k : ∀ sl', Inv ds.length sl' → STs C X ss sl' p)
    (hx1 : X.N[n]? = some x := by rfl) (hx : Loc X.env.scope x := by first | exact .inl rfl | exact .inr rfl) (hf : X.fn x = true ∨ X.env.scope.names.lookup x = some .local := by first | exact .inl rfl | exact .inr rfl)
    (hp : PassesOwn (model X.prog X.w) X.A X.env X.xe := by exact PassesOwn.never) (hs : ∀ y, foldedSetIterable iter X.env y = pure y := by intro _; rfl) : STs C X (.For (.Name x p1) iter body [] pos :: ss) sl p :=
  sts_forN n (fun _ => Inv) hc hN hi (fun _ _ => h0) (fun ds' k d sl' pT hd hI => hb k d sl' (by rw [← show ds' = ds from pT]; exact hd) hI) (fun ds' sl' pT hI => k sl' (by rw [← show ds' = ds from pT]; exact hI)) (fun _ f => f.elim) hx1 hx hf hp hs
/-- the same with a break -/
theorem sts_forLB (n : Nat) {iter : Expr} {body : List Stmt} {ds : List PyData} (Inv : Nat → List Sl → Prop) (Nb : List Sl → Prop) (hc : X.calm = true) (hN : X.N.Nodup) (hi : IT C X (.Name x p1) iter sl (isL ds)) (h0 : Inv 0 sl)
    (hb : ∀ k d sl', ds[k]? = some d → Inv k sl' → STs C X body (sl'.set n (.d d)) { p with nx := Inv (k + 1), ct := Inv (k + 1), bk := Nb })
    (k : ∀ sl', Inv ds.length sl' ∨ Nb sl' → STs C X ss sl' p)
    (hx1 : X.N[n]? = some x := by rfl) (hx : Loc X.env.scope x := by first | exact .inl rfl | exact .inr rfl) (hf : X.fn x = true ∨ X.env.scope.names.lookup x = some .local := by first | exact .inl rfl | exact .inr rfl)
    (hp : PassesOwn (model X.prog X.w) X.A X.env X.xe := by exact PassesOwn.never) (hs : ∀ y, foldedSetIterable iter X.env y = pure y := by intro _; rfl) : STs C X (.For (.Name x p1) iter body [] pos :: ss) sl p :=
  sts_forN n (fun _ => Inv) hc hN hi (fun _ _ => h0) (fun ds' k d sl' pT hd hI => hb k d sl' (by rw [← show ds' = ds from pT]; exact hd) hI) (fun ds' sl' pT hI => k sl' (.inl (by rw [← show ds' = ds from pT]; exact hI))) (fun sl' f => k sl' (.inr f)) hx1 hx hf hp hs
/-- over items that are known, any target; no break -/
theorem sts_forG {iter : Expr} {body : List Stmt} {ds : List PyData} (Inv : Nat → List Sl → Prop) (hc : X.calm = true) (hi : IT C X tg iter sl (isL ds)) (h0 : Inv 0 sl)
    (hb : ∀ k d sl', ds[k]? = some d → Inv k sl' → ∃ N, GA C X tg d sl' N ∧ ∀ sl2, N sl2 → STs C X body sl2 { p with nx := Inv (k + 1), ct := Inv (k + 1), bk := fun _ => False })
    (k : ∀ sl', Inv ds.length sl' → STs C X ss sl' p)
    (hp : PassesOwn (model X.prog X.w) X.A X.env X.xe := by exact PassesOwn.never) (hs : ∀ y, foldedSetIterable iter X.env y = pure y := by intro _; rfl) : STs C X (.For tg iter body [] pos :: ss) sl p :=
  sts_for (fun _ => Inv) hc hi (fun _ _ => h0) (fun ds' k d sl' pT hd hI => hb k d sl' (by rw [← show ds' = ds from pT]; exact hd) hI) (fun ds' sl' pT hI => k sl' (by rw [← show ds' = ds from pT]; exact hI)) (fun _ f => f.elim) hp hs
end

/-! ### defs -/
section
variable {P : Program} {w : World} {K : PySem.W.Frag} {mg : Str → Option Value} {base : Heap}
def slots0 (N : List Str) (ds : List PyData) : List Sl := ds.map .d ++ List.replicate (N.length - ds.length) .u
theorem slots_u (B H : Hp) : ∀ n, Slots K B H (List.replicate n none) (List.replicate n .u) []
  | 0 => .nil
  | n + 1 => by
    rw [List.replicate_succ, List.replicate_succ]
    exact .cons (F := []) .u (slots_u B H n)
theorem slots_start {B H : Hp} {vs : List V} {ds : List PyData} (r : Reps K B vs ds) (n : Nat) : Slots K B H (vs.map some ++ List.replicate n none) (ds.map .d ++ List.replicate n .u) [] := by
  induction vs generalizing ds with
  | nil => cases r; exact slots_u B H n
  | cons v vs ih =>
    cases r with
    | cons r1 r2 => exact .cons (F := []) (.d r1) (ih r2)
/-- THE RULE for a def that only reads: its body, from data to data -/
theorem fn_D {α : Type} {args : α → List PyData} {pre : α → Prop} {post : α → PyData → Prop} {x qual : Str} {st : Stmt} {f : Addr} {fd : FuncData} {N ps : List Str} {k : Nat} (F : Fun K x qual st f fd) (S : FnScope N ps (defScope st)) (hl : ∀ y, (args y).length = ps.length)
    (hb : ∀ (cdv : Value) (A : Around) (outer : List Env) (s : Shared) (H : Hp) (E : XK) (y : α), Room k (A.deeper (envOfC qual (defScope st) s.heap.objs.size f cdv)) → pre y → ∀ C : Cfg, C.st = none →
      STs C (cxOf CX0 P w K mg base N qual (defScope st) f cdv A outer s H E).nox (defBody st) (slots0 N (args y)) { nx := fun _ => post y .none, rt := post y }) :
    FnOk P w K mg base CX0 (k + 1) f fd ps (SpD K args pre post) := by
  refine F.ok S (fun vs H Q E h => ?_) (fun cdv A outer s H vs Q E hr h => ?_)
  · obtain ⟨M, y, _, r, _⟩ := h
    rw [r.length, hl]
  · obtain ⟨M, y, hM, r, hy, q⟩ := h
    refine ⟨_, pss_c _, ?_⟩
    have lv := r.length
    have E0 : EnvOk K ⟨none, M, fun a e => by cases e⟩ H (start N vs) (slots0 N (args y)) [] := by
      refine ⟨⟨[], ?_, List.nodup_nil, fun a h => h⟩, fun a h => absurd h (by simp), fun a h => absurd h (by simp), hM, fun a e => by cases e⟩
      unfold L2.start slots0
      rw [lv]
      exact slots_start r _
    refine hb cdv A outer s H E y hr hy ⟨none, M, fun a e => by cases e⟩ rfl (start N vs) H [] E0 _ ⟨fun σ' H' O' sl' n E' st => q _ H' .none n (fun a o h => st.keep a o (by simp) (by simp) h) .non, fun v H' d pd st r => q v H' d pd (fun a o h => st.keep a o (by simp) (by simp) h) r, fun _ _ _ _ n => n.elim, fun _ _ _ _ n => n.elim⟩
/-- the same for a def that draws from the state, its first parameter -/
theorem fn_S {α : Type} {args : α → List PyData} {pre : α → Prop} {post : α → PyData → Prop} {x qual : Str} {st : Stmt} {f : Addr} {fd : FuncData} {N ps : List Str} {k : Nat} (F : Fun K x qual st f fd) (S : FnScope N ps (defScope st)) (hl : ∀ y, (args y).length + 1 = ps.length)
    (hb : ∀ (cdv : Value) (A : Around) (outer : List Env) (s : Shared) (H : Hp) (E : XK) (y : α) (a : Addr), Room k (A.deeper (envOfC qual (defScope st) s.heap.objs.size f cdv)) → pre y → ∀ C : Cfg, C.st = some a →
      STs C (cxOf CX0 P w K mg base N qual (defScope st) f cdv A outer s H E).nox (defBody st) (.r (.ref a) :: ((args y).map .d ++ List.replicate (N.length - ((args y).length + 1)) .u)) { nx := fun _ => post y .none, rt := post y }) :
    FnOk P w K mg base CX0 (k + 1) f fd ps (SpS K args pre post) := by
  refine F.ok S (fun vs H Q E h => ?_) (fun cdv A outer s H vs Q E hr h => ?_)
  · obtain ⟨M, a, vs', y, _, _, _, e, r, _⟩ := h
    rw [e, List.length_cons, r.length, hl]
  · obtain ⟨M, a, vs', y, ha, hM, hok, rfl, r, hy, q⟩ := h
    refine ⟨_, pss_c _, ?_⟩
    have lv := r.length
    have E0 : EnvOk K ⟨some a, M, fun b e => by cases e; exact ha⟩ H (start N (.ref a :: vs')) (.r (.ref a) :: ((args y).map .d ++ List.replicate (N.length - ((args y).length + 1)) .u)) [] := by
      refine ⟨⟨[], ?_, List.nodup_nil, fun a h => h⟩, fun a h => absurd h (by simp), fun a h => absurd h (by simp), hM, fun b e => by cases e; rw [cut_nil]; exact hok⟩
      unfold L2.start
      rw [List.length_cons, lv]
      exact .cons (F := []) .r (slots_start r _)
    refine hb cdv A outer s H E y a hr hy ⟨some a, M, fun b e => by cases e; exact ha⟩ rfl (start N (.ref a :: vs')) H [] E0 _ ⟨fun σ' H' O' sl' n E' st => q _ H' .none n (fun C e => ⟨fun b o ns h => st.keep b o (fun z => ns (e.trans z)) (by simp) h, fun b eb Ox h => st.ok b (e.symm.trans eb) Ox h⟩) .non,
      fun v H' d pd st r => q v H' d pd (fun C e => ⟨fun b o ns h => st.keep b o (fun z => ns (e.trans z)) (by simp) h, fun b eb Ox h => st.ok b (e.symm.trans eb) Ox h⟩) r, fun _ _ _ _ n => n.elim, fun _ _ _ _ n => n.elim⟩
end
end DL
/-! Raw blocks, cut by what is wanted between; the promise of a draw. -/
namespace DL
open PySem PySem.Spec PyProof.Rows L2
section
variable {X : Cx} {s : Stmt} {ss : List Stmt} {D : Ends} {σ : L2.St} {H : Hp} {t : TS}
theorem cSs_mid (Good : L2.St → Hp → Prop) (h : cS X s { D with nx := Good } σ H) (k : ∀ σ' H', Good σ' H' → cSs X ss D σ' H') : cSs X (s :: ss) D σ H :=
  ofSs (pss_cons (ps_c s) (pss_c ss)) (fun pins s0 I => thn (h pins s0 I) fun f s' q => by
    cases f with
    | next =>
      obtain ⟨σ', H', I', g⟩ := q
      exact ⟨σ', H', I', k σ' H' g⟩
    | brk => exact q
    | cont => exact q
    | ret v => exact q)
theorem cSs_cons (h : PS X s t) (k : t { D with nx := cSs X ss D } σ H) : cSs X (s :: ss) D σ H := ofSs (pss_cons h (pss_c ss)) k
theorem cSs_one (h : PS X s t) (k : t D σ H) : cSs X [s] D σ H := ofSs (pss_one h) k
theorem cSs_nil (k : D.nx σ H) : cSs X [] D σ H := ofSs pss_nil k
end
abbrev SpDraw (K : PySem.W.Frag) : Sp := SpS K (fun m : Int => [.int m]) (fun m => 0 < m ∧ m ≤ 1000000) (fun m d => ∃ j : Int, d = .int j ∧ 0 ≤ j ∧ j < m)
/-- the state's list -/
abbrev stL (x p : Int) (L : Addr) (z : Int) : HO := .lst [.int x, .int p, .ref L, .int z]
theorem st_tr {H : Hp} {a L : Addr} {x p z x' p' z' : Int} {ns : List Int} (h : H a = some (stL x p L z)) (hl : H L = some (.lst (ns.map V.int))) (b : 0 ≤ x' ∧ 0 ≤ p' ∧ 0 ≤ z' ∧ z' < 2147483647) {C : Cfg} (e : C.st = some a) : Tr C H (upd H a (stL x' p' L z')) := by
  refine ⟨fun c o n hc => ?_, fun c ec O hO => ?_⟩
  · rw [upd_ne (fun q => n (by rw [e, q]))]; exact hc
  · obtain rfl : a = c := by rw [e] at ec; exact Option.some.inj ec
    obtain ⟨x1, p1, L1, z1, ns1, g1, g2, g3⟩ := hO
    have q1 := (cut_some g1).2
    rw [h] at q1
    injection q1 with q1
    injection q1 with q1
    injection q1 with _ q1
    injection q1 with _ q1
    injection q1 with q1 _
    injection q1 with q1
    subst q1
    have nL : L ≠ a := fun q => by
      rw [q, h] at hl
      injection hl with hl
      injection hl with hl
      cases ns with
      | nil => simp at hl
      | cons n1 ns =>
        cases ns with
        | nil => simp at hl
        | cons n2 ns =>
          cases ns with
          | nil => simp at hl
          | cons n3 ns => simp at hl
    refine ⟨x', p', L, z', ns1, ?_, ?_, b.1, b.2.1, b.2.2.1, b.2.2.2, g3.2.2.2.2⟩
    · rw [cut_out (cut_some g1).1, upd_same]
    · rw [cut_out (cut_some g2).1, upd_ne nL]; exact (cut_some g2).2
end DL
/-! Data without bools: equal exactly if the same; lists of ints, words. -/
namespace DL
open PySem PySem.Spec PyProof.Rows L2
mutual
/-- ints, texts, None, lists and tuples of them, at most so deep -/
def flat : Nat → PyData → Bool
  | _, .none => true
  | _, .int _ => true
  | _, .str x => PyData.strOk x
  | n + 1, .list xs => flats n xs
  | n + 1, .tuple xs => flats n xs
  | _, _ => false
def flats : Nat → List PyData → Bool
  | _, [] => true
  | n, x :: xs => flat n x && flats n xs
end
mutual
theorem flat_lay : ∀ (d : PyData) (n : Nat), flat n d = true → d.canLay0 = true ∧ d.depth ≤ n + 1
  | .none, n, _ => by simp [PyData.canLay0, PyData.depth]
  | .int _, n, _ => by simp [PyData.canLay0, PyData.depth]
  | .str x, n, h => by
    have h : PyData.strOk x = true := by cases n <;> simpa [flat] using h
    simp [PyData.canLay0, PyData.depth, h]
  | .bool _, n, h => by cases n <;> simp [flat] at h
  | .dict _, n, h => by cases n <;> simp [flat] at h
  | .list xs, 0, h => by simp [flat] at h
  | .tuple xs, 0, h => by simp [flat] at h
  | .list xs, n + 1, h => by
    have q := flats_lay xs n (by simpa [flat] using h)
    simp only [PyData.canLay0, PyData.depth]
    exact ⟨q.1, by omega⟩
  | .tuple xs, n + 1, h => by
    have q := flats_lay xs n (by simpa [flat] using h)
    simp only [PyData.canLay0, PyData.depth]
    exact ⟨q.1, by omega⟩
theorem flats_lay : ∀ (xs : List PyData) (n : Nat), flats n xs = true → PyData.canLayAll0 xs = true ∧ PyData.depthAll xs ≤ n + 1
  | [], n, _ => by simp [PyData.canLayAll0, PyData.depthAll]
  | x :: xs, n, h => by
    have h2 : flat n x = true ∧ flats n xs = true := by simpa [flats] using h
    have q1 := flat_lay x n h2.1
    have q2 := flats_lay xs n h2.2
    simp only [PyData.canLayAll0, PyData.depthAll, Bool.and_eq_true]
    exact ⟨⟨q1.1, q2.1⟩, by omega⟩
end
theorem flat_shaped {d : PyData} {n : Nat} (h : flat n d = true) (hn : n ≤ 60 := by decide) : SeqAt.shaped d = true := by
  have q := flat_lay d n h
  unfold SeqAt.shaped
  rw [q.1, Bool.true_and]
  exact decide_eq_true (by omega)
mutual
theorem eqv_flat : ∀ (d e : PyData) (n : Nat), flat n d = true → flat n e = true → (PyData.eqv d e = true ↔ d = e)
  | .none, e, n, _, h => by cases e <;> simp [PyData.eqv]
  | .int i, e, n, _, h => by cases e <;> cases n <;> simp [PyData.eqv, flat] at h ⊢
  | .str s, e, n, _, h => by cases e <;> simp [PyData.eqv]
  | .bool _, e, n, h, _ => by cases n <;> simp [flat] at h
  | .dict _, e, n, h, _ => by cases n <;> simp [flat] at h
  | .list xs, e, 0, h, _ => by simp [flat] at h
  | .tuple xs, e, 0, h, _ => by simp [flat] at h
  | .list xs, e, n + 1, h, h' => by
    cases e with
    | list ys =>
      have q := eqvs_flat xs ys n (by simpa [flat] using h) (by simpa [flat] using h')
      simp only [PyData.eqv, PyData.list.injEq]
      exact q
    | _ => simp [PyData.eqv]
  | .tuple xs, e, n + 1, h, h' => by
    cases e with
    | tuple ys =>
      have q := eqvs_flat xs ys n (by simpa [flat] using h) (by simpa [flat] using h')
      simp only [PyData.eqv, PyData.tuple.injEq]
      exact q
    | _ => simp [PyData.eqv]
theorem eqvs_flat : ∀ (xs ys : List PyData) (n : Nat), flats n xs = true → flats n ys = true → (PyData.eqvAll xs ys = true ↔ xs = ys)
  | [], [], _, _, _ => by simp [PyData.eqvAll]
  | [], _ :: _, _, _, _ => by simp [PyData.eqvAll]
  | _ :: _, [], _, _, _ => by simp [PyData.eqvAll]
  | x :: xs, y :: ys, n, h, h' => by
    have h1 : flat n x = true ∧ flats n xs = true := by simpa [flats] using h
    have h2 : flat n y = true ∧ flats n ys = true := by simpa [flats] using h'
    simp only [PyData.eqvAll, Bool.and_eq_true, List.cons.injEq]
    rw [eqv_flat x y n h1.1 h2.1, eqvs_flat xs ys n h1.2 h2.2]
end
theorem eqv_b {d e : PyData} {n : Nat} {b : Bool} (h : flat n d = true) (h' : flat n e = true) (hb : b = true ↔ d = e) : PyData.eqv d e = b := by
  have q := (eqv_flat d e n h h').trans hb.symm
  cases b <;> cases z : PyData.eqv d e <;> simp_all
theorem flats_map {α : Type} {n : Nat} {g : α → PyData} : ∀ xs : List α, (∀ x ∈ xs, flat n (g x) = true) → flats n (xs.map g) = true
  | [], _ => by cases n <;> rfl
  | x :: xs, h => by
    rw [List.map_cons, flats, h x List.mem_cons_self, flats_map xs fun y hy => h y (List.mem_cons_of_mem _ hy)]
    rfl
theorem flat_int {n : Nat} {i : Int} : flat n (.int i) = true := by cases n <;> rfl
/-- a list of ints; a word -/
def li (ns : List Int) : PyData := .list (ns.map .int)
theorem flat_li (n : Nat) (ns : List Int) : flat (n + 1) (li ns) = true := by
  rw [li, flat]
  exact flats_map ns fun _ _ => flat_int
theorem li_inj {a b : List Int} (h : li a = li b) : a = b := by
  injection h with h
  exact (List.map_inj_right fun _ _ e => PyData.int.inj e).mp h
theorem li_at {ns : List Int} {m : Nat} (h : m < ns.length) : atI (ns.map PyData.int) (m : Int) = some (.int (ns.getD m 0)) := by
  refine atI_nat ?_
  rw [List.getElem?_map, List.getD_eq_getElem?_getD, List.getElem?_eq_getElem h]
  rfl
theorem cutL_to {α : Type} (xs : List α) (n : Nat) : cutL xs none (some (n : Int)) = xs.take n := by
  unfold cutL
  rw [HT.sIx_none, HT.sIx_nat, List.drop_zero, Nat.sub_zero]
  by_cases h : n ≤ xs.length
  · rw [Nat.min_eq_left h]
  · rw [Nat.min_eq_right (by omega), List.take_of_length_le (Nat.le_refl _), List.take_of_length_le (by omega)]
theorem cutL_from {α : Type} (xs : List α) (n : Nat) : cutL xs (some (n : Int)) none = xs.drop n := by
  unfold cutL
  rw [HT.sIx_none, HT.sIx_nat]
  by_cases h : n ≤ xs.length
  · rw [Nat.min_eq_left h, List.take_of_length_le (by rw [List.length_drop]; omega)]
  · rw [Nat.min_eq_right (by omega), List.drop_of_length_le (Nat.le_refl _), List.drop_of_length_le (by omega)]
    exact List.take_nil
theorem foldl_take {α β : Type} {f : β → α → β} {a : β} {xs : List α} {k : Nat} {x : α} (h : xs[k]? = some x) : (xs.take (k + 1)).foldl f a = f ((xs.take k).foldl f a) x := by
  rw [List.take_add_one, h, List.foldl_append]
  rfl
/-- from items of one form to a list of what they are made of -/
theorem choose_list {α : Type} {g : α → PyData} {Q : α → Prop} : ∀ out : List PyData, (∀ z ∈ out, ∃ w, z = g w ∧ Q w) → ∃ ws : List α, out = ws.map g ∧ ∀ w ∈ ws, Q w
  | [], _ => ⟨[], rfl, fun w h => absurd h (by simp)⟩
  | z :: zs, h => by
    obtain ⟨w, e, q⟩ := h z List.mem_cons_self
    obtain ⟨ws, e2, q2⟩ := choose_list zs fun y hy => h y (List.mem_cons_of_mem _ hy)
    exact ⟨w :: ws, by rw [e, e2]; rfl, fun x hx => by
      rcases List.mem_cons.mp hx with rfl | hx
      · exact q
      · exact q2 x hx⟩
/-- what a comprehension whose items are drawn gives -/
theorem drawn {α : Type} {g : α → PyData} {Q : α → Prop} {ds out : List PyData} (hl : out.length = ds.length) (h : ∀ (k : Nat) (y : PyData), ds[k]? = some y → ∃ z, out[k]? = some z ∧ ∃ w, z = g w ∧ Q w) : ∃ ws : List α, out = ws.map g ∧ ws.length = ds.length ∧ ∀ w ∈ ws, Q w := by
  obtain ⟨ws, e, q⟩ := choose_list (g := g) (Q := Q) out fun z hz => by
    obtain ⟨k, hk, e⟩ := List.getElem_of_mem hz
    obtain ⟨z', h1, h2⟩ := h k _ (List.getElem?_eq_getElem (by omega))
    rw [List.getElem?_eq_getElem hk, e] at h1
    injection h1 with h1
    rw [h1]; exact h2
  exact ⟨ws, e, by rw [← hl, e, List.length_map], q⟩
end DL
/-! A law: its first row makes the state; its promise. -/
namespace DL
open PySem PySem.Spec PyProof.Rows L2
section
variable {X : Cx} {ss : List Stmt}
/-- what a law promises: True, whatever the script -/
def spLaw (K : PySem.W.Frag) : Sp := fun vs H Q _ => ∃ (a : Addr) (ns : List Int), vs = [.ref a] ∧ SqL K H a (ns.map V.int) ∧ ns.length ≤ 63 ∧ ∀ H', Q (.bl true) H'
theorem law_open {p1 q1 q2 q3 q4 q5 q6 q7 q8 : Pos} {j1 j2 j3 : Nat} {H : Hp} {a : Addr} {ns : List Int} {n : Nat} {Q : VK} (hN : X.N.Nodup) (h0 : X.N[0]? = some ("script" : Str)) (h1 : X.N[1]? = some ("state" : Str)) (hv : Vis X.env.scope "script") (hx : Loc X.env.scope "state") (hf : X.fn "state" = true ∨ X.env.scope.names.lookup ("state" : Str) = some .local)
    (hg : Gl X "list") (hm : X.mg "list" = none) (hS : SqL X.K H a (ns.map V.int)) (hn : ns.length ≤ 63) (hQ : ∀ H', Q (.bl true) H')
    (hb : ∀ (p : Addr) (C : Cfg), C.st = some p → STs C X ss (.u :: .r (.ref p) :: List.replicate n .u) { nx := fun _ => False, rt := fun d => d = .bool true })
    (hs : swapsWith (.List [.Constant (.int 0) j1 q1, .Constant (.int 0) j2 q2, .Call (.Name "list" q3) [.Name "script" q4] [] q5, .Constant (.int 1) j3 q6] q7) (some (.Name "state" p1)) q8.line X.env = pure false := by rfl) :
    cSs X (.Assign [.Name "state" p1] (.List [.Constant (.int 0) j1 q1, .Constant (.int 0) j2 q2, .Call (.Name "list" q3) [.Name "script" q4] [] q5, .Constant (.int 1) j3 q6] q7) q8 :: ss) { nx := fun _ H' => Q .non H', rt := Q } (some (.ref a) :: none :: List.replicate n none) H := by
  refine cSs_cons (ps_set (i := 1) hN h1 hx (pe_lst (pa_cons pe_int (pa_cons pe_int (pa_cons (pe_callTy call_list_of hg hm boot_list (pa_cons (pe_var h0 hv) pa_nil)) (pa_cons pe_int pa_nil))))) hs hf) ?_
  refine ⟨.ref a, rfl, a, _, rfl, .inl hS, fun l hl => ⟨by show 4 ≤ sizeLine; decide, fun p hp => ?_⟩⟩
  have hpl : l ≠ p := fun e => by rw [← e, upd_same] at hp; cases hp
  have g1 : upd (upd H l (.lst (ns.map V.int))) p (.lst [.int 0, .int 0, .ref l, .int 1]) p = some (.lst [.int 0, .int 0, .ref l, .int 1]) := upd_same
  have g2 : upd (upd H l (.lst (ns.map V.int))) p (.lst [.int 0, .int 0, .ref l, .int 1]) l = some (.lst (ns.map V.int)) := by rw [upd_ne hpl, upd_same]
  generalize upd (upd H l (.lst (ns.map V.int))) p (.lst [.int 0, .int 0, .ref l, .int 1]) = G at g1 g2
  refine hb p ⟨some p, [p], fun b e => by cases e; simp⟩ rfl _ G [] ⟨⟨[], ?_, List.nodup_nil, fun a h => h⟩, fun a h => absurd h (by simp), fun a h => absurd h (by simp), fun b h => ?_, fun b e => ?_⟩ _ ⟨fun _ _ _ _ n => n.elim, fun v H' d pd st r => ?_, fun _ _ _ _ n => n.elim, fun _ _ _ _ n => n.elim⟩
  · exact .cons (F := []) .u (.cons (F := []) .r (slots_u _ _ n))
  · rw [List.mem_singleton] at h
    rw [h, g1]; simp
  · cases e
    rw [cut_nil]
    exact ⟨0, 0, l, 1, ns, g1, g2, by decide, by decide, by decide, by decide, by omega⟩
  · have pd : d = .bool true := pd
    subst pd
    rw [r.bl_inv]
    exact hQ H'
end
end DL
namespace K01
open PySem PySem.Spec PyProof.Rows L2 DL
def topS (i : Nat) : Stmt := PySem.Challenge.pw_unendtold_k01_words.main.body.getD i (.Pass ⟨0, 0, 0, 0⟩)
abbrev sLetterAt : Stmt := topS 2
abbrev sSpans : Stmt := topS 3
abbrev sSbs : Stmt := topS 4
abbrev sJoined : Stmt := topS 5
abbrev sSame : Stmt := topS 6
abbrev sDraw : Stmt := topS 8
abbrev sRow : Stmt := topS 9
abbrev sWord : Stmt := topS 10
abbrev sAt : Stmt := topS 11
abbrev sLaw : Stmt := topS 12
theorem scLetterAt : FnScope ["word", "moment", "beginning", "again"] ["word", "moment"] (defScope sLetterAt) := ⟨rfl, rfl, rfl, by decide +kernel, rfl, by decide +kernel, by decide +kernel⟩
theorem scSpans : FnScope ["words", "start", "period", "beginning", "again"] ["words"] (defScope sSpans) := ⟨rfl, rfl, rfl, by decide +kernel, rfl, by decide +kernel, by decide +kernel⟩
theorem scSbs : FnScope ["words", "count", "start", "period", "row", "moment"] ["words", "count"] (defScope sSbs) := ⟨rfl, rfl, rfl, by decide +kernel, rfl, by decide +kernel, by decide +kernel⟩
theorem scJoined : FnScope ["words", "count", "moment", "joined", "word"] ["words", "count", "moment"] (defScope sJoined) := ⟨rfl, rfl, rfl, by decide +kernel, rfl, by decide +kernel, by decide +kernel⟩
theorem scSame : FnScope ["one", "two", "start", "end", "moment"] ["one", "two"] (defScope sSame) := ⟨rfl, rfl, rfl, by decide +kernel, rfl, by decide +kernel, by decide +kernel⟩
theorem scDraw : FnScope ["state", "limit", "position", "cell", "mixed", "digit"] ["state", "limit"] (defScope sDraw) := ⟨rfl, rfl, rfl, by decide +kernel, rfl, by decide +kernel, by decide +kernel⟩
theorem scRow : FnScope ["state", "count", "low", "most", "k"] ["state", "count", "low", "most"] (defScope sRow) := ⟨rfl, rfl, rfl, by decide +kernel, rfl, by decide +kernel, by decide +kernel⟩
theorem scWord : FnScope ["state", "count", "most"] ["state", "count", "most"] (defScope sWord) := ⟨rfl, rfl, rfl, by decide +kernel, rfl, by decide +kernel, by decide +kernel⟩
theorem scAt : FnScope ["word", "moment"] ["word", "moment"] (defScope sAt) := ⟨rfl, rfl, rfl, by decide +kernel, rfl, by decide +kernel, by decide +kernel⟩
theorem scLaw : FnScope ["script", "state", "count", "k", "words", "word", "start", "period", "letters", "moment", "code", "copies", "one", "two", "other", "due"] ["script"] (defScope sLaw) := ⟨rfl, rfl, rfl, by decide +kernel, rfl, by decide +kernel, by decide +kernel⟩
/-! ### words -/
abbrev Wd := List Int × List Int
def wd (w : Wd) : PyData := .tuple [li w.1, li w.2]
def wAt (w : Wd) (m : Nat) : Int := if m < w.1.length then w.1.getD m 0 else w.2.getD ((m - w.1.length) % w.2.length) 0
theorem flat_wd (n : Nat) (w : Wd) : flat (n + 2) (wd w) = true := by
  simp [wd, flat, flats, flat_li]
def spB (ws : List Wd) : Nat := ws.foldl (fun s w => max s w.1.length) 0
def spP (ws : List Wd) : Nat := ws.foldl (fun p w => Nat.lcm p w.2.length) 1
theorem lcm_le (a b : Nat) : Nat.lcm a b ≤ a * b := Nat.div_le_self _ _
theorem spP_take (ws : List Wd) (h : ∀ w ∈ ws, w.2.length ≤ 60) : ∀ k : Nat, spP (ws.take k) ≤ 60 ^ k
  | 0 => by simp [spP]
  | k + 1 => by
    by_cases hk : k < ws.length
    · have e : ws[k]? = some ws[k] := List.getElem?_eq_getElem hk
      unfold spP
      rw [foldl_take e]
      refine Nat.le_trans (lcm_le _ _) ?_
      rw [Nat.pow_succ]
      exact Nat.mul_le_mul (spP_take ws h k) (h _ (List.getElem_mem hk))
    · rw [List.take_of_length_le (by omega), ← List.take_of_length_le (show ws.length ≤ k by omega)]
      exact Nat.le_trans (spP_take ws h k) (Nat.pow_le_pow_right (by decide) (by omega))
def jl (ws : List Wd) (c : Int) (m : Nat) : Int := ws.foldl (fun j w => j * c + wAt w m) 0
section
variable {P : Program} {w : World} {K : PySem.W.Frag} {mg : Str → Option Value} {base : Heap} {f : Addr} {fd : FuncData} {k : Nat}
/-! ### the program -/
abbrev SpLetterAt (K : PySem.W.Frag) : Sp := SpD K (fun y : Wd × Nat => [wd y.1, .int y.2]) (fun y => y.1.2 ≠ []) (fun y d => d = .int (wAt y.1 y.2))
theorem ok_letter_at (F : Fun K "letter_at" "letter_at" sLetterAt f fd) (ml : mg "len" = none) : FnOk P w K mg base CX0 (k + 1) f fd ["word", "moment"] (SpLetterAt K) := by
  refine fn_D F scLetterAt (fun _ => rfl) fun cdv A outer s H E ⟨⟨b, r⟩, m⟩ hr hpre C hC => ?_
  refine sts_unpack2 2 3 rfl scLetterAt.nd (ev_var 0) ?_
  refine sts_ifR (et_lt (ev_var 1) (ev_lenL ml (ev_var 2).bo)) (fun h => ?_) (fun h => ?_)
  · have h : m < b.length := by simpa using h
    refine sts_ret (ev_ixL (ev_var 2) (ev_var 1) (li_at h)) fun d p => ?_
    have p : d = .int (b.getD m 0) := p
    show d = .int (wAt (b, r) m)
    rw [p, wAt, if_pos h]
  · have h : ¬ m < b.length := by simpa using h
    have hr : 0 < r.length := List.length_pos_iff.mpr hpre
    refine sts_ret (ev_ixL (ev_var 3) (ev_mod (ev_sub (ev_var 1) (ev_lenL ml (ev_var 2).bo)) (ev_lenL ml (ev_var 3).bo) (by simpa using hr)) ?_) fun d p => p
    have e : ((m : Int) - ((b.map PyData.int).length : Nat)) % (((r.map PyData.int).length : Nat) : Int) = (((m - b.length) % r.length : Nat) : Int) := by
      rw [List.length_map, List.length_map, Int.natCast_emod, Int.ofNat_sub (by omega)]
    rw [e, li_at (Nat.mod_lt _ hr), wAt, if_neg h]
abbrev SpSpans (K : PySem.W.Frag) : Sp := SpD K (fun ws : List Wd => [.list (ws.map wd)]) (fun ws => ws.length ≤ 10 ∧ ∀ w ∈ ws, w.2.length ≤ 60) (fun ws d => d = .tuple [.int (spB ws : Nat), .int (spP ws : Nat)])
theorem ok_spans (F : Fun K "spans" "spans" sSpans f fd) (ml : mg "len" = none) (mx : mg "max" = none) (mc : mg "lcm" = some (.builtin "math.lcm")) : FnOk P w K mg base CX0 (k + 1) f fd ["words"] (SpSpans K) := by
  refine fn_D F scSpans (fun _ => rfl) fun cdv A outer s H E ws hr hpre C hC => ?_
  obtain ⟨h10, h60⟩ := hpre
  show STs C _ _ [.d (.list (ws.map wd)), .u, .u, .u, .u] _
  refine sts_set 1 scSpans.nd ev_int fun d p => ?_
  rw [show d = _ from p]
  refine sts_set 2 scSpans.nd ev_int fun d p => ?_
  rw [show d = _ from p]
  refine sts_forG (fun k sl => ∃ x3 x4, sl = [.d (.list (ws.map wd)), .d (.int (spB (ws.take k) : Nat)), .d (.int (spP (ws.take k) : Nat)), x3, x4]) rfl (it_l (ev_var 0)) ⟨_, _, rfl⟩ (fun k d sl' hd hI => ?_) (fun sl' hI => ?_)
  · obtain ⟨x3, x4, rfl⟩ := hI
    rw [List.getElem?_map] at hd
    obtain ⟨v, hv, rfl⟩ := Option.map_eq_some_iff.mp hd
    refine ⟨_, ga_t2 3 4 rfl scSpans.nd, fun sl2 e => ?_⟩
    rw [show sl2 = _ from e]
    have vm : v ∈ ws := List.mem_of_getElem? hv
    refine sts_set 1 scSpans.nd (ev_max2 rfl mx (ev_var 1) (ev_lenL ml (ev_var 3).bo)) fun d p => ?_
    rw [show d = _ from p]
    have b1 : spP (ws.take k) < 2 ^ 64 := Nat.lt_of_le_of_lt (spP_take ws h60 k) (Nat.lt_of_le_of_lt (Nat.pow_le_pow_right (by decide) (show k ≤ 10 by have := (List.getElem?_eq_some_iff.mp hv).1; omega)) (by decide))
    have b2 : v.2.length < 2 ^ 64 := Nat.lt_of_le_of_lt (h60 v vm) (by decide)
    refine sts_set 2 scSpans.nd (ev_lcm mc (ev_var 2) (ev_lenL ml (ev_var 4).bo) (by simpa using b1) (by simpa using b2)) fun d p => ?_
    rw [show d = _ from p]
    refine sts_nil ⟨.d (li v.1), .d (li v.2), ?_⟩
    have e1 : (spB (ws.take (k + 1)) : Int) = if ((v.1.map PyData.int).length : Int) > (spB (ws.take k) : Int) then ((v.1.map PyData.int).length : Int) else (spB (ws.take k) : Int) := by
      unfold spB
      rw [foldl_take hv, List.length_map]
      split <;> omega
    have e2 : spP (ws.take (k + 1)) = Nat.lcm (spP (ws.take k)) v.2.length := by
      unfold spP
      rw [foldl_take hv]
    rw [e1, e2, ← show (v.2.map PyData.int).length = v.2.length from List.length_map _]
    rfl
  · obtain ⟨x3, x4, rfl⟩ := hI
    refine sts_ret (ev_tup (ea_cons (ev_var 1) (ea_cons (ev_var 2) ea_nil))) fun d p => ?_
    rw [List.length_map, List.take_of_length_le (Nat.le_refl _)] at p
    exact p
abbrev SpJoined (K : PySem.W.Frag) : Sp := SpD K (fun y : List Wd × Int × Nat => [.list (y.1.map wd), .int y.2.1, .int (y.2.2 : Nat)]) (fun y => 0 ≤ y.2.1 ∧ y.2.1 ≤ 64 ∧ ∀ w ∈ y.1, w.2 ≠ []) (fun y d => d = .int (jl y.1 y.2.1 y.2.2))
theorem ok_joined {fa : Addr} {fda : FuncData} (F : Fun K "_joined_letter" "_joined_letter" sJoined f fd) (FA : Fun K "letter_at" "letter_at" sLetterAt fa fda) (ba : Binds K fda ["word", "moment"] []) (ga : mg "letter_at" = some (.ref fa)) (ml : mg "len" = none) :
    FnOk P w K mg base CX0 2 f fd ["words", "count", "moment"] (SpJoined K) := by
  have GA : FnOk P w K mg base CX0 1 fa fda ["word", "moment"] (SpLetterAt K) := ok_letter_at FA ml
  refine fn_D F scJoined (fun _ => rfl) fun cdv A outer s H E ⟨ws, c, m⟩ hr hpre C hC => ?_
  dsimp only at hpre
  obtain ⟨c0, c1, hne⟩ := hpre
  show STs C _ _ [.d (.list (ws.map wd)), .d (.int c), .d (.int (m : Nat)), .u, .u] _
  refine sts_set 3 scJoined.nd ev_int fun d p => ?_
  rw [show d = _ from p]
  refine sts_forL 4 (fun k sl => ∃ x4, sl = [.d (.list (ws.map wd)), .d (.int c), .d (.int (m : Nat)), .d (.int (jl (ws.take k) c m)), x4]) rfl scJoined.nd (it_l (ev_var 0)) ⟨_, rfl⟩ (fun k d sl' hd hI => ?_) (fun sl' hI => ?_)
  · obtain ⟨x4, rfl⟩ := hI
    rw [List.getElem?_map] at hd
    obtain ⟨v, hv, rfl⟩ := Option.map_eq_some_iff.mp hd
    refine sts_set 3 scJoined.nd (ev_add (ev_mul (ev_var 3) (ev_var 1) (.inr (by omega))) (ev_call GA hr ga FA.kp ba (ea_cons (ev_var 4) (ea_cons (ev_var 2) ea_nil)) fun ds p => ⟨(v, m), p, hne v (List.mem_of_getElem? hv), fun d q => q⟩)) fun d p => ?_
    rw [show d = _ from p]
    refine sts_nil ⟨.d (wd v), ?_⟩
    unfold jl
    rw [foldl_take hv]
    rfl
  · obtain ⟨x4, rfl⟩ := hI
    refine sts_ret (ev_var 3) fun d p => ?_
    rw [List.length_map, List.take_of_length_le (Nat.le_refl _)] at p
    exact p
abbrev SpSbs (K : PySem.W.Frag) : Sp := SpD K (fun y : List Wd × Int => [.list (y.1.map wd), .int y.2]) (fun y => 0 ≤ y.2 ∧ y.2 ≤ 64 ∧ y.1.length ≤ 10 ∧ (∀ w ∈ y.1, w.2 ≠ [] ∧ w.2.length ≤ 60) ∧ spB y.1 + spP y.1 ≤ 100000)
  (fun y d => d = wd (((List.range (spB y.1 + spP y.1)).map (jl y.1 y.2)).take (spB y.1), ((List.range (spB y.1 + spP y.1)).map (jl y.1 y.2)).drop (spB y.1)))
theorem ok_sbs {fa fs fj : Addr} {fda fds fdj : FuncData} (F : Fun K "side_by_side" "side_by_side" sSbs f fd) (FA : Fun K "letter_at" "letter_at" sLetterAt fa fda) (FS : Fun K "spans" "spans" sSpans fs fds) (FJ : Fun K "_joined_letter" "_joined_letter" sJoined fj fdj)
    (ba : Binds K fda ["word", "moment"] []) (bs : Binds K fds ["words"] []) (bj : Binds K fdj ["words", "count", "moment"] [])
    (ga : mg "letter_at" = some (.ref fa)) (gs : mg "spans" = some (.ref fs)) (gj : mg "_joined_letter" = some (.ref fj)) (ml : mg "len" = none) (mx : mg "max" = none) (mc : mg "lcm" = some (.builtin "math.lcm")) (mr : mg "range" = none) :
    FnOk P w K mg base CX0 3 f fd ["words", "count"] (SpSbs K) := by
  have GS : FnOk P w K mg base CX0 1 fs fds ["words"] (SpSpans K) := ok_spans FS ml mx mc
  have GJ : FnOk P w K mg base CX0 2 fj fdj ["words", "count", "moment"] (SpJoined K) := ok_joined FJ FA ba ga ml
  refine fn_D F scSbs (fun _ => rfl) fun cdv A outer s H E ⟨ws, c⟩ hr hpre C hC => ?_
  dsimp only at hpre
  obtain ⟨c0, c1, h10, hne, hz⟩ := hpre
  show STs C _ _ [.d (.list (ws.map wd)), .d (.int c), .u, .u, .u, .u] _
  refine sts_unpack2 2 3 rfl scSbs.nd (ev_call GS (hr.mono (by decide)) gs FS.kp bs (ea_cons (ev_var 0) ea_nil) fun ds p => ⟨ws, p, ⟨h10, fun w hw => (hne w hw).2⟩, fun d q => q⟩) ?_
  refine sts_lc 4 rfl scSbs.nd (lcok 5 (blkOk_by (N := ["words", "count", "start", "period", "row", "moment"]) (sc := defScope sSbs) (by decide +kernel)))
    (lc_readm (out := ((List.range (spB ws + spP ws)).map (jl ws c)).map PyData.int) (it_range1 mr (ev_add (ev_var 2) (ev_var 3)) (by omega) (by omega)) (by rw [rgD_length]; omega) (by simp [rgD_length]; omega) fun s0 H0 L cl fp k d z hd hz => ?_) fun d p => ?_
  · have hk : k < spB ws + spP ws := by
      have := (List.getElem?_eq_some_iff.mp hz).1
      simpa using this
    rw [rgD_get (by omega)] at hd
    injection hd with hd
    subst hd
    have e : z = .int (jl ws c k) := by
      simp [List.getElem?_range, hk] at hz
      exact hz.symm
    subst e
    exact ev_call GJ hr gj FJ.kp bj (ea_cons (ev_var 0) (ea_cons (ev_var 1) (ea_cons (ev_var 5) ea_nil))) fun ds p => ⟨(ws, c, k), by rw [show ds = _ from p]; simp, ⟨c0, c1, fun w hw => (hne w hw).1⟩, fun d q => q⟩
  · rw [show d = _ from p]
    refine sts_ret (ev_tup (ea_cons (en_slice (ev_var 4) eo_none (eo_some (ev_var 2))).ev (ea_cons (en_slice (ev_var 4) (eo_some (ev_var 2)) eo_none).ev ea_nil))) fun d p => ?_
    rw [cutL_to, cutL_from, ← List.map_take, ← List.map_drop] at p
    exact p
abbrev SpSame (K : PySem.W.Frag) : Sp := SpD K (fun y : Wd × Wd => [wd y.1, wd y.2]) (fun y => y.1.2 ≠ [] ∧ y.2.2 ≠ [] ∧ y.1.1.length + y.2.1.length + y.1.2.length + y.2.2.length ≤ 1000)
  (fun y d => d = .bool (decide (∀ m, m < max y.1.1.length y.2.1.length + y.1.2.length + y.2.2.length → wAt y.1 m = wAt y.2 m)))
theorem ok_same {fa : Addr} {fda : FuncData} (F : Fun K "is_same" "is_same" sSame f fd) (FA : Fun K "letter_at" "letter_at" sLetterAt fa fda) (ba : Binds K fda ["word", "moment"] []) (ga : mg "letter_at" = some (.ref fa)) (ml : mg "len" = none) (mx : mg "max" = none) (mr : mg "range" = none) :
    FnOk P w K mg base CX0 2 f fd ["one", "two"] (SpSame K) := by
  have GA : FnOk P w K mg base CX0 1 fa fda ["word", "moment"] (SpLetterAt K) := ok_letter_at FA ml
  refine fn_D F scSame (fun _ => rfl) fun cdv A outer s H E ⟨one, two⟩ hr hpre C hC => ?_
  dsimp only at hpre
  obtain ⟨h1, h2, hz⟩ := hpre
  show STs C _ _ [.d (wd one), .d (wd two), .u, .u, .u] _
  have nd := scSame.nd
  refine sts_set 2 nd (ev_max2 rfl mx (ev_lenL ml (ev_ixT (ev_var 0) ev_int rfl).bo) (ev_lenL ml (ev_ixT (ev_var 1) ev_int rfl).bo)) fun d p => ?_
  rw [show d = _ from p]
  have e1 : (if ((two.1.map PyData.int).length : Int) > ((one.1.map PyData.int).length : Int) then ((two.1.map PyData.int).length : Int) else ((one.1.map PyData.int).length : Int)) = ((max one.1.length two.1.length : Nat) : Int) := by
    rw [List.length_map, List.length_map]
    split <;> omega
  rw [e1]
  refine sts_set 3 nd (ev_add (ev_add (ev_var 2) (ev_lenL ml (ev_ixT (ev_var 0) ev_int rfl).bo)) (ev_lenL ml (ev_ixT (ev_var 1) ev_int rfl).bo)) fun d p => ?_
  rw [show d = _ from p, List.length_map, List.length_map]
  refine sts_forL 4 (fun k sl => (∀ m, m < k → wAt one m = wAt two m) ∧ ∃ x4, sl = [.d (wd one), .d (wd two), .d (.int ((max one.1.length two.1.length : Nat) : Int)), .d (.int (((max one.1.length two.1.length : Nat) : Int) + (one.2.length : Nat) + (two.2.length : Nat))), x4]) rfl nd (it_range1 mr (ev_var 3) (by omega) (by omega)) ⟨fun m h => absurd h (by omega), _, rfl⟩ (fun k d sl' hd hI => ?_) (fun sl' hI => ?_)
  · obtain ⟨hI, x4, rfl⟩ := hI
    have hk := (List.getElem?_eq_some_iff.mp hd).1
    rw [rgD_length] at hk
    rw [rgD_get hk] at hd
    injection hd with hd
    subst hd
    rw [Int.zero_add]
    refine sts_ifR (et_neI (ev_call GA hr ga FA.kp ba (ea_cons (ev_var 0) (ea_cons (ev_var 4) ea_nil)) fun ds p => ⟨(one, k), p, h1, fun d q => q⟩) (ev_call GA hr ga FA.kp ba (ea_cons (ev_var 1) (ea_cons (ev_var 4) ea_nil)) fun ds p => ⟨(two, k), p, h2, fun d q => q⟩)) (fun h => ?_) (fun h => ?_)
    · have h : wAt one k ≠ wAt two k := by simpa using h
      refine sts_ret ev_bl fun d p => ?_
      rw [show d = _ from p]
      show PyData.bool false = _
      rw [decide_eq_false]
      intro q
      exact h (q k (by show k < max one.1.length two.1.length + one.2.length + two.2.length; omega))
    · have h : wAt one k = wAt two k := by simpa using h
      refine sts_nil ⟨fun m hm => ?_, _, rfl⟩
      by_cases e : m < k
      · exact hI m e
      · rw [show m = k by omega]; exact h
  · obtain ⟨hI, x4, rfl⟩ := hI
    refine sts_ret ev_bl fun d p => ?_
    rw [show d = _ from p]
    show PyData.bool true = _
    rw [decide_eq_true]
    intro m hm
    refine hI m ?_
    have hm : m < max one.1.length two.1.length + one.2.length + two.2.length := hm
    rw [rgD_length]
    omega
end
end K01
namespace K01
open PySem DL
/-! ### the mathematics -/
theorem getD_l (xs ys : List Int) (n : Nat) (h : n < xs.length) : (xs ++ ys).getD n 0 = xs.getD n 0 := by
  rw [List.getD_eq_getElem?_getD, List.getD_eq_getElem?_getD, List.getElem?_append_left h]
theorem getD_r (xs ys : List Int) (n : Nat) (h : xs.length ≤ n) : (xs ++ ys).getD n 0 = ys.getD (n - xs.length) 0 := by
  rw [List.getD_eq_getElem?_getD, List.getD_eq_getElem?_getD, List.getElem?_append_right h]
theorem wAt_per {w : Wd} {m : Nat} (h : w.1.length ≤ m) (hr : 0 < w.2.length) : wAt w (m + w.2.length) = wAt w m := by
  unfold wAt
  rw [if_neg (by omega), if_neg (by omega), show m + w.2.length - w.1.length = (m - w.1.length) + w.2.length by omega, Nat.add_mod_right]
theorem fw {x y : Nat → Int} {S p q : Nat} (hp : 0 < p) (hq : 0 < q) (hx : ∀ m, S ≤ m → x (m + p) = x m) (hy : ∀ m, S ≤ m → y (m + q) = y m) (h : ∀ m, m < S + p + q → x m = y m) : ∀ m, x m = y m := by
  intro m
  induction m using Nat.strongRecOn with
  | _ m ih =>
    by_cases hm : m < S + p + q
    · exact h m hm
    · have a1 : x m = x (m - p) := by
        have := hx (m - p) (by omega)
        rwa [show m - p + p = m by omega] at this
      have a2 : y (m - p) = y (m - p - q) := by
        have := hy (m - p - q) (by omega)
        rwa [show m - p - q + q = m - p by omega] at this
      have a3 : x (m - q) = x (m - p - q) := by
        have := hx (m - p - q) (by omega)
        rwa [show m - p - q + p = m - q by omega] at this
      have a4 : y m = y (m - q) := by
        have := hy (m - q) (by omega)
        rwa [show m - q + q = m by omega] at this
      rw [a1, ih (m - p) (by omega), a2, ← ih (m - p - q) (by omega), ← a3, ih (m - q) (by omega), a4]
theorem same_all {u v : Wd} (hu : 0 < u.2.length) (hv : 0 < v.2.length) {S : Nat} (hS : max u.1.length v.1.length ≤ S) (h : ∀ m, m < S + u.2.length + v.2.length → wAt u m = wAt v m) : ∀ m, wAt u m = wAt v m :=
  fw hu hv (fun m hm => wAt_per (by omega) hu) (fun m hm => wAt_per (by omega) hv) h
def other (w : Wd) : Wd := (w.1 ++ w.2.take 1, w.2.drop 1 ++ w.2.take 1 ++ w.2.drop 1 ++ w.2.take 1)
theorem other_at (w : Wd) (h : w.2 ≠ []) (m : Nat) : wAt w m = wAt (other w) m := by
  obtain ⟨b, r⟩ := w
  cases r with
  | nil => exact absurd rfl h
  | cons x t =>
    show wAt (b, x :: t) m = wAt (b ++ [x], t ++ [x] ++ t ++ [x]) m
    unfold wAt
    dsimp only
    rw [List.length_append]
    have e1 : ([x] : List Int).length = 1 := rfl
    rw [e1]
    by_cases h1 : m < b.length
    · rw [if_pos h1, if_pos (by omega), getD_l _ _ _ h1]
    · rw [if_neg h1]
      by_cases h2 : m < b.length + 1
      · have e : m = b.length := by omega
        rw [if_pos h2, e, getD_r _ _ _ (Nat.le_refl _), Nat.sub_self, Nat.zero_mod]
        rfl
      · rw [if_neg h2]
        have key : ∀ j, j < t.length + 1 → (t ++ [x]).getD j 0 = (x :: t).getD ((j + 1) % (t.length + 1)) 0 := fun j hj => by
          by_cases hj2 : j < t.length
          · rw [getD_l _ _ _ hj2, Nat.mod_eq_of_lt (by omega), List.getD_cons_succ]
          · have e : j = t.length := by omega
            rw [e, getD_r _ _ _ (Nat.le_refl _), Nat.sub_self, Nat.mod_self]
            rfl
        have el : (t ++ [x] ++ t ++ [x]).length = (t.length + 1) + (t.length + 1) := by simp; omega
        have ell : (x :: t).length = t.length + 1 := rfl
        rw [el, ell]
        generalize hq : m - (b.length + 1) = q
        have em : m - b.length = q + 1 := by omega
        rw [em]
        have hn : 0 < t.length + 1 := by omega
        generalize hnn : t.length + 1 = n at *
        have hlt : q % (n + n) < n + n := Nat.mod_lt _ (by omega)
        have hqm : q % (n + n) % n = q % n := Nat.mod_mod_of_dvd _ ⟨2, by omega⟩
        have fin : ∀ j, j < n → j % n = q % n → (t ++ [x]).getD j 0 = (x :: t).getD ((q + 1) % n) 0 := fun j hj hjq => by
          rw [key j hj, Nat.add_mod q 1, ← hjq, ← Nat.add_mod]
        by_cases hlo : q % (n + n) < n
        · rw [List.append_assoc (t ++ [x]), getD_l _ _ _ (by simp; omega)]
          exact (fin _ hlo hqm).symm
        · rw [List.append_assoc (t ++ [x]), getD_r _ _ _ (by simp; omega)]
          have e3 : (t ++ [x]).length = n := by simp; omega
          rw [e3]
          refine (fin _ (by omega) ?_).symm
          rw [← hqm]
          conv => rhs; rw [show q % (n + n) = (q % (n + n) - n) + n by omega, Nat.add_mod_right]
theorem spB_foldl : ∀ (ws : List Wd) (a : Nat), a ≤ ws.foldl (fun s w => max s w.1.length) a ∧ (∀ w ∈ ws, w.1.length ≤ ws.foldl (fun s w => max s w.1.length) a) ∧ (ws.foldl (fun s w => max s w.1.length) a = a ∨ ∃ w ∈ ws, w.1.length = ws.foldl (fun s w => max s w.1.length) a)
  | [], a => ⟨Nat.le_refl _, fun w h => absurd h (by simp), .inl rfl⟩
  | w :: ws, a => by
    obtain ⟨h1, h2, h3⟩ := spB_foldl ws (max a w.1.length)
    simp only [List.foldl_cons]
    refine ⟨by omega, fun v hv => ?_, ?_⟩
    · rcases List.mem_cons.mp hv with rfl | hv
      · omega
      · exact h2 v hv
    · rcases h3 with h3 | ⟨v, hv, h3⟩
      · by_cases hc : a ≤ w.1.length
        · exact .inr ⟨w, List.mem_cons_self, by omega⟩
        · exact .inl (by omega)
      · exact .inr ⟨v, List.mem_cons_of_mem _ hv, h3⟩
theorem spB_max {ws : List Wd} {k : Int} (h1 : k ∈ ws.map fun w => (w.1.length : Int)) (h2 : ∀ y ∈ ws.map (fun w => (w.1.length : Int)), y ≤ k) : k = (spB ws : Nat) := by
  obtain ⟨w, hw, rfl⟩ := List.mem_map.mp h1
  obtain ⟨a, b, c⟩ := spB_foldl ws 0
  have g1 := b w hw
  have e : (spB ws) = ws.foldl (fun s w => max s w.1.length) 0 := rfl
  rw [← e] at a b c g1
  rcases c with c | ⟨v, hv, c⟩
  · omega
  · have := h2 (v.1.length : Int) (List.mem_map.mpr ⟨v, hv, rfl⟩)
    omega
theorem spB_ge {ws : List Wd} {w : Wd} (h : w ∈ ws) : w.1.length ≤ spB ws := (spB_foldl ws 0).2.1 w h
theorem spB_le {ws : List Wd} {n : Nat} (h : ∀ w ∈ ws, w.1.length ≤ n) : spB ws ≤ n := by
  rcases (spB_foldl ws 0).2.2 with c | ⟨v, hv, c⟩
  · have e : spB ws = 0 := c
    omega
  · have e : v.1.length = spB ws := c
    have := h v hv
    omega
theorem spP_foldl : ∀ (ws : List Wd) (a : Nat), a ∣ ws.foldl (fun p w => Nat.lcm p w.2.length) a ∧ (∀ w ∈ ws, w.2.length ∣ ws.foldl (fun p w => Nat.lcm p w.2.length) a) ∧ (∀ n, a ∣ n → (∀ w ∈ ws, w.2.length ∣ n) → ws.foldl (fun p w => Nat.lcm p w.2.length) a ∣ n)
  | [], a => ⟨Nat.dvd_refl _, fun w h => absurd h (by simp), fun n h _ => h⟩
  | w :: ws, a => by
    obtain ⟨h1, h2, h3⟩ := spP_foldl ws (Nat.lcm a w.2.length)
    simp only [List.foldl_cons]
    refine ⟨Nat.dvd_trans (Nat.dvd_lcm_left _ _) h1, fun v hv => ?_, fun n ha hw => h3 n (Nat.lcm_dvd ha (hw w List.mem_cons_self)) fun v hv => hw v (List.mem_cons_of_mem _ hv)⟩
    rcases List.mem_cons.mp hv with rfl | hv
    · exact Nat.dvd_trans (Nat.dvd_lcm_right _ _) h1
    · exact h2 v hv
theorem spP_dvd {ws : List Wd} {w : Wd} (h : w ∈ ws) : w.2.length ∣ spP ws := (spP_foldl ws 1).2.1 w h
theorem spP_le {ws : List Wd} {n : Nat} (hn : 0 < n) (h : ∀ w ∈ ws, w.2.length ∣ n) : spP ws ≤ n := Nat.le_of_dvd hn ((spP_foldl ws 1).2.2 n (Nat.one_dvd _) h)
theorem spP_pos {ws : List Wd} (h : ∀ w ∈ ws, 0 < w.2.length) : 0 < spP ws := by
  have key : ∀ (ws : List Wd) (a : Nat), 0 < a → (∀ w ∈ ws, 0 < w.2.length) → 0 < ws.foldl (fun p w => Nat.lcm p w.2.length) a := by
    intro ws
    induction ws with
    | nil => exact fun a ha _ => ha
    | cons w ws ih => exact fun a ha hw => ih _ (Nat.lcm_pos ha (hw w List.mem_cons_self)) fun v hv => hw v (List.mem_cons_of_mem _ hv)
  exact key ws 1 (by decide) h
theorem spP_bound {ws : List Wd} (hl : ws.length ≤ 3) (h : ∀ w ∈ ws, w.2.length ≤ 6) : spP ws ≤ 216 := by
  have key : ∀ (ws : List Wd) (a : Nat), (∀ w ∈ ws, w.2.length ≤ 6) → ws.foldl (fun p w => Nat.lcm p w.2.length) a ≤ a * 6 ^ ws.length := by
    intro ws
    induction ws with
    | nil => exact fun a _ => by simp
    | cons w ws ih =>
      intro a hw
      simp only [List.foldl_cons, List.length_cons]
      refine Nat.le_trans (ih _ fun v hv => hw v (List.mem_cons_of_mem _ hv)) ?_
      rw [Nat.pow_succ, Nat.mul_comm (6 ^ ws.length) 6, ← Nat.mul_assoc]
      exact Nat.mul_le_mul_right _ (Nat.le_trans (lcm_le _ _) (Nat.mul_le_mul_left _ (hw w List.mem_cons_self)))
  refine Nat.le_trans (key ws 1 h) ?_
  rw [Nat.one_mul]
  exact Nat.le_trans (Nat.pow_le_pow_right (by decide) hl) (by decide)
end K01
namespace K01
open PySem PySem.Spec PyProof.Rows L2 DL
section
variable {P : Program} {w : World} {K : PySem.W.Frag} {mg : Str → Option Value} {base : Heap} {f : Addr} {fd : FuncData} {k : Nat}
/-! ### the law's helpers -/
theorem ok_draw (F : Fun K "_law_draw" "_law_draw" sDraw f fd) (ml : mg "len" = none) (mi : mg "int" = none) : FnOk P w K mg base CX0 (k + 1) f fd ["state", "limit"] (SpDraw K) := by
  have nd := scDraw.nd
  refine F.ok scDraw (fun vs H Q E h => ?_) (fun cdv A outer s H vs Q E hr h => ?_)
  · obtain ⟨M, a, vs', y, _, _, _, e, r, _⟩ := h
    rw [e, List.length_cons, r.length]
    rfl
  · obtain ⟨M, a, vs', m, ha, hM, ⟨x, p, L, z, ns, h1, h2, hx, hp, hz0, hz1, hn⟩, rfl, r, ⟨hm0, hm1⟩, q⟩ := h
    obtain ⟨v, rfl⟩ : ∃ v, vs' = [v] := by
      cases r with
      | cons _ r => cases r; exact ⟨_, rfl⟩
    obtain rfl : v = .int m := by
      cases r with
      | cons r _ => exact r.int_inv
    clear r
    refine ⟨_, pss_c _, ?_⟩
    have h1 : H a = some (stL x p L z) := h1
    have pl : ∀ {b : Expr}, (∀ o i, subscripted b false o i = operate [o, i] (getItem o i)) → PlainIx b := fun h => h
    have gi : ∀ {H' : Hp} {x p z : Int}, H' a = some (stL x p L z) → SqL K H' a [.int x, .int p, .ref L, .int z] := fun h => SqL.of h
    -- what holds behind the first if
    refine cSs_mid (fun σ' H' => ∃ y2 y3 y4 y5 x' p' z', σ' = [some (.ref a), some (.int m), y2, y3, y4, y5] ∧ H' = upd H a (stL x' p' L z') ∧ 0 ≤ x' ∧ 0 ≤ p' ∧ 0 ≤ z' ∧ z' < 2147483647) ?_ ?_
    · refine ofS (ps_if (pt_cmpR op_lt (pe_ix ix_list (pv 0) pe_int (fun _ _ => rfl)) (pv 1) (nomark _)) (pss_c _) pss_nil) ?_
      refine ⟨_, rfl, a, _, 0, _, rfl, rfl, gi h1, rfl, _, rfl, _, _, rfl, rfl, _, rfl, ite2 (fun _ => ?_) (fun _ => ?_)⟩
      · refine cSs_cons (ps_set (i := 2) nd rfl (.inl rfl) (pe_ix ix_list (pv 0) pe_int (fun _ _ => rfl))) ?_
        refine ⟨_, rfl, a, _, 1, _, rfl, rfl, gi h1, rfl, ?_⟩
        refine cSs_cons (ps_asg (pe_op op_add (pv 2) pe_int) (pg_sub (pv 0) pe_int set_list)) ?_
        refine ⟨_, rfl, p, 1, rfl, rfl, _, rfl, a, _, 1, 1, rfl, rfl, h1, rfl, ?_⟩
        refine cSs_cons (ps_set (i := 3) nd rfl (.inl rfl) pe_int) ?_
        have e1 : upd H a (.lst (List.set [V.int x, V.int p, V.ref L, V.int z] 1 (V.int (p + 1)))) a = some (stL x (p + 1) L z) := upd_same
        have e2 : upd H a (.lst (List.set [V.int x, V.int p, V.ref L, V.int z] 1 (V.int (p + 1)))) L = some (.lst (ns.map V.int)) := by
          rw [upd_ne]
          · exact h2
          · intro q
            rw [q, h1] at h2
            injection h2 with h2
            injection h2 with h2
            cases ns with
            | nil => simp at h2
            | cons n1 ns =>
              cases ns with
              | nil => simp at h2
              | cons n2 ns =>
                cases ns with
                | nil => simp at h2
                | cons n3 ns => simp at h2
        generalize hG : upd H a (.lst (List.set [V.int x, V.int p, V.ref L, V.int z] 1 (V.int (p + 1)))) = G at e1 e2
        refine cSs_mid (fun σ' H' => ∃ c : Int, σ' = [some (.ref a), some (.int m), some (.int p), some (.int c), none, none] ∧ G = H') ?_ ?_
        · refine ofS (ps_if (pt_cmpR op_lt (pv 2) (pe_callB call_len_seq (by rfl) ml PySem.boot_len (pa_cons (pe_ix ix_list (pv 0) pe_int (fun _ _ => rfl)) pa_nil)) (nomark _)) (pss_c _) pss_nil) ?_
          refine ⟨_, rfl, _, rfl, a, _, 2, _, rfl, rfl, gi e1, rfl, L, _, rfl, .inl (SqL.of e2), _, _, rfl, rfl, _, rfl, ite2 (fun hc => ?_) (fun hc => ?_)⟩
          · have hlt : p < ((ns.map V.int).length : Nat) := of_decide_eq_true hc
            rw [List.length_map] at hlt
            refine cSs_one (ps_set (i := 3) nd rfl (.inl rfl) (pe_ix ix_list (pe_ix ix_list (pv 0) pe_int (fun _ _ => rfl)) (pv 2) (fun _ _ => rfl))) ?_
            obtain ⟨pn, epn⟩ := Int.eq_ofNat_of_zero_le hp
            have hpn : pn < ns.length := by omega
            refine ⟨_, rfl, a, _, 2, _, rfl, rfl, gi e1, rfl, _, rfl, L, _, p, .int ns[pn], rfl, rfl, SqL.of e2, ?_, _, rfl, rfl⟩
            rw [epn]
            refine atI_nat ?_
            rw [List.getElem?_map, List.getElem?_eq_getElem hpn]
            rfl
          · exact ⟨0, rfl, rfl⟩
        · rintro σ' H' ⟨c, rfl, rfl⟩
          refine cSs_one (ps_if (pt_cmpR op_ge (pv 3) (pe_op op_pow pe_int pe_int) (nomark _)) (pss_c _) (pss_c _)) ?_
          refine ⟨_, rfl, _, _, rfl, rfl, ⟨by decide, by decide, by decide⟩, _, _, rfl, rfl, _, rfl, ite2 (fun hc => ?_) (fun hc => ?_)⟩
          · have hc : (1000000000000000000 : Int) ≤ c := of_decide_eq_true hc
            refine cSs_one (ps_asg (pv 3) (pg_sub (pv 0) pe_int set_list)) ?_
            refine ⟨_, rfl, _, rfl, a, _, 0, 0, rfl, rfl, e1, rfl, _, _, _, _, c, p + 1, z, rfl, ?_, by omega, by omega, hz0, hz1⟩
            rw [← hG, upd_upd]
            rfl
          · refine cSs_cons (ps_asg (pe_op op_mod (pe_callTy call_int1 (by rfl) mi boot_int (pa_cons (pe_op op_mul (pe_op op_add (pe_op op_add (pe_op op_add (pe_ix ix_list (pv 0) pe_int (fun _ _ => rfl)) (pe_op op_mod (pe_callTy call_int1 (by rfl) mi boot_int (pa_cons (pv 3) pa_nil)) pe_int)) (pv 2)) pe_int) pe_int) pa_nil)) pe_int) (pg_sub (pv 0) pe_int set_list)) ?_
            refine ⟨_, rfl, a, _, 3, _, rfl, rfl, gi e1, rfl, _, rfl, .inl ⟨c, rfl, _, _, rfl, rfl, (by show (0 : Int) < _; decide), _, _, rfl, rfl, _, rfl, _, _, rfl, rfl, _, _, rfl, rfl, _, _, rfl, rfl, .inr (by decide), .inl ⟨_, rfl, _, _, rfl, rfl, (by show (0 : Int) < _; decide), _, rfl, a, _, 3, 3, rfl, rfl, e1, rfl, ?_⟩⟩⟩
            dsimp only
            generalize hz2 : (z + c % 2147483629 + p + 1) * 48271 % 2147483647 = z2
            have b2 : 0 ≤ z2 ∧ z2 < 2147483647 := by rw [← hz2]; exact ⟨Int.emod_nonneg _ (by decide), Int.emod_lt_of_pos _ (by decide)⟩
            have e3 : upd G a (.lst (List.set [V.int x, V.int (p + 1), V.ref L, V.int z] 3 (V.int z2))) a = some (stL x (p + 1) L z2) := upd_same
            refine cSs_cons (ps_set (i := 4) nd rfl (.inl rfl) (pe_op op_mod (pe_callTy call_int1 (by rfl) mi boot_int (pa_cons (pe_op op_add (pe_op op_mul (pe_ix ix_list (pv 0) pe_int (fun _ _ => rfl)) pe_int) pe_int) pa_nil)) pe_int)) ?_
            refine ⟨_, rfl, a, _, 3, _, rfl, rfl, gi e3, rfl, _, _, rfl, rfl, .inr (by decide), _, _, rfl, rfl, .inl ⟨_, rfl, _, _, rfl, rfl, (by show (0 : Int) < _; decide), ?_⟩⟩
            dsimp only
            generalize hw : (z2 * 69621 + 11) % 2147483629 = mx
            have b3 : 0 ≤ mx ∧ mx < 2147483629 := by rw [← hw]; exact ⟨Int.emod_nonneg _ (by decide), Int.emod_lt_of_pos _ (by decide)⟩
            refine cSs_one (ps_asg (pe_op op_add (pe_op op_mul (pv 4) pe_int) (pe_op op_mod (pe_callTy call_int1 (by rfl) mi boot_int (pa_cons (pe_op op_add (pe_op op_mul (pv 4) pe_int) (pe_ix ix_list (pv 0) pe_int (fun _ _ => rfl))) pa_nil)) pe_int)) (pg_sub (pv 0) pe_int set_list)) ?_
            refine ⟨_, rfl, _, _, rfl, rfl, .inr (by decide), _, rfl, _, _, rfl, rfl, .inr (by decide), _, rfl, a, _, 3, _, rfl, rfl, gi e3, rfl, _, _, rfl, rfl, .inl ⟨_, rfl, _, _, rfl, rfl, (by show (0 : Int) < _; decide), _, _, rfl, rfl, _, rfl, a, _, 0, 0, rfl, rfl, e3, rfl, ?_⟩⟩
            have g1 : 0 ≤ (mx * 30011 + z2) % 2147483587 := Int.emod_nonneg _ (by decide)
            refine ⟨_, _, _, _, mx * 2147483647 + (mx * 30011 + z2) % 2147483587, p + 1, z2, rfl, ?_, by omega, by omega, b2.1, b2.2⟩
            rw [← hG, upd_upd, upd_upd]
            rfl
      · exact ⟨_, _, _, _, x, p, z, rfl, by
          funext b
          by_cases e : b = a
          · subst e; rw [upd_same, h1]
          · rw [upd_ne e], hx, hp, hz0, hz1⟩
    · rintro σ' H' ⟨y2, y3, y4, y5, x', p', z', rfl, rfl, hx', hp', hz0', hz1'⟩
      have e1 : upd H a (stL x' p' L z') a = some (stL x' p' L z') := upd_same
      refine cSs_cons (ps_set (i := 5) nd rfl (.inl rfl) (pe_op op_mod (pe_callTy call_int1 (by rfl) mi boot_int (pa_cons (pe_ix ix_list (pv 0) pe_int (fun _ _ => rfl)) pa_nil)) (pv 1))) ?_
      refine ⟨_, rfl, a, _, 0, _, rfl, rfl, gi e1, rfl, .inl ⟨_, rfl, _, rfl, _, _, rfl, rfl, hm0, ?_⟩⟩
      refine cSs_cons (ps_asg (pe_op op_fdivW (pe_ix ix_list (pv 0) pe_int (fun _ _ => rfl)) (pv 1)) (pg_sub (pv 0) pe_int set_list)) ?_
      refine ⟨_, rfl, a, _, 0, _, rfl, rfl, gi e1, rfl, _, rfl, _, _, rfl, rfl, wide_div (b := 64) hm0 (by omega) (by decide) (by decide), _, rfl, a, _, 0, 0, rfl, rfl, e1, rfl, ?_⟩
      refine cSs_one (ps_ret (pv 5)) ?_
      refine ⟨_, rfl, ?_⟩
      rw [upd_upd]
      refine q _ _ (.int (x' % m)) ⟨x' % m, rfl, Int.emod_nonneg _ (by omega), Int.emod_lt_of_pos _ hm0⟩ (fun C e => st_tr h1 h2 ⟨Int.ediv_nonneg hx' (by omega), hp', hz0', hz1'⟩ e) (.int _)
theorem ok_at (F : Fun K "_law_at" "_law_at" sAt f fd) (ml : mg "len" = none) (mi : mg "int" = none) : FnOk P w K mg base CX0 (k + 1) f fd ["word", "moment"] (SpLetterAt K) := by
  refine fn_D F scAt (fun _ => rfl) fun cdv A outer s H E ⟨⟨b, r⟩, m⟩ hr hpre C hC => ?_
  show STs C _ _ [.d (wd (b, r)), .d (.int (m : Nat))] _
  refine sts_ifR (et_lt (ev_var 1) (ev_lenL ml (ev_ixT (ev_var 0) ev_int rfl).bo)) (fun h => ?_) (fun h => ?_)
  · have h : m < b.length := by simpa using h
    refine sts_ret (ev_ixL (ev_ixT (ev_var 0) ev_int rfl) (ev_var 1) (li_at h)) fun d p => ?_
    have p : d = .int (b.getD m 0) := p
    show d = .int (wAt (b, r) m)
    rw [p, wAt, if_pos h]
  · have h : ¬ m < b.length := by simpa using h
    have hr : 0 < r.length := List.length_pos_iff.mpr hpre
    refine sts_ret (ev_ixL (ev_ixT (ev_var 0) ev_int rfl) (ev_mod (ev_toInt mi (ev_sub (ev_var 1) (ev_lenL ml (ev_ixT (ev_var 0) ev_int rfl).bo))) (ev_lenL ml (ev_ixT (ev_var 0) ev_int rfl).bo) (by simpa using hr)) ?_) fun d p => p
    have e : ((m : Int) - ((b.map PyData.int).length : Nat)) % (((r.map PyData.int).length : Nat) : Int) = (((m - b.length) % r.length : Nat) : Int) := by
      rw [List.length_map, List.length_map, Int.natCast_emod, Int.ofNat_sub (by omega)]
    rw [e, li_at (Nat.mod_lt _ hr), wAt, if_neg h]
/-- drawn letters -/
abbrev SpRow (K : PySem.W.Frag) : Sp := SpS K (fun y : Int × Nat × Nat => [.int y.1, .int (y.2.1 : Nat), .int (y.2.2 : Nat)]) (fun y => 0 < y.1 ∧ y.1 ≤ 1000 ∧ y.2.1 ≤ y.2.2 ∧ y.2.2 ≤ 100)
  (fun y d => ∃ ns, d = li ns ∧ y.2.1 ≤ ns.length ∧ ns.length ≤ y.2.2 ∧ ∀ x ∈ ns, 0 ≤ x ∧ x < y.1)
theorem ok_row {fd' : Addr} {fdd : FuncData} (F : Fun K "_law_row" "_law_row" sRow f fd) (FD : Fun K "_law_draw" "_law_draw" sDraw fd' fdd) (bd : Binds K fdd ["state", "limit"] []) (gd : mg "_law_draw" = some (.ref fd')) (ml : mg "len" = none) (mi : mg "int" = none) (mr : mg "range" = none) :
    FnOk P w K mg base CX0 2 f fd ["state", "count", "low", "most"] (SpRow K) := by
  have GD : FnOk P w K mg base CX0 1 fd' fdd ["state", "limit"] (SpDraw K) := ok_draw FD ml mi
  refine fn_S F scRow (fun _ => rfl) fun cdv A outer s H E ⟨c, lo, hi⟩ a hr hpre C hC => ?_
  obtain ⟨(c0 : 0 < c), (c1 : c ≤ 1000), (l0 : lo ≤ hi), (l1 : hi ≤ 100)⟩ := hpre
  show STs C _ _ [.r (.ref a), .d (.int c), .d (.int (lo : Nat)), .d (.int (hi : Nat)), .u] _
  refine sts_ret (P := fun d => ∃ ns, d = li ns ∧ lo ≤ ns.length ∧ ns.length ≤ hi ∧ ∀ x ∈ ns, 0 ≤ x ∧ x < c) (EV.imp (EVN.ev (en_lc rfl scRow.nd (lcok 4 (blkOk_by (N := ["state", "count", "low", "most", "k"]) (sc := defScope sRow) (by decide +kernel)))
    (lc_read (T := fun ds => lo ≤ ds.length ∧ ds.length ≤ hi) (U := fun _ _ _ z => ∃ x : Int, z = .int x ∧ (0 ≤ x ∧ x < c)) (it_range1P mr ?_) (fun ds p => by omega) (fun s0 H0 L cl fp ds k d p hd => ?_)))) (fun d p => ?_)) (fun d p => p)
  · refine ev_i2 op_add (ev_var 2) (ev_callS 0 GD hr gd FD.kp bd hC (P := fun d => ∃ j : Int, d = .int j ∧ 0 ≤ j ∧ j < hi - lo + 1) (ea_cons (ev_add (ev_sub (ev_var 3) (ev_var 2)) ev_int) ea_nil) fun ds p => ⟨(hi : Int) - lo + 1, p, ⟨by omega, by omega⟩, fun d q => q⟩) fun dx dy px py => ?_
    obtain ⟨j, rfl, j0, j1⟩ := py
    refine ⟨(lo : Int), j, px, rfl, _, rfl, by omega, by omega, ?_⟩
    rw [rgD_length]
    omega
  · exact (ev_callS 0 GD hr gd FD.kp bd hC (P := fun d => ∃ j : Int, d = .int j ∧ 0 ≤ j ∧ j < c) (ea_cons (ev_var 1) ea_nil) fun ds p => ⟨c, p, ⟨by omega, by omega⟩, fun d q => q⟩).imp fun d ⟨j, e, q⟩ => ⟨j, e, q⟩
  · obtain ⟨ds, out, rfl, ⟨q1, q2⟩, hl, h⟩ := p
    obtain ⟨ns, e1, e2, e3⟩ := drawn (g := PyData.int) hl h
    exact ⟨ns, by rw [e1]; rfl, by omega, by omega, e3⟩
def WOk (c : Int) (m : Nat) (w : Wd) : Prop := w.1.length ≤ m ∧ 1 ≤ w.2.length ∧ w.2.length ≤ m ∧ (∀ x ∈ w.1, 0 ≤ x ∧ x < c) ∧ ∀ x ∈ w.2, 0 ≤ x ∧ x < c
abbrev SpWord (K : PySem.W.Frag) : Sp := SpS K (fun y : Int × Nat => [.int y.1, .int (y.2 : Nat)]) (fun y => 0 < y.1 ∧ y.1 ≤ 1000 ∧ 1 ≤ y.2 ∧ y.2 ≤ 100) (fun y d => ∃ w, d = wd w ∧ WOk y.1 y.2 w)
theorem ok_word {fd' fr : Addr} {fdd fdr : FuncData} (F : Fun K "_law_word" "_law_word" sWord f fd) (FR : Fun K "_law_row" "_law_row" sRow fr fdr) (FD : Fun K "_law_draw" "_law_draw" sDraw fd' fdd) (bd : Binds K fdd ["state", "limit"] []) (br : Binds K fdr ["state", "count", "low", "most"] [])
    (gd : mg "_law_draw" = some (.ref fd')) (gr : mg "_law_row" = some (.ref fr)) (ml : mg "len" = none) (mi : mg "int" = none) (mr : mg "range" = none) : FnOk P w K mg base CX0 3 f fd ["state", "count", "most"] (SpWord K) := by
  have GR : FnOk P w K mg base CX0 2 fr fdr ["state", "count", "low", "most"] (SpRow K) := ok_row FR FD bd gd ml mi mr
  refine fn_S F scWord (fun _ => rfl) fun cdv A outer s H E ⟨c, m⟩ a hr hpre C hC => ?_
  obtain ⟨(c0 : 0 < c), (c1 : c ≤ 1000), (m0 : 1 ≤ m), (m1 : m ≤ 100)⟩ := hpre
  show STs C _ _ [.r (.ref a), .d (.int c), .d (.int (m : Nat))] _
  refine sts_ret (ev_tupP (ea_consP (ev_callS 0 GR hr gr FR.kp br hC (P := fun d => ∃ ns, d = li ns ∧ ns.length ≤ m ∧ ∀ x ∈ ns, 0 ≤ x ∧ x < c) (ea_cons (ev_var 1) (ea_cons ev_int (ea_cons (ev_var 2) ea_nil))) fun ds p => ⟨(c, 0, m), p, ⟨c0, c1, Nat.zero_le _, m1⟩, fun d ⟨ns, e, _, q1, q2⟩ => ⟨ns, e, q1, q2⟩⟩)
    (ea_consP (ev_callS 0 GR hr gr FR.kp br hC (P := fun d => ∃ ns, d = li ns ∧ 1 ≤ ns.length ∧ ns.length ≤ m ∧ ∀ x ∈ ns, 0 ≤ x ∧ x < c) (ea_cons (ev_var 1) (ea_cons ev_int (ea_cons (ev_var 2) ea_nil))) fun ds p => ⟨(c, 1, m), p, ⟨c0, c1, m0, m1⟩, fun d q => q⟩) ea_nil)) ?_) fun d p => ?_
  · rintro ds ⟨d, ds', rfl, _, d2, ds2, rfl, _, e⟩
    rw [show ds2 = [] from e]
    show 2 ≤ 100000
    decide
  · obtain ⟨ds, rfl, d1, ds', rfl, ⟨n1, rfl, q1, q2⟩, d2, ds2, rfl, ⟨n2, rfl, r1, r2, r3⟩, e⟩ := p
    have e : ds2 = [] := e
    subst e
    exact ⟨(n1, n2), rfl, q1, r1, r2, q2, r3⟩
end
end K01
namespace K01
open PySem PySem.Spec PyProof.Rows L2 DL
def lawN : List Str := ["script", "state", "count", "k", "words", "word", "start", "period", "letters", "moment", "code", "copies", "one", "two", "other", "due"]
theorem flat_ws (n : Nat) (ws : List Wd) : flat (n + 3) (.list (ws.map wd)) = true := by
  rw [flat]
  exact flats_map ws fun w _ => flat_wd n w
theorem ws_at {ws : List Wd} {j : Nat} {v : Wd} (h : ws[j]? = some v) : atI (ws.map wd) (j : Int) = some (wd v) := atI_nat (by rw [List.getElem?_map, h]; rfl)
theorem ws_last {ws : List Wd} (h : ws ≠ []) : atI (ws.map wd) (-1) = some (wd (ws.getLast h)) := by
  have e : ws.map wd = ws.dropLast.map wd ++ [wd (ws.getLast h)] := by
    rw [← List.map_singleton, ← List.map_append, List.dropLast_concat_getLast]
  rw [e]
  exact atI_last _ _
theorem cut1 (xs : List PyData) : cutL xs none (some 1) = xs.take 1 := cutL_to xs 1
theorem cutd1 (xs : List PyData) : cutL xs (some 1) none = xs.drop 1 := cutL_from xs 1
theorem mem_list {ds : List PyData} {k : Nat} {d : PyData} (h : ds[k]? = some d) (hs : ∀ x ∈ ds, ∃ m : Nat, x = .int (m : Nat)) : ∃ m : Nat, d = .int (m : Nat) := hs d (List.mem_of_getElem? h)
section
variable {P : Program} {w : World} {K : PySem.W.Frag} {mg : Str → Option Value} {base : Heap} {f : Addr} {fd : FuncData} {k : Nat}
/-- the names of the top that the law's def and those below it ask -/
structure Tx (K : PySem.W.Frag) (mg : Str → Option Value) (fa fs fb fj fe fw fr fdd fat : Addr) (da ds db dj de dw dr dd dat : FuncData) : Prop where
  FA : Fun K "letter_at" "letter_at" sLetterAt fa da
  FS : Fun K "spans" "spans" sSpans fs ds
  FB : Fun K "side_by_side" "side_by_side" sSbs fb db
  FJ : Fun K "_joined_letter" "_joined_letter" sJoined fj dj
  FE : Fun K "is_same" "is_same" sSame fe de
  FW : Fun K "_law_word" "_law_word" sWord fw dw
  FR : Fun K "_law_row" "_law_row" sRow fr dr
  FD : Fun K "_law_draw" "_law_draw" sDraw fdd dd
  FT : Fun K "_law_at" "_law_at" sAt fat dat
  ba : Binds K da ["word", "moment"] []
  bs : Binds K ds ["words"] []
  bb : Binds K db ["words", "count"] []
  bj : Binds K dj ["words", "count", "moment"] []
  be : Binds K de ["one", "two"] []
  bw : Binds K dw ["state", "count", "most"] []
  br : Binds K dr ["state", "count", "low", "most"] []
  bd : Binds K dd ["state", "limit"] []
  bt : Binds K dat ["word", "moment"] []
  ga : mg "letter_at" = some (.ref fa)
  gs : mg "spans" = some (.ref fs)
  gb : mg "side_by_side" = some (.ref fb)
  gj : mg "_joined_letter" = some (.ref fj)
  ge : mg "is_same" = some (.ref fe)
  gw : mg "_law_word" = some (.ref fw)
  gr : mg "_law_row" = some (.ref fr)
  gd : mg "_law_draw" = some (.ref fdd)
  gt : mg "_law_at" = some (.ref fat)
  mc : mg "lcm" = some (.builtin "math.lcm")
  ml : mg "len" = none
  mx : mg "max" = none
  mr : mg "range" = none
  mi : mg "int" = none
  ms : mg "list" = none
  mal : mg "all" = none
set_option maxHeartbeats 1000000 in
theorem ok_law {fa fs fb fj fe fw fr fdd fat : Addr} {da ds db dj de dw dr dd dat : FuncData} (F : Fun K "law" "law" sLaw f fd) (T : Tx K mg fa fs fb fj fe fw fr fdd fat da ds db dj de dw dr dd dat) : FnOk P w K mg base CX0 4 f fd ["script"] (spLaw K) := by
  have GA : FnOk P w K mg base CX0 1 fa da ["word", "moment"] (SpLetterAt K) := ok_letter_at T.FA T.ml
  have GS : FnOk P w K mg base CX0 1 fs ds ["words"] (SpSpans K) := ok_spans T.FS T.ml T.mx T.mc
  have GB : FnOk P w K mg base CX0 3 fb db ["words", "count"] (SpSbs K) := ok_sbs T.FB T.FA T.FS T.FJ T.ba T.bs T.bj T.ga T.gs T.gj T.ml T.mx T.mc T.mr
  have GE : FnOk P w K mg base CX0 2 fe de ["one", "two"] (SpSame K) := ok_same T.FE T.FA T.ba T.ga T.ml T.mx T.mr
  have GW : FnOk P w K mg base CX0 3 fw dw ["state", "count", "most"] (SpWord K) := ok_word T.FW T.FR T.FD T.bd T.br T.gd T.gr T.ml T.mi T.mr
  have GD : FnOk P w K mg base CX0 1 fdd dd ["state", "limit"] (SpDraw K) := ok_draw T.FD T.ml T.mi
  have GT : FnOk P w K mg base CX0 1 fat dat ["word", "moment"] (SpLetterAt K) := ok_at T.FT T.ml T.mi
  have nd := scLaw.nd
  refine F.ok scLaw (fun vs H Q E h => ?_) (fun cdv A outer s H vs Q E hr h => ?_)
  · obtain ⟨a, ns, rfl, _⟩ := h
    rfl
  obtain ⟨a, ns, rfl, hS, hn, q⟩ := h
  refine ⟨_, pss_c _, law_open (n := 14) nd rfl rfl (.inl rfl) (.inr rfl) (.inl rfl) rfl T.ms hS hn q fun sa C hC => ?_⟩
  have hu := hr.units
  show STs C _ _ [.u, .r (.ref sa), .u, .u, .u, .u, .u, .u, .u, .u, .u, .u, .u, .u, .u, .u] _
  -- count
  refine sts_set 2 nd (P := fun d => ∃ c : Int, d = .int c ∧ 1 ≤ c ∧ c ≤ 4) (ev_i2 op_add ev_int (ev_callS 1 GD (hr.mono (by decide)) T.gd T.FD.kp T.bd hC (P := fun d => ∃ j : Int, d = .int j ∧ 0 ≤ j ∧ j < 4) (ea_cons ev_int ea_nil) fun ds p => ⟨4, p, by decide, fun d q => q⟩) fun dx dy px py => ?_) ?_
  · obtain ⟨j, rfl, j0, j1⟩ := py
    exact ⟨1, j, px, rfl, _, rfl, by omega, by omega⟩
  rintro _ ⟨c, rfl, c0, c1⟩
  -- words
  refine sts_lc 4 rfl nd (lcok 3 (blkOk_by (N := lawN) (sc := defScope sLaw) (by decide +kernel)))
    ((lc_read (T := fun ds => 1 ≤ ds.length ∧ ds.length ≤ 3) (U := fun _ _ _ z => ∃ v, z = wd v ∧ WOk c 6 v) (it_range1P T.mr (ev_i2 op_add ev_int (ev_callS 1 GD (hr.mono (by decide)) T.gd T.FD.kp T.bd hC (P := fun d => ∃ j : Int, d = .int j ∧ 0 ≤ j ∧ j < 3) (ea_cons ev_int ea_nil) fun ds p => ⟨3, p, by decide, fun d q => q⟩) fun dx dy px py => ?_)) (fun ds p => by omega)
      (fun s0 H0 L cl fp ds k d p hd => ?_)).imp (P' := fun d => ∃ ws : List Wd, d = .list (ws.map wd) ∧ 1 ≤ ws.length ∧ ws.length ≤ 3 ∧ ∀ v ∈ ws, WOk c 6 v) fun d p => ?_) ?_
  · obtain ⟨j, rfl, j0, j1⟩ := py
    refine ⟨1, j, px, rfl, _, rfl, by omega, by omega, ?_⟩
    rw [rgD_length]
    omega
  · exact ev_callS 1 GW (hr.mono (by decide)) T.gw T.FW.kp T.bw hC (ea_cons (ev_var 2) (ea_cons ev_int ea_nil)) fun ds p => ⟨(c, 6), p, ⟨by show 0 < c; omega, by show c ≤ 1000; omega, by show 1 ≤ 6; decide, by show 6 ≤ 100; decide⟩, fun d q => q⟩
  · obtain ⟨ds, out, rfl, ⟨q1, q2⟩, hl, h⟩ := p
    obtain ⟨ws, e1, e2, e3⟩ := drawn (g := wd) hl h
    exact ⟨ws, by rw [e1], by omega, by omega, e3⟩
  rintro _ ⟨ws, rfl, w1, w3, wok⟩
  have wne : ∀ v ∈ ws, 0 < v.2.length := fun v hv => (wok v hv).2.1
  have w6 : ∀ v ∈ ws, v.2.length ≤ 6 := fun v hv => (wok v hv).2.2.1
  have b6 : ∀ v ∈ ws, v.1.length ≤ 6 := fun v hv => (wok v hv).1
  have pP := spP_pos wne
  have pB := spP_bound w3 w6
  have sB := spB_le b6
  -- start
  refine sts_set 6 nd (ev_maxL (ns := ws.map fun v => (v.1.length : Int)) rfl T.mx (en_lc rfl nd (lcok 5 (blkOk_by (N := lawN) (sc := defScope sLaw) (by decide +kernel))) (lc_readm (out := (ws.map fun v => (v.1.length : Int)).map PyData.int) (it_l (ev_var 4)) (by rw [List.length_map]; omega) (by simp) fun s0 H0 L cl fp k d z hd hz => ?_)).ev.bo (by rw [List.length_map]; omega) (fun k h1 h2 => spB_max h1 h2)) fun d p => ?_
  · rw [List.getElem?_map] at hd
    obtain ⟨v, hv, rfl⟩ := Option.map_eq_some_iff.mp hd
    have e : z = .int (v.1.length : Nat) := by simpa [hv] using hz.symm
    subst e
    exact (ev_lenL T.ml (ev_ixT (ev_var 5) ev_int rfl).bo).eq (by rw [List.length_map])
  rw [show d = _ from p]
  refine sts_set 7 nd ev_int fun d p => ?_
  rw [show d = _ from p]
  -- period
  refine sts_forLB 3 (fun k sl => (∀ j : Nat, 1 ≤ j → j ≤ k → ¬ ∀ v ∈ ws, v.2.length ∣ j) ∧ ∃ x3 x5, sl = [.u, .r (.ref sa), .d (.int c), x3, .d (.list (ws.map wd)), x5, .d (.int (spB ws : Nat)), .d (.int 1), .u, .u, .u, .u, .u, .u, .u, .u])
    (fun sl => ∃ x3 x5, sl = [.u, .r (.ref sa), .d (.int c), x3, .d (.list (ws.map wd)), x5, .d (.int (spB ws : Nat)), .d (.int (spP ws : Nat)), .u, .u, .u, .u, .u, .u, .u, .u]) rfl nd (it_range2 T.mr ev_int ev_int (by decide)) ⟨fun j h1 h2 => absurd h1 (by omega), _, _, rfl⟩ (fun k d sl' hd hI => ?_) (fun sl' hI => ?_)
  · obtain ⟨hI, x3, x5, rfl⟩ := hI
    have hk := (List.getElem?_eq_some_iff.mp hd).1
    rw [rgD_length] at hk
    rw [rgD_get hk] at hd
    injection hd with hd
    subst hd
    have hk2 : k < 216 := by omega
    refine sts_if (T := fun t => (t = true → ∀ v ∈ ws, v.2.length ∣ (k + 1)) ∧ (t = false → ¬ ∀ v ∈ ws, v.2.length ∣ (k + 1))) (N := fun sl => (¬ ∀ v ∈ ws, v.2.length ∣ (k + 1)) ∧ sl = [.u, .r (.ref sa), .d (.int c), .d (.int (1 + (k : Nat))), .d (.list (ws.map wd)), x5, .d (.int (spB ws : Nat)), .d (.int 1), .u, .u, .u, .u, .u, .u, .u, .u])
      ((et_val (ev_all (bs := ws.map fun v => decide ((1 + (k : Int)) % (v.2.length : Int) = 0)) rfl T.mal (en_lc rfl nd (lcok 5 (blkOk_by (N := lawN) (sc := defScope sLaw) (by decide +kernel))) (lc_readm (out := (ws.map fun v => decide ((1 + (k : Int)) % (v.2.length : Int) = 0)).map PyData.bool) (it_l (ev_var 4)) (by rw [List.length_map]; omega) (by simp) fun s0 H0 L cl fp j d z hd hz => ?_)).ev.bo)).imp fun t pt => ?_)
      (fun t => ?_) (fun t => ?_) (fun sl' h => ?_)
    · rw [List.getElem?_map] at hd
      obtain ⟨v, hv, rfl⟩ := Option.map_eq_some_iff.mp hd
      have e : z = .bool (decide ((1 + (k : Int)) % (v.2.length : Int) = 0)) := by simpa [hv] using hz.symm
      subst e
      exact (ev_eqI (ev_mod (ev_toInt T.mi (ev_var 3)) (ev_lenL T.ml (ev_ixT (ev_var 5) ev_int rfl).bo) (by rw [List.length_map]; have := wne v (List.mem_of_getElem? hv); omega)) ev_int).eq (by rw [List.length_map])
    · have pt : t = (ws.map fun v => decide ((1 + (k : Int)) % (v.2.length : Int) = 0)).all id := pt
      have key : t = true ↔ ∀ v ∈ ws, v.2.length ∣ (k + 1) := by
        rw [pt, List.all_map, List.all_eq_true]
        refine forall_congr' fun v => forall_congr' fun hv => ?_
        simp only [Function.comp, id, decide_eq_true_eq]
        rw [← Int.natCast_dvd_natCast, Int.dvd_iff_emod_eq_zero, Int.add_comm]
        rfl
      exact ⟨key.mp, fun e h => by rw [key.mpr h] at e; cases e⟩
    · have hdv := t.1 rfl
      refine sts_set 7 nd (ev_var 3) fun d p => ?_
      rw [show d = _ from p]
      refine sts_break ⟨.d (.int (1 + (k : Nat))), x5, ?_⟩
      have e : spP ws = k + 1 := by
        refine Nat.le_antisymm (spP_le (by omega) hdv) ?_
        by_cases hlt : spP ws < k + 1
        · exact absurd (fun v hv => spP_dvd hv) (hI (spP ws) (by omega) (by omega))
        · omega
      rw [e]
      have e2 : ((k + 1 : Nat) : Int) = 1 + (k : Nat) := by omega
      rw [e2]
      rfl
    · exact sts_nil ⟨t.2 rfl, rfl⟩
    · obtain ⟨h1, rfl⟩ := h
      refine sts_nil ⟨fun j h2 h3 => ?_, _, _, rfl⟩
      by_cases e : j ≤ k
      · exact hI j h2 e
      · rw [show j = k + 1 by omega]; exact h1
  have hI2 : ∃ x3 x5, sl' = [.u, .r (.ref sa), .d (.int c), x3, .d (.list (ws.map wd)), x5, .d (.int (spB ws : Nat)), .d (.int (spP ws : Nat)), .u, .u, .u, .u, .u, .u, .u, .u] := by
    rcases hI with hI | hI
    · exact absurd (fun v hv => spP_dvd hv) (hI.1 (spP ws) (by omega) (by rw [rgD_length]; omega))
    · exact hI
  clear hI
  obtain ⟨x3, x5, rfl⟩ := hI2
  -- spans
  refine sts_ifR (EVW.t (ew_or (et_ne hu (ev_call GS (hr.mono (by decide)) T.gs T.FS.kp T.bs (P := is (.tuple [.int (spB ws : Nat), .int (spP ws : Nat)])) (ea_cons (en_lc rfl nd (lcok 5 (blkOk_by (N := lawN) (sc := defScope sLaw) (by decide +kernel))) (lc_readm (out := ws.map wd) (it_l (ev_var 4)) (by rw [List.length_map]; omega) rfl fun s0 H0 L cl fp j d z hd hz => ?_)).ev ea_nil) fun ds p => ⟨ws, p, ⟨by omega, fun v hv => by have := w6 v hv; omega⟩, fun d q => q⟩)
      (ev_tup (ea_cons (ev_var 6) (ea_cons (ev_var 7) ea_nil))).bo (flat_shaped (n := 1) rfl) (flat_shaped (n := 1) rfl)) fun _ => ew_or1 (et_ne hu (ev_call GS (hr.mono (by decide)) T.gs T.FS.kp T.bs (P := is (.tuple [.int 0, .int 1])) (ea_cons (en_lst ea_nil).ev ea_nil) fun ds p => ⟨[], p, ⟨by decide, fun v hv => absurd hv (by simp)⟩, fun d q => q⟩)
      (ev_tup (ea_cons ev_int (ea_cons ev_int ea_nil))).bo (flat_shaped (n := 1) rfl) (flat_shaped (n := 1) rfl)))) (fun t => ?_) (fun _ => ?_)
  · rw [hd] at hz
    injection hz with hz
    subst hz
    rw [List.getElem?_map] at hd
    obtain ⟨v, hv, rfl⟩ := Option.map_eq_some_iff.mp hd
    exact ev_tup (ea_cons (en_listL T.ms (ev_ixT (ev_var 5) ev_int rfl)).ev (ea_cons (en_listL T.ms (ev_ixT (ev_var 5) ev_int rfl)).ev ea_nil))
  · simp [isB, PyData.eqv, PyData.eqvAll] at t
  -- letters
  refine sts_setO 8 nd (en_lst ea_nil) fun d p => ?_
  rw [show d = _ from p]
  refine sts_forL 9 (fun k sl => ∃ x5 x9 x10, sl = [.u, .r (.ref sa), .d (.int c), x3, .d (.list (ws.map wd)), x5, .d (.int (spB ws : Nat)), .d (.int (spP ws : Nat)), .own (li ((List.range k).map (jl ws c))), x9, x10, .u, .u, .u, .u, .u]) rfl nd (it_range1 T.mr (ev_add (ev_var 6) (ev_var 7)) (by omega) (by omega)) ⟨_, _, _, rfl⟩ (fun k d sl' hd hI => ?_) (fun sl' hI => ?_)
  · obtain ⟨x5, x9, x10, rfl⟩ := hI
    have hk := (List.getElem?_eq_some_iff.mp hd).1
    rw [rgD_length] at hk
    rw [rgD_get hk] at hd
    injection hd with hd
    subst hd
    rw [Int.zero_add]
    refine sts_set 10 nd ev_int fun d p => ?_
    rw [show d = _ from p]
    refine sts_forL 5 (fun i sl => ∃ x5, sl = [.u, .r (.ref sa), .d (.int c), x3, .d (.list (ws.map wd)), x5, .d (.int (spB ws : Nat)), .d (.int (spP ws : Nat)), .own (li ((List.range k).map (jl ws c))), .d (.int (k : Nat)), .d (.int (jl (ws.take i) c k)), .u, .u, .u, .u, .u]) rfl nd (it_l (ev_var 4)) ⟨_, rfl⟩ (fun i d sl' hd hI => ?_) (fun sl' hI => ?_)
    · obtain ⟨x5, rfl⟩ := hI
      rw [List.getElem?_map] at hd
      obtain ⟨v, hv, rfl⟩ := Option.map_eq_some_iff.mp hd
      refine sts_set 10 nd (ev_add (ev_mul (ev_var 10) (ev_var 2) (.inr (by omega))) (ev_call GT (hr.mono (by decide)) T.gt T.FT.kp T.bt (P := is (.int (wAt v k))) (ea_cons (ev_var 5) (ea_cons (ev_var 9) ea_nil)) fun ds p => ⟨(v, k), p, List.length_pos_iff.mp (wne v (List.mem_of_getElem? hv)), fun d q => q⟩)) fun d p => ?_
      rw [show d = _ from p]
      refine sts_nil ⟨.d (wd v), ?_⟩
      unfold jl
      rw [foldl_take hv]
      rfl
    · obtain ⟨x5, rfl⟩ := hI
      rw [List.length_map, List.take_of_length_le (Nat.le_refl _)]
      refine sts_append 8 (xs := ((List.range k).map (jl ws c)).map PyData.int) (ev_var 10) (by rw [List.length_map, List.length_map, List.length_range]; omega) fun d p => ?_
      rw [show d = _ from p]
      refine sts_nil ⟨x5, .d (.int (k : Nat)), .d (.int (jl ws c k)), ?_⟩
      rw [li, li, List.range_succ, List.map_append, List.map_append]
      rfl
  obtain ⟨x5, x9, x10, rfl⟩ := hI
  have en : (rgD 0 ((spB ws : Int) + (spP ws : Int))).length = spB ws + spP ws := by rw [rgD_length]; omega
  rw [en]
  refine sts_freeze 8 ?_
  -- copies
  refine sts_lc 11 rfl nd (lcok 5 (blkOk_by (N := lawN) (sc := defScope sLaw) (by decide +kernel))) (lc_readm (out := ws.map wd) (it_l (ev_var 4)) (by rw [List.length_map]; omega) rfl fun s0 H0 L cl fp j d z hd hz => ?_) fun d p => ?_
  · rw [hd] at hz
    injection hz with hz
    subst hz
    rw [List.getElem?_map] at hd
    obtain ⟨v, hv, rfl⟩ := Option.map_eq_some_iff.mp hd
    exact ev_tup (ea_cons (en_listL T.ms (ev_ixT (ev_var 5) ev_int rfl)).ev (ea_cons (en_listL T.ms (ev_ixT (ev_var 5) ev_int rfl)).ev ea_nil))
  rw [show d = _ from p]
  generalize hsb : (List.range (spB ws + spP ws)).map (jl ws c) = lt
  refine sts_ifR (EVW.t (ew_or (et_ne hu (ev_call GB (hr.mono (by decide)) T.gb T.FB.kp T.bb (P := is (wd (lt.take (spB ws), lt.drop (spB ws)))) (ea_cons (ev_var 11) (ea_cons (ev_var 2) ea_nil)) fun ds p => ⟨(ws, c), p, ⟨by show 0 ≤ c; omega, by show c ≤ 64; omega, by show ws.length ≤ 10; omega, fun v hv => ⟨List.length_pos_iff.mp (wne v hv), by have := w6 v hv; omega⟩, by show spB ws + spP ws ≤ 100000; omega⟩, fun d q => by rw [← hsb]; exact q⟩)
      (ev_tup (ea_cons (en_slice (ev_var 8) eo_none (eo_some (ev_var 6))).ev (ea_cons (en_slice (ev_var 8) (eo_some (ev_var 6)) eo_none).ev ea_nil))).bo (flat_shaped (flat_wd 0 _)) (flat_shaped (n := 2) ?_)) fun _ => ew_or1 (et_ne hu (ev_var 11) (ev_var 4).bo (flat_shaped (flat_ws 0 ws)) (flat_shaped (flat_ws 0 ws))))) (fun t => ?_) (fun _ => ?_)
  · rw [cutL_to, cutL_from, ← List.map_take, ← List.map_drop]
    exact flat_wd 0 (lt.take (spB ws), lt.drop (spB ws))
  · rw [cutL_to, cutL_from, ← List.map_take, ← List.map_drop] at t
    have e1 : PyData.eqv (wd (lt.take (spB ws), lt.drop (spB ws))) (.tuple [.list ((lt.take (spB ws)).map PyData.int), .list ((lt.drop (spB ws)).map PyData.int)]) = true := (eqv_flat _ _ 2 (flat_wd 0 _) (flat_wd 0 _)).mpr rfl
    have e2 : PyData.eqv (.list (ws.map wd)) (.list (ws.map wd)) = true := (eqv_flat _ _ 3 (flat_ws 0 _) (flat_ws 0 _)).mpr rfl
    rw [e1, e2] at t
    cases t
  -- one, two, other
  have hne : ws ≠ [] := List.length_pos_iff.mp w1
  have h0 : ws[0]? = some ws[0] := List.getElem?_eq_getElem w1
  generalize ho : ws[0] = one at h0
  have om : one ∈ ws := List.mem_of_getElem? h0
  generalize htw : ws.getLast hne = two
  have tm : two ∈ ws := by rw [← htw]; exact List.getLast_mem hne
  refine sts_set 12 nd (ev_ixL (ev_var 4) ev_int (ws_at h0)) fun d p => ?_
  rw [show d = _ from p]
  refine sts_set 13 nd (ev_ixL (ev_var 4) (ev_neg ev_int) (ws_last hne)) fun d p => ?_
  rw [show d = _ from p, htw]
  have ob := b6 one om
  have or6 := w6 one om
  have o1 := wne one om
  have tb := b6 two tm
  have tr6 := w6 two tm
  have t1 := wne two tm
  have wli : ∀ {v : Wd}, wd v = .tuple [.list (v.1.map PyData.int), .list (v.2.map PyData.int)] := rfl
  refine sts_set 14 nd (P := is (wd (other one))) (EV.eq (ev_tup (ea_cons (en_cat (ev_ixT (ev_var 12) ev_int rfl) (en_slice (ev_ixT (ev_var 12) ev_int rfl) eo_none (eo_some ev_int)).ev ?_).ev
    (ea_cons (en_cat (en_cat (en_cat (en_slice (ev_ixT (ev_var 12) ev_int rfl) (eo_some ev_int) eo_none).ev (en_slice (ev_ixT (ev_var 12) ev_int rfl) eo_none (eo_some ev_int)).ev ?_).ev (en_slice (ev_ixT (ev_var 12) ev_int rfl) (eo_some ev_int) eo_none).ev ?_).ev (en_slice (ev_ixT (ev_var 12) ev_int rfl) eo_none (eo_some ev_int)).ev ?_).ev ea_nil))) ?_) fun d p => ?_
  · rw [cut1, List.length_take, List.length_map, List.length_map]; omega
  · rw [cut1, cutd1, List.length_take, List.length_drop, List.length_map]; omega
  · rw [cut1, cutd1, List.length_append, List.length_take, List.length_drop, List.length_map]; omega
  · rw [cut1, cutd1, List.length_append, List.length_append, List.length_take, List.length_drop, List.length_map]; omega
  · rw [cut1, cutd1]
    simp [wd, li, other, List.map_take, List.map_drop]
  rw [show d = _ from p]
  have hot : ∀ m, wAt one m = wAt (other one) m := other_at one (List.length_pos_iff.mp o1)
  have oL1 : (other one).1.length = one.1.length + 1 := by
    simp only [other, List.length_append, List.length_take]; omega
  have oL2 : (other one).2.length = one.2.length + one.2.length := by
    simp only [other, List.length_append, List.length_take, List.length_drop]; omega
  generalize hoo : other one = oth at *
  -- single moments
  refine sts_forL 9 (fun k sl => ∃ x9 x5, sl = [.u, .r (.ref sa), .d (.int c), x3, .d (.list (ws.map wd)), x5, .d (.int (spB ws : Nat)), .d (.int (spP ws : Nat)), .d (li lt), x9, x10, .d (.list (ws.map wd)), .d (wd one), .d (wd two), .d (wd oth), .u]) rfl nd
    (it_l (en_cat (en_listR rfl T.ms T.mr ev_int (RgOk.of_le (by decide) (by decide) (by decide) (by decide))).ev (en_lst (ea_cons ev_int (ea_cons ev_int ea_nil))).ev (by rw [rgD_length]; decide)).ev) ⟨x9, x5, rfl⟩ (fun k d sl' hd hI => ?_) (fun sl' hI => ?_)
  · obtain ⟨x9, x5, rfl⟩ := hI
    obtain ⟨m, rfl⟩ := mem_list hd fun y hy => by
      rcases List.mem_append.mp hy with hy | hy
      · unfold rgD at hy
        obtain ⟨j, _, rfl⟩ := List.mem_map.mp hy
        exact ⟨j, by rw [Int.zero_add]⟩
      · rcases List.mem_cons.mp hy with rfl | hy
        · exact ⟨99, rfl⟩
        · rcases List.mem_cons.mp hy with rfl | hy
          · exact ⟨3541, rfl⟩
          · cases hy
    refine sts_ifR (et_neI (ev_call GA (hr.mono (by decide)) T.ga T.FA.kp T.ba (ea_cons (ev_var 12) (ea_cons (ev_var 9) ea_nil)) fun ds p => ⟨(one, m), p, List.length_pos_iff.mp o1, fun d q => q⟩) (ev_call GT (hr.mono (by decide)) T.gt T.FT.kp T.bt (ea_cons (ev_var 12) (ea_cons (ev_var 9) ea_nil)) fun ds p => ⟨(one, m), p, List.length_pos_iff.mp o1, fun d q => q⟩)) (fun t => ?_) (fun t => ?_)
    · simp [isB] at t
    · exact sts_nil ⟨_, _, rfl⟩
  obtain ⟨x9, x5, rfl⟩ := hI
  -- due
  refine sts_set 15 nd (ev_all (bs := (List.range (spB ws + 36)).map fun m => decide (wAt one m = wAt two m)) rfl T.mal (en_lc rfl nd (lcok 9 (blkOk_by (N := lawN) (sc := defScope sLaw) (by decide +kernel))) (lc_readm (out := ((List.range (spB ws + 36)).map fun m => decide (wAt one m = wAt two m)).map PyData.bool) (it_range1 T.mr (ev_add (ev_var 6) ev_int) (by omega) (by omega)) (by rw [rgD_length]; omega) (by simp [rgD_length]; omega) fun s0 H0 L cl fp k d z hd hz => ?_)).ev.bo) fun d p => ?_
  · have hk : k < spB ws + 36 := by
      have := (List.getElem?_eq_some_iff.mp hz).1
      simpa using this
    rw [rgD_get (by omega)] at hd
    injection hd with hd
    subst hd
    have e : z = .bool (decide (wAt one k = wAt two k)) := by
      simp [List.getElem?_range, hk] at hz
      exact hz.symm
    subst e
    rw [Int.zero_add]
    exact ev_eqI (ev_call GT (hr.mono (by decide)) T.gt T.FT.kp T.bt (ea_cons (ev_var 12) (ea_cons (ev_var 9) ea_nil)) fun ds p => ⟨(one, k), p, List.length_pos_iff.mp o1, fun d q => q⟩) (ev_call GT (hr.mono (by decide)) T.gt T.FT.kp T.bt (ea_cons (ev_var 13) (ea_cons (ev_var 9) ea_nil)) fun ds p => ⟨(two, k), p, List.length_pos_iff.mp t1, fun d q => q⟩)
  rw [show d = _ from p]
  have hdue : ((List.range (spB ws + 36)).map fun m => decide (wAt one m = wAt two m)).all id = decide (∀ m, m < max one.1.length two.1.length + one.2.length + two.2.length → wAt one m = wAt two m) := by
    have g1 := spB_ge om
    have g2 := spB_ge tm
    rw [Bool.eq_iff_iff, List.all_map, List.all_eq_true, decide_eq_true_eq]
    constructor
    · intro h m hm
      have := h m (List.mem_range.mpr (by omega))
      simpa using this
    · intro h m _
      have := same_all (S := max one.1.length two.1.length) o1 t1 (Nat.le_refl _) h m
      simpa using this
  rw [hdue]
  refine sts_ret (ev_and (ev_eq hu (ev_call GE (hr.mono (by decide)) T.ge T.FE.kp T.be (P := is (.bool (decide (∀ m, m < max one.1.length two.1.length + one.2.length + two.2.length → wAt one m = wAt two m)))) (ea_cons (ev_var 12) (ea_cons (ev_var 13) ea_nil)) fun ds p => ⟨(one, two), p, ⟨List.length_pos_iff.mp o1, List.length_pos_iff.mp t1, by show one.1.length + two.1.length + one.2.length + two.2.length ≤ 1000; omega⟩, fun d q => q⟩) (ev_var 15).bo rfl rfl) fun _ =>
    ev_and (ev_isB (u := true) (ev_call GE (hr.mono (by decide)) T.ge T.FE.kp T.be (P := is (.bool true)) (ea_cons (ev_var 12) (ea_cons (ev_var 14) ea_nil)) fun ds p => ⟨(one, oth), p, ⟨List.length_pos_iff.mp o1, List.length_pos_iff.mp (by show 0 < oth.2.length; omega), by show one.1.length + oth.1.length + one.2.length + oth.2.length ≤ 1000; omega⟩, fun d q => ?_⟩) ev_bl) fun _ =>
    ev_one (ev_isB (u := true) (ev_call GE (hr.mono (by decide)) T.ge T.FE.kp T.be (P := is (.bool true)) (ea_cons (ev_var 14) (ea_cons (ev_var 12) ea_nil)) fun ds p => ⟨(oth, one), p, ⟨List.length_pos_iff.mp (by show 0 < oth.2.length; omega), List.length_pos_iff.mp o1, by show oth.1.length + one.1.length + oth.2.length + one.2.length ≤ 1000; omega⟩, fun d q => ?_⟩) ev_bl)) fun d p => ?_
  · have q : d = _ := q
    rw [q]
    show PyData.bool (decide _) = .bool true
    rw [decide_eq_true]
    exact fun m _ => hot m
  · have q : d = _ := q
    rw [q]
    show PyData.bool (decide _) = .bool true
    rw [decide_eq_true]
    exact fun m _ => (hot m).symm
  · rw [show d = _ from p]
    simp [PyData.eqv]
end
end K01
namespace K01
open PySem PySem.Spec PyProof.Rows L2 DL
/-! ### what the top leaves -/
theorem all_mk {l : PySem.W.OpenLaw} {w : World} {K : PySem.W.Frag} {h : Heap} {mg : Str → Option Value} {fa f1 f2 f3 f4 f5 f6 f7 f8 f9 f10 : Addr} (X : K.In h) (G : h.Ns mainGlobals mg) (hfa : mg "law" = some (.ref fa))
    {od1 an1 od2 an2 od3 an3 od4 an4 od5 an5 od6 an6 od7 an7 od8 an8 od9 an9 od10 an10 : Option Addr} {sl1 sl2 sl3 sl4 sl5 sl6 sl7 sl8 sl9 sl10 : Array (Option Value)} {oc1 kV1 dc1 pm1 cd1 ct1 oc2 kV2 dc2 pm2 cd2 ct2 oc3 kV3 dc3 pm3 cd3 ct3 oc4 kV4 dc4 pm4 cd4 ct4 oc5 kV5 dc5 pm5 cd5 ct5 oc6 kV6 dc6 pm6 cd6 ct6 oc7 kV7 dc7 pm7 cd7 ct7 oc8 kV8 dc8 pm8 cd8 ct8 oc9 kV9 dc9 pm9 cd9 ct9 oc10 kV10 dc10 pm10 cd10 ct10 : Value}
    (a1 : PySem.W.nsIn K mainGlobals "letter_at" = some (some (.ref f1))) (l1 : K.lookup f1 = some ⟨oc1, od1, .func (PySem.W.fnOf "letter_at" "letter_at" (defArgs sLetterAt) (defBody sLetterAt) (defScope sLetterAt) .none kV1 dc1 pm1 an1 cd1 ct1), sl1⟩) (c1 : PySem.W.codeIn K cd1 "letter_at" = true) (k1 : PySem.W.keepIn K (.ref f1) = true)
    (a2 : PySem.W.nsIn K mainGlobals "spans" = some (some (.ref f2))) (l2 : K.lookup f2 = some ⟨oc2, od2, .func (PySem.W.fnOf "spans" "spans" (defArgs sSpans) (defBody sSpans) (defScope sSpans) .none kV2 dc2 pm2 an2 cd2 ct2), sl2⟩) (c2 : PySem.W.codeIn K cd2 "spans" = true) (k2 : PySem.W.keepIn K (.ref f2) = true)
    (a3 : PySem.W.nsIn K mainGlobals "side_by_side" = some (some (.ref f3))) (l3 : K.lookup f3 = some ⟨oc3, od3, .func (PySem.W.fnOf "side_by_side" "side_by_side" (defArgs sSbs) (defBody sSbs) (defScope sSbs) .none kV3 dc3 pm3 an3 cd3 ct3), sl3⟩) (c3 : PySem.W.codeIn K cd3 "side_by_side" = true) (k3 : PySem.W.keepIn K (.ref f3) = true)
    (a4 : PySem.W.nsIn K mainGlobals "_joined_letter" = some (some (.ref f4))) (l4 : K.lookup f4 = some ⟨oc4, od4, .func (PySem.W.fnOf "_joined_letter" "_joined_letter" (defArgs sJoined) (defBody sJoined) (defScope sJoined) .none kV4 dc4 pm4 an4 cd4 ct4), sl4⟩) (c4 : PySem.W.codeIn K cd4 "_joined_letter" = true) (k4 : PySem.W.keepIn K (.ref f4) = true)
    (a5 : PySem.W.nsIn K mainGlobals "is_same" = some (some (.ref f5))) (l5 : K.lookup f5 = some ⟨oc5, od5, .func (PySem.W.fnOf "is_same" "is_same" (defArgs sSame) (defBody sSame) (defScope sSame) .none kV5 dc5 pm5 an5 cd5 ct5), sl5⟩) (c5 : PySem.W.codeIn K cd5 "is_same" = true) (k5 : PySem.W.keepIn K (.ref f5) = true)
    (a6 : PySem.W.nsIn K mainGlobals "_law_word" = some (some (.ref f6))) (l6 : K.lookup f6 = some ⟨oc6, od6, .func (PySem.W.fnOf "_law_word" "_law_word" (defArgs sWord) (defBody sWord) (defScope sWord) .none kV6 dc6 pm6 an6 cd6 ct6), sl6⟩) (c6 : PySem.W.codeIn K cd6 "_law_word" = true) (k6 : PySem.W.keepIn K (.ref f6) = true)
    (a7 : PySem.W.nsIn K mainGlobals "_law_row" = some (some (.ref f7))) (l7 : K.lookup f7 = some ⟨oc7, od7, .func (PySem.W.fnOf "_law_row" "_law_row" (defArgs sRow) (defBody sRow) (defScope sRow) .none kV7 dc7 pm7 an7 cd7 ct7), sl7⟩) (c7 : PySem.W.codeIn K cd7 "_law_row" = true) (k7 : PySem.W.keepIn K (.ref f7) = true)
    (a8 : PySem.W.nsIn K mainGlobals "_law_draw" = some (some (.ref f8))) (l8 : K.lookup f8 = some ⟨oc8, od8, .func (PySem.W.fnOf "_law_draw" "_law_draw" (defArgs sDraw) (defBody sDraw) (defScope sDraw) .none kV8 dc8 pm8 an8 cd8 ct8), sl8⟩) (c8 : PySem.W.codeIn K cd8 "_law_draw" = true) (k8 : PySem.W.keepIn K (.ref f8) = true)
    (a9 : PySem.W.nsIn K mainGlobals "_law_at" = some (some (.ref f9))) (l9 : K.lookup f9 = some ⟨oc9, od9, .func (PySem.W.fnOf "_law_at" "_law_at" (defArgs sAt) (defBody sAt) (defScope sAt) .none kV9 dc9 pm9 an9 cd9 ct9), sl9⟩) (c9 : PySem.W.codeIn K cd9 "_law_at" = true) (k9 : PySem.W.keepIn K (.ref f9) = true)
    (a10 : PySem.W.nsIn K mainGlobals "law" = some (some (.ref f10))) (l10 : K.lookup f10 = some ⟨oc10, od10, .func (PySem.W.fnOf "law" "law" (defArgs sLaw) (defBody sLaw) (defScope sLaw) .none kV10 dc10 pm10 an10 cd10 ct10), sl10⟩) (c10 : PySem.W.codeIn K cd10 "law" = true) (k10 : PySem.W.keepIn K (.ref f10) = true)
    (z1 : PySem.W.nsIn K mainGlobals "len" = some none)
    (z2 : PySem.W.nsIn K mainGlobals "max" = some none)
    (z3 : PySem.W.nsIn K mainGlobals "range" = some none)
    (z4 : PySem.W.nsIn K mainGlobals "int" = some none)
    (z5 : PySem.W.nsIn K mainGlobals "list" = some none)
    (z6 : PySem.W.nsIn K mainGlobals "all" = some none)
    (y1 : PySem.W.nsIn K mainGlobals "lcm" = some (some (.builtin "math.lcm")))
    : ∃ fd : FuncData, (∀ (s : Shared) (v : Value), BindsTo s fd ⟨[v], []⟩ [("script", v)]) ∧ ∀ base : Heap, K.In base → base.Ns mainGlobals mg → FnOk l.prog w K mg base CX0 4 fa fd ["script"] (spLaw K) := by
  have e := hfa.symm.trans (PySem.W.mg_of X G a10)
  cases e
  have F1 := fun_mk (st := sLetterAt) l1 c1 k1
  have F2 := fun_mk (st := sSpans) l2 c2 k2
  have F3 := fun_mk (st := sSbs) l3 c3 k3
  have F4 := fun_mk (st := sJoined) l4 c4 k4
  have F5 := fun_mk (st := sSame) l5 c5 k5
  have F6 := fun_mk (st := sWord) l6 c6 k6
  have F7 := fun_mk (st := sRow) l7 c7 k7
  have F8 := fun_mk (st := sDraw) l8 c8 k8
  have F9 := fun_mk (st := sAt) l9 c9 k9
  have F10 := fun_mk (st := sLaw) l10 c10 k10
  have b1 := F1.binds (ps := ["word", "moment"]) fun _ _ _ _ _ _ us hl => match us, hl with | [_, _], _ => rfl
  have b2 := F2.binds (ps := ["words"]) fun _ _ _ _ _ _ us hl => match us, hl with | [_], _ => rfl
  have b3 := F3.binds (ps := ["words", "count"]) fun _ _ _ _ _ _ us hl => match us, hl with | [_, _], _ => rfl
  have b4 := F4.binds (ps := ["words", "count", "moment"]) fun _ _ _ _ _ _ us hl => match us, hl with | [_, _, _], _ => rfl
  have b5 := F5.binds (ps := ["one", "two"]) fun _ _ _ _ _ _ us hl => match us, hl with | [_, _], _ => rfl
  have b6 := F6.binds (ps := ["state", "count", "most"]) fun _ _ _ _ _ _ us hl => match us, hl with | [_, _, _], _ => rfl
  have b7 := F7.binds (ps := ["state", "count", "low", "most"]) fun _ _ _ _ _ _ us hl => match us, hl with | [_, _, _, _], _ => rfl
  have b8 := F8.binds (ps := ["state", "limit"]) fun _ _ _ _ _ _ us hl => match us, hl with | [_, _], _ => rfl
  have b9 := F9.binds (ps := ["word", "moment"]) fun _ _ _ _ _ _ us hl => match us, hl with | [_, _], _ => rfl
  have T : Tx K mg _ _ _ _ _ _ _ _ _ _ _ _ _ _ _ _ _ _ := ⟨F1, F2, F3, F4, F5, F6, F7, F8, F9, b1, b2, b3, b4, b5, b6, b7, b8, b9, PySem.W.mg_of X G a1, PySem.W.mg_of X G a2, PySem.W.mg_of X G a3, PySem.W.mg_of X G a4, PySem.W.mg_of X G a5, PySem.W.mg_of X G a6, PySem.W.mg_of X G a7, PySem.W.mg_of X G a8, PySem.W.mg_of X G a9, PySem.W.mg_of X G y1, PySem.W.mg_none_of X G z1, PySem.W.mg_none_of X G z2, PySem.W.mg_none_of X G z3, PySem.W.mg_none_of X G z4, PySem.W.mg_none_of X G z5, PySem.W.mg_none_of X G z6⟩
  exact ⟨PySem.W.fnOf "law" "law" (defArgs sLaw) (defBody sLaw) (defScope sLaw) .none kV10 dc10 pm10 an10 cd10 ct10, fun s v => .of_eq rfl, fun base _ _ => ok_law F10 T⟩
end K01
open PySem PySem.W PyProof.Rows
set_option maxHeartbeats 0 in
theorem PySem.Challenge.cw_unendtold_k01_words_holds : PySem.Challenge.rw_unendtold_k01_words.Holds := by
  w_on; o_law; k_head; (case hw => w_witness2)
  k_fill
  refine L2.walk_of (l := PySem.Challenge.rw_unendtold_k01_words) (n := 63) (k := 4) (x := "script") (CX := fun _ => L2.CX0) (sp := fun w => DL.spLaw _) rfl (by decide) rfl ⟨rfl, by decide, by decide⟩ (fun w h Y => PySem.W.kIn_of Y) ?F (fun _ _ a ns hl _ hS => ⟨a, ns, rfl, hS, hl, fun _ => rfl⟩) (fun _ _ _ _ _ h => h)
  case F =>
    intro w mg fa h KX G hmg
    refine' K01.all_mk KX G hmg ?a1 ?l1 ?c1 ?k1 ?a2 ?l2 ?c2 ?k2 ?a3 ?l3 ?c3 ?k3 ?a4 ?l4 ?c4 ?k4 ?a5 ?l5 ?c5 ?k5 ?a6 ?l6 ?c6 ?k6 ?a7 ?l7 ?c7 ?k7 ?a8 ?l8 ?c8 ?k8 ?a9 ?l9 ?c9 ?k9 ?a10 ?l10 ?c10 ?k10 ?z1 ?z2 ?z3 ?z4 ?z5 ?z6 ?y1
    (case a1 => k_is); (case l1 => k_is); (case c1 => k_is); (case k1 => k_is); (case a2 => k_is); (case l2 => k_is); (case c2 => k_is); (case k2 => k_is); (case a3 => k_is); (case l3 => k_is); (case c3 => k_is); (case k3 => k_is); (case a4 => k_is); (case l4 => k_is); (case c4 => k_is); (case k4 => k_is); (case a5 => k_is); (case l5 => k_is); (case c5 => k_is); (case k5 => k_is); (case a6 => k_is); (case l6 => k_is); (case c6 => k_is); (case k6 => k_is); (case a7 => k_is); (case l7 => k_is); (case c7 => k_is); (case k7 => k_is); (case a8 => k_is); (case l8 => k_is); (case c8 => k_is); (case k8 => k_is); (case a9 => k_is); (case l9 => k_is); (case c9 => k_is); (case k9 => k_is); (case a10 => k_is); (case l10 => k_is); (case c10 => k_is); (case k10 => k_is); (case z1 => k_is); (case z2 => k_is); (case z3 => k_is); (case z4 => k_is); (case z5 => k_is); (case z6 => k_is); (case y1 => k_is)

