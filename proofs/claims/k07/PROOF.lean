import PyProof.Rows.All
import Wide.All
import OpenK.AllK
import Wide.FinOn
import HandS.ForMost
import HandS.Wide
import HandS.IsInst
import HandS.Flow
import HandS.Codes
import HandS.StrMore
import HandS.Walk
import HandS.Style
import HandS.Exc
import HandS.DictComp
import HandS.TupAny
import HandS.More
import PySem.Challenge.RW_lenstree_k07_schema_helpers
set_option Elab.async false
set_option linter.all false
set_option maxRecDepth 100000
set_option maxHeartbeats 4000000
set_option autoImplicit false
set_option autoImplicit false
namespace Lt
open PySem L2 TL
open C8 (pss_cut)
/-! ## what every law of Lenstree leans on -/
/-- a def that has been walked: how it is called -/
structure Cal (P : Program) (w : World) (K : PySem.W.Frag) (mg : Str → Option Value) (base : Heap) (n : Nat) (x : Str) (ps : List Str) (sp : Sp) (g : Addr) (gd : FuncData) : Prop where
  G : FnOk P w K mg base CX0 n g gd ps sp
  m : mg x = some (.ref g)
  kp : PySem.W.keepIn K (.ref g) = true
  b : Binds K gd ps []
/-- a def as the top has made it -/
structure Kn (K : PySem.W.Frag) (mg : Str → Option Value) (x : Str) (st : Stmt) (ps : List Str) (g : Addr) (gd : FuncData) : Prop where
  F : Fun K x x st g gd
  b : Binds K gd ps []
  m : mg x = some (.ref g)
theorem Kn.cal {P : Program} {w : World} {K : PySem.W.Frag} {mg : Str → Option Value} {base : Heap} {n : Nat} {x : Str} {st : Stmt} {ps : List Str} {sp : Sp} {g : Addr} {gd : FuncData}
    (k : Kn K mg x st ps g gd) (G : FnOk P w K mg base CX0 n g gd ps sp) : Cal P w K mg base n x ps sp g gd := ⟨G, k.m, k.F.kp, k.b⟩

/-! ### heaps that differ at one place -/
def SameX (t : Addr) (H H' : Hp) : Prop := ∀ b o, H b = some o → b ≠ t → H' b = some o
theorem SameX.refl (t : Addr) (H : Hp) : SameX t H H := fun _ _ h _ => h
theorem SameX.trans {t : Addr} {H H1 H2 : Hp} (a : SameX t H H1) (b : SameX t H1 H2) : SameX t H H2 := fun c o h n => b c o (a c o h n) n
theorem SameX.of {t : Addr} {H H1 : Hp} (a : Same H H1) : SameX t H H1 := fun c o h _ => a c o h
theorem SameX.upd {t : Addr} {H : Hp} (o : HO) : SameX t H (upd H t o) := fun b u h n => by rw [upd_ne n]; exact h
theorem same_new {H : Hp} {p : Addr} (h : H p = none) (o : HO) : Same H (upd H p o) := fun b u q => by rw [upd_ne (ne_of_none q h)]; exact q
theorem SameX.free {t : Addr} {H H' : Hp} (e : SameX t H H') {l : Addr} (hl : l ≠ t) (h : H' l = none) : H l = none := by
  cases q : H l with
  | none => rfl
  | some o => rw [e l o q hl] at h; cases h

theorem iteDT {c A B : Prop} [Decidable c] (hc : c) (h : A) : if decide c = true then A else B := by
  rw [decide_eq_true hc]; exact iteT h
theorem iteDF {c A B : Prop} [Decidable c] (hc : ¬ c) (h : B) : if decide c = true then A else B := by
  rw [decide_eq_false hc]; exact iteF h
theorem iteNF {c A B : Prop} [Decidable c] (hc : ¬ c) (h : A) : if (!decide c) = true then A else B := by
  rw [decide_eq_false hc]; exact iteT h
theorem ifD {c A B : Prop} [Decidable c] (h1 : c → A) (h2 : ¬ c → B) : if decide c = true then A else B := by
  by_cases h : c
  · exact iteDT h (h1 h)
  · exact iteDF h (h2 h)
theorem ifN {c A B : Prop} [Decidable c] (h1 : ¬ c → A) (h2 : c → B) : if (!decide c) = true then A else B := by
  by_cases h : c
  · exact iteNS h (h2 h)
  · exact iteNF h (h1 h)
theorem bl_T {c : Prop} [Decidable c] {Q : VK} {H : Hp} (hc : c) (h : Q (.bl true) H) : Q (.bl (decide c)) H := by rw [decide_eq_true hc]; exact h
theorem bl_F {c : Prop} [Decidable c] {Q : VK} {H : Hp} (hc : ¬ c) (h : Q (.bl false) H) : Q (.bl (decide c)) H := by rw [decide_eq_false hc]; exact h
theorem int_at {ns : List Int} {i : Nat} {x : V} (h : (ns.map V.int)[i]? = some x) : ∃ z, x = V.int z ∧ ns[i]? = some z := by
  rw [List.getElem?_map] at h
  cases e : ns[i]? with
  | none => rw [e] at h; cases h
  | some z => rw [e] at h; exact ⟨z, (Option.some.inj h).symm, rfl⟩
theorem same_upd {H H1 : Hp} {p : Addr} (h : H p = none) (o : HO) (e : Same H H1) : Same H (upd H1 p o) := fun b u q => by rw [upd_ne (ne_of_none q h)]; exact e _ _ q
theorem samex_upd {t : Addr} {H H1 : Hp} {p : Addr} (h : H p = none) (o : HO) (e : SameX t H H1) : SameX t H (upd H1 p o) := fun b u q n => by rw [upd_ne (ne_of_none q h)]; exact e _ _ q n
/-- isinstance(x, T) -/
theorem isi {K : PySem.W.Frag} {H : Hp} {Q : VK} {x : V} {a b : String} (r : Bool) (hT : TyX K H x (.type a)) (h : kitB a b = some r) (q : Q (.bl r) H) : rIsi K [x, .ty b] H Q :=
  ⟨_, _, _, _, r, rfl, .ty _, hT, kit_ty h, q⟩
/-- xs[i] of a list or a tuple -/
theorem ixq {K : PySem.W.Frag} {H : Hp} {Q : VK} {a : Addr} {xs : List V} {i : Int} {v : V} (h : SqL K H a xs ∨ SqT K H a xs) (e : atI xs i = some v) (q : Q v H) : rIx K (.ref a) (.int i) H Q := by
  rcases h with h | h
  · exact .inl ⟨a, xs, i, v, rfl, rfl, h, e, q⟩
  · exact .inr (.inl ⟨a, xs, i, v, rfl, rfl, h, e, q⟩)
theorem at_in {α : Type} {xs : List α} {i : Int} (h0 : 0 ≤ i) (h1 : i < xs.length) : ∃ v, atI xs i = some v ∧ v ∈ xs := by
  have hk : i.toNat < xs.length := by omega
  refine ⟨xs[i.toNat], ?_, List.getElem_mem hk⟩
  have e : i = ((i.toNat : Nat) : Int) := by omega
  have q : atI xs ((i.toNat : Nat) : Int) = some xs[i.toNat] := atI_nat (List.getElem?_eq_getElem hk)
  rw [← e] at q
  exact q
/-! ### texts -/
def one (c : Nat) : Str := ⟨#[c]⟩
def chOk (c : Nat) : Prop := 32 ≤ c ∧ c ≤ 126 ∧ c ≠ 37
instance (c : Nat) : Decidable (chOk c) := by unfold chOk; exact inferInstance
theorem tl_one (c : Nat) : tl (one c) = [c] := rfl
theorem join_ones : ∀ chs : List Nat, joinL [] ((chs.map one).map tl) = chs
  | [] => rfl
  | [c] => rfl
  | c :: d :: r => by
    have q := join_ones (d :: r)
    show [c] ++ ([] ++ joinL [] (((d :: r).map one).map tl)) = c :: d :: r
    rw [q]; rfl
theorem strOk_of {x : Str} (h : ∀ c ∈ tl x, chOk c) : PyData.strOk x = true := by
  unfold PyData.strOk
  rw [← Array.all_toList, List.all_eq_true]
  intro c hc
  have := h c hc
  unfold chOk at this
  exact decide_eq_true (by omega)
theorem tl_empty : tl ("" : Str) = [] := by decide +kernel
theorem tl_joined (chs : List Nat) : tl (Txt.join ("" : Str) (chs.map one)) = chs := by
  rw [join_eq, tl_join, tl_empty, join_ones]
theorem len_joined (chs : List Nat) : (Txt.join ("" : Str) (chs.map one)).length = chs.length := by rw [len_tl, tl_joined]
theorem sum_ones (chs : List Nat) : ((chs.map one).map (·.length)).sum = chs.length := by
  induction chs with
  | nil => rfl
  | cons c r ih => rw [List.map_cons, List.map_cons, List.sum_cons, ih, List.length_cons]; show 1 + r.length = r.length + 1; omega
/-! ### the tape that a law draws from -/
theorem s_cells_at : ¬ ("cells" : Str) = ("at" : Str) := by decide +kernel
theorem n_cells_at : ¬ (Sum.inr ("cells" : Str) : Key) = Sum.inr ("at" : Str) := fun e => s_cells_at (Sum.inr.inj e)
theorem s_cells_left : ¬ ("cells" : Str) = ("left" : Str) := by decide +kernel
theorem n_cells_left : ¬ (Sum.inr ("cells" : Str) : Key) = Sum.inr ("left" : Str) := fun e => s_cells_left (Sum.inr.inj e)
theorem s_cells_seed : ¬ ("cells" : Str) = ("seed" : Str) := by decide +kernel
theorem n_cells_seed : ¬ (Sum.inr ("cells" : Str) : Key) = Sum.inr ("seed" : Str) := fun e => s_cells_seed (Sum.inr.inj e)
theorem s_cells_salt : ¬ ("cells" : Str) = ("salt" : Str) := by decide +kernel
theorem n_cells_salt : ¬ (Sum.inr ("cells" : Str) : Key) = Sum.inr ("salt" : Str) := fun e => s_cells_salt (Sum.inr.inj e)
theorem s_at_cells : ¬ ("at" : Str) = ("cells" : Str) := by decide +kernel
theorem s_at_left : ¬ ("at" : Str) = ("left" : Str) := by decide +kernel
theorem n_at_left : ¬ (Sum.inr ("at" : Str) : Key) = Sum.inr ("left" : Str) := fun e => s_at_left (Sum.inr.inj e)
theorem s_at_seed : ¬ ("at" : Str) = ("seed" : Str) := by decide +kernel
theorem n_at_seed : ¬ (Sum.inr ("at" : Str) : Key) = Sum.inr ("seed" : Str) := fun e => s_at_seed (Sum.inr.inj e)
theorem s_at_salt : ¬ ("at" : Str) = ("salt" : Str) := by decide +kernel
theorem n_at_salt : ¬ (Sum.inr ("at" : Str) : Key) = Sum.inr ("salt" : Str) := fun e => s_at_salt (Sum.inr.inj e)
theorem s_left_cells : ¬ ("left" : Str) = ("cells" : Str) := by decide +kernel
theorem s_left_at : ¬ ("left" : Str) = ("at" : Str) := by decide +kernel
theorem s_left_seed : ¬ ("left" : Str) = ("seed" : Str) := by decide +kernel
theorem n_left_seed : ¬ (Sum.inr ("left" : Str) : Key) = Sum.inr ("seed" : Str) := fun e => s_left_seed (Sum.inr.inj e)
theorem s_left_salt : ¬ ("left" : Str) = ("salt" : Str) := by decide +kernel
theorem n_left_salt : ¬ (Sum.inr ("left" : Str) : Key) = Sum.inr ("salt" : Str) := fun e => s_left_salt (Sum.inr.inj e)
theorem s_seed_cells : ¬ ("seed" : Str) = ("cells" : Str) := by decide +kernel
theorem s_seed_at : ¬ ("seed" : Str) = ("at" : Str) := by decide +kernel
theorem s_seed_left : ¬ ("seed" : Str) = ("left" : Str) := by decide +kernel
theorem s_seed_salt : ¬ ("seed" : Str) = ("salt" : Str) := by decide +kernel
theorem n_seed_salt : ¬ (Sum.inr ("seed" : Str) : Key) = Sum.inr ("salt" : Str) := fun e => s_seed_salt (Sum.inr.inj e)
theorem s_salt_cells : ¬ ("salt" : Str) = ("cells" : Str) := by decide +kernel
theorem s_salt_at : ¬ ("salt" : Str) = ("at" : Str) := by decide +kernel
theorem s_salt_left : ¬ ("salt" : Str) = ("left" : Str) := by decide +kernel
theorem s_salt_seed : ¬ ("salt" : Str) = ("seed" : Str) := by decide +kernel
def tk (c : Addr) (a l s m : Int) : List (Key × V) := [(Sum.inr "cells", .ref c), (Sum.inr "at", .int a), (Sum.inr "left", .int l), (Sum.inr "seed", .int s), (Sum.inr "salt", .int m)]
section
variable (c : Addr) (a l s m x : Int)
theorem tk_cells : valV (tk c a l s m) (Sum.inr ("cells" : Str) : Key) = some (.ref c) := valV_pos rfl
theorem tk_at : valV (tk c a l s m) (Sum.inr ("at" : Str) : Key) = some (.int a) := by unfold tk; rw [valV_neg n_cells_at, valV_pos rfl]
theorem tk_left : valV (tk c a l s m) (Sum.inr ("left" : Str) : Key) = some (.int l) := by unfold tk; rw [valV_neg n_cells_left, valV_neg n_at_left, valV_pos rfl]
theorem tk_seed : valV (tk c a l s m) (Sum.inr ("seed" : Str) : Key) = some (.int s) := by unfold tk; rw [valV_neg n_cells_seed, valV_neg n_at_seed, valV_neg n_left_seed, valV_pos rfl]
theorem tk_salt : valV (tk c a l s m) (Sum.inr ("salt" : Str) : Key) = some (.int m) := by unfold tk; rw [valV_neg n_cells_salt, valV_neg n_at_salt, valV_neg n_left_salt, valV_neg n_seed_salt, valV_pos rfl]
theorem put_at : putK (tk c a l s m) (Sum.inr ("at" : Str) : Key) (.int x) = tk c x l s m := by
  simp [putK, tk, s_at_cells, s_cells_at, s_at_left, s_left_at, s_at_seed, s_seed_at, s_at_salt, s_salt_at]
theorem put_left : putK (tk c a l s m) (Sum.inr ("left" : Str) : Key) (.int x) = tk c a x s m := by
  simp [putK, tk, s_left_cells, s_cells_left, s_left_at, s_at_left, s_left_seed, s_seed_left, s_left_salt, s_salt_left]
theorem put_salt : putK (tk c a l s m) (Sum.inr ("salt" : Str) : Key) (.int x) = tk c a l s x := by
  simp [putK, tk, s_salt_cells, s_cells_salt, s_salt_at, s_at_salt, s_salt_left, s_left_salt, s_salt_seed, s_seed_salt]
end
theorem merge_tk (c : Addr) (a l s m : Int) : mergeK [] (tk c a l s m) = tk c a l s m := by
  simp [mergeK, putK, tk, s_cells_at, s_cells_left, s_cells_seed, s_cells_salt, s_at_left, s_at_seed, s_at_salt, s_left_seed, s_left_salt, s_seed_salt]
structure TapeAt (H : Hp) (t c : Addr) (cs : List Int) : Prop where
  dk : ∃ a l s m : Int, H t = some (.dK (tk c a l s m)) ∧ 0 ≤ a ∧ 0 ≤ l
  ls : H c = some (.lst (cs.map V.int))
  nn : ∀ x ∈ cs, (0 : Int) ≤ x
theorem TapeAt.ne {H : Hp} {t c : Addr} {cs : List Int} (T : TapeAt H t c cs) : c ≠ t := by
  obtain ⟨a, l, s, m, h, _⟩ := T.dk
  exact ne_of T.ls h (by intro z; cases z)
theorem TapeAt.mono {H H' : Hp} {t c : Addr} {cs : List Int} (T : TapeAt H t c cs) (e : Same H H') : TapeAt H' t c cs := by
  obtain ⟨a, l, s, m, h, h1, h2⟩ := T.dk
  exact ⟨⟨a, l, s, m, e _ _ h, h1, h2⟩, e _ _ T.ls, T.nn⟩
theorem TapeAt.upd {H : Hp} {t c D : Addr} {cs : List Int} {o : HO} (T : TapeAt H t c cs) (h1 : D ≠ t) (h2 : c ≠ D) : TapeAt (upd H D o) t c cs := by
  obtain ⟨a, l, s, m, h, k1, k2⟩ := T.dk
  exact ⟨⟨a, l, s, m, by rw [upd_ne h1.symm]; exact h, k1, k2⟩, by rw [upd_ne h2]; exact T.ls, T.nn⟩
theorem tk_len {c : Addr} {a l s m : Int} : (tk c a l s m).length < sizeLine := by show 5 < sizeLine; decide
section
variable {H : Hp} {t c : Addr} {a l s m : Int}
theorem d_cells (h : H t = some (.dK (tk c a l s m))) : DGet H t (.str "cells") (some (.ref c)) := by have g := DGet.k (k := (Sum.inr ("cells" : Str) : Key)) h; rw [tk_cells] at g; exact g
theorem d_at (h : H t = some (.dK (tk c a l s m))) : DGet H t (.str "at") (some (.int a)) := by have g := DGet.k (k := (Sum.inr ("at" : Str) : Key)) h; rw [tk_at] at g; exact g
theorem d_left (h : H t = some (.dK (tk c a l s m))) : DGet H t (.str "left") (some (.int l)) := by have g := DGet.k (k := (Sum.inr ("left" : Str) : Key)) h; rw [tk_left] at g; exact g
theorem d_seed (h : H t = some (.dK (tk c a l s m))) : DGet H t (.str "seed") (some (.int s)) := by have g := DGet.k (k := (Sum.inr ("seed" : Str) : Key)) h; rw [tk_seed] at g; exact g
theorem d_salt (h : H t = some (.dK (tk c a l s m))) : DGet H t (.str "salt") (some (.int m)) := by have g := DGet.k (k := (Sum.inr ("salt" : Str) : Key)) h; rw [tk_salt] at g; exact g
theorem p_at (h : H t = some (.dK (tk c a l s m))) (x : Int) : DPut H t (.str "at") (.int x) (upd H t (.dK (tk c x l s m))) := by have g := DPut.k (k := (Sum.inr ("at" : Str) : Key)) (v := .int x) h tk_len; rw [put_at] at g; exact g
theorem p_left (h : H t = some (.dK (tk c a l s m))) (x : Int) : DPut H t (.str "left") (.int x) (upd H t (.dK (tk c a x s m))) := by have g := DPut.k (k := (Sum.inr ("left" : Str) : Key)) (v := .int x) h tk_len; rw [put_left] at g; exact g
theorem p_salt (h : H t = some (.dK (tk c a l s m))) (x : Int) : DPut H t (.str "salt") (.int x) (upd H t (.dK (tk c a l s x))) := by have g := DPut.k (k := (Sum.inr ("salt" : Str) : Key)) (v := .int x) h tk_len; rw [put_salt] at g; exact g
end
/-- _law_tape -/
def spTape (K : PySem.W.Frag) : Sp := fun vs H Q _ => ∃ (a : Addr) (ns : List Int), vs = [.ref a] ∧ SqL K H a (ns.map V.int) ∧ ns.length ≤ 63 ∧
  ∀ t c cs H', TapeAt H' t c cs → Same H H' → H t = none → Q (.ref t) H'
/-- _law_take -/
def spTake : Sp := fun vs H Q _ => ∃ (t c : Addr) (cs : List Int) (many : Int), vs = [.ref t, .int many] ∧ TapeAt H t c cs ∧ 0 < many ∧ many.natAbs < 2 ^ 9000 ∧
  ∀ d H', 0 ≤ d → d < many → TapeAt H' t c cs → SameX t H H' → Q (.int d) H'

/-! ### two pieces of data that are the same -/
def isScal : V → Bool
  | .non => true
  | .bl _ => true
  | .int _ => true
  | .str _ => true
  | _ => false
/-- x and y are the same data, nested less than n deep -/
def SameV (K : PySem.W.Frag) (H : Hp) : Nat → V → V → Prop
  | 0, _, _ => False
  | n + 1, x, y => (x = y ∧ isScal x = true) ∨
      (∃ (a b : Addr) (xs ys : List V), x = .ref a ∧ y = .ref b ∧ H a = some (.lst xs) ∧ H b = some (.lst ys) ∧ xs.length = ys.length ∧ xs.length ≤ 1000 ∧ ∀ (i : Nat) (u v : V), xs[i]? = some u → ys[i]? = some v → SameV K H n u v) ∨
      (∃ (a b : Addr) (xs ys : List V), x = .ref a ∧ y = .ref b ∧ H a = some (.tup xs) ∧ H b = some (.tup ys) ∧ xs.length = ys.length ∧ xs.length ≤ 1000 ∧ ∀ (i : Nat) (u v : V), xs[i]? = some u → ys[i]? = some v → SameV K H n u v)
theorem SameV.sc {K : PySem.W.Frag} {H : Hp} {n : Nat} {x : V} (h : isScal x = true) : SameV K H (n + 1) x x := Or.inl ⟨rfl, h⟩
/-- _law_same, for data that are the same -/
def spSame (K : PySem.W.Frag) (n : Nat) : Sp := fun vs H Q _ => ∃ x y, vs = [x, y] ∧ SameV K H n x y ∧ Q (.bl true) H
def spItems (K : PySem.W.Frag) (n : Nat) : Sp := fun vs H Q _ => ∃ (a b : Addr) (xs ys : List V), vs = [.ref a, .ref b] ∧ ((H a = some (.lst xs) ∧ H b = some (.lst ys)) ∨ (H a = some (.tup xs) ∧ H b = some (.tup ys))) ∧ xs.length = ys.length ∧ xs.length ≤ 1000 ∧
  (∀ (i : Nat) (u v : V), xs[i]? = some u → ys[i]? = some v → SameV K H n u v) ∧ Q (.bl true) H
def spIsInt : Sp := fun vs H Q _ => ∃ x, vs = [x] ∧ isScal x = true ∧ Q (.bl (match x with | .int _ => true | _ => false)) H
theorem ty_scal {K : PySem.W.Frag} {H : Hp} {x : V} (h : isScal x = true) : ∃ t : String, TyX K H x (.type t) ∧ (x = .non ∧ t = "NoneType" ∨ (∃ b, x = .bl b) ∧ t = "bool" ∨ (∃ i, x = .int i) ∧ t = "int" ∨ (∃ z, x = .str z) ∧ t = "str") := by
  cases x with
  | non => exact ⟨_, .base .non, .inl ⟨rfl, rfl⟩⟩
  | bl b => exact ⟨_, .base (.bl b), .inr (.inl ⟨⟨b, rfl⟩, rfl⟩)⟩
  | int i => exact ⟨_, .base (.int i), .inr (.inr (.inl ⟨⟨i, rfl⟩, rfl⟩))⟩
  | str z => exact ⟨_, .base (.str z), .inr (.inr (.inr ⟨⟨z, rfl⟩, rfl⟩))⟩
  | byt _ => cases h
  | flt _ => cases h
  | ref _ => cases h
  | ty _ => cases h
/-- a def that draws: from the tape at t, what it hands back in R -/
def spDraw (R : V → Hp → Addr → Prop) : Sp := fun vs H Q _ => ∃ (t c : Addr) (cs : List Int), vs = [.ref t] ∧ TapeAt H t c cs ∧ ∀ v H', R v H' t → TapeAt H' t c cs → SameX t H H' → Q v H'
def isChar : V → Hp → Addr → Prop := fun v _ _ => ∃ c, chOk c ∧ v = .str (one c)
def isText (n : Nat) : V → Hp → Addr → Prop := fun v _ _ => ∃ z : Str, z.length ≤ n ∧ (∀ c ∈ tl z, chOk c) ∧ v = .str z
def isInt (lo hi : Int) : V → Hp → Addr → Prop := fun v _ _ => ∃ i : Int, lo ≤ i ∧ i ≤ hi ∧ v = .int i
theorem cutS_sub {z : Str} {lo hi : Option Int} : ∀ c ∈ tl (cutS z lo hi), c ∈ tl z := by
  intro c hc
  have e : tl (cutS z lo hi) = (z.cps.toList.drop (HT.sIx z.length 0 lo)).take (HT.sIx z.length z.length hi - HT.sIx z.length 0 lo) := by simp [tl, cutS]
  rw [e] at hc
  exact List.mem_of_mem_drop (List.mem_of_mem_take hc)
theorem len_app (u v : Str) : (u ++ v).length = u.length + v.length := by rw [len_tl, tl_append, List.length_append, ← len_tl, ← len_tl]
/-- anything that is handed to is_value -/
inductive Thing (H : Hp) : V → Prop where
  | non : Thing H .non
  | bl (b : Bool) : Thing H (.bl b)
  | int (i : Int) : Thing H (.int i)
  | str (z : Str) (h : z.length ≤ 1000) : Thing H (.str z)
  | lst {a : Addr} {xs : List V} (h : H a = some (.lst xs)) : Thing H (.ref a)
  | tup {a : Addr} {xs : List V} (h : H a = some (.tup xs)) : Thing H (.ref a)
theorem Thing.mono {H H' : Hp} {v : V} (t : Thing H v) (e : Same H H') : Thing H' v := by
  cases t with
  | non => exact .non
  | bl b => exact .bl b
  | int i => exact .int i
  | str z h => exact .str z h
  | lst h => exact .lst (e _ _ h)
  | tup h => exact .tup (e _ _ h)
/-- is it a value (point 3) -/
def goodV : V → Bool
  | .non => true
  | .int i => decide (-1000000000 < i ∧ i < 1000000000)
  | .str z => decide (z.length ≤ 30 ∧ ∀ c ∈ tl z, chOk c)
  | _ => false
def kindOf : V → Str
  | .non => ""
  | .int _ => "int"
  | .bl _ => "int"
  | _ => "text"
def plainOf (k : Str) (b : Bool) : V := if b = true then .non else if k = ("int" : Str) then .int 0 else .str ""
def spIsValue : Sp := fun vs H Q _ => ∃ v, vs = [v] ∧ Thing H v ∧ ∀ H', Same H H' → Q (.bl (goodV v)) H'
def spIsText : Sp := fun vs H Q _ => ∃ z : Str, vs = [.str z] ∧ z.length ≤ 1000 ∧ ∀ H', Same H H' → Q (.bl (goodV (.str z))) H'
def spIsChar : Sp := fun vs H Q _ => ∃ c : Nat, vs = [.str (one c)] ∧ Q (.bl (decide (chOk c))) H
def spKindOf : Sp := fun vs H Q _ => ∃ v, vs = [v] ∧ isScal v = true ∧ Q (.str (kindOf v)) H
def spPlain : Sp := fun vs H Q _ => ∃ (k : Str) (b : Bool), vs = [.str k, .bl b] ∧ Q (plainOf k b) H
/-- what law(script) promises -/
def spLaw (K : PySem.W.Frag) : Sp := fun vs H Q _ => ∃ (a : Addr) (ns : List Int), vs = [.ref a] ∧ SqL K H a (ns.map V.int) ∧ ns.length ≤ 63 ∧ ∀ H', Q (.bl true) H'
end Lt

set_option autoImplicit false
namespace Lt
open PySem L2 TL
open C8 (pss_cut)
/-! ## data that stand still: tuples of tuples of plain values -/
inductive D where
  | s (v : V)
  | t (ds : List D)
mutual
inductive Tp (H : Hp) : V → D → Prop
  | s {v : V} (h : isScal v = true) : Tp H v (.s v)
  | t {a : Addr} {xs : List V} {ds : List D} (h : H a = some (.tup xs)) (r : TpL H xs ds) : Tp H (.ref a) (.t ds)
inductive TpL (H : Hp) : List V → List D → Prop
  | nil : TpL H [] []
  | cons {v : V} {d : D} {vs : List V} {ds : List D} (h : Tp H v d) (r : TpL H vs ds) : TpL H (v :: vs) (d :: ds)
end
/-- every tuple stands as it stood -/
def KeepT (H H' : Hp) : Prop := ∀ b xs, H b = some (.tup xs) → H' b = some (.tup xs)
theorem KeepT.refl (H : Hp) : KeepT H H := fun _ _ h => h
theorem KeepT.trans {H H1 H2 : Hp} (a : KeepT H H1) (b : KeepT H1 H2) : KeepT H H2 := fun c o h => b c o (a c o h)
theorem KeepT.of {H H1 : Hp} (a : Same H H1) : KeepT H H1 := fun c o h => a c _ h
theorem KeepT.ofX {t c : Addr} {cs : List Int} {H H1 : Hp} (T : TapeAt H t c cs) (a : SameX t H H1) : KeepT H H1 := fun b o h => a b _ h (by
  obtain ⟨_, _, _, _, e, _⟩ := T.dk
  exact ne_of h e (by intro z; cases z))
theorem KeepT.upd {H : Hp} {p : Addr} {o : HO} (h : ∀ xs, H p ≠ some (.tup xs)) : KeepT H (L2.upd H p o) := fun b xs e => by
  have ne : b ≠ p := by
    intro z
    subst z
    exact h xs e
  rw [upd_ne ne]; exact e
theorem KeepT.new {H : Hp} {p : Addr} (h : H p = none) (o : HO) : KeepT H (L2.upd H p o) := KeepT.of (same_new h o)
mutual
theorem Tp.mono {H H' : Hp} (k : KeepT H H') : ∀ {d : D} {v : V}, Tp H v d → Tp H' v d
  | .s _, _, h => by cases h with | s h => exact .s h
  | .t ds, _, h => by cases h with | t h r => exact .t (k _ _ h) (TpL.mono k r)
theorem TpL.mono {H H' : Hp} (k : KeepT H H') : ∀ {ds : List D} {vs : List V}, TpL H vs ds → TpL H' vs ds
  | [], _, h => by cases h; exact .nil
  | d :: ds, _, h => by cases h with | cons h r => exact .cons (Tp.mono k h) (TpL.mono k r)
end
theorem TpL.length {H : Hp} : ∀ {ds : List D} {vs : List V}, TpL H vs ds → vs.length = ds.length
  | [], _, h => by cases h; rfl
  | d :: ds, _, h => by cases h with | cons h r => rw [List.length_cons, List.length_cons, TpL.length r]
theorem TpL.get {H : Hp} : ∀ {ds : List D} {vs : List V} {i : Nat} {v : V}, TpL H vs ds → vs[i]? = some v → ∃ d, ds[i]? = some d ∧ Tp H v d
  | [], _, i, v, h, e => by cases h; simp at e
  | d :: ds, _, 0, v, h, e => by cases h with | cons h r => simp at e; subst e; exact ⟨d, rfl, h⟩
  | d :: ds, _, i + 1, v, h, e => by cases h with | cons h r => exact TpL.get (i := i) r (by simpa using e)
theorem TpL.get' {H : Hp} {ds : List D} {vs : List V} {i : Nat} {d : D} (h : TpL H vs ds) (e : ds[i]? = some d) : ∃ v, vs[i]? = some v ∧ Tp H v d := by
  have hl := h.length
  have hi : i < ds.length := (List.getElem?_eq_some_iff.mp e).1
  have ev : vs[i]? = some vs[i] := List.getElem?_eq_getElem (by omega)
  obtain ⟨d', e1, e2⟩ := h.get ev
  rw [e] at e1
  cases e1
  exact ⟨_, ev, e2⟩
theorem TpL.snoc {H : Hp} : ∀ {ds : List D} {vs : List V} {v : V} {d : D}, TpL H vs ds → Tp H v d → TpL H (vs ++ [v]) (ds ++ [d])
  | [], _, v, d, h, q => by cases h; exact .cons q .nil
  | d0 :: ds, _, v, d, h, q => by cases h with | cons h r => exact .cons h (TpL.snoc r q)
theorem TpL.scal {H : Hp} : ∀ {vs : List V}, (∀ v ∈ vs, isScal v = true) → TpL H vs (vs.map D.s)
  | [], _ => .nil
  | v :: vs, h => .cons (.s (h v List.mem_cons_self)) (TpL.scal fun x hx => h x (List.mem_cons_of_mem _ hx))

/-! ### columns, clauses, conditions -/
structure Col where
  n : Str
  k : Str
  b : Bool
def colD (c : Col) : D := .t [.s (.str c.n), .s (.str c.k), .s (.bl c.b)]
structure Cl where
  n : Str
  op : Str
  v : V
def clD (c : Cl) : D := .t [.s (.str c.n), .s (.str c.op), .s c.v]
abbrev Cond := List (List Cl)
def altD (a : List Cl) : D := .t (a.map clD)
def condD (c : Cond) : D := .t (c.map altD)
theorem col_at {H : Hp} {v : V} {c : Col} (h : Tp H v (colD c)) : ∃ a, v = .ref a ∧ H a = some (.tup [.str c.n, .str c.k, .bl c.b]) := by
  cases h with
  | t h r =>
    cases r with
    | cons h1 r => cases h1; cases r with
      | cons h2 r => cases h2; cases r with
        | cons h3 r => cases h3; cases r; exact ⟨_, rfl, h⟩
theorem col_mk {H : Hp} {a : Addr} {c : Col} (h : H a = some (.tup [.str c.n, .str c.k, .bl c.b])) : Tp H (.ref a) (colD c) :=
  .t h (.cons (.s rfl) (.cons (.s rfl) (.cons (.s rfl) .nil)))
theorem cl_at {H : Hp} {v : V} {c : Cl} (h : Tp H v (clD c)) : ∃ a, v = .ref a ∧ H a = some (.tup [.str c.n, .str c.op, c.v]) ∧ isScal c.v = true := by
  cases h with
  | t h r =>
    cases r with
    | cons h1 r => cases h1; cases r with
      | cons h2 r => cases h2; cases r with
        | cons h3 r => cases h3 with | s hs => cases r; exact ⟨_, rfl, h, hs⟩
theorem cl_mk {H : Hp} {a : Addr} {c : Cl} (h : H a = some (.tup [.str c.n, .str c.op, c.v])) (hs : isScal c.v = true) : Tp H (.ref a) (clD c) :=
  .t h (.cons (.s rfl) (.cons (.s rfl) (.cons (.s hs) .nil)))
theorem t_at {H : Hp} {v : V} {ds : List D} (h : Tp H v (.t ds)) : ∃ a xs, v = .ref a ∧ H a = some (.tup xs) ∧ TpL H xs ds := by
  cases h with
  | t h r => exact ⟨_, _, rfl, h, r⟩
/-! ### what a condition says of a row -/
def ltV : V → V → Bool
  | .int a, .int b => decide (a < b)
  | .str a, .str b => decide (tl a < tl b)
  | _, _ => false
def cmpM (v : V) (op : Str) (w : V) : Bool :=
  if op = ("=" : Str) then decide (v = w) else if op = ("!=" : Str) then !decide (v = w) else if op = ("<" : Str) then ltV v w
  else if op = ("<=" : Str) then !ltV w v else if op = (">" : Str) then ltV w v else !ltV v w
/-- two values that may be compared -/
def Alike (v w : V) : Prop := (∃ a b, v = .int a ∧ w = .int b) ∨ ∃ a b, v = .str a ∧ w = .str b
def at_ (names : List Str) (row : List V) (n : Str) : V := row.getD (names.idxOf n) .non
def clauseM (names : List Str) (row : List V) (c : Cl) : Bool :=
  if c.op = ("null" : Str) then decide (at_ names row c.n = .non) else if c.op = ("given" : Str) then !decide (at_ names row c.n = .non)
  else if at_ names row c.n = .non then false else cmpM (at_ names row c.n) c.op c.v
def altM (names : List Str) (row : List V) (a : List Cl) : Bool := a.all (clauseM names row)
def holdsM (names : List Str) (row : List V) (c : Cond) : Bool := c.any (altM names row)
/-- the clause can be asked of the row -/
def ClFit (names : List Str) (row : List V) (c : Cl) : Prop := c.n ∈ names ∧ (c.op = ("null" : Str) ∨ c.op = ("given" : Str) ∨ at_ names row c.n = .non ∨ Alike (at_ names row c.n) c.v)
theorem idx_str : ∀ {names : List Str} {n : Str}, n ∈ names → ∃ j, j = names.idxOf n ∧ j < names.length ∧ names[j]? = some n ∧ ∀ m x, m < j → names[m]? = some x → x ≠ n
  | [], n, h => by cases h
  | x :: r, n, h => by
    by_cases e : x = n
    · subst e
      exact ⟨0, by simp, by simp, rfl, fun m x hm => absurd hm (Nat.not_lt_zero _)⟩
    · have h' : n ∈ r := by
        rcases List.mem_cons.mp h with h | h
        · exact absurd h.symm e
        · exact h
      obtain ⟨j, e1, e2, e3, e4⟩ := idx_str h'
      refine ⟨j + 1, by rw [List.idxOf_cons, beq_false_of_ne e, ← e1]; rfl, by rw [List.length_cons]; omega, by simpa using e3, fun m y hm hy => ?_⟩
      match m, hm, hy with
      | 0, _, hy => simp at hy; subst hy; exact e
      | m + 1, hm, hy => exact e4 m y (by omega) (by simpa using hy)
theorem at_some {names : List Str} {row : List V} {n : Str} (h : n ∈ names) (hl : row.length = names.length) : row[names.idxOf n]? = some (at_ names row n) := by
  obtain ⟨j, e1, e2, _, _⟩ := idx_str h
  rw [← e1]
  unfold at_
  rw [← e1, List.getD_eq_getElem?_getD, List.getElem?_eq_getElem (by omega)]
  rfl
theorem list_lt (a b : List Nat) : (!decide (b < a)) = (decide (a < b) || decide (a = b)) := by
  have h : ¬ b < a ↔ (a < b ∨ a = b) := by rw [List.not_lt]; exact List.le_iff_lt_or_eq
  by_cases h1 : b < a
  · have h2 : ¬ (a < b ∨ a = b) := fun z => h.mpr z h1
    have h3 : ¬ a < b := fun z => h2 (.inl z)
    have h4 : ¬ a = b := fun z => h2 (.inr z)
    simp [h1, h3, h4]
  · rcases h.mp h1 with h2 | h2
    · simp [h1, h2]
    · simp [h1, h2]
theorem le_V {v w : V} (h : Alike v w) : (!ltV w v) = (ltV v w || decide (v = w)) := by
  rcases h with ⟨a, b, rfl, rfl⟩ | ⟨a, b, rfl, rfl⟩
  · unfold ltV
    by_cases h1 : b < a
    · have h2 : ¬ a < b := by omega
      have h3 : ¬ V.int a = V.int b := fun z => by cases z; omega
      simp [h1, h2]
      intro z; omega
    · by_cases h2 : a < b
      · simp [h1, h2]
      · have e : a = b := by omega
        simp [e]
  · unfold ltV
    rw [list_lt]
    have e : decide (tl a = tl b) = decide (V.str a = V.str b) := by
      by_cases h : a = b
      · subst h; simp
      · have h1 : ¬ tl a = tl b := fun z => h (ext_tl z)
        have h2 : ¬ V.str a = V.str b := fun z => h (V.str.inj z)
        rw [decide_eq_false h1, decide_eq_false h2]
    rw [e]
/-- one of two rules -/
theorem op_either {X : Cx} {f : Value → Value → Sem Value} {r1 r2 : R2} (h1 : OpR X f r1) (h2 : OpR X f r2) : OpR X f (fun x y H Q => r1 x y H Q ∨ r2 x y H Q) := by
  intro pins s σ H x y v u Q I rx ry h
  rcases h with h | h
  · exact h1 pins s σ H x y v u Q I rx ry h
  · exact h2 pins s σ H x y v u Q I rx ry h
/-- names.index(n) -/
theorem ix_names {names : List Str} {n : Str} (hn : n ∈ names) : ∃ z, (names.map V.str).all flatV = true ∧ (names.map V.str)[names.idxOf n]? = some z ∧ eqV z (.str n) = true ∧ ∀ (m : Nat) (z' : V), m < names.idxOf n → (names.map V.str)[m]? = some z' → eqV z' (.str n) = false := by
  obtain ⟨j, e1, e2, e3, e4⟩ := idx_str hn
  rw [← e1]
  refine ⟨.str n, ?_, ?_, ?_, ?_⟩
  · rw [List.all_eq_true]
    intro v hv
    obtain ⟨z, _, rfl⟩ := List.mem_map.mp hv
    rfl
  · rw [List.getElem?_map, e3]; rfl
  · show (n == n) = true; simp
  · intro m z hm hz
    rw [List.getElem?_map] at hz
    cases e : names[m]? with
    | none => rw [e] at hz; cases hz
    | some y =>
      rw [e] at hz
      cases hz
      have := e4 m y hm e
      show (y == n) = false
      simpa using this
/-- what a drawn value of a column is -/
def ValOf (k : Str) (b : Bool) (v : V) : Prop := (b = true ∧ v = .non) ∨ (k = ("int" : Str) ∧ ∃ i : Int, v = .int i ∧ -999999999 ≤ i ∧ i ≤ 999999999) ∨ (k ≠ ("int" : Str) ∧ ∃ z : Str, v = .str z ∧ z.length ≤ 30 ∧ ∀ c ∈ tl z, chOk c)
theorem ValOf.scal {k : Str} {b : Bool} {v : V} (h : ValOf k b v) : isScal v = true := by
  rcases h with ⟨_, rfl⟩ | ⟨_, i, rfl, _⟩ | ⟨_, z, rfl, _⟩ <;> rfl
theorem ValOf.alike {k : Str} {b : Bool} {v w : V} (h : ValOf k b v) (g : ValOf k false w) : v = .non ∨ Alike v w := by
  rcases h with ⟨_, rfl⟩ | ⟨k1, i, rfl, _⟩ | ⟨k1, z, rfl, _⟩
  · exact .inl rfl
  · rcases g with ⟨e, _⟩ | ⟨_, j, rfl, _⟩ | ⟨k2, _⟩
    · cases e
    · exact .inr (.inl ⟨_, _, rfl, rfl⟩)
    · exact absurd k1 k2
  · rcases g with ⟨e, _⟩ | ⟨k2, _⟩ | ⟨_, y, rfl, _⟩
    · cases e
    · exact absurd k2 k1
    · exact .inr (.inr ⟨_, _, rfl, rfl⟩)
end Lt

set_option autoImplicit false
namespace Lt
open PySem L2 TL
open C8 (pss_cut)
/-! ## what the laws draw -/
def SameXY (t u : Addr) (H H' : Hp) : Prop := ∀ b o, H b = some o → b ≠ t → b ≠ u → H' b = some o
theorem SameXY.refl (t u : Addr) (H : Hp) : SameXY t u H H := fun _ _ h _ _ => h
theorem SameXY.trans {t u : Addr} {H H1 H2 : Hp} (a : SameXY t u H H1) (b : SameXY t u H1 H2) : SameXY t u H H2 := fun c o h n m => b c o (a c o h n m) n m
theorem SameXY.ofX {t u : Addr} {H H1 : Hp} (a : SameX t H H1) : SameXY t u H H1 := fun c o h n _ => a c o h n
theorem SameXY.of {t u : Addr} {H H1 : Hp} (a : Same H H1) : SameXY t u H H1 := fun c o h _ _ => a c o h
theorem samexy_upd {t u : Addr} {H H1 : Hp} {p : Addr} (h : H p = none) (o : HO) (e : SameXY t u H H1) : SameXY t u H (upd H1 p o) := fun b v q n m => by rw [upd_ne (ne_of_none q h)]; exact e _ _ q n m
theorem SameXY.updY {t u : Addr} {H H1 : Hp} (o : HO) (e : SameXY t u H H1) : SameXY t u H (upd H1 u o) := fun b v q n m => by rw [upd_ne m]; exact e _ _ q n m
theorem TapeAt.fresh {H : Hp} {t c D : Addr} {cs : List Int} (T : TapeAt H t c cs) (h : H D = none) : D ≠ t ∧ c ≠ D := by
  obtain ⟨_, _, _, _, e, _⟩ := T.dk
  exact ⟨(ne_of_none e h).symm, ne_of_none T.ls h⟩
theorem TapeAt.notL {H : Hp} {t c D : Addr} {cs : List Int} {xs : List V} (T : TapeAt H t c cs) (h : H D = some (.lst xs)) : D ≠ t := by
  obtain ⟨_, _, _, _, e, _⟩ := T.dk
  exact ne_of h e (by intro z; cases z)
theorem KeepT.ofXY {t u c : Addr} {cs : List Int} {H H1 : Hp} {us : List V} (T : TapeAt H t c cs) (hu : H u = some (.lst us)) (a : SameXY t u H H1) : KeepT H H1 := fun b o h => by
  obtain ⟨_, _, _, _, e, _⟩ := T.dk
  exact a b _ h (ne_of h e (by intro z; cases z)) (ne_of h hu (by intro z; cases z))
theorem tl_int (i : Int) : tl (Str.ofString (toString i)) = if i < 0 then 45 :: numL i.natAbs else numL i.natAbs := by
  cases i with
  | ofNat n =>
    rw [if_neg (by show ¬ ((n : Int) < 0); omega)]
    exact tl_num n
  | negSucc n =>
    rw [if_pos (Int.negSucc_lt_zero n)]
    have e : toString (Int.negSucc n) = "-" ++ toString (((n + 1 : Nat) : Int)) := rfl
    rw [e, tl_ofString, String.toList_append, List.map_append, ← tl_ofString, ← tl_ofString, tl_num]
    rfl
theorem num_chars (n : Nat) : ∀ c ∈ numL n, 48 ≤ c ∧ c ≤ 57 := fun c h => numL_digits n c h
theorem int_text {i : Int} (h1 : -999999999 ≤ i) (h2 : i ≤ 999999999) : (Str.ofString (toString i)).length ≤ 10 ∧ ∀ c ∈ tl (Str.ofString (toString i)), c = 45 ∨ (48 ≤ c ∧ c ≤ 57) := by
  have hl : (numL i.natAbs).length ≤ 9 := numL_len (by decide) (by omega)
  constructor
  · rw [len_tl, tl_int]
    split
    · rw [List.length_cons]; omega
    · omega
  · intro c hc
    rw [tl_int] at hc
    split at hc
    · rcases List.mem_cons.mp hc with h | h
      · exact .inl h
      · exact .inr (num_chars _ _ h)
    · exact .inr (num_chars _ _ hc)
theorem log_small {i : Int} (h1 : -999999999 ≤ i) (h2 : i ≤ 999999999) : i.natAbs.log2 < 1920 := by
  have : i.natAbs < 2 ^ 30 := by omega
  exact Nat.lt_of_lt_of_le (PySem.Flt.log2_lt_of (by decide) this) (by decide)
theorem digit_ok {c : Nat} (h : c = 45 ∨ (48 ≤ c ∧ c ≤ 57)) : chOk c := by unfold chOk; omega
/-- _law_value -/
def spVal : Sp := fun vs H Q _ => ∃ (t c : Addr) (cs : List Int) (k : Str) (b : Bool), vs = [.ref t, .str k, .bl b] ∧ TapeAt H t c cs ∧ ∀ v H', ValOf k b v → TapeAt H' t c cs → SameX t H H' → Q v H'
/-! ### names -/
def nmCh (c : Nat) : Prop := (97 ≤ c ∧ c ≤ 122) ∨ (48 ≤ c ∧ c ≤ 57) ∨ c = 95
instance (c : Nat) : Decidable (nmCh c) := by unfold nmCh; exact inferInstance
def nameOk (z : Str) : Prop := z.length ≤ 20 ∧ (∃ c r, tl z = c :: r ∧ 97 ≤ c ∧ c ≤ 122) ∧ ∀ c ∈ tl z, nmCh c
theorem nmCh.ok {c : Nat} (h : nmCh c) : chOk c := by unfold nmCh at h; unfold chOk; omega
/-- each of i names of the list us begins with one of the first i letters, no two alike -/
def Hit (us : List Str) (i : Nat) : Prop := ∃ ws : List Str, ws.length = i ∧ ws.Nodup ∧ ∀ v ∈ ws, v ∈ us ∧ ∃ j r, j < i ∧ tl v = (97 + j) :: r
theorem Hit.step {us : List Str} {i : Nat} (h : Hit us i) {z : Str} {r : List Nat} (e : tl z = (97 + i) :: r) : z ∉ us ∨ Hit us (i + 1) := by
  obtain ⟨ws, h1, h2, h3⟩ := h
  by_cases hz : z ∈ us
  · refine .inr ⟨z :: ws, by rw [List.length_cons, h1], List.nodup_cons.mpr ⟨fun hw => ?_, h2⟩, fun v hv => ?_⟩
    · obtain ⟨_, j, r', hj, e'⟩ := h3 z hw
      rw [e] at e'
      have := (List.cons.inj e').1
      omega
    · rcases List.mem_cons.mp hv with rfl | hv
      · exact ⟨hz, i, r, by omega, e⟩
      · obtain ⟨a, j, r', hj, e'⟩ := h3 v hv
        exact ⟨a, j, r', by omega, e'⟩
  · exact .inl hz
theorem Hit.no {us : List Str} {i : Nat} (h : Hit us i) (hl : us.length < i) : False := by
  obtain ⟨ws, h1, h2, h3⟩ := h
  have := List.Nodup.length_le_of_subset h2 (fun v hv => (h3 v hv).1)
  omega
theorem inV_str (z : Str) (us : List Str) : inV (.str z) (us.map V.str) = decide (z ∈ us) := by
  unfold inV
  rw [Bool.eq_iff_iff, List.any_eq_true, decide_eq_true_iff]
  constructor
  · rintro ⟨v, hv, e⟩
    obtain ⟨y, hy, rfl⟩ := List.mem_map.mp hv
    have : y = z := by simpa [eqV] using e
    rw [← this]; exact hy
  · intro h
    exact ⟨.str z, List.mem_map.mpr ⟨z, h, rfl⟩, by simp [eqV]⟩
theorem flat_strs (us : List Str) : (us.map V.str).all flatV = true := by
  rw [List.all_eq_true]
  intro v hv
  obtain ⟨y, _, rfl⟩ := List.mem_map.mp hv
  rfl
def spName : Sp := fun vs H Q _ => ∃ (t c u : Addr) (cs : List Int) (us : List Str), vs = [.ref t, .ref u] ∧ TapeAt H t c cs ∧ H u = some (.lst (us.map V.str)) ∧ u ≠ c ∧ us.length ≤ 25 ∧
  ∀ z H', nameOk z → z ∉ us → TapeAt H' t c cs → H' u = some (.lst ((us ++ [z]).map V.str)) → SameXY t u H H' → Q (.str z) H'
/-! ### columns -/
def colNs (cols : List Col) : List Str := cols.map (·.n)
structure ColsOk (us : List Str) (cols : List Col) : Prop where
  nd : (colNs cols).Nodup
  fr : ∀ n ∈ colNs cols, n ∉ us ∧ nameOk n
  kd : ∀ c ∈ cols, c.k = ("int" : Str) ∨ c.k = ("text" : Str)
  hd : ∀ c, cols[0]? = some c → c.b = false
def spColumns : Sp := fun vs H Q _ => ∃ (t c u : Addr) (cs : List Int) (us : List Str) (many : Int), vs = [.ref t, .ref u, .int many] ∧ TapeAt H t c cs ∧ H u = some (.lst (us.map V.str)) ∧ u ≠ c ∧ 0 ≤ many ∧ many ≤ 8 ∧ (us.length : Int) + many ≤ 25 ∧
  ∀ L cols xs H', H L = none → H' L = some (.lst xs) → TpL H' xs (cols.map colD) → (cols.length : Int) = many + 1 → ColsOk us cols → TapeAt H' t c cs → H' u = some (.lst ((us ++ colNs cols).map V.str)) → SameXY t u H H' → Q (.ref L) H'
/-- a list of columns stands at L -/
def ColsAt (H : Hp) (L : Addr) (cols : List Col) : Prop := ∃ xs, H L = some (.lst xs) ∧ TpL H xs (cols.map colD)
theorem ColsAt.mono {H H' : Hp} {L : Addr} {cols : List Col} (h : ColsAt H L cols) (k : KeepT H H') (e : ∀ o, H L = some o → H' L = some o) : ColsAt H' L cols := by
  obtain ⟨xs, h1, h2⟩ := h
  exact ⟨xs, e _ h1, h2.mono k⟩
theorem ColsAt.get {H : Hp} {L : Addr} {cols : List Col} (h : ColsAt H L cols) {i : Nat} {col : Col} (e : cols[i]? = some col) : ∃ xs a, H L = some (.lst xs) ∧ xs[i]? = some (.ref a) ∧ H a = some (.tup [.str col.n, .str col.k, .bl col.b]) := by
  obtain ⟨xs, h1, h2⟩ := h
  obtain ⟨v, e1, e2⟩ := h2.get' (i := i) (d := colD col) (by rw [List.getElem?_map, e]; rfl)
  obtain ⟨a, rfl, e3⟩ := col_at e2
  exact ⟨xs, a, h1, e1, e3⟩
def spNames : Sp := fun vs H Q _ => ∃ (L : Addr) (cols : List Col), vs = [.ref L] ∧ ColsAt H L cols ∧ cols.length ≤ 100 ∧ ∀ N H', H N = none → Same H H' → H' N = some (.lst ((colNs cols).map V.str)) → Q (.ref N) H'
/-- the values of a row behind the key -/
def RestOf (cols : List Col) (vs : List V) : Prop := vs.length + 1 = cols.length ∧ ∀ (i : Nat) (col : Col) (v : V), cols[i + 1]? = some col → vs[i]? = some v → ValOf col.k col.b v
def spRest : Sp := fun vs H Q _ => ∃ (t c L : Addr) (cs : List Int) (cols : List Col), vs = [.ref t, .ref L] ∧ TapeAt H t c cs ∧ ColsAt H L cols ∧ 0 < cols.length ∧ cols.length ≤ 100 ∧
  ∀ p ws H', H p = none → H' p = some (.tup ws) → RestOf cols ws → TapeAt H' t c cs → SameX t H H' → Q (.ref p) H'
/-! ### clauses and conditions -/
def ClOk (cols : List Col) (cl : Cl) : Prop := ∃ col ∈ cols, cl.n = col.n ∧ (((cl.op = ("null" : Str) ∨ cl.op = ("given" : Str)) ∧ cl.v = .non) ∨
  ((cl.op ≠ ("null" : Str) ∧ cl.op ≠ ("given" : Str)) ∧ ValOf col.k false cl.v))
theorem ClOk.scal {cols : List Col} {cl : Cl} (h : ClOk cols cl) : isScal cl.v = true := by
  obtain ⟨col, _, _, ⟨_, e⟩ | ⟨_, e⟩⟩ := h
  · rw [e]; rfl
  · exact e.scal
def spClause : Sp := fun vs H Q _ => ∃ (t c L : Addr) (cs : List Int) (cols : List Col), vs = [.ref t, .ref L] ∧ TapeAt H t c cs ∧ ColsAt H L cols ∧ 0 < cols.length ∧ cols.length ≤ 100 ∧
  ∀ v cl H', Tp H' v (clD cl) → ClOk cols cl → TapeAt H' t c cs → SameX t H H' → Q v H'
def spCond : Sp := fun vs H Q _ => ∃ (t c L : Addr) (cs : List Int) (cols : List Col), vs = [.ref t, .ref L] ∧ TapeAt H t c cs ∧ ColsAt H L cols ∧ 0 < cols.length ∧ cols.length ≤ 100 ∧
  ∀ v cond H', Tp H' v (condD cond) → (∀ a ∈ cond, ∀ cl ∈ a, ClOk cols cl) → cond.length ≤ 4 → (∀ a ∈ cond, a.length ≤ 4) → TapeAt H' t c cs → SameX t H H' → Q v H'
theorem at_ofN {α : Type} {xs : List α} {z : Int} {j : Nat} {v : α} (e : z = (j : Int)) (h : xs[j]? = some v) : atI xs z = some v := by rw [e]; exact atI_nat h
theorem getD_some {vs : List V} {i : Nat} {v : V} (h : vs[i]? = some v) : vs.getD i .non = v := by rw [List.getD_eq_getElem?_getD, h]; rfl
theorem fit_of {cols : List Col} {row : List V} (nd : (colNs cols).Nodup) (hl : row.length = cols.length) (hv : ∀ (i : Nat) (col : Col) (v : V), cols[i]? = some col → row[i]? = some v → ValOf col.k col.b v) {cl : Cl} (h : ClOk cols cl) : ClFit (colNs cols) row cl := by
  obtain ⟨col, hc, e, h⟩ := h
  have hn : cl.n ∈ colNs cols := by rw [e]; exact List.mem_map.mpr ⟨col, hc, rfl⟩
  refine ⟨hn, ?_⟩
  rcases h with ⟨h, _⟩ | ⟨_, hw⟩
  · rcases h with h | h
    · exact .inl h
    · exact .inr (.inl h)
  · obtain ⟨j, e1, e2, e3, _⟩ := idx_str hn
    have hj : j < cols.length := by unfold colNs at e2; rwa [List.length_map] at e2
    have ec : cols[j]? = some cols[j] := List.getElem?_eq_getElem hj
    have en : cols[j].n = col.n := by
      unfold colNs at e3
      rw [List.getElem?_map, ec] at e3
      exact (Option.some.inj e3).trans e
    have eq : cols[j] = col := by
      obtain ⟨i, hi, ei⟩ := List.getElem_of_mem hc
      have a1 : (colNs cols)[i]? = some col.n := by unfold colNs; rw [List.getElem?_map, List.getElem?_eq_getElem hi, ei]; rfl
      have a2 : (colNs cols)[j]? = some col.n := by unfold colNs; rw [List.getElem?_map, ec]; exact congrArg some en
      have := nd_ix nd a1 a2
      subst this
      exact ei
    have er : row[j]? = some row[j] := List.getElem?_eq_getElem (by omega)
    have ea : at_ (colNs cols) row cl.n = row[j] := by unfold at_; rw [← e1]; exact getD_some er
    rw [ea]
    have := (hv j col row[j] (by rw [ec, eq]) er).alike hw
    exact .inr (.inr this)
theorem alike_self {v w : V} (h : Alike v w) : Alike v v := by
  rcases h with ⟨a, b, rfl, rfl⟩ | ⟨a, b, rfl, rfl⟩
  · exact .inl ⟨a, a, rfl, rfl⟩
  · exact .inr ⟨a, a, rfl, rfl⟩
theorem cut_tail (xs : List V) : cutV xs (some 1) none = xs.drop 1 := by
  unfold cutV
  have e1 : HT.sIx xs.length 0 (some 1) = min 1 xs.length := HT.sIx_nat _ _ 1
  have e2 : HT.sIx xs.length xs.length none = xs.length := rfl
  rw [e1, e2]
  cases xs with
  | nil => rfl
  | cons x r =>
    have e3 : min 1 (x :: r).length = 1 := by rw [List.length_cons]; omega
    rw [e3, List.take_of_length_le (by rw [List.length_drop]; omega)]
end Lt

set_option autoImplicit false
namespace Lt
open PySem L2 TL
open C8 (pss_cut)
/-! ## numbers as texts -/
theorem takes_no {X : Cx} : Takes X (fun _ _ _ _ => False) := fun u s' h => by
  obtain ⟨_, _, _, _, _, _, _, _, _, _, _, _, _, _, _, _, bad⟩ := h
  exact bad.elim
def dgL (L : List Nat) : List Nat := if L.head? = some 45 then L.tail else L
def numI (L : List Nat) : Int := if L.head? = some 45 then -((NumText.digitsVal (dgL L) : Nat) : Int) else ((NumText.digitsVal (dgL L) : Nat) : Int)
def shape (L : List Nat) : Prop := dgL L ≠ [] ∧ (dgL L).length ≤ 9 ∧ NumText.AllDigits (dgL L)
def canon (L : List Nat) : Prop := shape L ∧ ((dgL L).head? = some 48 → L = [48])
instance (l : List Nat) : Decidable (NumText.AllDigits l) := by unfold NumText.AllDigits; exact inferInstance
instance (L : List Nat) : Decidable (shape L) := by unfold shape; exact inferInstance
instance (L : List Nat) : Decidable (canon L) := by unfold canon; exact inferInstance
theorem val_snoc (l : List Nat) (d : Nat) : NumText.digitsVal (l ++ [d]) = NumText.digitsVal l * 10 + (d - 48) := by
  unfold NumText.digitsVal
  rw [List.foldl_append]
  rfl
theorem fold_pos : ∀ (l : List Nat) (a : Nat), 1 ≤ a → 1 ≤ l.foldl (fun acc c => acc * 10 + (c - 48)) a
  | [], a, h => h
  | c :: r, a, h => fold_pos r (a * 10 + (c - 48)) (by omega)
theorem val_pos {l : List Nat} (h : NumText.AllDigits l) (hn : l ≠ []) (h0 : l.head? ≠ some 48) : 1 ≤ NumText.digitsVal l := by
  cases l with
  | nil => exact absurd rfl hn
  | cons c r =>
    have hc := h.head
    have : c ≠ 48 := fun e => h0 (by rw [e]; rfl)
    unfold NumText.digitsVal
    rw [List.foldl_cons]
    exact fold_pos r (0 * 10 + (c - 48)) (by omega)
theorem num_of : ∀ (n : Nat) (l : List Nat), l.length = n → NumText.AllDigits l → l ≠ [] → l.head? ≠ some 48 → numL (NumText.digitsVal l) = l := by
  intro n
  induction n with
  | zero => intro l hl _ hn; exact absurd (List.eq_nil_of_length_eq_zero hl) hn
  | succ n ih =>
    intro l hl h hn h0
    have e := List.dropLast_concat_getLast hn
    generalize l.getLast hn = d at e
    generalize l.dropLast = l' at e
    subst e
    have hd : 48 ≤ d ∧ d ≤ 57 := h d (by simp)
    rw [val_snoc]
    by_cases e0 : l' = []
    · subst e0
      have hd0 : d ≠ 48 := fun z => h0 (by rw [z]; rfl)
      have ev : NumText.digitsVal [] * 10 + (d - 48) = d - 48 := by show 0 * 10 + (d - 48) = d - 48; omega
      rw [ev, numL_lt (by omega)]
      show [48 + (d - 48)] = [d]
      rw [show 48 + (d - 48) = d by omega]
    · have h' : NumText.AllDigits l' := fun c hc => h c (List.mem_append.mpr (.inl hc))
      have h0' : l'.head? ≠ some 48 := by
        cases l' with
        | nil => exact absurd rfl e0
        | cons a r => exact h0
      have pos := val_pos h' e0 h0'
      have hl' : l'.length = n := by rw [List.length_append] at hl; simpa using hl
      rw [numL_step (by omega)]
      have e1 : (NumText.digitsVal l' * 10 + (d - 48)) / 10 = NumText.digitsVal l' := by omega
      have e2 : 48 + (NumText.digitsVal l' * 10 + (d - 48)) % 10 = d := by omega
      rw [e1, e2, ih l' hl' h' e0 h0']
theorem num_head (n : Nat) (h : 1 ≤ n) : (numL n).head? ≠ some 48 := by
  induction n using Nat.strongRecOn with
  | _ n ih =>
    by_cases h1 : n < 10
    · rw [numL_lt h1]
      intro e
      have := Option.some.inj e
      omega
    · rw [numL_step (by omega)]
      have := ih (n / 10) (by omega) (by omega)
      cases e : numL (n / 10) with
      | nil => exact absurd e (numL_ne _)
      | cons a r => rw [e] at this; exact this
theorem num_zero : numL 0 = [48] := numL_lt (by decide)
/-- the number written down again is the text exactly if the text is canonical -/
theorem canon_iff {L : List Nat} (h : shape L) : tl (Str.ofString (toString (numI L))) = L ↔ canon L := by
  obtain ⟨h1, h2, h3⟩ := id h
  rw [tl_int]
  by_cases hs : L.head? = some 45
  · have eL : L = 45 :: dgL L := by
      unfold dgL
      rw [if_pos hs]
      cases L with
      | nil => cases hs
      | cons a r => cases hs; rfl
    have en : numI L = -((NumText.digitsVal (dgL L) : Nat) : Int) := by unfold numI; rw [if_pos hs]
    rw [en]
    generalize hD : dgL L = D at *
    by_cases h0 : D.head? = some 48
    · have nc : ¬ canon L := fun c => by
        have := c.2 (by rw [hD]; exact h0)
        rw [this] at hs
        cases hs
      refine iff_of_false ?_ nc
      intro e
      by_cases hv : NumText.digitsVal D = 0
      · rw [hv] at e
        rw [if_neg (by decide)] at e
        have e' : numL 0 = L := e
        rw [num_zero] at e'
        rw [← e'] at hs
        cases hs
      · rw [if_pos (by omega), Int.natAbs_neg, Int.natAbs_natCast, eL] at e
        have e1 := (List.cons.inj e).2
        exact num_head _ (by omega) (e1 ▸ h0)
    · refine iff_of_true ?_ ⟨h, fun z => absurd (by rw [hD] at z; exact z) h0⟩
      have := val_pos h3 h1 h0
      rw [if_pos (by omega), Int.natAbs_neg, Int.natAbs_natCast, num_of _ D rfl h3 h1 h0]
      exact eL.symm
  · have eL : dgL L = L := by unfold dgL; rw [if_neg hs]
    have en : numI L = ((NumText.digitsVal L : Nat) : Int) := by unfold numI; rw [if_neg hs, eL]
    rw [en, if_neg (by omega), Int.natAbs_natCast]
    unfold canon
    rw [eL] at h1 h2 h3 ⊢
    by_cases h0 : L.head? = some 48
    · constructor
      · intro e
        refine ⟨h, fun _ => ?_⟩
        by_cases hv : NumText.digitsVal L = 0
        · rw [hv, num_zero] at e; exact e.symm
        · exact absurd (e ▸ h0) (num_head _ (by omega))
      · rintro ⟨_, c⟩
        rw [c h0]
        decide +kernel
    · exact iff_of_true (num_of _ L rfl h3 h1 h0) ⟨h, fun z => absurd z h0⟩
theorem int_of {z : Str} (h : shape (tl z)) : intText? z = some (numI (tl z)) := by
  obtain ⟨h1, h2, h3⟩ := id h
  by_cases hs : (tl z).head? = some 45
  · have eL : tl z = 45 :: dgL (tl z) := by
      unfold dgL
      rw [if_pos hs]
      cases e : tl z with
      | nil => rw [e] at hs; cases hs
      | cons a r => rw [e] at hs; cases hs; rfl
    have l : z.length ≤ 4300 := by rw [len_tl, eL, List.length_cons]; omega
    have e := intText_neg (x := z) eL h3 h1 l
    rw [e]
    unfold numI
    rw [if_pos hs]
  · have eL : dgL (tl z) = tl z := by unfold dgL; rw [if_neg hs]
    rw [eL] at h1 h2 h3
    have e := intText_digits (x := z) h3 h1 (by rw [len_tl]; omega)
    rw [e]
    unfold numI
    rw [if_neg hs, eL]
theorem len_shape {z : Str} (h : shape (tl z)) : z.length ≤ 10 := by
  obtain ⟨_, h2, _⟩ := h
  rw [len_tl]
  unfold dgL at h2
  split at h2
  · rw [List.length_tail] at h2; omega
  · omega
theorem small_num {L : List Nat} (h : shape L) : -999999999 ≤ numI L ∧ numI L ≤ 999999999 := by
  obtain ⟨_, h2, h3⟩ := h
  have b : ∀ (l : List Nat), NumText.AllDigits l → NumText.digitsVal l < 10 ^ l.length := by
    intro l
    have g : ∀ (n : Nat) (l : List Nat), l.length = n → NumText.AllDigits l → NumText.digitsVal l < 10 ^ n := by
      intro n
      induction n with
      | zero => intro l hl _; rw [List.eq_nil_of_length_eq_zero hl]; decide
      | succ n ih =>
        intro l hl h
        have hn : l ≠ [] := by intro z; rw [z] at hl; cases hl
        have e := List.dropLast_concat_getLast hn
        generalize l.getLast hn = d at e
        generalize l.dropLast = l' at e
        subst e
        have hd : 48 ≤ d ∧ d ≤ 57 := h d (by simp)
        have hl' : l'.length = n := by rw [List.length_append] at hl; simpa using hl
        have := ih l' hl' (fun c hc => h c (List.mem_append.mpr (.inl hc)))
        rw [val_snoc, Nat.pow_succ]
        omega
    exact g l.length l rfl
  have h4 := b _ h3
  have h5 : (10 : Nat) ^ (dgL L).length ≤ 10 ^ 9 := Nat.pow_le_pow_right (by decide) h2
  have h6 : NumText.digitsVal (dgL L) ≤ 999999999 := by
    have : (10 : Nat) ^ 9 = 1000000000 := by decide
    omega
  unfold numI
  split <;> omega
theorem dec_ascii : ∀ c : Nat, c < 127 → Unicode.isDecimal c = decide (48 ≤ c ∧ c ≤ 57) := by decide +kernel
theorem isdec {z : Str} (h : ∀ c ∈ tl z, chOk c) : Txt.isdecimal z = decide (tl z ≠ [] ∧ NumText.AllDigits (tl z)) := by
  unfold PySem.Txt.isdecimal
  rw [← Array.all_toList, Bool.eq_iff_iff, Bool.and_eq_true, decide_eq_true_iff, List.all_eq_true, decide_eq_true_iff]
  have e : z.length = (tl z).length := len_tl z
  constructor
  · rintro ⟨a, b⟩
    refine ⟨fun z0 => by rw [z0] at e; simp at e; omega, fun c hc => ?_⟩
    have := b c hc
    rw [dec_ascii c (by have := (h c hc).2.1; omega)] at this
    exact of_decide_eq_true this
  · rintro ⟨a, b⟩
    refine ⟨by have := List.length_pos_iff.mpr a; omega, fun c hc => ?_⟩
    rw [dec_ascii c (by have := (h c hc).2.1; omega)]
    exact decide_eq_true (b c hc)
theorem tl_dash : tl ("-" : Str) = [45] := by decide +kernel
theorem tl_remove (z : Str) : tl (Txt.removeprefix z ("-" : Str)) = dgL (tl z) := by
  have l1 : ("-" : Str).length = 1 := by decide +kernel
  have hsub : Builtin.Str.subAt z ("-" : Str) 0 = decide ((tl z).head? = some 45) := by
    rw [PySem.StrLaws.subAt_eq, l1, List.drop_zero]
    show ((tl z).take 1 == tl ("-" : Str)) = _
    rw [tl_dash]
    cases e : tl z with
    | nil => simp
    | cons a r =>
      by_cases h : a = 45
      · subst h; rfl
      · simp [h]
  unfold PySem.Txt.removeprefix PySem.Txt.affix dgL
  rw [hsub, l1]
  by_cases h : (tl z).head? = some 45
  · rw [if_pos (decide_eq_true h), if_pos h]
    have hp : 0 < z.length := by
      rw [len_tl]
      cases e : tl z with
      | nil => rw [e] at h; cases h
      | cons a r => simp
    have ne : (z.length - 1 == z.length) = false := by simp; omega
    show tl (if (z.length - 1 == z.length) = true then z else Builtin.Str.strSub z 1 z.length) = _
    rw [ne, if_neg Bool.false_ne_true, tl_strSub, List.take_of_length_le (by rw [List.length_drop, len_tl]; omega)]
    exact List.drop_one
  · rw [if_neg (by simpa using h), if_neg h]
theorem tl_cut1 (z : Str) : tl (cutS z none (some 1)) = (tl z).take 1 := by
  have e : tl (cutS z none (some 1)) = ((tl z).drop (HT.sIx z.length 0 none)).take (HT.sIx z.length z.length (some 1) - HT.sIx z.length 0 none) := by simp [tl, cutS]
  have e1 : HT.sIx z.length z.length (some 1) = min 1 z.length := HT.sIx_nat _ _ 1
  rw [e, e1]
  show ((tl z).drop 0).take (min 1 z.length - 0) = _
  rw [List.drop_zero, Nat.sub_zero, len_tl]
  cases tl z with
  | nil => rfl
  | cons a r => rw [show min 1 (a :: r).length = 1 by rw [List.length_cons]; omega]
theorem tl_cut2 (z : Str) : tl (cutS z (some 1) none) = (tl z).drop 1 := by
  have e : tl (cutS z (some 1) none) = ((tl z).drop (HT.sIx z.length 0 (some 1))).take (HT.sIx z.length z.length none - HT.sIx z.length 0 (some 1)) := by simp [tl, cutS]
  have e1 : HT.sIx z.length 0 (some 1) = min 1 z.length := HT.sIx_nat _ _ 1
  rw [e, e1]
  show ((tl z).drop (min 1 z.length)).take (z.length - min 1 z.length) = _
  rw [len_tl]
  cases tl z with
  | nil => rfl
  | cons a r =>
    rw [show min 1 (a :: r).length = 1 by rw [List.length_cons]; omega, List.take_of_length_le (by rw [List.length_drop]; omega)]
theorem first_dash (z : Str) : (cutS z none (some 1) = ("-" : Str)) ↔ (tl z).head? = some 45 := by
  constructor
  · intro e
    have e1 := congrArg tl e
    rw [tl_cut1, tl_dash] at e1
    cases h : tl z with
    | nil => rw [h] at e1; cases e1
    | cons a r => rw [h] at e1; simp at e1; rw [e1]; rfl
  · intro e
    refine ext_tl ?_
    rw [tl_cut1, tl_dash]
    cases h : tl z with
    | nil => rw [h] at e; cases e
    | cons a r => rw [h] at e; cases e; rfl
theorem digit_in : ∀ k : Nat, k < 10 → Txt.index0 ("0123456789" : Str) (one (48 + k)) = some k := by decide +kernel
theorem digits_tl : ∀ c : Nat, c < 127 → (c ∈ ("0123456789" : Str).cps.toList ↔ (48 ≤ c ∧ c ≤ 57)) := by decide +kernel
end Lt

set_option autoImplicit false
namespace Lt
open PySem L2 TL
open C8 (pss_cut)
/-! ## walks within comprehensions; tuples cut and joined; data that are the same -/
theorem inner {J : It} {n : Nat} {G : Hp → Prop} {Y : Nat → Hp → V → Hp → Prop} (wk : Walk J n G Y) {B : V → Hp → (Hp → Prop) → Prop} {Ha : Hp} {Nx : Hp → Prop} (Pv : Nat → Hp → Prop)
    (h0 : Pv 0 Ha) (hG : ∀ i Hb, i ≤ n → Pv i Hb → G Hb) (hs : ∀ i x Hb Hc, i < n → Pv i Hb → Y i Hb x Hc → B x Hc (Pv (i + 1))) (hd : ∀ Hb, Pv n Hb → Nx Hb) :
    ∃ W : Nat → Nat → Hp → Prop, (∃ m, W 0 m Ha) ∧ ∀ j k Hb, W j k Hb → (J.stop j Hb ∧ Nx Hb) ∨ (J.go j Hb ∧ ∃ N : Hp → Prop, (∀ Hc, N Hc → ∃ k', k' < k ∧ W (j + 1) k' Hc) ∧ ∀ x Hc, J.yld j Hb x Hc → B x Hc N) := by
  refine ⟨fun j left Hb => left + j = n ∧ Pv j Hb, ⟨n, Nat.add_zero n, h0⟩, fun j left Hb hw => ?_⟩
  obtain ⟨e, p⟩ := hw
  have g := hG j Hb (by omega) p
  rcases Nat.eq_zero_or_pos left with z | z
  · have ej : j = n := by omega
    subst ej
    exact .inl ⟨wk.stops Hb g, hd Hb p⟩
  · have lt : j < n := by omega
    exact .inr ⟨wk.goes j Hb lt g, Pv (j + 1), fun Hc pc => ⟨left - 1, by omega, by omega, pc⟩, fun x Hc y => hs j x Hb Hc lt p (wk.yields j Hb x Hc lt g y)⟩
def rTup (K : PySem.W.Frag) : List V → Hp → VK → Prop := fun xs H Q => ∃ p ys, xs = [.ref p] ∧ ((SqL K H p ys ∧ ∀ l, H l = none → Q (.ref l) (upd H l (.tup ys))) ∨ (SqT K H p ys ∧ Q (.ref p) H))
theorem ct {X : Cx} : CallR X (.type "tuple") (rTup X.K) := call_tuple_of
theorem cat_any {K : PySem.W.Frag} {H : Hp} {Q : VK} {a b : Addr} {xs ys : List V} (ha : H a = some (.tup xs)) (hb : H b = some (.tup ys)) (hl : xs.length + ys.length ≤ 1000)
    (q : ∀ p H', H' p = some (.tup (xs ++ ys)) → Same H H' → Q (.ref p) H') : rCatA K (.ref a) (.ref b) H Q := by
  refine ⟨a, b, xs, ys, rfl, rfl, SqT.of ha, SqT.of hb, Nat.le_of_lt (small1000 hl), fun e => ?_, fun _ e => ?_, fun _ _ p hp => q p _ upd_same (same_new hp _)⟩
  · subst e; exact q b H hb (Same.refl _)
  · subst e; exact q a H (by rw [List.append_nil]; exact ha) (Same.refl _)
theorem cut_any {K : PySem.W.Frag} {H : Hp} {Q : VK} {a : Addr} {xs : List V} {lo hi : Option Int} (ha : H a = some (.tup xs))
    (q : ∀ p H', H' p = some (.tup (cutV xs lo hi)) → Same H H' → Q (.ref p) H') : rSlA K (.ref a) lo hi H Q := by
  refine ⟨a, xs, rfl, SqT.of ha, fun e => ?_, fun _ p hp => q p _ upd_same (same_new hp _)⟩
  refine q a H ?_ (Same.refl _)
  rw [ha]
  unfold cutV
  rw [e.1, e.2, List.drop_zero, Nat.sub_zero, List.take_length]
theorem cut_front (xs : List V) (j : Nat) (h : j ≤ xs.length) : cutV xs none (some (j : Int)) = xs.take j := by
  unfold cutV
  rw [HT.sIx_nat, HT.sIx_none, List.drop_zero, Nat.sub_zero, Nat.min_eq_left h]
theorem cut_back (xs : List V) (j : Nat) (h : j ≤ xs.length) : cutV xs (some (j : Int)) none = xs.drop j := by
  unfold cutV
  rw [HT.sIx_nat, HT.sIx_none, Nat.min_eq_left h, List.take_of_length_le (by rw [List.length_drop]; omega)]
theorem TpL.take {H : Hp} : ∀ {ds : List D} {vs : List V} (n : Nat), TpL H vs ds → TpL H (vs.take n) (ds.take n)
  | _, _, 0, _ => .nil
  | [], _, n + 1, h => by cases h; exact .nil
  | d :: ds, _, n + 1, h => by cases h with | cons h r => exact .cons h (TpL.take n r)
theorem TpL.drop {H : Hp} : ∀ {ds : List D} {vs : List V} (n : Nat), TpL H vs ds → TpL H (vs.drop n) (ds.drop n)
  | _, _, 0, h => h
  | [], _, n + 1, h => by cases h; exact .nil
  | d :: ds, _, n + 1, h => by cases h with | cons h r => exact TpL.drop n r
theorem TpL.app {H : Hp} : ∀ {ds es : List D} {vs ws : List V}, TpL H vs ds → TpL H ws es → TpL H (vs ++ ws) (ds ++ es)
  | [], _, _, _, h, g => by cases h; exact g
  | d :: ds, _, _, _, h, g => by cases h with | cons h r => exact .cons h (TpL.app r g)
/-- two that bear the same data -/
theorem same_t {K : PySem.W.Frag} {H : Hp} {n : Nat} {v w : V} {ds : List D} (h : Tp H v (.t ds)) (g : Tp H w (.t ds)) (hl : ds.length ≤ 1000) (e : ∀ d ∈ ds, ∀ x y, Tp H x d → Tp H y d → SameV K H n x y) : SameV K H (n + 1) v w := by
  obtain ⟨a, xs, rfl, ha, ra⟩ := t_at h
  obtain ⟨b, ys, rfl, hb, rb⟩ := t_at g
  refine Or.inr (Or.inr ⟨a, b, xs, ys, rfl, rfl, ha, hb, by rw [ra.length, rb.length], by rw [ra.length]; exact hl, fun i u v hu hv => ?_⟩)
  obtain ⟨d, e1, e2⟩ := ra.get hu
  obtain ⟨d', e3, e4⟩ := rb.get hv
  rw [e1] at e3
  cases e3
  exact e d (List.mem_of_getElem? e1) u v e2 e4
theorem same_s {K : PySem.W.Frag} {H : Hp} {n : Nat} {v w x : V} (h : Tp H v (.s x)) (g : Tp H w (.s x)) : SameV K H (n + 1) v w := by
  cases h with
  | s h => cases g with | s g => exact SameV.sc h
theorem same_cl {K : PySem.W.Frag} {H : Hp} {n : Nat} {v w : V} {c : Cl} (h : Tp H v (clD c)) (g : Tp H w (clD c)) : SameV K H (n + 2) v w := by
  refine same_t h g (by show 3 ≤ 1000; decide) fun d hd x y hx hy => ?_
  simp only [List.mem_cons, List.not_mem_nil, or_false] at hd
  rcases hd with rfl | rfl | rfl <;> exact same_s hx hy
theorem same_cond {K : PySem.W.Frag} {H : Hp} {n : Nat} {v w : V} {c : Cond} (h : Tp H v (condD c)) (g : Tp H w (condD c)) (h1 : c.length ≤ 1000) (h2 : ∀ a ∈ c, a.length ≤ 1000) : SameV K H (n + 4) v w := by
  refine same_t h g (by rw [List.length_map]; exact h1) fun d hd x y hx hy => ?_
  obtain ⟨a, ha, rfl⟩ := List.mem_map.mp hd
  refine same_t hx hy (by rw [List.length_map]; exact h2 a ha) fun d hd x y hx hy => ?_
  obtain ⟨cl, _, rfl⟩ := List.mem_map.mp hd
  exact same_cl hx hy
/-! ### what conditions mention; renaming -/
def mentM (n : Str) (c : Cond) : Bool := c.any fun a => a.any fun cl => decide (cl.n = n)
def renCl (o n : Str) (cl : Cl) : Cl := if cl.n = o then ⟨n, cl.op, cl.v⟩ else cl
def renM (o n : Str) (c : Cond) : Cond := c.map fun a => a.map (renCl o n)
/-- any, all of one list after another -/
def flat (c : Cond) : List Cl := c.flatten
theorem any_flat (c : Cond) (f : Cl → Bool) : (c.flatten).any f = c.any fun a => a.any f := by
  induction c with
  | nil => rfl
  | cons a r ih => rw [List.flatten_cons, List.any_append, List.any_cons, ih]
theorem all_flat (c : Cond) (f : Cl → Bool) : (c.flatten).all f = c.all fun a => a.all f := by
  induction c with
  | nil => rfl
  | cons a r ih => rw [List.flatten_cons, List.all_append, List.all_cons, ih]
theorem flat_step {c : Cond} {i j : Nat} {a : List Cl} {x : Cl} (h : c[i]? = some a) (g : a[j]? = some x) : (c.take i).flatten ++ a.take (j + 1) = ((c.take i).flatten ++ a.take j) ++ [x] := by
  rw [List.take_add_one, g, List.append_assoc]; rfl
theorem flat_next {c : Cond} {i : Nat} {a : List Cl} (h : c[i]? = some a) : (c.take (i + 1)).flatten = (c.take i).flatten ++ a := by
  rw [List.take_add_one, h, List.flatten_append]
  simp
theorem map2_snoc {α β γ : Type} (f : α → β) (g : β → γ) (l : List α) (x : α) : ((l ++ [x]).map f).map g = (l.map f).map g ++ [g (f x)] := by simp
/-- a value that a clause may bear -/
def ClG (cl : Cl) : Prop := cl.v = .non ∨ (∃ i : Int, cl.v = .int i ∧ -999999999 ≤ i ∧ i ≤ 999999999) ∨ ∃ z : Str, cl.v = .str z ∧ z.length ≤ 30 ∧ ∀ c ∈ tl z, chOk c
theorem ClG.scal {cl : Cl} (h : ClG cl) : isScal cl.v = true := by
  rcases h with e | ⟨i, e, _⟩ | ⟨z, e, _⟩ <;> rw [e] <;> rfl
theorem ClOk.g {cols : List Col} {cl : Cl} (h : ClOk cols cl) : ClG cl := by
  obtain ⟨col, _, _, ⟨_, e⟩ | ⟨_, e⟩⟩ := h
  · exact .inl e
  · rcases e with ⟨e, _⟩ | ⟨_, i, e, h1, h2⟩ | ⟨_, z, e, h1, h2⟩
    · cases e
    · exact .inr (.inl ⟨i, e, h1, h2⟩)
    · exact .inr (.inr ⟨z, e, h1, h2⟩)
theorem ClG.thing {cl : Cl} {H : Hp} (h : ClG cl) : Thing H cl.v := by
  rcases h with e | ⟨i, e, _⟩ | ⟨z, e, h1, _⟩ <;> rw [e]
  · exact .non
  · exact .int i
  · exact .str z (by omega)
/-- fits_kind -/
def fitsK (v : V) (k : Str) (b : Bool) : Bool := if v = .non then b else goodV v && decide (kindOf v = k)
def spFitsKind : Sp := fun vs H Q _ => ∃ (v : V) (k : Str) (b : Bool), vs = [v, .str k, .bl b] ∧ Thing H v ∧ ∀ H', Same H H' → Q (.bl (fitsK v k b)) H'
/-- the kind of the column called n -/
def kindAt (cols : List Col) (n : Str) : Str := (cols.map (·.k)).getD ((colNs cols).idxOf n) ""
def clFits (cols : List Col) (cl : Cl) : Bool := decide (cl.n ∈ colNs cols) && fitsK cl.v (kindAt cols cl.n) true
def fitsM (cols : List Col) (c : Cond) : Bool := c.all fun a => a.all (clFits cols)
def kindsD (cols : List Col) : List (Key × V) := cols.map fun c => ((Sum.inr c.n : Key), V.str c.k)
theorem kinds_get : ∀ (cols : List Col) (n : Str), valV (kindsD cols) (Sum.inr n : Key) = if n ∈ colNs cols then some (.str (kindAt cols n)) else none
  | [], n => by simp [kindsD, colNs, valV]
  | c :: r, n => by
    have ih := kinds_get r n
    by_cases h : c.n = n
    · have e1 : valV (kindsD (c :: r)) (Sum.inr n : Key) = some (.str c.k) := by
        show valV ((((Sum.inr c.n : Key), V.str c.k)) :: kindsD r) _ = _
        rw [valV_pos (by rw [h])]
      have e2 : n ∈ colNs (c :: r) := by rw [← h]; exact List.mem_cons_self
      have e3 : kindAt (c :: r) n = c.k := by
        unfold kindAt colNs
        rw [List.map_cons, List.map_cons, List.idxOf_cons, h, beq_self_eq_true]
        rfl
      rw [e1, if_pos e2, e3]
    · have e1 : valV (kindsD (c :: r)) (Sum.inr n : Key) = valV (kindsD r) (Sum.inr n) := by
        show valV ((((Sum.inr c.n : Key), V.str c.k)) :: kindsD r) _ = _
        rw [valV_neg (fun z => h (Sum.inr.inj z))]
      have e2 : (n ∈ colNs (c :: r)) ↔ n ∈ colNs r := by
        unfold colNs
        rw [List.map_cons, List.mem_cons]
        exact ⟨fun z => z.resolve_left (fun w => h w.symm), .inr⟩
      have e3 : kindAt (c :: r) n = kindAt r n := by
        unfold kindAt colNs
        rw [List.map_cons, List.map_cons, List.idxOf_cons, beq_false_of_ne h]
        rfl
      rw [e1, ih, e3]
      by_cases g : n ∈ colNs r
      · rw [if_pos g, if_pos (e2.mpr g)]
      · rw [if_neg g, if_neg (fun z => g (e2.mp z))]
theorem kinds_put {cols : List Col} (nd : (colNs cols).Nodup) {i : Nat} {c : Col} (h : cols[i]? = some c) : putK (kindsD (cols.take i)) (Sum.inr c.n : Key) (.str c.k) = kindsD (cols.take (i + 1)) := by
  have hno : valV (kindsD (cols.take i)) (Sum.inr c.n : Key) = none := by
    rw [kinds_get, if_neg]
    intro hm
    unfold colNs at hm
    obtain ⟨d, hd, e⟩ := List.mem_map.mp hm
    obtain ⟨j, hj, ej⟩ := List.getElem_of_mem hd
    rw [List.length_take] at hj
    rw [List.getElem_take] at ej
    have a1 : (colNs cols)[j]? = some c.n := by unfold colNs; rw [List.getElem?_map, List.getElem?_eq_getElem (by omega), ej]; exact congrArg some e
    have a2 : (colNs cols)[i]? = some c.n := by unfold colNs; rw [List.getElem?_map, h]; rfl
    have := nd_ix nd a1 a2
    omega
  rw [putK_new _ hno, List.take_add_one, h]
  unfold kindsD
  rw [List.map_append]
  rfl
end Lt

set_option autoImplicit false
namespace Lt
open PySem L2 TL
open C8 (pss_cut)
/-! ## data of any form: tuples, lists, dicts, nested -/
inductive G where
  | s (v : V)
  | t (gs : List G)
  | l (gs : List G)
  | d (ks : List (Key × G))
mutual
/-- v bears the data g; the lists and dicts of it stand at the addresses D -/
inductive Gp (H : Hp) : V → G → List Addr → Prop
  | s {v : V} (h : isScal v = true) : Gp H v (.s v) []
  | t {a : Addr} {xs : List V} {gs : List G} {D : List Addr} (h : H a = some (.tup xs)) (n : xs.length ≤ 1000) (r : GpL H xs gs D) : Gp H (.ref a) (.t gs) D
  | l {a : Addr} {xs : List V} {gs : List G} {D : List Addr} (h : H a = some (.lst xs)) (n : xs.length ≤ 1000) (r : GpL H xs gs D) : Gp H (.ref a) (.l gs) (a :: D)
  | d {a : Addr} {kvs : List (Key × V)} {kgs : List (Key × G)} {D : List Addr} (h : H a = some (.dK kvs)) (n : kvs.length ≤ 1000) (nd : (kvs.map (·.1)).Nodup) (r : GpK H kvs kgs D) (f : a ∉ D) : Gp H (.ref a) (.d kgs) (a :: D)
inductive GpL (H : Hp) : List V → List G → List Addr → Prop
  | nil : GpL H [] [] []
  | cons {v : V} {g : G} {vs : List V} {gs : List G} {D E : List Addr} (h : Gp H v g D) (r : GpL H vs gs E) : GpL H (v :: vs) (g :: gs) (D ++ E)
inductive GpK (H : Hp) : List (Key × V) → List (Key × G) → List Addr → Prop
  | nil : GpK H [] [] []
  | cons {k : Key} {v : V} {g : G} {vs : List (Key × V)} {gs : List (Key × G)} {D E : List Addr} (h : Gp H v g D) (r : GpK H vs gs E) : GpK H ((k, v) :: vs) ((k, g) :: gs) (D ++ E)
end
mutual
def G.dep : G → Nat
  | .s _ => 0
  | .t gs => depL gs + 1
  | .l gs => depL gs + 1
  | .d ks => depK ks + 1
def depL : List G → Nat
  | [] => 0
  | g :: gs => max g.dep (depL gs)
def depK : List (Key × G) → Nat
  | [] => 0
  | (_, g) :: gs => max g.dep (depK gs)
end
theorem depL_mem : ∀ {gs : List G} {g : G}, g ∈ gs → g.dep ≤ depL gs
  | x :: r, g, h => by
    simp only [depL]
    rcases List.mem_cons.mp h with rfl | h
    · omega
    · have := depL_mem h; omega
theorem depK_mem : ∀ {ks : List (Key × G)} {k : Key} {g : G}, (k, g) ∈ ks → g.dep ≤ depK ks
  | (k', x) :: r, k, g, h => by
    simp only [depK]
    rcases List.mem_cons.mp h with e | h
    · cases e; omega
    · have := depK_mem h; omega
mutual
theorem Gp.frame {H H' : Hp} (kt : KeepT H H') : ∀ {g : G} {v : V} {D : List Addr}, Gp H v g D → (∀ b ∈ D, ∀ o, H b = some o → H' b = some o) → Gp H' v g D
  | .s _, _, _, h, _ => by cases h with | s h => exact .s h
  | .t gs, _, _, h, hd => by cases h with | t h n r => exact .t (kt _ _ h) n (GpL.frame kt r hd)
  | .l gs, _, _, h, hd => by cases h with | l h n r => exact .l (hd _ List.mem_cons_self _ h) n (GpL.frame kt r fun b hb => hd b (List.mem_cons_of_mem _ hb))
  | .d ks, _, _, h, hd => by cases h with | d h n nd r f => exact .d (hd _ List.mem_cons_self _ h) n nd (GpK.frame kt r fun b hb => hd b (List.mem_cons_of_mem _ hb)) f
theorem GpL.frame {H H' : Hp} (kt : KeepT H H') : ∀ {gs : List G} {vs : List V} {D : List Addr}, GpL H vs gs D → (∀ b ∈ D, ∀ o, H b = some o → H' b = some o) → GpL H' vs gs D
  | [], _, _, h, _ => by cases h; exact .nil
  | g :: gs, _, _, h, hd => by cases h with | cons h r => exact .cons (Gp.frame kt h fun b hb => hd b (List.mem_append.mpr (.inl hb))) (GpL.frame kt r fun b hb => hd b (List.mem_append.mpr (.inr hb)))
theorem GpK.frame {H H' : Hp} (kt : KeepT H H') : ∀ {gs : List (Key × G)} {vs : List (Key × V)} {D : List Addr}, GpK H vs gs D → (∀ b ∈ D, ∀ o, H b = some o → H' b = some o) → GpK H' vs gs D
  | [], _, _, h, _ => by cases h; exact .nil
  | (k, g) :: gs, _, _, h, hd => by cases h with | cons h r => exact .cons (Gp.frame kt h fun b hb => hd b (List.mem_append.mpr (.inl hb))) (GpK.frame kt r fun b hb => hd b (List.mem_append.mpr (.inr hb)))
end
theorem Gp.mono {H H' : Hp} {g : G} {v : V} {D : List Addr} (h : Gp H v g D) (e : Same H H') : Gp H' v g D := h.frame (KeepT.of e) fun b _ o z => e b o z
theorem GpL.mono {H H' : Hp} {g : List G} {v : List V} {D : List Addr} (h : GpL H v g D) (e : Same H H') : GpL H' v g D := h.frame (KeepT.of e) fun b _ o z => e b o z
theorem GpK.mono {H H' : Hp} {g : List (Key × G)} {v : List (Key × V)} {D : List Addr} (h : GpK H v g D) (e : Same H H') : GpK H' v g D := h.frame (KeepT.of e) fun b _ o z => e b o z
theorem GpL.length {H : Hp} : ∀ {gs : List G} {vs : List V} {D : List Addr}, GpL H vs gs D → vs.length = gs.length
  | [], _, _, h => by cases h; rfl
  | g :: gs, _, _, h => by cases h with | cons h r => rw [List.length_cons, List.length_cons, GpL.length r]
theorem GpL.get {H : Hp} : ∀ {gs : List G} {vs : List V} {D : List Addr} {i : Nat} {v : V}, GpL H vs gs D → vs[i]? = some v → ∃ g E, gs[i]? = some g ∧ Gp H v g E ∧ ∀ a ∈ E, a ∈ D
  | [], _, _, i, v, h, e => by cases h; simp at e
  | g :: gs, _, _, 0, v, h, e => by cases h with | cons h r => simp at e; subst e; exact ⟨g, _, rfl, h, fun a ha => List.mem_append.mpr (.inl ha)⟩
  | g :: gs, _, _, i + 1, v, h, e => by
    cases h with
    | cons h r =>
      obtain ⟨g', E, e1, e2, e3⟩ := GpL.get (i := i) r (by simpa using e)
      exact ⟨g', E, e1, e2, fun a ha => List.mem_append.mpr (.inr (e3 a ha))⟩
theorem GpK.get {H : Hp} : ∀ {gs : List (Key × G)} {vs : List (Key × V)} {D : List Addr} {i : Nat} {k : Key} {v : V}, GpK H vs gs D → vs[i]? = some (k, v) → ∃ g E, gs[i]? = some (k, g) ∧ Gp H v g E ∧ ∀ a ∈ E, a ∈ D
  | [], _, _, i, k, v, h, e => by cases h; simp at e
  | (k', g) :: gs, _, _, 0, k, v, h, e => by cases h with | cons h r => simp at e; obtain ⟨rfl, rfl⟩ := e; exact ⟨g, _, rfl, h, fun a ha => List.mem_append.mpr (.inl ha)⟩
  | (k', g) :: gs, _, _, i + 1, k, v, h, e => by
    cases h with
    | cons h r =>
      obtain ⟨g', E, e1, e2, e3⟩ := GpK.get (i := i) r (by simpa using e)
      exact ⟨g', E, e1, e2, fun a ha => List.mem_append.mpr (.inr (e3 a ha))⟩
theorem GpK.keys {H : Hp} : ∀ {gs : List (Key × G)} {vs : List (Key × V)} {D : List Addr}, GpK H vs gs D → vs.map (·.1) = gs.map (·.1)
  | [], _, _, h => by cases h; rfl
  | g :: gs, _, _, h => by cases h with | cons h r => rw [List.map_cons, List.map_cons, GpK.keys r]
theorem GpL.snoc {H : Hp} : ∀ {gs : List G} {vs : List V} {D E : List Addr} {v : V} {g : G}, GpL H vs gs D → Gp H v g E → GpL H (vs ++ [v]) (gs ++ [g]) (D ++ E)
  | [], _, _, E, v, g, h, q => by
    cases h
    have := GpL.cons q GpL.nil
    rw [List.append_nil] at this
    exact this
  | g0 :: gs, _, _, E, v, g, h, q => by
    cases h with
    | cons h r =>
      rw [List.append_assoc]
      exact .cons h (GpL.snoc r q)
theorem GpK.snoc {H : Hp} : ∀ {gs : List (Key × G)} {vs : List (Key × V)} {D E : List Addr} {k : Key} {v : V} {g : G}, GpK H vs gs D → Gp H v g E → GpK H (vs ++ [(k, v)]) (gs ++ [(k, g)]) (D ++ E)
  | [], _, _, E, k, v, g, h, q => by
    cases h
    have := GpK.cons (k := k) q GpK.nil
    rw [List.append_nil] at this
    exact this
  | g0 :: gs, _, _, E, k, v, g, h, q => by
    cases h with
    | cons h r =>
      rw [List.append_assoc]
      exact .cons h (GpK.snoc r q)
theorem valV_at : ∀ {kvs : List (Key × V)} {i : Nat} {k : Key} {v : V}, (kvs.map (·.1)).Nodup → kvs[i]? = some (k, v) → valV kvs k = some v
  | [], i, k, v, _, h => by simp at h
  | (k0, v0) :: r, 0, k, v, _, h => by simp at h; obtain ⟨rfl, rfl⟩ := h; exact valV_pos rfl
  | (k0, v0) :: r, i + 1, k, v, nd, h => by
    have h' : r[i]? = some (k, v) := by simpa using h
    rw [List.map_cons, List.nodup_cons] at nd
    have ne : ¬ k0 = k := fun e => nd.1 (by rw [e]; exact List.mem_map.mpr ⟨(k, v), List.mem_of_getElem? h', rfl⟩)
    rw [valV_neg ne]
    exact valV_at nd.2 h'
theorem upd_self {H : Hp} {a : Addr} {o : HO} (h : H a = some o) : upd H a o = H := by
  funext b
  by_cases e : b = a
  · subst e; rw [upd_same, h]
  · rw [upd_ne e]
theorem KeepT.lock {H : Hp} {a : Addr} {kvs : List (Key × V)} {o : HO} (h : H a = some (.dK kvs)) : KeepT H (L2.upd H a o) := KeepT.upd fun xs z => by rw [h] at z; cases z
/-- behind a lock -/
theorem Gp.locked {H : Hp} {g : G} {v : V} {D : List Addr} {b : Addr} {kvs : List (Key × V)} {o : HO} (h : Gp H v g D) (hb : H b = some (.dK kvs)) (n : b ∉ D) : Gp (upd H b o) v g D :=
  h.frame (KeepT.lock hb) fun c hc u z => by
    have ne : c ≠ b := fun e => by subst e; exact n hc
    rw [upd_ne ne]; exact z
theorem ty_ref {K : PySem.W.Frag} {H : Hp} {a : Addr} {o : HO} (h : H a = some o) : (∀ xs, o = .lst xs → TyX K H (.ref a) (.type "list")) ∧ (∀ xs, o = .tup xs → TyX K H (.ref a) (.type "tuple")) ∧ (∀ xs, o = .dK xs → TyX K H (.ref a) (.type "dict")) :=
  ⟨fun xs e => .base (.lst (by rw [h, e])), fun xs e => .base (.tup (by rw [h, e])), fun xs e => .base (.dK (by rw [h, e]))⟩
def spSameG (n : Nat) : Sp := fun vs H Q _ => ∃ x y g D E, vs = [x, y] ∧ Gp H x g D ∧ Gp H y g E ∧ (∀ a ∈ D, a ∉ E) ∧ g.dep < n ∧ Q (.bl true) H
def spItemsG (n : Nat) : Sp := fun vs H Q _ => ∃ (a b : Addr) (xs ys : List V) (gs : List G) (D E : List Addr), vs = [.ref a, .ref b] ∧ ((H a = some (.lst xs) ∧ H b = some (.lst ys)) ∨ (H a = some (.tup xs) ∧ H b = some (.tup ys))) ∧ xs.length ≤ 1000 ∧
  GpL H xs gs D ∧ GpL H ys gs E ∧ (∀ a ∈ D, a ∉ E) ∧ (∀ g ∈ gs, g.dep < n) ∧ Q (.bl true) H
def spCopyG (n : Nat) : Sp := fun vs H Q _ => ∃ x g D, vs = [x] ∧ Gp H x g D ∧ g.dep < n ∧ ∀ x' D' H', Gp H' x' g D' → Same H H' → (∀ a ∈ D', H a = none) → Q x' H'
end Lt

set_option autoImplicit false
namespace Lt
open PySem L2 TL
open C8 (pss_cut)
/-! ## schemas as they stand in the heap -/
structure Tab where
  n : Str
  cols : List Col
  ch : List Cond
  un : List Str
  rf : List (Str × Str)
structure Ads where
  d : Addr
  c : Addr
  k : Addr
  u : Addr
  r : Addr
def rfD (p : Str × Str) : D := .t [.s (.str p.1), .s (.str p.2)]
theorem rf_at {H : Hp} {v : V} {p : Str × Str} (h : Tp H v (rfD p)) : ∃ a, v = .ref a ∧ H a = some (.tup [.str p.1, .str p.2]) := by
  obtain ⟨a, xs, rfl, h1, h2⟩ := t_at h
  cases h2 with
  | cons g r => cases g; cases r with
    | cons g r => cases g; cases r; exact ⟨a, rfl, h1⟩
theorem rf_mk {H : Hp} {a : Addr} {p : Str × Str} (h : H a = some (.tup [.str p.1, .str p.2])) : Tp H (.ref a) (rfD p) := .t h (.cons (.s rfl) (.cons (.s rfl) .nil))
theorem e_co_ch : ¬ ("columns" : Str) = ("checks" : Str) := by decide +kernel
theorem e_co_un : ¬ ("columns" : Str) = ("uniques" : Str) := by decide +kernel
theorem e_co_rf : ¬ ("columns" : Str) = ("references" : Str) := by decide +kernel
theorem e_ch_un : ¬ ("checks" : Str) = ("uniques" : Str) := by decide +kernel
theorem e_ch_rf : ¬ ("checks" : Str) = ("references" : Str) := by decide +kernel
theorem e_un_rf : ¬ ("uniques" : Str) = ("references" : Str) := by decide +kernel
def descD (a : Ads) : List (Key × V) := [(Sum.inr ("columns" : Str), .ref a.c), (Sum.inr ("checks" : Str), .ref a.k), (Sum.inr ("uniques" : Str), .ref a.u), (Sum.inr ("references" : Str), .ref a.r)]
theorem dd_c (a : Ads) : valV (descD a) (Sum.inr ("columns" : Str) : Key) = some (.ref a.c) := valV_pos rfl
theorem dd_k (a : Ads) : valV (descD a) (Sum.inr ("checks" : Str) : Key) = some (.ref a.k) := by unfold descD; rw [valV_neg (fun z => e_co_ch (Sum.inr.inj z)), valV_pos rfl]
theorem dd_u (a : Ads) : valV (descD a) (Sum.inr ("uniques" : Str) : Key) = some (.ref a.u) := by unfold descD; rw [valV_neg (fun z => e_co_un (Sum.inr.inj z)), valV_neg (fun z => e_ch_un (Sum.inr.inj z)), valV_pos rfl]
theorem dd_r (a : Ads) : valV (descD a) (Sum.inr ("references" : Str) : Key) = some (.ref a.r) := by unfold descD; rw [valV_neg (fun z => e_co_rf (Sum.inr.inj z)), valV_neg (fun z => e_ch_rf (Sum.inr.inj z)), valV_neg (fun z => e_un_rf (Sum.inr.inj z)), valV_pos rfl]
theorem merge_desc (a : Ads) : mergeK [] (descD a) = descD a := by
  simp [mergeK, putK, descD, e_co_ch, e_co_un, e_co_rf, e_ch_un, e_ch_rf, e_un_rf]
structure DescAt (H : Hp) (a : Ads) (t : Tab) : Prop where
  dk : H a.d = some (.dK (descD a))
  co : ColsAt H a.c t.cols
  ch : ∃ xs, H a.k = some (.lst xs) ∧ TpL H xs (t.ch.map condD)
  un : H a.u = some (.lst (t.un.map V.str))
  rf : ∃ xs, H a.r = some (.lst xs) ∧ TpL H xs (t.rf.map rfD)
def adL (a : Ads) : List Addr := [a.c, a.k, a.u, a.r]
theorem DescAt.frame {H H' : Hp} {a : Ads} {t : Tab} (h : DescAt H a t) (kt : KeepT H H') (kd : ∀ o, H a.d = some o → H' a.d = some o) (kl : ∀ b ∈ adL a, ∀ o, H b = some o → H' b = some o) : DescAt H' a t := by
  obtain ⟨h1, h2, ⟨xs, h3, h3'⟩, h4, ⟨ys, h5, h5'⟩⟩ := h
  refine ⟨kd _ h1, h2.mono kt (kl a.c (by simp [adL])), ⟨xs, kl a.k (by simp [adL]) _ h3, h3'.mono kt⟩, kl a.u (by simp [adL]) _ h4, ⟨ys, kl a.r (by simp [adL]) _ h5, h5'.mono kt⟩⟩
theorem DescAt.isL {H : Hp} {a : Ads} {t : Tab} (h : DescAt H a t) : ∀ b ∈ adL a, ∃ xs, H b = some (.lst xs) := by
  obtain ⟨h1, ⟨xs, h2, _⟩, ⟨ys, h3, _⟩, h4, ⟨zs, h5, _⟩⟩ := h
  intro b hb
  simp only [adL, List.mem_cons, List.not_mem_nil, or_false] at hb
  rcases hb with rfl | rfl | rfl | rfl
  · exact ⟨_, h2⟩
  · exact ⟨_, h3⟩
  · exact ⟨_, h4⟩
  · exact ⟨_, h5⟩
abbrev Sch := List (Ads × Tab)
def schK (s : Sch) : List (Key × V) := s.map fun p => ((Sum.inr p.2.n : Key), V.ref p.1.d)
def schN (s : Sch) : List Str := s.map fun p => p.2.n
def schL (s : Sch) : List Addr := s.flatMap fun p => adL p.1
structure SchAt (H : Hp) (S : Addr) (s : Sch) (t c : Addr) : Prop where
  sk : H S = some (.dK (schK s))
  ds : ∀ p ∈ s, DescAt H p.1 p.2
  nm : (schN s).Nodup
  dn : (t :: S :: s.map fun p => p.1.d).Nodup
  ln : (c :: schL s).Nodup
theorem sch_keys (s : Sch) : (schK s).map (·.1) = (schN s).map Sum.inr := by unfold schK schN; rw [List.map_map, List.map_map]; rfl
theorem sch_nd {s : Sch} (h : (schN s).Nodup) : ((schK s).map (·.1)).Nodup := by
  rw [sch_keys]
  exact List.Pairwise.map _ (fun a b e z => e (Sum.inr.inj z)) h
theorem sch_get {s : Sch} (h : (schN s).Nodup) {p : Ads × Tab} (hp : p ∈ s) : valV (schK s) (Sum.inr p.2.n : Key) = some (.ref p.1.d) := by
  obtain ⟨i, hi, e⟩ := List.getElem_of_mem hp
  refine valV_at (i := i) (sch_nd h) ?_
  unfold schK
  rw [List.getElem?_map, List.getElem?_eq_getElem hi, e]
  rfl
theorem sch_in {s : Sch} {n : Str} (h : n ∈ schN s) : ∃ p ∈ s, p.2.n = n := by
  obtain ⟨p, h1, h2⟩ := List.mem_map.mp h
  exact ⟨p, h1, h2⟩
theorem sch_one {s : Sch} (h : (schN s).Nodup) {p q : Ads × Tab} (hp : p ∈ s) (hq : q ∈ s) (e : p.2.n = q.2.n) : p = q := by
  obtain ⟨i, hi, ei⟩ := List.getElem_of_mem hp
  obtain ⟨j, hj, ej⟩ := List.getElem_of_mem hq
  have a1 : (schN s)[i]? = some p.2.n := by unfold schN; rw [List.getElem?_map, List.getElem?_eq_getElem hi, ei]; rfl
  have a2 : (schN s)[j]? = some p.2.n := by unfold schN; rw [List.getElem?_map, List.getElem?_eq_getElem hj, ej]; exact congrArg some e.symm
  have := nd_ix h a1 a2
  subst this
  rw [← ei, ← ej]
theorem SchAt.desc {H : Hp} {S : Addr} {s : Sch} {t c : Addr} (h : SchAt H S s t c) {p : Ads × Tab} (hp : p ∈ s) : DGet H S (.str p.2.n) (some (.ref p.1.d)) := by
  have g := DGet.k (k := (Sum.inr p.2.n : Key)) h.sk
  rw [sch_get h.nm hp] at g
  exact g
theorem DescAt.gc {H : Hp} {a : Ads} {t : Tab} (h : DescAt H a t) : DGet H a.d (.str "columns") (some (.ref a.c)) := by have g := DGet.k (k := (Sum.inr ("columns" : Str) : Key)) h.dk; rw [dd_c] at g; exact g
theorem DescAt.gk {H : Hp} {a : Ads} {t : Tab} (h : DescAt H a t) : DGet H a.d (.str "checks") (some (.ref a.k)) := by have g := DGet.k (k := (Sum.inr ("checks" : Str) : Key)) h.dk; rw [dd_k] at g; exact g
theorem DescAt.gu {H : Hp} {a : Ads} {t : Tab} (h : DescAt H a t) : DGet H a.d (.str "uniques") (some (.ref a.u)) := by have g := DGet.k (k := (Sum.inr ("uniques" : Str) : Key)) h.dk; rw [dd_u] at g; exact g
theorem DescAt.gr {H : Hp} {a : Ads} {t : Tab} (h : DescAt H a t) : DGet H a.d (.str "references") (some (.ref a.r)) := by have g := DGet.k (k := (Sum.inr ("references" : Str) : Key)) h.dk; rw [dd_r] at g; exact g
/-- the same but for the things at ex -/
def SameE (ex : List Addr) (H H' : Hp) : Prop := ∀ b o, H b = some o → b ∉ ex → H' b = some o
theorem SameE.refl (ex : List Addr) (H : Hp) : SameE ex H H := fun _ _ h _ => h
theorem SameE.trans {ex : List Addr} {H H1 H2 : Hp} (a : SameE ex H H1) (b : SameE ex H1 H2) : SameE ex H H2 := fun c o h n => b c o (a c o h n) n
theorem SameE.ofX {ex : List Addr} {t : Addr} {H H1 : Hp} (a : SameX t H H1) (h : t ∈ ex) : SameE ex H H1 := fun c o e n => a c o e (fun z => n (z ▸ h))
theorem SameE.of {ex : List Addr} {H H1 : Hp} (a : Same H H1) : SameE ex H H1 := fun c o e _ => a c o e
theorem SameE.upd {ex : List Addr} {H H1 : Hp} {p : Addr} (h : p ∈ ex) (o : HO) (a : SameE ex H H1) : SameE ex H (L2.upd H1 p o) := fun b u q n => by
  have ne : b ≠ p := fun z => n (z ▸ h)
  rw [upd_ne ne]; exact a b u q n
/-- what a schema's table may hold -/
structure TabOk (fr : List (Str × List Col)) (t : Tab) : Prop where
  nm : nameOk t.n
  co : ColsOk [] t.cols
  l0 : 1 ≤ t.cols.length
  l5 : t.cols.length ≤ 5
  c4 : t.ch.length ≤ 2
  cc : ∀ c ∈ t.ch, c.length ≤ 4 ∧ ∀ a ∈ c, a.length ≤ 4 ∧ ∀ cl ∈ a, ClOk t.cols cl
  u4 : t.un.length ≤ 4
  un : t.un.Nodup
  uc : ∀ n ∈ t.un, n ∈ colNs (t.cols.drop 1)
  r4 : t.rf.length ≤ 4
  rn : (t.rf.map (·.1)).Nodup
  rc : ∀ p ∈ t.rf, ∃ col ∈ t.cols.drop 1, col.n = p.1 ∧ p.2 ≠ t.n ∧ ∃ f ∈ fr, f.1 = p.2 ∧ ∃ kc, f.2[0]? = some kc ∧ kc.k = col.k
/-- a table that has no constraints yet -/
structure TabBare (t : Tab) : Prop where
  nm : nameOk t.n
  co : ColsOk [] t.cols
  l0 : 1 ≤ t.cols.length
  l5 : t.cols.length ≤ 5
  c0 : t.ch = []
  u0 : t.un = []
  r0 : t.rf = []
def frOf (s : Sch) : List (Str × List Col) := s.map fun p => (p.2.n, p.2.cols)
def spTable : Sp := fun vs H Q _ => ∃ (L : Addr) (cols : List Col), vs = [.ref L] ∧ ColsAt H L cols ∧ ∀ (a : Ads) (H' : Hp), (∀ n, DescAt H' a ⟨n, cols, [], [], []⟩) → Same H H' → H a.d = none → (∀ b ∈ adL a, H b = none) → (adL a).Nodup → Q (.ref a.d) H'
def spLimits : Sp := fun vs H Q _ => ∃ (t c S : Addr) (cs : List Int) (s : Sch) (a : Ads) (tab : Tab), vs = [.ref t, .ref S, .str tab.n] ∧ TapeAt H t c cs ∧ SchAt H S s t c ∧ s.length ≤ 6 ∧ (∀ p ∈ s, nameOk p.2.n ∧ 1 ≤ p.2.cols.length) ∧ (a, tab) ∈ s ∧ TabBare tab ∧
  ∀ (tab' : Tab) (H' : Hp), tab'.n = tab.n → tab'.cols = tab.cols → TabOk (frOf s) tab' → DescAt H' a tab' → TapeAt H' t c cs → KeepT H H' → SameE [t, a.k, a.u, a.r] H H' → Q .non H'
def spSchema : Sp := fun vs H Q _ => ∃ (t c : Addr) (cs : List Int) (least most : Int), vs = [.ref t, .int least, .int most] ∧ TapeAt H t c cs ∧ 0 ≤ least ∧ least ≤ most ∧ most ≤ 6 ∧
  ∀ (S : Addr) (s : Sch) (H' : Hp), SchAt H' S s t c → (∀ p ∈ s, TabOk (frOf s) p.2) → least ≤ s.length → (s.length : Int) ≤ most → TapeAt H' t c cs → SameX t H H' → Q (.ref S) H'
theorem mem_flat {s : Sch} {p : Ads × Tab} (h : p ∈ s) {b : Addr} (hb : b ∈ adL p.1) : b ∈ schL s := List.mem_flatMap.mpr ⟨p, h, hb⟩
theorem flat_one {s : Sch} (nd : (schL s).Nodup) {p q : Ads × Tab} (hp : p ∈ s) (hq : q ∈ s) {b : Addr} (h1 : b ∈ adL p.1) (h2 : b ∈ adL q.1) : p = q := by
  have nd := List.pairwise_flatMap.mp nd
  obtain ⟨i, hi, ei⟩ := List.getElem_of_mem hp
  obtain ⟨j, hj, ej⟩ := List.getElem_of_mem hq
  rcases Nat.lt_trichotomy i j with h | h | h
  · have := List.pairwise_iff_getElem.mp nd.2 i j hi hj h
    rw [ei, ej] at this
    exact absurd rfl (this b h1 b h2)
  · subst h; rw [← ei, ← ej]
  · have := List.pairwise_iff_getElem.mp nd.2 j i hj hi h
    rw [ei, ej] at this
    exact absurd rfl (this b h2 b h1)
theorem SchAt.tS {H : Hp} {S : Addr} {s : Sch} {t c : Addr} (h : SchAt H S s t c) : t ≠ S ∧ (∀ p ∈ s, p.1.d ≠ t) ∧ (∀ p ∈ s, p.1.d ≠ S) ∧ (∀ p ∈ s, ∀ b ∈ adL p.1, b ≠ c) := by
  have h1 := List.nodup_cons.mp h.dn
  have h2 := List.nodup_cons.mp h1.2
  have h3 := List.nodup_cons.mp h.ln
  refine ⟨fun e => h1.1 (by rw [e]; exact List.mem_cons_self), fun p hp e => h1.1 (List.mem_cons_of_mem _ (List.mem_map.mpr ⟨p, hp, e⟩)), fun p hp e => h2.1 (List.mem_map.mpr ⟨p, hp, e⟩), fun p hp b hb e => h3.1 (e ▸ mem_flat hp hb)⟩
theorem SchAt.monoX {H H' : Hp} {S : Addr} {s : Sch} {t c : Addr} {cs : List Int} (h : SchAt H S s t c) (T : TapeAt H t c cs) (e : SameX t H H') : SchAt H' S s t c := by
  obtain ⟨h1, h2, h3, _⟩ := h.tS
  refine ⟨e _ _ h.sk h1.symm, fun p hp => (h.ds p hp).frame (KeepT.ofX T e) (fun o z => e _ _ z (h2 p hp)) (fun b hb o z => e _ _ z ?_), h.nm, h.dn, h.ln⟩
  obtain ⟨xs, g⟩ := (h.ds p hp).isL b hb
  exact T.notL g
structure Lim (H H' : Hp) (t c : Addr) (cs : List Int) (a : Ads) (OL : Addr) (os : List Str) (conds : List Cond) (un : List Str) (rf : List (Str × Str)) : Prop where
  T : TapeAt H' t c cs
  kt : KeepT H H'
  se : SameE [t, a.k, a.u, a.r] H H'
  ol : H' OL = some (.lst (os.map V.str))
  ch : ∃ xs, H' a.k = some (.lst xs) ∧ TpL H' xs (conds.map condD)
  un : H' a.u = some (.lst (un.map V.str))
  rf : ∃ ys, H' a.r = some (.lst ys) ∧ TpL H' ys (rf.map rfD)
section
variable {H H' H2 : Hp} {t c : Addr} {cs : List Int} {a : Ads} {OL : Addr} {os : List Str} {conds : List Cond} {un : List Str} {rf : List (Str × Str)}
theorem Lim.stepX (L : Lim H H' t c cs a OL os conds un rf) (T2 : TapeAt H2 t c cs) (e : SameX t H' H2) : Lim H H2 t c cs a OL os conds un rf := by
  obtain ⟨T, kt, se, ol, ⟨xs, c1, c2⟩, un, ⟨ys, r1, r2⟩⟩ := L
  have k2 := KeepT.ofX T e
  exact ⟨T2, kt.trans k2, se.trans (SameE.ofX e (by simp)), e _ _ ol (T.notL ol), ⟨xs, e _ _ c1 (T.notL c1), c2.mono k2⟩, e _ _ un (T.notL un), ⟨ys, e _ _ r1 (T.notL r1), r2.mono k2⟩⟩
theorem Lim.step (L : Lim H H' t c cs a OL os conds un rf) (e : Same H' H2) : Lim H H2 t c cs a OL os conds un rf := by
  obtain ⟨T, kt, se, ol, ⟨xs, c1, c2⟩, un, ⟨ys, r1, r2⟩⟩ := L
  exact ⟨T.mono e, kt.trans (KeepT.of e), se.trans (SameE.of e), e _ _ ol, ⟨xs, e _ _ c1, c2.mono (KeepT.of e)⟩, e _ _ un, ⟨ys, e _ _ r1, r2.mono (KeepT.of e)⟩⟩
/-- what the schema shows while one table of it gets its constraints -/
theorem Lim.see {S : Addr} {s : Sch} {tab : Tab} (L : Lim H H' t c cs a OL os conds un rf) (A : SchAt H S s t c) (hm : (a, tab) ∈ s) (htk : ∃ kvs, H t = some (.dK kvs)) : DGet H' S (.str tab.n) (some (.ref a.d)) ∧ DGet H' a.d (.str "columns") (some (.ref a.c)) ∧ DGet H' a.d (.str "checks") (some (.ref a.k)) ∧ DGet H' a.d (.str "uniques") (some (.ref a.u)) ∧ DGet H' a.d (.str "references") (some (.ref a.r)) ∧ ColsAt H' a.c tab.cols ∧
    ∀ q ∈ s, DGet H' S (.str q.2.n) (some (.ref q.1.d)) ∧ DGet H' q.1.d (.str "columns") (some (.ref q.1.c)) ∧ ColsAt H' q.1.c q.2.cols := by
  obtain ⟨h1, h2, h3, h4⟩ := A.tS
  have D := A.ds _ hm
  have dl : ∀ {x : Addr} {kvs : List (Key × V)}, H x = some (.dK kvs) → x ≠ t → x ∉ [t, a.k, a.u, a.r] := by
    intro x kvs hx hxt hc
    have gl := D.isL
    simp only [List.mem_cons, List.not_mem_nil, or_false] at hc
    rcases hc with z | z | z | z
    · exact hxt z
    · obtain ⟨xs, g⟩ := gl a.k (by simp [adL]); rw [z, g] at hx; cases hx
    · obtain ⟨xs, g⟩ := gl a.u (by simp [adL]); rw [z, g] at hx; cases hx
    · obtain ⟨xs, g⟩ := gl a.r (by simp [adL]); rw [z, g] at hx; cases hx
  have hS : H' S = some (.dK (schK s)) := L.se _ _ A.sk (dl A.sk h1.symm)
  have all : ∀ q ∈ s, DGet H' S (.str q.2.n) (some (.ref q.1.d)) ∧ H' q.1.d = some (.dK (descD q.1)) ∧ ColsAt H' q.1.c q.2.cols := by
    intro q hq
    have g := DGet.k (k := (Sum.inr q.2.n : Key)) hS
    rw [sch_get A.nm hq] at g
    have Dq := A.ds q hq
    refine ⟨g, L.se _ _ Dq.dk (dl Dq.dk (h2 q hq)), Dq.co.mono L.kt fun o ho => L.se _ _ ho fun hc => ?_⟩
    have hb : q.1.c ∈ adL q.1 := by simp [adL]
    have nd := (List.nodup_cons.mp A.ln).2
    have one : ∀ b, b ∈ adL a → q.1.c = b → b = a.c := by
      intro b hba e
      have := flat_one nd hq hm hb (by rw [e]; exact hba)
      rw [← e, this]
    have ndA : (adL a).Nodup := (List.pairwise_flatMap.mp nd).1 _ hm
    simp only [adL, List.nodup_cons, List.mem_cons, List.not_mem_nil, or_false, not_or] at ndA
    simp only [List.mem_cons, List.not_mem_nil, or_false] at hc
    rcases hc with z | z | z | z
    · obtain ⟨kvs, e⟩ := htk
      obtain ⟨xs, g⟩ := Dq.isL q.1.c hb
      rw [z, e] at g; cases g
    · exact ndA.1.1 (one a.k (by simp [adL]) z).symm
    · exact ndA.1.2.1 (one a.u (by simp [adL]) z).symm
    · exact ndA.1.2.2 (one a.r (by simp [adL]) z).symm
  obtain ⟨g1, g2, g3⟩ := all _ hm
  have gg : ∀ {q : Ads}, H' q.d = some (.dK (descD q)) → DGet H' q.d (.str "columns") (some (.ref q.c)) := fun {q} e => by
    have g := DGet.k (k := (Sum.inr ("columns" : Str) : Key)) e; rw [dd_c] at g; exact g
  refine ⟨g1, gg g2, ?_, ?_, ?_, g3, fun q hq => ?_⟩
  · have g := DGet.k (k := (Sum.inr ("checks" : Str) : Key)) g2; rw [dd_k] at g; exact g
  · have g := DGet.k (k := (Sum.inr ("uniques" : Str) : Key)) g2; rw [dd_u] at g; exact g
  · have g := DGet.k (k := (Sum.inr ("references" : Str) : Key)) g2; rw [dd_r] at g; exact g
  · obtain ⟨q1, q2, q3⟩ := all q hq
    exact ⟨q1, gg q2, q3⟩
end
/-- a list of texts, compared with the empty one -/
theorem strs_dp {K : PySem.W.Frag} {H : Hp} : ∀ xs : List Str, DpAll K H (xs.map V.str) (xs.map PyData.str)
  | [] => .nil
  | x :: r => .cons (.str x) (strs_dp r)
theorem strs_lay : ∀ xs : List Str, (∀ x ∈ xs, PyData.strOk x = true) → PyData.canLayAll0 (xs.map PyData.str) = true ∧ PyData.depthAll (xs.map PyData.str) ≤ 1
  | [], _ => by simp [PyData.canLayAll0, PyData.depthAll]
  | x :: r, h => by
    obtain ⟨a, b⟩ := strs_lay r fun y hy => h y (List.mem_cons_of_mem _ hy)
    have hx := h x List.mem_cons_self
    constructor
    · simp [PyData.canLayAll0, PyData.canLay0, a, hx]
    · simp only [List.map_cons, PyData.depthAll, PyData.depth]
      omega
theorem strs_shaped {xs : List Str} (h : ∀ x ∈ xs, PyData.strOk x = true) : SeqAt.shaped (.list (xs.map PyData.str)) = true := by
  obtain ⟨a, b⟩ := strs_lay xs h
  simp only [SeqAt.shaped, PyData.canLay0, a, Bool.true_and, PyData.depth]
  exact decide_eq_true (by omega)
theorem strs_eqv (xs : List Str) : PyData.eqv (.list (xs.map PyData.str)) (.list []) = xs.isEmpty := by cases xs <;> rfl
theorem nameOk.str {z : Str} (h : nameOk z) : PyData.strOk z = true := strOk_of fun c hc => (h.2.2 c hc).ok
/-- one table's description has changed, all else stands -/
theorem SchAt.set {H H' : Hp} {S : Addr} {s : Sch} {t c : Addr} {i : Nat} {a : Ads} {tab tab' : Tab} (h : SchAt H S s t c) (ht : ∃ kvs, H t = some (.dK kvs)) (hi : s[i]? = some (a, tab)) (hn : tab'.n = tab.n) (hd : DescAt H' a tab') (kt : KeepT H H') (e : SameE [t, a.k, a.u, a.r] H H') : SchAt H' S (s.set i (a, tab')) t c := by
  obtain ⟨h1, h2, h3, h4⟩ := h.tS
  have hm : (a, tab) ∈ s := List.mem_of_getElem? hi
  have hil : i < s.length := (List.getElem?_eq_some_iff.mp hi).1
  have dl : ∀ {x : Addr} {kvs : List (Key × V)}, H x = some (.dK kvs) → x ≠ t → x ∉ [t, a.k, a.u, a.r] := by
    intro x kvs hx hxt hc
    have gl := (h.ds _ hm).isL
    simp only [List.mem_cons, List.not_mem_nil, or_false] at hc
    rcases hc with z | z | z | z
    · exact hxt z
    · obtain ⟨xs, g⟩ := gl a.k (by simp [adL]); rw [z, g] at hx; cases hx
    · obtain ⟨xs, g⟩ := gl a.u (by simp [adL]); rw [z, g] at hx; cases hx
    · obtain ⟨xs, g⟩ := gl a.r (by simp [adL]); rw [z, g] at hx; cases hx
  have ek : schK (s.set i (a, tab')) = schK s := by
    unfold schK
    rw [List.map_set]
    refine List.ext_getElem? fun j => ?_
    rw [List.getElem?_set]
    split
    · rename_i hj; subst hj
      rw [List.getElem?_map, hi, if_pos (by rw [List.length_map]; exact hil)]
      show some ((Sum.inr tab'.n : Key), V.ref a.d) = _
      rw [hn]; rfl
    · rfl
  have en : schN (s.set i (a, tab')) = schN s := by
    unfold schN
    rw [List.map_set]
    refine List.ext_getElem? fun j => ?_
    rw [List.getElem?_set]
    split
    · rename_i hj; subst hj
      rw [List.getElem?_map, hi, if_pos (by rw [List.length_map]; exact hil)]
      exact congrArg some hn
    · rfl
  have ea : (s.set i (a, tab')).map (fun p => p.1) = s.map (fun p => p.1) := by
    rw [List.map_set]
    refine List.ext_getElem? fun j => ?_
    rw [List.getElem?_set]
    split
    · rename_i hj; subst hj
      rw [List.getElem?_map, hi, if_pos (by rw [List.length_map]; exact hil)]
      rfl
    · rfl
  have ed : (s.set i (a, tab')).map (fun p => p.1.d) = s.map (fun p => p.1.d) := by
    have := congrArg (List.map fun x : Ads => x.d) ea
    rw [List.map_map, List.map_map] at this
    exact this
  have el : schL (s.set i (a, tab')) = schL s := by
    have := congrArg (List.flatMap fun x : Ads => adL x) ea
    rw [List.flatMap_map, List.flatMap_map] at this
    exact this
  refine ⟨?_, fun p hp => ?_, by rw [en]; exact h.nm, by rw [ed]; exact h.dn, by rw [el]; exact h.ln⟩
  · rw [ek]; exact e _ _ h.sk (dl h.sk h1.symm)
  · obtain ⟨j, hj, ej⟩ := List.getElem_of_mem hp
    rw [List.getElem_set] at ej
    split at ej
    · rw [← ej]; exact hd
    · rename_i hne
      rw [List.length_set] at hj
      have hps : p ∈ s := by rw [← ej]; exact List.getElem_mem hj
      have D := h.ds p hps
      refine D.frame kt (fun o z => e _ _ z (by rw [D.dk] at z; cases z; exact dl D.dk (h2 p hps))) (fun b hb o z => e _ _ z fun hc => ?_)
      have hb2 : b ∈ adL a ∨ b = t := by
        simp only [List.mem_cons, List.not_mem_nil, or_false] at hc
        rcases hc with z | z | z | z
        · exact .inr z
        · exact .inl (by rw [z]; simp [adL])
        · exact .inl (by rw [z]; simp [adL])
        · exact .inl (by rw [z]; simp [adL])
      rcases hb2 with hb2 | hb2
      · have eq := flat_one (List.nodup_cons.mp h.ln).2 hps hm hb hb2
        have hi' : s[i] = (a, tab) := by rw [List.getElem?_eq_getElem hil] at hi; exact Option.some.inj hi
        have b1 : (schN s)[j]? = some tab.n := by unfold schN; rw [List.getElem?_map, List.getElem?_eq_getElem hj, ej, eq]; rfl
        have b2 : (schN s)[i]? = some tab.n := by unfold schN; rw [List.getElem?_map, hi]; rfl
        exact hne (nd_ix h.nm b2 b1)
      · obtain ⟨xs, g⟩ := D.isL b hb
        obtain ⟨kvs, h5⟩ := ht
        rw [hb2, h5] at g
        cases g
end Lt

set_option autoImplicit false
namespace Lt
open PySem L2 TL
open C8 (pss_cut)
/-! ## a schema in the making -/
theorem putK_fresh {kvs : List (Key × V)} {k : Key} {v : V} (h : k ∉ kvs.map (·.1)) : putK kvs k v = kvs ++ [(k, v)] := by
  unfold putK
  rw [if_neg]
  intro z
  obtain ⟨x, h1, h2⟩ := List.any_eq_true.mp z
  exact h (List.mem_map.mpr ⟨x, h1, of_decide_eq_true h2⟩)
theorem schK_new {s : Sch} {a : Ads} {tab : Tab} (h : tab.n ∉ schN s) : putK (schK s) (Sum.inr tab.n : Key) (.ref a.d) = schK (s ++ [(a, tab)]) := by
  rw [putK_fresh]
  · unfold schK; rw [List.map_append]; rfl
  · rw [sch_keys]
    intro z
    obtain ⟨x, h1, h2⟩ := List.mem_map.mp z
    cases h2
    exact h h1
theorem SchAt.notS {H : Hp} {S : Addr} {s : Sch} {t c : Addr} (A : SchAt H S s t c) : ∀ p ∈ s, ∀ b ∈ adL p.1, b ≠ S := fun p hp b hb e => by
  obtain ⟨xs, g⟩ := (A.ds p hp).isL b hb
  rw [e, A.sk] at g
  cases g
theorem SchAt.add {H : Hp} {S t c : Addr} {s : Sch} {a : Ads} {tab : Tab} (A : SchAt H S s t c) (D : DescAt H a tab) (hz : tab.n ∉ schN s) (hd : a.d ≠ t ∧ a.d ≠ S ∧ ∀ p ∈ s, a.d ≠ p.1.d)
    (hl : ∀ b ∈ adL a, b ≠ c ∧ b ∉ schL s) (nd : (adL a).Nodup) : SchAt (upd H S (.dK (schK (s ++ [(a, tab)])))) S (s ++ [(a, tab)]) t c := by
  obtain ⟨h1, h2, h3, h4⟩ := A.tS
  have kt : KeepT H (upd H S (.dK (schK (s ++ [(a, tab)])))) := KeepT.lock A.sk
  have fr : ∀ {a' : Ads} {tab' : Tab}, DescAt H a' tab' → a'.d ≠ S → DescAt (upd H S (.dK (schK (s ++ [(a, tab)])))) a' tab' := fun {a' tab'} D' ne =>
    D'.frame kt (fun o z => by rw [upd_ne ne]; exact z) (fun b hb o z => by
      have : b ≠ S := fun e => by
        obtain ⟨xs, g⟩ := D'.isL b hb
        rw [e, A.sk] at g; cases g
      rw [upd_ne this]; exact z)
  refine ⟨upd_same, fun p hp => ?_, ?_, ?_, ?_⟩
  · rcases List.mem_append.mp hp with hp | hp
    · exact fr (A.ds p hp) (h3 p hp)
    · rw [List.mem_singleton.mp hp]; exact fr D hd.2.1
  · unfold schN
    rw [List.map_append]
    refine List.nodup_append.mpr ⟨A.nm, by simp, fun x hx y hy => ?_⟩
    have : y = tab.n := by simpa using hy
    subst this
    rintro rfl
    exact hz hx
  · rw [List.map_append]
    show ((t :: S :: s.map fun p => p.1.d) ++ [a.d]).Nodup
    refine List.nodup_append.mpr ⟨A.dn, by simp, fun x hx y hy => ?_⟩
    have : y = a.d := by simpa using hy
    subst this
    rcases List.mem_cons.mp hx with rfl | hx
    · exact hd.1.symm
    · rcases List.mem_cons.mp hx with rfl | hx
      · exact hd.2.1.symm
      · obtain ⟨p, hp, e⟩ := List.mem_map.mp hx
        rw [← e]; exact (hd.2.2 p hp).symm
  · have e : schL (s ++ [(a, tab)]) = schL s ++ adL a := by unfold schL; rw [List.flatMap_append]; simp
    rw [e]
    show ((c :: schL s) ++ adL a).Nodup
    refine List.nodup_append.mpr ⟨A.ln, nd, fun x hx y hy => ?_⟩
    rintro rfl
    rcases List.mem_cons.mp hx with e | hx
    · exact (hl x hy).1 e
    · exact (hl x hy).2 hx
/-- all stands but the tape and a list that is no part of it -/
theorem SchAt.monoXY {H H' : Hp} {S U : Addr} {s : Sch} {t c : Addr} {cs : List Int} {us : List V} (h : SchAt H S s t c) (T : TapeAt H t c cs) (hU : H U = some (.lst us)) (nU : U ∉ schL s) (e : SameXY t U H H') : SchAt H' S s t c := by
  obtain ⟨h1, h2, h3, _⟩ := h.tS
  have nl : ∀ {b : Addr} {kvs : List (Key × V)}, H b = some (.dK kvs) → b ≠ U := fun hb z => by rw [z, hU] at hb; cases hb
  refine ⟨e _ _ h.sk h1.symm (nl h.sk), fun p hp => (h.ds p hp).frame (KeepT.ofXY T hU e) (fun o z => e _ _ z (h2 p hp) (nl (h.ds p hp).dk)) (fun b hb o z => e _ _ z ?_ ?_), h.nm, h.dn, h.ln⟩
  · obtain ⟨xs, g⟩ := (h.ds p hp).isL b hb
    exact T.notL g
  · rintro rfl; exact nU (mem_flat hp hb)
theorem SameXY.free {t u : Addr} {H H' : Hp} (e : SameXY t u H H') {b : Addr} (h1 : b ≠ t) (h2 : b ≠ u) (h : H' b = none) : H b = none := by
  cases z : H b with
  | none => rfl
  | some o => have := e _ _ z h1 h2; rw [h] at this; cases this
theorem set_map {α β : Type} {s : List α} {i : Nat} {x y : α} (f : α → β) (h : s[i]? = some x) (e : f y = f x) : (s.set i y).map f = s.map f := by
  have hil : i < s.length := (List.getElem?_eq_some_iff.mp h).1
  rw [List.map_set]
  refine List.ext_getElem? fun j => ?_
  rw [List.getElem?_set]
  split
  · rename_i hj; subst hj
    rw [List.getElem?_map, h, if_pos (by rw [List.length_map]; exact hil), e]
    rfl
  · rfl
/-- a schema whose tables get their constraints one after another: those in done have them -/
structure Half (H0 H' : Hp) (t c : Addr) (cs : List Int) (S : Addr) (s s' : Sch) (done : List Str) : Prop where
  A : SchAt H' S s' t c
  T : TapeAt H' t c cs
  ads : s'.map (·.1) = s.map (·.1)
  fr : frOf s' = frOf s
  ok : ∀ p ∈ s', p.2.n ∈ done → TabOk (frOf s) p.2
  ba : ∀ p ∈ s', p.2.n ∉ done → TabBare p.2
  se : SameX t H0 H'
  new : ∀ b ∈ schL s', H0 b = none
theorem schN_of {s s' : Sch} (h : frOf s' = frOf s) : schN s' = schN s := by
  have := congrArg (List.map (·.1)) h
  unfold frOf at this
  rw [List.map_map, List.map_map] at this
  exact this
theorem schL_of {s s' : Sch} (h : s'.map (·.1) = s.map (·.1)) : schL s' = schL s := by
  have := congrArg (List.flatMap fun x : Ads => adL x) h
  rw [List.flatMap_map, List.flatMap_map] at this
  exact this
theorem Half.put {H0 H1 H2 : Hp} {t c : Addr} {cs : List Int} {S : Addr} {s s' : Sch} {done : List Str} {a : Ads} {tab tab' : Tab} (L : Half H0 H1 t c cs S s s' done) (hm : (a, tab) ∈ s')
    (hn : tab'.n = tab.n) (hc : tab'.cols = tab.cols) (ok : TabOk (frOf s') tab') (D : DescAt H2 a tab') (T : TapeAt H2 t c cs) (kt : KeepT H1 H2) (e : SameE [t, a.k, a.u, a.r] H1 H2) :
    ∃ s2, Half H0 H2 t c cs S s s2 (done ++ [tab.n]) := by
  obtain ⟨i, hi, ei⟩ := List.getElem_of_mem hm
  have hi' : s'[i]? = some (a, tab) := by rw [List.getElem?_eq_getElem hi, ei]
  have ht : ∃ kvs, H1 t = some (.dK kvs) := by obtain ⟨_, _, _, _, e, _⟩ := L.T.dk; exact ⟨_, e⟩
  have f1 : frOf (s'.set i (a, tab')) = frOf s := by
    rw [← L.fr]
    exact set_map (fun p : Ads × Tab => (p.2.n, p.2.cols)) hi' (by show (tab'.n, tab'.cols) = (tab.n, tab.cols); rw [hn, hc])
  have f2 : (s'.set i (a, tab')).map (·.1) = s.map (·.1) := by rw [← L.ads]; exact set_map (fun p : Ads × Tab => p.1) hi' rfl
  have back : ∀ p ∈ s'.set i (a, tab'), p = (a, tab') ∨ (p ∈ s' ∧ p.2.n ≠ tab.n) := by
    intro p hp
    obtain ⟨j, hj, ej⟩ := List.getElem_of_mem hp
    rw [List.getElem_set] at ej
    split at ej
    · exact .inl ej.symm
    · rename_i hne
      rw [List.length_set] at hj
      have hps : p ∈ s' := by rw [← ej]; exact List.getElem_mem hj
      refine .inr ⟨hps, fun z => ?_⟩
      have b1 : (schN s')[j]? = some tab.n := by unfold schN; rw [List.getElem?_map, List.getElem?_eq_getElem hj, ej, ← z]; rfl
      have b2 : (schN s')[i]? = some tab.n := by unfold schN; rw [List.getElem?_map, hi']; rfl
      exact hne (nd_ix L.A.nm b2 b1)
  refine ⟨s'.set i (a, tab'), L.A.set ht hi' hn D kt e, T, f2, f1, ?_, ?_, ?_, ?_⟩
  · intro p hp hd
    rcases back p hp with rfl | ⟨h1, h2⟩
    · rw [← L.fr]; exact ok
    · rcases List.mem_append.mp hd with hd | hd
      · exact L.ok p h1 hd
      · exact absurd (List.mem_singleton.mp hd) h2
  · intro p hp hd
    rcases back p hp with rfl | ⟨h1, h2⟩
    · exact absurd (List.mem_append.mpr (.inr (by rw [List.mem_singleton]; exact hn))) hd
    · exact L.ba p h1 fun z => hd (List.mem_append.mpr (.inl z))
  · intro b o hb hbt
    have g := L.se b o hb hbt
    refine e b o g fun hc => ?_
    simp only [List.mem_cons, List.not_mem_nil, or_false] at hc
    have nw : ∀ x ∈ adL a, b ≠ x := fun x hx z => by
      have := L.new x (mem_flat hm hx)
      rw [← z, hb] at this; cases this
    rcases hc with z | z | z | z
    · exact hbt z
    · exact nw a.k (by simp [adL]) z
    · exact nw a.u (by simp [adL]) z
    · exact nw a.r (by simp [adL]) z
  · rw [schL_of (f2.trans L.ads.symm)]; exact L.new
end Lt

set_option autoImplicit false
namespace Lt
open PySem L2 TL
open C8 (pss_cut)
/-! ## schemas as data; what they say of columns and tables -/
mutual
def gOf : D → G
  | .s v => .s v
  | .t ds => .t (gOfL ds)
def gOfL : List D → List G
  | [] => []
  | d :: ds => gOf d :: gOfL ds
end
mutual
def D.sm : D → Bool
  | .s _ => true
  | .t ds => decide (ds.length ≤ 1000) && smL ds
def smL : List D → Bool
  | [] => true
  | d :: ds => d.sm && smL ds
end
theorem gOfL_map : ∀ ds : List D, gOfL ds = ds.map gOf
  | [] => rfl
  | d :: ds => by simp only [gOfL, List.map_cons]; rw [gOfL_map ds]
theorem smL_all : ∀ {ds : List D}, smL ds = true ↔ ∀ d ∈ ds, d.sm = true
  | [] => by simp [smL]
  | d :: ds => by simp only [smL, Bool.and_eq_true, List.forall_mem_cons]; rw [smL_all]
theorem sm_t {ds : List D} (h : ds.length ≤ 1000) (k : ∀ d ∈ ds, d.sm = true) : (D.t ds).sm = true := by
  simp only [D.sm, Bool.and_eq_true, decide_eq_true_eq]
  exact ⟨h, smL_all.mpr k⟩
mutual
theorem Tp.g {H : Hp} : ∀ {d : D} {v : V}, Tp H v d → d.sm = true → Gp H v (gOf d) []
  | .s _, _, h, _ => by cases h with | s h => exact .s h
  | .t ds, _, h, k => by
    cases h with
    | t h r =>
      simp only [D.sm, Bool.and_eq_true, decide_eq_true_eq] at k
      exact .t h (by rw [r.length]; exact k.1) (TpL.g r k.2)
theorem TpL.g {H : Hp} : ∀ {ds : List D} {vs : List V}, TpL H vs ds → smL ds = true → GpL H vs (gOfL ds) []
  | [], _, h, _ => by cases h; exact .nil
  | d :: ds, _, h, k => by
    cases h with
    | cons h r =>
      simp only [smL, Bool.and_eq_true] at k
      exact GpL.cons (D := []) (E := []) (Tp.g h k.1) (TpL.g r k.2)
end
mutual
def D.dp : D → Nat
  | .s _ => 0
  | .t ds => dpL ds + 1
def dpL : List D → Nat
  | [] => 0
  | d :: ds => max d.dp (dpL ds)
end
mutual
theorem dep_gOf : ∀ d : D, (gOf d).dep = d.dp
  | .s _ => rfl
  | .t ds => by simp only [gOf, G.dep, D.dp]; rw [dep_gOfL ds]
theorem dep_gOfL : ∀ ds : List D, depL (gOfL ds) = dpL ds
  | [] => rfl
  | d :: ds => by simp only [gOfL, depL, dpL]; rw [dep_gOf d, dep_gOfL ds]
end
theorem depL_le {n : Nat} : ∀ {gs : List G}, (∀ g ∈ gs, g.dep ≤ n) → depL gs ≤ n
  | [], _ => Nat.zero_le _
  | g :: gs, h => by
    simp only [depL]
    have a := h g List.mem_cons_self
    have b := depL_le fun x hx => h x (List.mem_cons_of_mem _ hx)
    omega
theorem depK_le {n : Nat} : ∀ {gs : List (Key × G)}, (∀ p ∈ gs, p.2.dep ≤ n) → depK gs ≤ n
  | [], _ => Nat.zero_le _
  | (k, g) :: gs, h => by
    simp only [depK]
    have a := h _ List.mem_cons_self
    have b := depK_le fun x hx => h x (List.mem_cons_of_mem _ hx)
    simp only at a
    omega
theorem dpL_le {n : Nat} : ∀ {gs : List D}, (∀ g ∈ gs, g.dp ≤ n) → dpL gs ≤ n
  | [], _ => Nat.zero_le _
  | g :: gs, h => by
    simp only [dpL]
    have a := h g List.mem_cons_self
    have b := dpL_le fun x hx => h x (List.mem_cons_of_mem _ hx)
    omega
theorem col_sm (c : Col) : (colD c).sm = true := rfl
theorem col_dp (c : Col) : (colD c).dp = 1 := rfl
theorem rf_sm (c : Str × Str) : (rfD c).sm = true := rfl
theorem rf_dp (c : Str × Str) : (rfD c).dp = 1 := rfl
theorem cl_sm (c : Cl) : (clD c).sm = true := rfl
theorem cl_dp (c : Cl) : (clD c).dp = 1 := rfl
theorem cond_sm {c : Cond} (h : c.length ≤ 1000) (k : ∀ a ∈ c, a.length ≤ 1000) : (condD c).sm = true := by
  refine sm_t (by rw [List.length_map]; exact h) fun d hd => ?_
  obtain ⟨a, ha, rfl⟩ := List.mem_map.mp hd
  refine sm_t (by rw [List.length_map]; exact k a ha) fun d hd => ?_
  obtain ⟨cl, _, rfl⟩ := List.mem_map.mp hd
  exact cl_sm cl
theorem cond_dp (c : Cond) : (condD c).dp ≤ 3 := by
  have : dpL (c.map altD) ≤ 2 := by
    refine dpL_le fun d hd => ?_
    obtain ⟨a, _, rfl⟩ := List.mem_map.mp hd
    have : dpL (a.map clD) ≤ 1 := dpL_le fun d hd => by
      obtain ⟨cl, _, rfl⟩ := List.mem_map.mp hd
      exact Nat.le_of_eq (cl_dp cl)
    simp only [altD, D.dp]; omega
  simp only [condD, D.dp]; omega
/-- a list of tuples as data -/
def lG (ds : List D) : G := .l (gOfL ds)
def strsG (xs : List Str) : G := .l (xs.map fun x => .s (.str x))
theorem strsG_L {H : Hp} : ∀ xs : List Str, GpL H (xs.map V.str) (xs.map fun x => G.s (.str x)) []
  | [] => .nil
  | x :: r => GpL.cons (D := []) (E := []) (.s rfl) (strsG_L r)
theorem strsG_at {H : Hp} {N : Addr} {xs : List Str} (h : H N = some (.lst (xs.map V.str))) (hl : xs.length ≤ 1000) : Gp H (.ref N) (strsG xs) [N] := .l h (by rw [List.length_map]; exact hl) (strsG_L xs)
theorem strsG_dep (xs : List Str) : (strsG xs).dep ≤ 1 := by
  have : depL (xs.map fun x => G.s (.str x)) ≤ 0 := depL_le fun g hg => by
    obtain ⟨x, _, rfl⟩ := List.mem_map.mp hg
    exact Nat.le_refl 0
  simp only [strsG, G.dep]; omega
def descG (t : Tab) : G := .d [(Sum.inr ("columns" : Str), lG (t.cols.map colD)), (Sum.inr ("checks" : Str), lG (t.ch.map condD)), (Sum.inr ("uniques" : Str), strsG t.un), (Sum.inr ("references" : Str), lG (t.rf.map rfD))]
def tabsG (ts : List Tab) : List (Key × G) := ts.map fun t => ((Sum.inr t.n : Key), descG t)
def schG (s : Sch) : G := .d (tabsG (s.map (·.2)))
/-- sizes that any schema here keeps to -/
structure TabSm (t : Tab) : Prop where
  co : t.cols.length ≤ 40
  ch : t.ch.length ≤ 40
  cc : ∀ c ∈ t.ch, c.length ≤ 20 ∧ ∀ a ∈ c, a.length ≤ 20
  un : t.un.length ≤ 40
  rf : t.rf.length ≤ 40
theorem TabOk.sm {fr : List (Str × List Col)} {t : Tab} (h : TabOk fr t) : TabSm t := by
  have h1 := h.l5
  have h2 := h.c4
  have h3 := h.u4
  have h4 := h.r4
  exact ⟨by omega, by omega, fun c hc => by
    obtain ⟨a, b⟩ := h.cc c hc
    exact ⟨by omega, fun x hx => by have := (b x hx).1; omega⟩, by omega, by omega⟩
theorem lG_dep {ds : List D} {n : Nat} (h : ∀ d ∈ ds, d.dp ≤ n) : (lG ds).dep ≤ n + 1 := by
  simp only [lG, G.dep]
  rw [dep_gOfL]
  have := dpL_le h
  omega
theorem desc_dep (t : Tab) : (descG t).dep ≤ 5 := by
  have : depK [((Sum.inr ("columns" : Str) : Key), lG (t.cols.map colD)), (Sum.inr ("checks" : Str), lG (t.ch.map condD)), (Sum.inr ("uniques" : Str), strsG t.un), (Sum.inr ("references" : Str), lG (t.rf.map rfD))] ≤ 4 := by
    refine depK_le fun p hp => ?_
    simp only [List.mem_cons, List.not_mem_nil, or_false] at hp
    rcases hp with rfl | rfl | rfl | rfl
    · exact Nat.le_trans (lG_dep (n := 1) fun d hd => by obtain ⟨x, _, rfl⟩ := List.mem_map.mp hd; exact Nat.le_of_eq (col_dp x)) (by decide)
    · exact lG_dep (n := 3) fun d hd => by obtain ⟨x, _, rfl⟩ := List.mem_map.mp hd; exact cond_dp x
    · exact Nat.le_trans (strsG_dep _) (by decide)
    · exact Nat.le_trans (lG_dep (n := 1) fun d hd => by obtain ⟨x, _, rfl⟩ := List.mem_map.mp hd; exact Nat.le_of_eq (rf_dp x)) (by decide)
  simp only [descG, G.dep]; omega
theorem sch_dep (s : Sch) : (schG s).dep ≤ 6 := by
  have : depK (tabsG (s.map (·.2))) ≤ 5 := depK_le fun p hp => by
    obtain ⟨t, _, rfl⟩ := List.mem_map.mp hp
    exact desc_dep t
  simp only [schG, G.dep]; omega
theorem desc_nd (a : Ads) : ((descD a).map (·.1)).Nodup := by
  simp only [descD, List.map_cons, List.map_nil, List.nodup_cons, List.mem_cons, List.not_mem_nil, or_false, not_or, not_false_eq_true, List.nodup_nil, and_true]
  refine ⟨⟨fun z => e_co_ch (Sum.inr.inj z), fun z => e_co_un (Sum.inr.inj z), fun z => e_co_rf (Sum.inr.inj z)⟩, ⟨fun z => e_ch_un (Sum.inr.inj z), fun z => e_ch_rf (Sum.inr.inj z)⟩, fun z => e_un_rf (Sum.inr.inj z)⟩
theorem DescAt.g {H : Hp} {a : Ads} {t : Tab} (h : DescAt H a t) (k : TabSm t) : Gp H (.ref a.d) (descG t) (a.d :: adL a) := by
  obtain ⟨xs, h2, r2⟩ := h.co
  obtain ⟨ys, h3, r3⟩ := h.ch
  obtain ⟨zs, h5, r5⟩ := h.rf
  have g2 : Gp H (.ref a.c) (lG (t.cols.map colD)) [a.c] := .l h2 (by have := k.co; rw [r2.length, List.length_map]; omega) (r2.g (smL_all.mpr fun d hd => by obtain ⟨x, _, rfl⟩ := List.mem_map.mp hd; rfl))
  have g3 : Gp H (.ref a.k) (lG (t.ch.map condD)) [a.k] := .l h3 (by have := k.ch; rw [r3.length, List.length_map]; omega) (r3.g (smL_all.mpr fun d hd => by
    obtain ⟨x, hx, rfl⟩ := List.mem_map.mp hd
    have := k.cc x hx
    exact cond_sm (by omega) fun a ha => by have := this.2 a ha; omega))
  have g4 : Gp H (.ref a.u) (strsG t.un) [a.u] := strsG_at h.un (by have := k.un; omega)
  have g5 : Gp H (.ref a.r) (lG (t.rf.map rfD)) [a.r] := .l h5 (by have := k.rf; rw [r5.length, List.length_map]; omega) (r5.g (smL_all.mpr fun d hd => by obtain ⟨x, _, rfl⟩ := List.mem_map.mp hd; rfl))
  refine .d h.dk (by show 4 ≤ 1000; decide) (desc_nd a) (D := adL a) (GpK.cons (D := [a.c]) (E := [a.k, a.u, a.r]) g2 (GpK.cons (D := [a.k]) (E := [a.u, a.r]) g3 (GpK.cons (D := [a.u]) (E := [a.r]) g4 (GpK.cons (D := [a.r]) (E := []) g5 .nil)))) fun hm => ?_
  obtain ⟨ys, e⟩ := h.isL _ hm
  rw [h.dk] at e
  cases e
def schD (s : Sch) : List Addr := s.flatMap fun p => p.1.d :: adL p.1
theorem tabs_gp {H : Hp} : ∀ {s : Sch}, (∀ p ∈ s, DescAt H p.1 p.2) → (∀ p ∈ s, TabSm p.2) → GpK H (schK s) (tabsG (s.map (·.2))) (schD s)
  | [], _, _ => .nil
  | p :: r, h, k => by
    have := tabs_gp (fun q hq => h q (List.mem_cons_of_mem _ hq)) (fun q hq => k q (List.mem_cons_of_mem _ hq))
    exact GpK.cons ((h p List.mem_cons_self).g (k p List.mem_cons_self)) this
theorem sch_gp {H : Hp} {S : Addr} {s : Sch} (hs : H S = some (.dK (schK s))) (hd : ∀ p ∈ s, DescAt H p.1 p.2) (nm : (schN s).Nodup) (k : ∀ p ∈ s, TabSm p.2) (l : s.length ≤ 100) (ne : ∀ p ∈ s, p.1.d ≠ S) : Gp H (.ref S) (schG s) (S :: schD s) := by
  refine .d hs (by unfold schK; rw [List.length_map]; omega) (sch_nd nm) (tabs_gp hd k) fun hm => ?_
  obtain ⟨p, hp, hb⟩ := List.mem_flatMap.mp hm
  rcases List.mem_cons.mp hb with e | hb
  · exact ne p hp e.symm
  · obtain ⟨xs, e⟩ := (hd p hp).isL _ hb
    rw [hs] at e
    cases e
theorem SchAt.g {H : Hp} {S t c : Addr} {s : Sch} (A : SchAt H S s t c) (k : ∀ p ∈ s, TabSm p.2) (l : s.length ≤ 100) : Gp H (.ref S) (schG s) (S :: schD s) := sch_gp A.sk A.ds A.nm k l A.tS.2.2.1
/-! ### is a column used, is a table referenced -/
def usedM (t : Tab) (n : Str) : Bool := t.ch.any (mentM n) || (decide (n ∈ t.un) || decide (n ∈ t.rf.map (·.1)))
def refdM (ts : List Tab) (n : Str) : Bool := ts.any fun t => t.rf.any fun r => decide (r.2 = n)
def spColumnNames : Sp := fun vs H Q _ => ∃ (d L : Addr) (cols : List Col), vs = [.ref d] ∧ DGet H d (.str "columns") (some (.ref L)) ∧ ColsAt H L cols ∧ cols.length ≤ 100 ∧ ∀ N H', H N = none → Same H H' → H' N = some (.lst ((colNs cols).map V.str)) → Q (.ref N) H'
def spCopyDesc : Sp := fun vs H Q _ => ∃ (a : Ads) (tab : Tab), vs = [.ref a.d] ∧ DescAt H a tab ∧ ∀ a' H', DescAt H' a' tab → Same H H' → H a'.d = none → (∀ b ∈ adL a', H b = none) → (adL a').Nodup → Q (.ref a'.d) H'
/-- a schema, made anew -/
structure NewSch (H H' : Hp) (S : Addr) (s : Sch) (ts : List Tab) : Prop where
  sk : H' S = some (.dK (schK s))
  ds : ∀ p ∈ s, DescAt H' p.1 p.2
  ts : s.map (·.2) = ts
  fS : H S = none
  fd : ∀ p ∈ s, H p.1.d = none ∧ p.1.d ≠ S ∧ ∀ b ∈ adL p.1, H b = none
  dn : (s.map fun p => p.1.d).Nodup
  ln : (schL s).Nodup
  se : Same H H'
def spCopySchema : Sp := fun vs H Q _ => ∃ (S : Addr) (s : Sch), vs = [.ref S] ∧ H S = some (.dK (schK s)) ∧ (∀ p ∈ s, DescAt H p.1 p.2) ∧ (schN s).Nodup ∧ s.length ≤ 100 ∧ ∀ S' s' H', NewSch H H' S' s' (s.map (·.2)) → Q (.ref S') H'
def spIsUsed : Sp := fun vs H Q _ => ∃ (a : Ads) (tab : Tab) (n : Str), vs = [.ref a.d, .str n] ∧ DescAt H a tab ∧ TabSm tab ∧ ∀ H', Same H H' → Q (.bl (usedM tab n)) H'
def spIsReferenced : Sp := fun vs H Q _ => ∃ (S : Addr) (s : Sch) (n : Str), vs = [.ref S, .str n] ∧ H S = some (.dK (schK s)) ∧ (∀ p ∈ s, DescAt H p.1 p.2) ∧ (schN s).Nodup ∧ (∀ p ∈ s, TabSm p.2) ∧ s.length ≤ 20 ∧ ∀ H', Same H H' → Q (.bl (refdM (s.map (·.2)) n)) H'
theorem sch_at {s : Sch} {i : Nat} {k : Key} {v : V} (h : (schK s)[i]? = some (k, v)) : ∃ p, s[i]? = some p ∧ k = Sum.inr p.2.n ∧ v = .ref p.1.d := by
  unfold schK at h
  rw [List.getElem?_map] at h
  cases e : s[i]? with
  | none => rw [e] at h; cases h
  | some p => rw [e] at h; cases h; exact ⟨p, rfl, rfl, rfl⟩
theorem sch_getF {H : Hp} {S : Addr} {s : Sch} {od : Obj} (h : H S = some (.frz od (.dK (schK s)))) (nm : (schN s).Nodup) {p : Ads × Tab} (hp : p ∈ s) : DGet H S (.str p.2.n) (some (.ref p.1.d)) :=
  .inl ⟨schK s, Sum.inr p.2.n, .inr ⟨od, h⟩, rfl, (sch_get nm hp).symm⟩
theorem DescAt.lock {H : Hp} {S : Addr} {a : Ads} {t : Tab} {kvs : List (Key × V)} {o : HO} (h : DescAt H a t) (hS : H S = some (.dK kvs)) (ne : a.d ≠ S) : DescAt (upd H S o) a t :=
  h.frame (KeepT.lock hS) (fun o z => by rw [upd_ne ne]; exact z) fun b hb o z => by
    have : b ≠ S := fun e => by
      obtain ⟨xs, g⟩ := h.isL _ hb
      rw [e, hS] at g; cases g
    rw [upd_ne this]; exact z
/-- a description does not stand where the schema stands -/
theorem desc_ne {H : Hp} {S : Addr} {s : Sch} (hs : H S = some (.dK (schK s))) (hd : ∀ p ∈ s, DescAt H p.1 p.2) : ∀ p ∈ s, p.1.d ≠ S := fun p hp e => by
  have D := hd p hp
  have h1 := D.dk
  rw [e, hs] at h1
  have h2 : schK s = descD p.1 := HO.dK.inj (Option.some.inj h1)
  have h3 : ((Sum.inr ("columns" : Str) : Key), V.ref p.1.c) ∈ schK s := by rw [h2]; simp [descD]
  obtain ⟨q, hq, eq⟩ := List.mem_map.mp h3
  have h4 : q.1.d = p.1.c := V.ref.inj (Prod.mk.inj eq).2
  obtain ⟨xs, g⟩ := D.isL p.1.c (by simp [adL])
  rw [← h4, (hd q hq).dk] at g
  cases g
theorem cond_flat {c : Cond} (h1 : c.length ≤ 20) (h2 : ∀ a ∈ c, a.length ≤ 20) : c.flatten.length ≤ 1000 := by
  have : ∀ (c : Cond), (∀ a ∈ c, a.length ≤ 20) → c.flatten.length ≤ 20 * c.length := by
    intro c
    induction c with
    | nil => intro _; simp
    | cons a r ih =>
      intro h
      have a1 := h a List.mem_cons_self
      have a2 := ih fun x hx => h x (List.mem_cons_of_mem _ hx)
      rw [List.flatten_cons, List.length_append, List.length_cons]
      omega
  have := this c h2
  omega
theorem take_map {α β : Type} (f : α → β) {l : List α} {i : Nat} {x : α} (h : l[i]? = some x) : (l.take (i + 1)).map f = (l.take i).map f ++ [f x] := by
  rw [List.take_add_one, h, List.map_append]; rfl
theorem take_map2 {α β γ : Type} (f : α → β) (g : β → γ) {l : List α} {i : Nat} {x : α} (h : l[i]? = some x) : ((l.take (i + 1)).map f).map g = ((l.take i).map f).map g ++ [g (f x)] := by
  rw [take_map f h, List.map_append]; rfl
theorem D_str_eq (a b : Str) : decide (V.str a = V.str b) = decide (a = b) := by
  by_cases h : a = b
  · rw [decide_eq_true h, decide_eq_true (congrArg V.str h)]
  · rw [decide_eq_false h, decide_eq_false (fun z => h (V.str.inj z))]
theorem DescAt.mono {H H' : Hp} {a : Ads} {t : Tab} (h : DescAt H a t) (e : Same H H') : DescAt H' a t := h.frame (KeepT.of e) (fun o => e _ _) (fun b _ o => e _ _)
mutual
theorem Gp.there {H : Hp} : ∀ {g : G} {v : V} {D : List Addr}, Gp H v g D → ∀ a ∈ D, H a ≠ none
  | .s _, _, _, h, a, ha => by cases h; cases ha
  | .t gs, _, _, h, a, ha => by cases h with | t h n r => exact GpL.there r a ha
  | .l gs, _, _, h, a, ha => by
    cases h with
    | l h n r =>
      rcases List.mem_cons.mp ha with rfl | ha
      · rw [h]; intro z; cases z
      · exact GpL.there r a ha
  | .d ks, _, _, h, a, ha => by
    cases h with
    | d h n nd r f =>
      rcases List.mem_cons.mp ha with rfl | ha
      · rw [h]; intro z; cases z
      · exact GpK.there r a ha
theorem GpL.there {H : Hp} : ∀ {g : List G} {v : List V} {D : List Addr}, GpL H v g D → ∀ a ∈ D, H a ≠ none
  | [], _, _, h, a, ha => by cases h; cases ha
  | g :: gs, _, _, h, a, ha => by
    cases h with
    | cons h r =>
      rcases List.mem_append.mp ha with ha | ha
      · exact Gp.there h a ha
      · exact GpL.there r a ha
theorem GpK.there {H : Hp} : ∀ {g : List (Key × G)} {v : List (Key × V)} {D : List Addr}, GpK H v g D → ∀ a ∈ D, H a ≠ none
  | [], _, _, h, a, ha => by cases h; cases ha
  | (k, g) :: gs, _, _, h, a, ha => by
    cases h with
    | cons h r =>
      rcases List.mem_append.mp ha with ha | ha
      · exact Gp.there h a ha
      · exact GpK.there r a ha
end
theorem NewSch.newD {H H' : Hp} {S : Addr} {s : Sch} {ts : List Tab} (N : NewSch H H' S s ts) : ∀ a ∈ S :: schD s, H a = none := by
  intro a ha
  rcases List.mem_cons.mp ha with rfl | ha
  · exact N.fS
  · obtain ⟨p, hp, hb⟩ := List.mem_flatMap.mp ha
    obtain ⟨h1, _, h2⟩ := N.fd p hp
    rcases List.mem_cons.mp hb with rfl | hb
    · exact h1
    · exact h2 a hb
theorem NewSch.nm {H H' : Hp} {S : Addr} {s s0 : Sch} (N : NewSch H H' S s (s0.map (·.2))) (h : (schN s0).Nodup) : (schN s).Nodup := by
  have : schN s = schN s0 := by
    have e := congrArg (List.map fun t : Tab => t.n) N.ts
    rw [List.map_map, List.map_map] at e
    exact e
  rw [this]; exact h
theorem NewSch.mem {H H' : Hp} {S : Addr} {s s0 : Sch} (N : NewSch H H' S s (s0.map (·.2))) {p : Ads × Tab} (hp : p ∈ s) : ∃ q ∈ s0, q.2 = p.2 := by
  have : p.2 ∈ s0.map (·.2) := by rw [← N.ts]; exact List.mem_map.mpr ⟨p, hp, rfl⟩
  obtain ⟨q, h1, h2⟩ := List.mem_map.mp this
  exact ⟨q, h1, h2⟩
theorem NewSch.g {H H' : Hp} {S : Addr} {s s0 : Sch} (N : NewSch H H' S s (s0.map (·.2))) (nm : (schN s0).Nodup) (k : ∀ p ∈ s0, TabSm p.2) (l : s0.length ≤ 100) : Gp H' (.ref S) (schG s0) (S :: schD s) := by
  have e : schG s = schG s0 := by unfold schG; rw [N.ts]
  rw [← e]
  refine sch_gp N.sk N.ds (N.nm nm) (fun p hp => ?_) ?_ (fun p hp => (N.fd p hp).2.1)
  · obtain ⟨q, h1, h2⟩ := N.mem hp
    rw [← h2]; exact k q h1
  · have := congrArg List.length N.ts
    simp only [List.length_map] at this
    omega
theorem DescAt.isLn {H : Hp} {a : Ads} {t : Tab} (h : DescAt H a t) (k : TabSm t) : ∀ b ∈ adL a, ∃ xs, H b = some (.lst xs) ∧ xs.length ≤ 40 := by
  obtain ⟨h1, ⟨xs, h2, r2⟩, ⟨ys, h3, r3⟩, h4, ⟨zs, h5, r5⟩⟩ := h
  intro b hb
  simp only [adL, List.mem_cons, List.not_mem_nil, or_false] at hb
  rcases hb with rfl | rfl | rfl | rfl
  · exact ⟨_, h2, by rw [r2.length, List.length_map]; exact k.co⟩
  · exact ⟨_, h3, by rw [r3.length, List.length_map]; exact k.ch⟩
  · exact ⟨_, h4, by rw [List.length_map]; exact k.un⟩
  · exact ⟨_, h5, by rw [r5.length, List.length_map]; exact k.rf⟩
theorem desc_part {H : Hp} {a : Ads} (h : H a.d = some (.dK (descD a))) {i : Nat} {x : V} (e : [V.str "columns", V.str "checks", V.str "uniques", V.str "references"][i]? = some x) : ∃ b ∈ adL a, DGet H a.d x (some (.ref b)) := by
  match i, e with
  | 0, e => cases e; exact ⟨a.c, by simp [adL], by have g := DGet.k (k := (Sum.inr ("columns" : Str) : Key)) h; rw [dd_c] at g; exact g⟩
  | 1, e => cases e; exact ⟨a.k, by simp [adL], by have g := DGet.k (k := (Sum.inr ("checks" : Str) : Key)) h; rw [dd_k] at g; exact g⟩
  | 2, e => cases e; exact ⟨a.u, by simp [adL], by have g := DGet.k (k := (Sum.inr ("uniques" : Str) : Key)) h; rw [dd_u] at g; exact g⟩
  | 3, e => cases e; exact ⟨a.r, by simp [adL], by have g := DGet.k (k := (Sum.inr ("references" : Str) : Key)) h; rw [dd_r] at g; exact g⟩
  | n + 4, e => simp at e
theorem sch_getK {H : Hp} {S : Addr} {s : Sch} (h : H S = some (.dK (schK s))) (nm : (schN s).Nodup) {p : Ads × Tab} (hp : p ∈ s) : DGet H S (.str p.2.n) (some (.ref p.1.d)) := by
  have g := DGet.k (k := (Sum.inr p.2.n : Key)) h
  rw [sch_get nm hp] at g
  exact g
end Lt
namespace Lt
open PySem L2 TL
open C8 (pss_cut)
def topS (i : Nat) : Stmt := PySem.Challenge.pw_lenstree_k07_schema_helpers.main.body.getD i (.Pass ⟨0, 0, 0, 0⟩)
structure Z (mg : Str → Option Value) : Prop where
  abs : mg "abs" = none
  int : mg "int" = none
  len : mg "len" = none
  range : mg "range" = none
  list : mg "list" = none
  str : mg "str" = none
  tuple : mg "tuple" = none
  sorted : mg "sorted" = none
  isinstance : mg "isinstance" = none
  dict : mg "dict" = none
  bool : mg "bool" = none
  any : mg "any" = none
abbrev s_law_tape : Stmt := topS 9
theorem sc_law_tape : FnScope ["script", "cell", "cells", "seed"] ["script"] (defScope s_law_tape) := ⟨rfl, rfl, rfl, by decide +kernel, rfl, by decide +kernel, by decide +kernel⟩
abbrev s_law_take : Stmt := topS 10
theorem sc_law_take : FnScope ["tape", "many", "drawn", "mixed"] ["tape", "many"] (defScope s_law_take) := ⟨rfl, rfl, rfl, by decide +kernel, rfl, by decide +kernel, by decide +kernel⟩
abbrev s_law_name : Stmt := topS 19
theorem sc_law_name : FnScope ["tape", "used", "letters", "signs", "size", "k", "name"] ["tape", "used"] (defScope s_law_name) := ⟨rfl, rfl, rfl, by decide +kernel, rfl, by decide +kernel, by decide +kernel⟩
abbrev s_law_table : Stmt := topS 21
theorem sc_law_table : FnScope ["columns"] ["columns"] (defScope s_law_table) := ⟨rfl, rfl, rfl, by decide +kernel, rfl, by decide +kernel, by decide +kernel⟩
abbrev s_law_columns : Stmt := topS 20
theorem sc_law_columns : FnScope ["tape", "used", "many", "kinds", "columns", "k"] ["tape", "used", "many"] (defScope s_law_columns) := ⟨rfl, rfl, rfl, by decide +kernel, rfl, by decide +kernel, by decide +kernel⟩
abbrev s_law_names : Stmt := topS 22
theorem sc_law_names : FnScope ["columns", "column"] ["columns"] (defScope s_law_names) := ⟨rfl, rfl, rfl, by decide +kernel, rfl, by decide +kernel, by decide +kernel⟩
abbrev s_law_integer : Stmt := topS 17
theorem sc_law_integer : FnScope ["tape", "choice"] ["tape"] (defScope s_law_integer) := ⟨rfl, rfl, rfl, by decide +kernel, rfl, by decide +kernel, by decide +kernel⟩
abbrev s_law_char : Stmt := topS 15
theorem sc_law_char : FnScope ["tape", "chars"] ["tape"] (defScope s_law_char) := ⟨rfl, rfl, rfl, by decide +kernel, rfl, by decide +kernel, by decide +kernel⟩
abbrev s_law_text : Stmt := topS 16
theorem sc_law_text : FnScope ["tape", "size", "k"] ["tape"] (defScope s_law_text) := ⟨rfl, rfl, rfl, by decide +kernel, rfl, by decide +kernel, by decide +kernel⟩
abbrev s_law_value : Stmt := topS 18
theorem sc_law_value : FnScope ["tape", "kind", "nullable"] ["tape", "kind", "nullable"] (defScope s_law_value) := ⟨rfl, rfl, rfl, by decide +kernel, rfl, by decide +kernel, by decide +kernel⟩
abbrev s_law_clause : Stmt := topS 23
theorem sc_law_clause : FnScope ["tape", "columns", "column", "operator"] ["tape", "columns"] (defScope s_law_clause) := ⟨rfl, rfl, rfl, by decide +kernel, rfl, by decide +kernel, by decide +kernel⟩
abbrev s_law_condition : Stmt := topS 24
theorem sc_law_condition : FnScope ["tape", "columns", "condition", "k", "many", "j"] ["tape", "columns"] (defScope s_law_condition) := ⟨rfl, rfl, rfl, by decide +kernel, rfl, by decide +kernel, by decide +kernel⟩
abbrev s_law_limits : Stmt := topS 25
theorem sc_law_limits : FnScope ["tape", "schema", "table", "columns", "names", "name", "others", "k", "column", "other"] ["tape", "schema", "table"] (defScope s_law_limits) := ⟨rfl, rfl, rfl, by decide +kernel, rfl, by decide +kernel, by decide +kernel⟩
abbrev s_law_schema : Stmt := topS 26
theorem sc_law_schema : FnScope ["tape", "least", "most", "used", "schema", "k", "table"] ["tape", "least", "most"] (defScope s_law_schema) := ⟨rfl, rfl, rfl, by decide +kernel, rfl, by decide +kernel, by decide +kernel⟩
abbrev s_law_copy : Stmt := topS 14
theorem sc_law_copy : FnScope ["thing", "result", "key", "item"] ["thing"] (defScope s_law_copy) := ⟨rfl, rfl, rfl, by decide +kernel, rfl, by decide +kernel, by decide +kernel⟩
abbrev s_copy_description : Stmt := topS 4
theorem sc_copy_description : FnScope ["description"] ["description"] (defScope s_copy_description) := ⟨rfl, rfl, rfl, by decide +kernel, rfl, by decide +kernel, by decide +kernel⟩
abbrev s_copy_schema : Stmt := topS 5
theorem sc_copy_schema : FnScope ["schema", "table"] ["schema"] (defScope s_copy_schema) := ⟨rfl, rfl, rfl, by decide +kernel, rfl, by decide +kernel, by decide +kernel⟩
abbrev s_law_is_integer : Stmt := topS 11
theorem sc_law_is_integer : FnScope ["actual"] ["actual"] (defScope s_law_is_integer) := ⟨rfl, rfl, rfl, by decide +kernel, rfl, by decide +kernel, by decide +kernel⟩
abbrev s_law_same_items : Stmt := topS 12
theorem sc_law_same_items : FnScope ["actual", "expected", "k"] ["actual", "expected"] (defScope s_law_same_items) := ⟨rfl, rfl, rfl, by decide +kernel, rfl, by decide +kernel, by decide +kernel⟩
abbrev s_law_same : Stmt := topS 13
theorem sc_law_same : FnScope ["actual", "expected", "key"] ["actual", "expected"] (defScope s_law_same) := ⟨rfl, rfl, rfl, by decide +kernel, rfl, by decide +kernel, by decide +kernel⟩
abbrev s_column_names : Stmt := topS 3
theorem sc_column_names : FnScope ["description", "column"] ["description"] (defScope s_column_names) := ⟨rfl, rfl, rfl, by decide +kernel, rfl, by decide +kernel, by decide +kernel⟩
abbrev s_law_uses : Stmt := topS 27
theorem sc_law_uses : FnScope ["description", "name", "check", "alternative", "clause", "reference"] ["description", "name"] (defScope s_law_uses) := ⟨rfl, rfl, rfl, by decide +kernel, rfl, by decide +kernel, by decide +kernel⟩
abbrev s_mentions : Stmt := topS 1
theorem sc_mentions : FnScope ["condition", "name", "alternative", "clause"] ["condition", "name"] (defScope s_mentions) := ⟨rfl, rfl, rfl, by decide +kernel, rfl, by decide +kernel, by decide +kernel⟩
abbrev s_is_used : Stmt := topS 6
theorem sc_is_used : FnScope ["description", "column", "check", "name", "_"] ["description", "column"] (defScope s_is_used) := ⟨rfl, rfl, rfl, by decide +kernel, rfl, by decide +kernel, by decide +kernel⟩
abbrev s_law_leads : Stmt := topS 28
theorem sc_law_leads : FnScope ["schema", "table", "name", "reference"] ["schema", "table"] (defScope s_law_leads) := ⟨rfl, rfl, rfl, by decide +kernel, rfl, by decide +kernel, by decide +kernel⟩
abbrev s_is_referenced : Stmt := topS 7
theorem sc_is_referenced : FnScope ["schema", "table", "name", "_", "other"] ["schema", "table"] (defScope s_is_referenced) := ⟨rfl, rfl, rfl, by decide +kernel, rfl, by decide +kernel, by decide +kernel⟩
abbrev s_law : Stmt := topS 29
theorem sc_law : FnScope ["script", "tape", "schema", "before", "twin", "table", "description", "names", "name", "part"] ["script"] (defScope s_law) := ⟨rfl, rfl, rfl, by decide +kernel, rfl, by decide +kernel, by decide +kernel⟩
section
variable {P : Program} {w : World} {K : PySem.W.Frag} {mg : Str → Option Value} {base : Heap}
theorem ok_law_tape {f : Addr} {fd : FuncData} (k : Kn K mg "_law_tape" s_law_tape ["script"] f fd) (z : Z mg) :
    Cal P w K mg base 1 "_law_tape" ["script"] (spTape K) f fd := k.cal (by
  refine k.F.ok sc_law_tape (fun vs H Q E h => ?_) (fun cdv A outer s H vs Q E hr h => ?_)
  · obtain ⟨a, ns, rfl, _⟩ := h; rfl
  · obtain ⟨a, ns, rfl, hS, h63, q⟩ := h
    have hu := hu_of hr
    refine ⟨_, (pss_cons (ps_setLc (i := 2) (own := [("cell", 1)]) (g := gName 1) (tt := tYes) (by rfl) sc_law_tape.nd rfl rfl (sw_true rfl rfl rfl (by decide +kernel)) (pi_list (pv 0)) (blkOk_by (own := [("cell", 1)]) (N := ["script", "cell", "cells", "seed"]) (sc := defScope s_law_tape) (by decide +kernel)) (fun _ _ _ _ _ => pg_name (i := 1) sc_law_tape.nd rfl (Or.inl rfl)) (fun _ _ _ _ _ => pts_nil) (fun _ _ _ _ _ => (pe_callB call_abs (by rfl) z.abs (by decide +kernel) (pa_cons (pe_callTy call_int1 (by rfl) z.int (by decide +kernel) (pa_cons (pv 1) pa_nil)) pa_nil))))
        (pss_cons (ps_set (i := 3) sc_law_tape.nd rfl (Or.inl rfl) pe_int)
        (pss_cons (ps_for PassesOwn.never rfl (pi_list (pv 2)) (pg_name (i := 1) sc_law_tape.nd rfl (Or.inl rfl))
        (pss_one (ps_set (i := 3) sc_law_tape.nd rfl (Or.inl rfl) (pe_op op_mod (pe_callTy call_int1 (by rfl) z.int (by decide +kernel) (pa_cons (pe_op op_add (pe_op op_mul (pv 3) pe_int) (pv 1)) pa_nil)) pe_int))))
        (pss_one (ps_ret (pe_disp (pps_cons pe_str (pv 2) (pps_cons pe_str pe_int (pps_cons pe_str pe_int (pps_cons pe_str (pv 3) (pps_cons pe_str pe_int pps_nil))))) (by rfl) (by rfl) (fun z => by cases z) (by decide))))))), ?_⟩
    refine ⟨_, rfl, a, rfl, ⟨_, hS⟩, fun D hD => lc_list (K := K) (a := a) (xs := ns.map V.int) (fun i H' => ∃ cs : List Int, H' D = some (.lst (cs.map V.int)) ∧ cs.length = i ∧ (∀ x ∈ cs, (0 : Int) ≤ x) ∧ Same H H') ⟨[], upd_same, rfl, (by intro x hx; cases hx), same_new hD _⟩ (fun i H' _ ⟨_, _, _, _, s1⟩ => s1.seq hS) ?_ ?_⟩
    · rintro i x H1 hi ⟨cs, hc, hl, hn, s1⟩
      obtain ⟨z, rfl, hz⟩ := int_at hi
      have hi63 : i < ns.length := (List.getElem?_eq_some_iff.mp hz).1
      refine ⟨rfl, _, rfl, .inl ⟨z, rfl, z, rfl, _, hc, (by rw [List.length_map]; exact small1000 (by omega)), cs ++ [if z < 0 then -z else z], ?_, by simp [hl], ?_, same_upd hD _ s1⟩⟩
      · rw [upd_same, List.map_append]; rfl
      · intro y hy
        rcases List.mem_append.mp hy with hy | hy
        · exact hn y hy
        · rw [List.mem_singleton.mp hy]
          by_cases h0 : z < 0
          · rw [if_pos h0]; omega
          · rw [if_neg h0]; omega
    · rintro H1 ⟨cs, hc, hl, hn, s1⟩
      refine ⟨_, rfl, D, rfl, ⟨_, SqL.of hc⟩, for_list (K := K) (a := D) (xs := cs.map V.int) (fun i σ H2 => ∃ v s, σ = [some (.ref a), v, some (.ref D), some (.int s)] ∧ H2 = H1) ⟨none, 7, rfl, rfl⟩ (fun i σ H2 _ ⟨_, _, _, e⟩ => by rw [e]; exact SqL.of hc) ?_ ?_⟩
      · rintro i x σ H2 hi ⟨v, s, rfl, rfl⟩
        obtain ⟨z, rfl, hz⟩ := int_at hi
        refine ⟨_, rfl, _, _, rfl, rfl, .inr ⟨by decide, by decide⟩, _, rfl, _, _, rfl, rfl, .inl ⟨_, rfl, _, _, rfl, rfl, (by show (0 : Int) < 2147483647; decide), ?_⟩⟩
        exact ⟨_, _, rfl, rfl⟩
      · rintro σ H2 ⟨v, s, rfl, rfl⟩
        refine fun p hp => ⟨_, rfl, _, rfl, upd_same, tk D 0 0 s 0, rfl, (by show 5 ≤ 15; decide), ?_⟩
        have hp0 : H p = none := s1.free hp
        refine q p D cs _ ⟨⟨0, 0, s, 0, by rw [upd_same, merge_tk], Int.le_refl _, Int.le_refl _⟩, ?_, hn⟩ (same_upd hp0 _ (same_upd hp0 _ s1)) hp0
        rw [upd_ne (ne_of_none hc hp), upd_ne (ne_of_none hc hp)]
        exact hc)
theorem ok_law_take {f : Addr} {fd : FuncData} (k : Kn K mg "_law_take" s_law_take ["tape", "many"] f fd) (z : Z mg) :
    Cal P w K mg base 1 "_law_take" ["tape", "many"] (spTake) f fd := k.cal (by
  refine k.F.ok sc_law_take (fun vs H Q E h => ?_) (fun cdv A outer s H vs Q E hr h => ?_)
  · obtain ⟨t, c, cs, many, rfl, _⟩ := h; rfl
  · obtain ⟨t, c, cs, many, rfl, T, h0, h9, q⟩ := h
    have hu := hu_of hr
    have cne : c ≠ t := T.ne
    obtain ⟨⟨a, l, s0, m, hd, ha, hl⟩, hc, hn⟩ := id T
    refine ⟨_, (pss_cut (ps_if (PW.pt (pw_and (pt_cmpR op_eq (pe_dget hu (pv 0) pe_str (fun _ _ => rfl)) pe_int (nomark _)) (pw_and1 (pt_cmpR op_lt (pe_dget hu (pv 0) pe_str (fun _ _ => rfl)) (pe_callB call_len_seq (by rfl) z.len (by decide +kernel) (pa_cons (pe_dget hu (pv 0) pe_str (fun _ _ => rfl)) pa_nil)) (nomark _))))) (pss_cons (ps_dput hu (pv 0) pe_str (pe_ix ix_list (pe_dget hu (pv 0) pe_str (fun _ _ => rfl)) (pe_dget hu (pv 0) pe_str (fun _ _ => rfl)) (fun _ _ => rfl)) rfl)
        (pss_one (ps_dput hu (pv 0) pe_str (pe_op op_add (pe_dget hu (pv 0) pe_str (fun _ _ => rfl)) pe_int) rfl))) pss_nil)
        (pss_cons (ps_if (pt_cmpR op_gt (pe_dget hu (pv 0) pe_str (fun _ _ => rfl)) pe_int (nomark _)) (pss_cons (ps_set (i := 2) sc_law_take.nd rfl (Or.inl rfl) (pe_op op_mod (pe_callTy call_int1 (by rfl) z.int (by decide +kernel) (pa_cons (pe_dget hu (pv 0) pe_str (fun _ _ => rfl)) pa_nil)) (pv 1)))
        (pss_cons (ps_dput hu (pv 0) pe_str (pe_op op_fdivW (pe_dget hu (pv 0) pe_str (fun _ _ => rfl)) (pv 1)) rfl)
        (pss_one (ps_ret (pv 2))))) pss_nil)
        (pss_cons (ps_dput hu (pv 0) pe_str (pe_op op_add (pe_dget hu (pv 0) pe_str (fun _ _ => rfl)) pe_int) rfl)
        (pss_cons (ps_set (i := 3) sc_law_take.nd rfl (Or.inl rfl) (pe_op op_mod (pe_callTy call_int1 (by rfl) z.int (by decide +kernel) (pa_cons (pe_op op_add (pe_op op_mul (pe_dget hu (pv 0) pe_str (fun _ _ => rfl)) pe_int) (pe_op op_mul (pe_dget hu (pv 0) pe_str (fun _ _ => rfl)) pe_int)) pa_nil)) pe_int))
        (pss_cons (ps_set (i := 3) sc_law_take.nd rfl (Or.inl rfl) (pe_op op_mod (pe_callTy call_int1 (by rfl) z.int (by decide +kernel) (pa_cons (pe_op op_add (pe_op op_add (pe_op op_mul (pv 3) (pv 3)) (pe_op op_mul (pe_dget hu (pv 0) pe_str (fun _ _ => rfl)) pe_int)) pe_int) pa_nil)) pe_int))
        (pss_one (ps_ret (pe_op op_mod (pe_callTy call_int1 (by rfl) z.int (by decide +kernel) (pa_cons (pv 3) pa_nil)) (pv 1))))))))), ?_⟩
    refine ⟨fun σ' H' => ∃ a l m : Int, σ' = [some (.ref t), some (.int many), none, none] ∧ H' t = some (.dK (tk c a l s0 m)) ∧ 0 ≤ a ∧ 0 ≤ l ∧ SameX t H H', ?_, ?_⟩
    · refine ⟨_, rfl, t, .int l, rfl, d_left hd, rfl, _, rfl, ?_⟩
      refine ite2 (fun e0 => ?_) (fun e0 => ?_)
      · refine ⟨_, rfl, t, .int a, rfl, d_at hd, _, rfl, t, .ref c, rfl, d_cells hd, c, _, rfl, .inl (SqL.of hc), _, _, rfl, rfl, _, rfl, ?_⟩
        refine ite2 (fun e1 => ?_) (fun e1 => ?_)
        · have e2 : a < (((cs.map V.int).length : Nat) : Int) := of_decide_eq_true e1
          rw [List.length_map] at e2
          have hk : a.toNat < cs.length := by omega
          have hat : atI (cs.map V.int) a = some (.int cs[a.toNat]) := at_of (j := a.toNat) (by omega) (by rw [List.getElem?_map, List.getElem?_eq_getElem hk]; rfl)
          have hx : 0 ≤ cs[a.toNat] := hn _ (List.getElem_mem hk)
          refine ⟨_, rfl, t, .ref c, rfl, d_cells hd, _, rfl, t, .int a, rfl, d_at hd, c, _, a, _, rfl, rfl, SqL.of hc, hat, _, rfl, t, _, rfl, p_left hd _, ?_⟩
          refine ⟨_, rfl, t, .int a, rfl, d_at upd_same, _, _, rfl, rfl, _, rfl, t, _, rfl, p_at upd_same _, ?_⟩
          exact ⟨a + 1, _, m, rfl, upd_same, by omega, hx, (SameX.upd _).trans (SameX.upd _)⟩
        · exact ⟨a, l, m, rfl, hd, ha, hl, SameX.refl _ _⟩
      · exact ⟨a, l, m, rfl, hd, ha, hl, SameX.refl _ _⟩
    · rintro σ1 H1 ⟨a, l, m, rfl, hd, ha, hl, S1⟩
      have hc1 : H1 c = some (.lst (cs.map V.int)) := S1 _ _ hc cne
      refine ⟨_, rfl, t, .int l, rfl, d_left hd, _, _, rfl, rfl, _, rfl, ?_⟩
      refine ite2 (fun e0 => ?_) (fun e0 => ?_)
      · refine ⟨_, rfl, t, .int l, rfl, d_left hd, .inl ⟨_, rfl, _, rfl, _, _, rfl, rfl, h0, ?_⟩⟩
        refine ⟨_, rfl, t, .int l, rfl, d_left hd, _, rfl, _, _, rfl, rfl, wide_div h0 h9 (by decide) (by decide), _, rfl, t, _, rfl, p_left hd _, ?_⟩
        refine ⟨_, rfl, ?_⟩
        refine q _ _ (Int.emod_nonneg _ (by omega)) (Int.emod_lt_of_pos _ h0) ⟨⟨a, _, s0, m, upd_same, ha, Int.ediv_nonneg hl (by omega)⟩, by rw [upd_ne cne]; exact hc1, hn⟩ (S1.trans (SameX.upd _))
      · refine ⟨_, rfl, t, .int m, rfl, d_salt hd, _, _, rfl, rfl, _, rfl, t, _, rfl, p_salt hd _, ?_⟩
        have hd2 : upd H1 t (.dK (tk c a l s0 (m + 1))) t = some (.dK (tk c a l s0 (m + 1))) := upd_same
        refine ⟨_, rfl, t, .int s0, rfl, d_seed hd2, _, _, rfl, rfl, .inr ⟨by decide, by decide⟩, _, rfl, t, .int _, rfl, d_salt hd2, _, _, rfl, rfl, .inr ⟨by decide, by decide⟩, _, _, rfl, rfl, .inl ⟨_, rfl, _, _, rfl, rfl, (by show (0 : Int) < 2147483647; decide), ?_⟩⟩
        generalize hmx : (s0 * 48271 + (m + 1) * 69621) % 2147483647 = mx
        have b1 : 0 ≤ mx := by rw [← hmx]; exact Int.emod_nonneg _ (by decide)
        have b2 : mx < 2147483647 := by rw [← hmx]; exact Int.emod_lt_of_pos _ (by decide)
        refine ⟨_, rfl, _, rfl, _, _, rfl, rfl, .inl ⟨by omega, by omega⟩, _, rfl, t, .int _, rfl, d_salt hd2, _, _, rfl, rfl, .inr ⟨by decide, by decide⟩, _, _, rfl, rfl, _, _, rfl, rfl, .inl ⟨_, rfl, _, _, rfl, rfl, (by show (0 : Int) < 2147483399; decide), ?_⟩⟩
        refine ⟨_, rfl, .inl ⟨_, rfl, _, rfl, _, _, rfl, rfl, h0, ?_⟩⟩
        exact q _ _ (Int.emod_nonneg _ (by omega)) (Int.emod_lt_of_pos _ h0) ⟨⟨a, l, s0, m + 1, hd2, ha, hl⟩, by rw [upd_ne cne]; exact hc1, hn⟩ (S1.trans (SameX.upd _)))

theorem lt_len : ("abcdefghijklmnopqrstuvwxyz" : Str).cps.toList.length = 26 := by decide +kernel
theorem lt_at : ∀ j : Nat, j < 26 → ("abcdefghijklmnopqrstuvwxyz" : Str).cps.toList[j]? = some (97 + j) := by decide +kernel
theorem lt_ok : ∀ ch ∈ ("abcdefghijklmnopqrstuvwxyz" : Str).cps.toList, 97 ≤ ch ∧ ch ≤ 122 := by decide +kernel
theorem sg_len : (("abcdefghijklmnopqrstuvwxyz" : Str) ++ ("0123456789_" : Str)).cps.toList.length = 37 := by decide +kernel
theorem sg_ok : ∀ ch ∈ (("abcdefghijklmnopqrstuvwxyz" : Str) ++ ("0123456789_" : Str)).cps.toList, nmCh ch := by decide +kernel
theorem ok_law_name {f : Addr} {fd : FuncData} (k : Kn K mg "_law_name" s_law_name ["tape", "used"] f fd) (z : Z mg)
    {g_law_take : Addr} {gd_law_take : FuncData} (c_law_take : Cal P w K mg base 1 "_law_take" ["tape", "many"] (spTake) g_law_take gd_law_take) :
    Cal P w K mg base 2 "_law_name" ["tape", "used"] (spName) f fd := k.cal (by
  refine k.F.ok sc_law_name (fun vs H Q E h => ?_) (fun cdv A outer s H vs Q E hr h => ?_)
  · obtain ⟨t, c, u, cs, us, rfl, _⟩ := h; rfl
  · obtain ⟨t, c, u, cs, us, rfl, T, hu0, huc, hl, q⟩ := h
    have hut : u ≠ t := T.notL hu0
    refine ⟨_, (pss_cons (ps_set (i := 2) sc_law_name.nd rfl (Or.inl rfl) pe_str)
        (pss_cons (ps_set (i := 3) sc_law_name.nd rfl (Or.inr rfl) (pe_op op_add_str (pv 2) pe_str))
        (pss_cons (ps_set (i := 4) sc_law_name.nd rfl (Or.inl rfl) (pe_call c_law_take.G (hr.mono (by decide)) (by rfl) c_law_take.m c_law_take.kp c_law_take.b .nil pass0 (pa_cons (pv 0) (pa_cons pe_int pa_nil))))
        (pss_cut (ps_if (pt_cmpR op_eq (pe_call c_law_take.G (hr.mono (by decide)) (by rfl) c_law_take.m c_law_take.kp c_law_take.b .nil pass0 (pa_cons (pv 0) (pa_cons pe_int pa_nil))) pe_int (nomark _)) (pss_one (ps_set (i := 4) sc_law_name.nd rfl (Or.inl rfl) pe_int)) pss_nil)
        (pss_cons (ps_set (i := 6) sc_law_name.nd rfl (Or.inl rfl) (pe_op op_add_str (pe_ix ix_str (pv 2) (pe_call c_law_take.G (hr.mono (by decide)) (by rfl) c_law_take.m c_law_take.kp c_law_take.b .nil pass0 (pa_cons (pv 0) (pa_cons pe_int pa_nil))) (fun _ _ => rfl)) (pe_join pe_str (pe_lc (own := [("k", 5)]) (g := gName 5) (tt := tYes) (by rfl) sc_law_name.nd (pi_range1 (by rfl) z.range (pa_cons (pv 4) pa_nil)) (blkOk_by (own := [("k", 5)]) (N := ["tape", "used", "letters", "signs", "size", "k", "name"]) (sc := defScope s_law_name) (by decide +kernel)) (fun _ _ _ _ _ => pg_name (i := 5) sc_law_name.nd rfl (Or.inl rfl)) (fun _ _ _ _ _ => pts_nil) (fun _ _ _ _ _ => (pe_ix ix_str (pv 3) (pe_call c_law_take.G (hr.mono (by decide)) (by rfl) c_law_take.m c_law_take.kp c_law_take.b .nil pass0 (pa_cons (pv 0) (pa_cons pe_int pa_nil))) (fun _ _ => rfl)))))))
        (pss_cons (ps_for PassesOwn.never rfl (pi_range1 (by rfl) z.range (pa_cons pe_int pa_nil)) (pg_name (i := 5) sc_law_name.nd rfl (Or.inl rfl))
        (pss_one (ps_if (pt_cmpR op_in_seq (pv 6) (pv 1) (by rfl)) (pss_one (ps_set (i := 6) sc_law_name.nd rfl (Or.inl rfl) (pe_op op_add_str (pe_ix ix_str (pv 2) (pv 5) (fun _ _ => rfl)) (pe_slice sl_str (pv 6) po_none (po_some pe_int))))) pss_nil)))
        (pss_cons (ps_expr (pe_bm PySem.F.plainAttrs_list PySem.F.slot_list_append PySem.F.type_list_append mt_append (pv 1) (pa_cons (pv 6) pa_nil)))
        (pss_one (ps_ret (pv 6)))))))))), ?_⟩
    refine ⟨_, rfl, _, _, rfl, rfl, (by decide +kernel), ?_⟩
    refine ⟨_, rfl, t, c, cs, 4, rfl, T, by decide, by decide +kernel, fun d H1 d0 d1 T1 s1 => ?_⟩
    refine ⟨fun σ' H' => ∃ n : Int, σ' = [some (.ref t), some (.ref u), some (.str "abcdefghijklmnopqrstuvwxyz"), some (.str (("abcdefghijklmnopqrstuvwxyz" : Str) ++ ("0123456789_" : Str))), some (.int n), none, none] ∧ 0 ≤ n ∧ n ≤ 19 ∧ TapeAt H' t c cs ∧ SameX t H H', ?_, ?_⟩
    · refine ⟨_, rfl, t, c, cs, 9, rfl, T1, by decide, by decide +kernel, fun e H2 e0 e1 T2 s2 => ⟨rfl, _, rfl, ?_⟩⟩
      refine ifD (fun _ => ?_) (fun _ => ?_)
      · exact ⟨19, rfl, by decide, by decide, T2, s1.trans s2⟩
      · exact ⟨d, rfl, d0, by omega, T2, s1.trans s2⟩
    rintro σ2 H2 ⟨n, rfl, n0, n1, T2, s2⟩
    refine ⟨_, rfl, _, rfl, t, c, cs, 26, rfl, T2, by decide, by decide +kernel, fun e H3 e0 e1 T3 s3 => ?_⟩
    obtain ⟨ch0, h1, h2⟩ := at_in (xs := ("abcdefghijklmnopqrstuvwxyz" : Str).cps.toList) e0 (by rw [lt_len]; exact e1)
    refine ⟨_, _, ch0, rfl, rfl, (by decide +kernel), h1, ?_⟩
    refine ⟨⟨_, rfl⟩, _, rfl, n, rfl, by omega, by omega, fun D hD => lc_range (lo := 0) (n := n.toNat) (fun i H' => ∃ chs : List Nat, H' D = some (.lst ((chs.map one).map V.str)) ∧ chs.length = i ∧ (∀ x ∈ chs, nmCh x) ∧ TapeAt H' t c cs ∧ SameX t H3 H') ?_ ?_ ?_⟩
    · exact ⟨[], upd_same, rfl, (by intro x hx; cases hx), T3.mono (same_new hD _), SameX.of (same_new hD _)⟩
    · rintro i H4 hi ⟨chs, hc, hl', hn', T4, s4⟩
      have hDt := T3.fresh hD
      refine ⟨rfl, _, rfl, _, rfl, t, c, cs, 37, rfl, T4, by decide, by decide +kernel, fun g H5 g0 g1 T5 s5 => ?_⟩
      obtain ⟨ch, k1, k2⟩ := at_in (xs := (("abcdefghijklmnopqrstuvwxyz" : Str) ++ ("0123456789_" : Str)).cps.toList) g0 (by rw [sg_len]; exact g1)
      refine ⟨_, _, _, rfl, rfl, (by decide +kernel), k1, _, s5 _ _ hc hDt.1, (by rw [List.length_map, List.length_map]; exact small1000 (by omega)), chs ++ [ch], ?_, by simp [hl'], ?_, T5.upd hDt.1 hDt.2, samex_upd hD _ (s4.trans s5)⟩
      · rw [upd_same, List.map_append, List.map_append]; rfl
      · intro y hy
        rcases List.mem_append.mp hy with hy | hy
        · exact hn' y hy
        · rw [List.mem_singleton.mp hy]; exact sg_ok _ k2
    rintro H4 ⟨chs, hc, hl', hn', T4, s4⟩
    have hsum : ((chs.map one).map (·.length)).sum + (chs.map one).length * ("" : Str).length ≤ 16777216 := by
      have e0 : ("" : Str).length = 0 := by decide +kernel
      rw [sum_ones, e0, Nat.mul_zero]; omega
    have S4 : SameX t H H4 := s2.trans (s3.trans s4)
    have hu4 : H4 u = some (.lst (us.map V.str)) := S4 _ _ hu0 hut
    refine ⟨_, D, _, rfl, rfl, .inl (SqL.of hc), hsum, _, _, rfl, rfl, (by rw [len_joined]; exact Nat.le_of_lt (small1000 (by show 1 + _ ≤ _; omega))), ?_⟩
    have nz : nameOk (one ch0 ++ Txt.join ("" : Str) (chs.map one)) := by
      have et : tl (one ch0 ++ Txt.join ("" : Str) (chs.map one)) = ch0 :: chs := by rw [tl_append, tl_joined]; rfl
      refine ⟨?_, ⟨ch0, chs, et, lt_ok _ h2⟩, ?_⟩
      · rw [len_tl, et, List.length_cons]; omega
      · rw [et]
        intro x hx
        rcases List.mem_cons.mp hx with rfl | hx
        · have := lt_ok _ h2; unfold nmCh; omega
        · exact hn' x hx
    refine ⟨26, rfl, by decide, by decide, for_range (lo := 0) (n := 26) (fun i σ H' => ∃ v z, σ = [some (.ref t), some (.ref u), some (.str "abcdefghijklmnopqrstuvwxyz"), some (.str (("abcdefghijklmnopqrstuvwxyz" : Str) ++ ("0123456789_" : Str))), some (.int n), v, some (.str z)] ∧ H' = H4 ∧ nameOk z ∧ (z ∉ us ∨ Hit us i)) ⟨none, _, rfl, rfl, nz, .inr ⟨[], rfl, List.nodup_nil, fun v hv => by cases hv⟩⟩ ?_ ?_⟩
    · rintro i σ H' hi ⟨v, z0, rfl, rfl, nk, hit⟩
      refine ⟨_, rfl, _, rfl, u, _, rfl, .inl (SqL.of hu4), rfl, flat_strs us, _, rfl, ?_⟩
      show if inV (.str z0) (us.map V.str) = true then _ else _
      rw [inV_str]
      refine ifD (fun hin => ?_) (fun hout => ⟨_, z0, rfl, rfl, nk, .inl hout⟩)
      have hk : atI ("abcdefghijklmnopqrstuvwxyz" : Str).cps.toList (0 + (i : Int)) = some (97 + i) := at_ofN (z := 0 + (i : Int)) (j := i) (by omega) (lt_at i hi)
      have l1 := cutS_length z0 none (some 19)
      refine ⟨_, rfl, _, rfl, _, _, _, rfl, rfl, (by decide +kernel), hk, _, rfl, _, rfl, _, rfl, Nat.le_of_lt (small1000 (by have := nk.1; omega)), _, _, rfl, rfl, Nat.le_of_lt (small1000 (by show 1 + _ ≤ _; have := nk.1; omega)), ?_⟩
      have et : tl (one (97 + i) ++ cutS z0 none (some 19)) = (97 + i) :: tl (cutS z0 none (some 19)) := by rw [tl_append]; rfl
      have l2 : (cutS z0 none (some 19)).length ≤ 19 := by
        show (((z0.cps.toList.drop (HT.sIx z0.length 0 none)).take (HT.sIx z0.length z0.length (some 19) - HT.sIx z0.length 0 none)).toArray).size ≤ 19
        rw [List.size_toArray, List.length_take]
        have : HT.sIx z0.length z0.length (some 19) = min 19 z0.length := HT.sIx_nat _ _ 19
        rw [this]
        omega
      refine ⟨_, _, rfl, rfl, ⟨?_, ⟨97 + i, _, et, by omega, by omega⟩, ?_⟩, ?_⟩
      · rw [len_app]; show 1 + _ ≤ _; omega
      · show ∀ ch ∈ tl (one (97 + i) ++ cutS z0 none (some 19)), nmCh ch
        rw [et]
        intro x hx
        rcases List.mem_cons.mp hx with rfl | hx
        · unfold nmCh; omega
        · exact nk.2.2 x (cutS_sub _ hx)
      · rcases hit with hit | hit
        · exact absurd hin hit
        · exact hit.step et
    rintro σ H' ⟨v, z0, rfl, rfl, nk, hit⟩
    have hz0 : z0 ∉ us := by
      rcases hit with hit | hit
      · exact hit
      · exact absurd (hit.no (by omega)) (fun z => z)
    refine ⟨_, rfl, .inl ⟨rfl, _, SqL.of hu4⟩, _, rfl, u, _, _, rfl, rfl, hu4, (by rw [List.length_map]; exact small1000 (by omega)), ?_⟩
    refine ⟨_, rfl, ?_⟩
    refine q z0 _ nk hz0 (T4.upd hut huc.symm) ?_ (SameXY.updY _ (SameXY.ofX S4))
    rw [upd_same, List.map_append]
    rfl)
theorem ok_law_table {f : Addr} {fd : FuncData} (k : Kn K mg "_law_table" s_law_table ["columns"] f fd) (z : Z mg) :
    Cal P w K mg base 1 "_law_table" ["columns"] (spTable) f fd := k.cal (by
  refine k.F.ok sc_law_table (fun vs H Q E h => ?_) (fun cdv A outer s H vs Q E hr h => ?_)
  · obtain ⟨L, cols, rfl, _⟩ := h; rfl
  · obtain ⟨L, cols, rfl, ⟨xs, hL, rL⟩, q⟩ := h
    refine ⟨_, (pss_one (ps_ret (pe_disp (pps_cons pe_str (pe_callTy call_list_of (by rfl) z.list (by decide +kernel) (pa_cons (pv 0) pa_nil)) (pps_cons pe_str (pe_lst pa_nil) (pps_cons pe_str (pe_lst pa_nil) (pps_cons pe_str (pe_lst pa_nil) pps_nil)))) (by rfl) (by rfl) (fun z => by cases z) (by decide)))), ?_⟩
    refine fun p hp => ?_
    have Lp : L ≠ p := ne_of_none hL hp
    refine ⟨_, rfl, L, xs, rfl, .inl (SqL.of (by rw [upd_ne Lp]; exact hL)), fun c hc => ⟨(by show 0 ≤ sizeLine; decide), fun k hk => ⟨(by show 0 ≤ sizeLine; decide), fun u hu => ⟨(by show 0 ≤ sizeLine; decide), fun r hr' => ?_⟩⟩⟩⟩
    have m1 := same_new hc (.lst xs)
    have m2 := same_new hk (.lst [])
    have m3 := same_new hu (.lst [])
    have m4 := same_new hr' (.lst [])
    have kp : (upd (upd (upd (upd (upd H p (.dK [])) c (.lst xs)) k (.lst [])) u (.lst [])) r (.lst [])) p = some (.dK []) := m4 _ _ (m3 _ _ (m2 _ _ (m1 _ _ upd_same)))
    have kc : (upd (upd (upd (upd (upd H p (.dK [])) c (.lst xs)) k (.lst [])) u (.lst [])) r (.lst [])) c = some (.lst xs) := m4 _ _ (m3 _ _ (m2 _ _ upd_same))
    have kk : (upd (upd (upd (upd (upd H p (.dK [])) c (.lst xs)) k (.lst [])) u (.lst [])) r (.lst [])) k = some (.lst []) := m4 _ _ (m3 _ _ upd_same)
    have ku : (upd (upd (upd (upd (upd H p (.dK [])) c (.lst xs)) k (.lst [])) u (.lst [])) r (.lst [])) u = some (.lst []) := m4 _ _ upd_same
    have kr : (upd (upd (upd (upd (upd H p (.dK [])) c (.lst xs)) k (.lst [])) u (.lst [])) r (.lst [])) r = some (.lst []) := upd_same
    have S5 : Same H (upd (upd (upd (upd (upd H p (.dK [])) c (.lst xs)) k (.lst [])) u (.lst [])) r (.lst [])) := (same_new hp _).trans (m1.trans (m2.trans (m3.trans m4)))
    have ckn : c ≠ k := ne_of_none upd_same hk
    have cun : c ≠ u := ne_of_none (m2 _ _ upd_same) hu
    have crn : c ≠ r := ne_of_none (m3 _ _ (m2 _ _ upd_same)) hr'
    have kun : k ≠ u := ne_of_none upd_same hu
    have krn : k ≠ r := ne_of_none (m3 _ _ upd_same) hr'
    have urn : u ≠ r := ne_of_none upd_same hr'
    have fr1 : H c = none := (same_new hp _).free hc
    have fr2 : H k = none := (same_new hp _).free (m1.free hk)
    have fr3 : H u = none := (same_new hp _).free (m1.free (m2.free hu))
    have fr4 : H r = none := (same_new hp _).free (m1.free (m2.free (m3.free hr')))
    generalize hH : (upd (upd (upd (upd (upd H p (.dK [])) c (.lst xs)) k (.lst [])) u (.lst [])) r (.lst [])) = H5 at *
    refine ⟨kp, descD ⟨p, c, k, u, r⟩, rfl, (by show 4 ≤ 15; decide), ?_⟩
    rw [merge_desc]
    have np : ∀ b, (∃ ys, H5 b = some (.lst ys)) → b ≠ p := fun b ⟨ys, e⟩ => ne_of e kp (by intro z; cases z)
    have kt : KeepT H (upd H5 p (.dK (descD ⟨p, c, k, u, r⟩))) := (KeepT.of S5).trans (KeepT.upd fun ys z => by rw [kp] at z; cases z)
    refine q ⟨p, c, k, u, r⟩ _ (fun n => ⟨upd_same, ⟨xs, by rw [upd_ne (np _ ⟨_, kc⟩)]; exact kc, rL.mono kt⟩, ⟨[], by rw [upd_ne (np _ ⟨_, kk⟩)]; exact kk, .nil⟩, by rw [upd_ne (np _ ⟨_, ku⟩)]; exact ku, ⟨[], by rw [upd_ne (np _ ⟨_, kr⟩)]; exact kr, .nil⟩⟩) (same_upd hp _ S5) hp ?_ ?_
    · intro b hb
      simp only [adL, List.mem_cons, List.not_mem_nil, or_false] at hb
      rcases hb with rfl | rfl | rfl | rfl
      · exact fr1
      · exact fr2
      · exact fr3
      · exact fr4
    · simp only [adL, List.nodup_cons, List.mem_cons, List.not_mem_nil, or_false, not_or, not_false_eq_true, List.nodup_nil, and_true]
      exact ⟨⟨ckn, cun, crn⟩, ⟨kun, krn⟩, urn⟩)
theorem ok_law_columns {f : Addr} {fd : FuncData} (k : Kn K mg "_law_columns" s_law_columns ["tape", "used", "many"] f fd) (z : Z mg)
    {g_law_take : Addr} {gd_law_take : FuncData} (c_law_take : Cal P w K mg base 1 "_law_take" ["tape", "many"] (spTake) g_law_take gd_law_take)
    {g_law_name : Addr} {gd_law_name : FuncData} (c_law_name : Cal P w K mg base 2 "_law_name" ["tape", "used"] (spName) g_law_name gd_law_name) :
    Cal P w K mg base 3 "_law_columns" ["tape", "used", "many"] (spColumns) f fd := k.cal (by
  refine k.F.ok sc_law_columns (fun vs H Q E h => ?_) (fun cdv A outer s H vs Q E hr h => ?_)
  · obtain ⟨t, c, u, cs, us, m, rfl, _⟩ := h; rfl
  · obtain ⟨t, c, u, cs, us, m, rfl, T, hu0, huc, m0, m8, hl, q⟩ := h
    have hut : u ≠ t := T.notL hu0
    refine ⟨_, (pss_cons (ps_set (i := 3) sc_law_columns.nd rfl (Or.inl rfl) (pe_lst (pa_cons pe_str (pa_cons pe_str pa_nil))))
        (pss_cons (ps_set (i := 4) sc_law_columns.nd rfl (Or.inl rfl) (pe_lst (pa_cons (pe_tup (pa_cons (pe_call c_law_name.G (hr.mono (by decide)) (by rfl) c_law_name.m c_law_name.kp c_law_name.b .nil pass0 (pa_cons (pv 0) (pa_cons (pv 1) pa_nil))) (pa_cons (pe_ix ix_list (pv 3) (pe_call c_law_take.G (hr.mono (by decide)) (by rfl) c_law_take.m c_law_take.kp c_law_take.b .nil pass0 (pa_cons (pv 0) (pa_cons pe_int pa_nil))) (fun _ _ => rfl)) (pa_cons pe_bl pa_nil)))) pa_nil)))
        (pss_cons (ps_for PassesOwn.never rfl (pi_range1 (by rfl) z.range (pa_cons (pv 2) pa_nil)) (pg_name (i := 5) sc_law_columns.nd rfl (Or.inl rfl))
        (pss_one (ps_expr (pe_bm PySem.F.plainAttrs_list PySem.F.slot_list_append PySem.F.type_list_append mt_append (pv 4) (pa_cons (pe_tup (pa_cons (pe_call c_law_name.G (hr.mono (by decide)) (by rfl) c_law_name.m c_law_name.kp c_law_name.b .nil pass0 (pa_cons (pv 0) (pa_cons (pv 1) pa_nil))) (pa_cons (pe_ix ix_list (pv 3) (pe_call c_law_take.G (hr.mono (by decide)) (by rfl) c_law_take.m c_law_take.kp c_law_take.b .nil pass0 (pa_cons (pv 0) (pa_cons pe_int pa_nil))) (fun _ _ => rfl)) (pa_cons (pe_cmpR op_eq (pe_call c_law_take.G (hr.mono (by decide)) (by rfl) c_law_take.m c_law_take.kp c_law_take.b .nil pass0 (pa_cons (pv 0) (pa_cons pe_int pa_nil))) pe_int (nomark _)) pa_nil)))) pa_nil)))))
        (pss_one (ps_ret (pv 4)))))), ?_⟩
    refine ⟨(by show 2 ≤ sizeLine; decide), fun KL hKL => ?_⟩
    have TK := T.mono (same_new hKL (.lst [.str "int", .str "text"]))
    have fK := T.fresh hKL
    have uK : u ≠ KL := ne_of_none hu0 hKL
    have kinds : ∀ {d : Int}, 0 ≤ d → d < 2 → ∃ k : Str, atI [V.str ("int" : Str), V.str ("text" : Str)] d = some (.str k) ∧ (k = ("int" : Str) ∨ k = ("text" : Str)) := fun d0 d1 => by
      obtain ⟨v, h1, h2⟩ := at_in (xs := [V.str ("int" : Str), V.str ("text" : Str)]) d0 (by simpa using d1)
      simp only [List.mem_cons, List.not_mem_nil, or_false] at h2
      rcases h2 with rfl | rfl
      · exact ⟨_, h1, .inl rfl⟩
      · exact ⟨_, h1, .inr rfl⟩
    refine ⟨_, rfl, _, rfl, t, c, u, cs, us, rfl, TK, (by rw [upd_ne uK]; exact hu0), huc, by omega, fun n1 H1 nk1 nf1 T1 hu1 s1 => ?_⟩
    have hK1 := s1 _ _ upd_same fK.1 uK.symm
    refine ⟨_, rfl, _, rfl, t, c, cs, 2, rfl, T1, by decide, by decide +kernel, fun d H2 d0 d1 T2 s2 => ?_⟩
    obtain ⟨k1, a1, b1⟩ := kinds d0 d1
    refine ⟨KL, _, d, _, rfl, rfl, SqL.of (s2 _ _ hK1 fK.1), a1, (by show 3 ≤ sizeLine; decide), fun p hp => ⟨(by show 1 ≤ sizeLine; decide), fun L hL => ?_⟩⟩
    have S2 : SameXY t u H H2 := (SameXY.of (same_new hKL _)).trans (s1.trans (SameXY.ofX s2))
    have hu2 : H2 u = some (.lst ((us ++ [n1]).map V.str)) := s2 _ _ hu1 hut
    have hK2 := s2 _ _ hK1 fK.1
    have e2 : Same H2 (upd (upd H2 p (.tup [.str n1, .str k1, .bl false])) L (.lst [.ref p])) := (same_new hp _).trans (same_new hL _)
    have hLt := (T2.mono (same_new hp (.tup [.str n1, .str k1, .bl false]))).fresh hL
    have uL : u ≠ L := ne_of_none (same_new hp _ _ _ hu2) hL
    have KLL : KL ≠ L := ne_of_none (same_new hp _ _ _ hK2) hL
    have hL2 : H2 L = none := by
      cases e : H2 L with
      | none => rfl
      | some o => have := same_new hp (.tup [.str n1, .str k1, .bl false]) _ _ e; rw [hL] at this; cases this
    have hL0 : H L = none := by
      cases e : H L with
      | none => rfl
      | some o => have := S2 _ _ e hLt.1 uL.symm; rw [hL2] at this; cases this
    refine ⟨_, rfl, m, rfl, by omega, by omega, for_range (lo := 0) (n := m.toNat) (fun i σ H' => ∃ v cols xs, σ = [some (.ref t), some (.ref u), some (.int m), some (.ref KL), some (.ref L), v] ∧ H' L = some (.lst xs) ∧ TpL H' xs (cols.map colD) ∧ cols.length = i + 1 ∧ ColsOk us cols ∧ TapeAt H' t c cs ∧ H' u = some (.lst ((us ++ colNs cols).map V.str)) ∧ H' KL = some (.lst [.str "int", .str "text"]) ∧ SameXY t u H H') ?_ ?_ ?_⟩
    · refine ⟨none, [⟨n1, k1, false⟩], [.ref p], rfl, upd_same, .cons (col_mk (by rw [upd_ne (ne_of_none upd_same hL)]; exact upd_same)) .nil, rfl, ⟨?_, ?_, ?_, ?_⟩, T2.mono e2, e2 _ _ hu2, e2 _ _ hK2, S2.trans (SameXY.of e2)⟩
      · show ([n1] : List Str).Nodup; simp
      · intro n hn
        have : n = n1 := by simpa [colNs] using hn
        subst this
        exact ⟨nf1, nk1⟩
      · intro cc hc
        have : cc = ⟨n1, k1, false⟩ := by simpa using hc
        subst this
        exact b1
      · intro cc hc
        have : cc = ⟨n1, k1, false⟩ := by simpa using hc.symm
        subst this
        rfl
    · rintro i σ H3 hi ⟨v, cols, xs, rfl, h3, r3, l3, C3, T3, u3, K3, s3⟩
      have hlen : (us ++ colNs cols).length ≤ 25 := by rw [List.length_append]; unfold colNs; rw [List.length_map]; omega
      refine ⟨_, rfl, .inl ⟨rfl, _, SqL.of h3⟩, ?_⟩
      refine ⟨_, rfl, _, rfl, t, c, u, cs, us ++ colNs cols, rfl, T3, u3, huc, hlen, fun n4 H4 nk4 nf4 T4 hu4 s4 => ?_⟩
      have h4 := s4 _ _ h3 (T3.notL h3) uL.symm
      have K4 := s4 _ _ K3 fK.1 uK.symm
      have r4 := r3.mono (KeepT.ofXY T3 u3 s4)
      refine ⟨_, rfl, _, rfl, t, c, cs, 2, rfl, T4, by decide, by decide +kernel, fun d H5 d0 d1 T5 s5 => ?_⟩
      obtain ⟨k5, a5, b5⟩ := kinds d0 d1
      have K5 := s5 _ _ K4 fK.1
      refine ⟨KL, _, d, _, rfl, rfl, SqL.of K5, a5, ?_⟩
      refine ⟨_, rfl, t, c, cs, 2, rfl, T5, by decide, by decide +kernel, fun e H6 e0 e1 T6 s6 => ?_⟩
      have s46 : SameXY t u H3 H6 := s4.trans ((SameXY.ofX s5).trans (SameXY.ofX s6))
      have h6 := s6 _ _ (s5 _ _ h4 (T3.notL h3)) (T3.notL h3)
      have u6 := s6 _ _ (s5 _ _ hu4 hut) hut
      have K6 := s6 _ _ K5 fK.1
      have r6 := (r4.mono (KeepT.ofX T4 s5)).mono (KeepT.ofX T5 s6)
      refine ⟨rfl, (by show 3 ≤ sizeLine; decide), fun p6 hp6 => ?_⟩
      have m7 := same_new hp6 (.tup [.str n4, .str k5, .bl (decide (V.int e = V.int 1))])
      have nL : L ≠ p6 := ne_of_none h6 hp6
      refine ⟨L, xs, _, rfl, rfl, m7 _ _ h6, (by rw [r3.length, List.length_map]; exact small1000 (by omega)), ?_⟩
      have ku : KeepT (upd H6 p6 (.tup [.str n4, .str k5, .bl (decide (V.int e = V.int 1))])) (upd (upd H6 p6 (.tup [.str n4, .str k5, .bl (decide (V.int e = V.int 1))])) L (.lst (xs ++ [.ref p6]))) := KeepT.upd (fun ys z => by rw [m7 _ _ h6] at z; cases z)
      refine ⟨_, cols ++ [⟨n4, k5, decide (V.int e = V.int 1)⟩], xs ++ [.ref p6], rfl, upd_same, ?_, by simp [l3], ⟨?_, ?_, ?_, ?_⟩, (T6.mono m7).upd (T3.notL h3) (fun z => by subst z; exact hLt.2 rfl), ?_, ?_, ?_⟩
      · rw [List.map_append]
        exact TpL.snoc ((r6.mono (KeepT.of m7)).mono ku) (col_mk (ku _ _ upd_same))
      · unfold colNs
        rw [List.map_append]
        refine List.nodup_append.mpr ⟨C3.nd, by simp, ?_⟩
        intro a ha b hb
        have : b = n4 := by simpa using hb
        subst this
        rintro rfl
        exact nf4 (List.mem_append.mpr (.inr ha))
      · intro n hn
        unfold colNs at hn
        rw [List.map_append] at hn
        rcases List.mem_append.mp hn with hn | hn
        · exact C3.fr n hn
        · have : n = n4 := by simpa using hn
          subst this
          exact ⟨fun z => nf4 (List.mem_append.mpr (.inl z)), nk4⟩
      · intro cc hc
        rcases List.mem_append.mp hc with hc | hc
        · exact C3.kd cc hc
        · have : cc = ⟨n4, k5, decide (V.int e = V.int 1)⟩ := by simpa using hc
          subst this
          exact b5
      · intro cc hc
        rw [List.getElem?_append_left (by omega)] at hc
        exact C3.hd cc hc
      · have ec : colNs (cols ++ [⟨n4, k5, decide (V.int e = V.int 1)⟩]) = colNs cols ++ [n4] := by unfold colNs; rw [List.map_append]; rfl
        rw [upd_ne uL, m7 _ _ u6, ec, List.append_assoc]
      · rw [upd_ne KLL]; exact m7 _ _ K6
      · exact samexy_upd hL0 _ (s3.trans (s46.trans (SameXY.of m7)))
    · rintro σ H3 ⟨v, cols, xs, rfl, h3, r3, l3, C3, T3, u3, K3, s3⟩
      exact ⟨_, rfl, q L cols xs H3 hL0 h3 r3 (by omega) C3 T3 u3 s3⟩)
theorem ok_law_names {f : Addr} {fd : FuncData} (k : Kn K mg "_law_names" s_law_names ["columns"] f fd) (z : Z mg) :
    Cal P w K mg base 1 "_law_names" ["columns"] (spNames) f fd := k.cal (by
  refine k.F.ok sc_law_names (fun vs H Q E h => ?_) (fun cdv A outer s H vs Q E hr h => ?_)
  · obtain ⟨L, cols, rfl, _⟩ := h; rfl
  · obtain ⟨L, cols, rfl, C, hl, q⟩ := h
    refine ⟨_, (pss_one (ps_ret (pe_lc (own := [("column", 1)]) (g := gName 1) (tt := tYes) (by rfl) sc_law_names.nd (pi_list (pv 0)) (blkOk_by (own := [("column", 1)]) (N := ["columns", "column"]) (sc := defScope s_law_names) (by decide +kernel)) (fun _ _ _ _ _ => pg_name (i := 1) sc_law_names.nd rfl (Or.inl rfl)) (fun _ _ _ _ _ => pts_nil) (fun _ _ _ _ _ => (pe_ix (r := rIxT K) ix_tup (pv 1) pe_int (fun _ _ => rfl)))))), ?_⟩
    obtain ⟨xs, h1, h2⟩ := id C
    have hx : xs.length = cols.length := by rw [h2.length, List.length_map]
    refine ⟨_, rfl, L, rfl, ⟨_, SqL.of h1⟩, fun D hD => lc_list (K := K) (a := L) (xs := xs) (fun i H' => H' D = some (.lst (((colNs cols).take i).map V.str)) ∧ Same H H') ⟨upd_same, same_new hD _⟩ (fun i H' _ hh => SqL.of (hh.2 _ _ h1)) ?_ ?_⟩
    · rintro i x H1 hi ⟨hD1, s1⟩
      have hil : i < cols.length := by rw [← hx]; exact (List.getElem?_eq_some_iff.mp hi).1
      obtain ⟨xs', a, k1, k2, k3⟩ := C.get (List.getElem?_eq_getElem hil)
      rw [h1] at k1
      cases k1
      rw [hi] at k2
      cases k2
      refine ⟨rfl, _, rfl, a, _, 0, _, rfl, rfl, SqT.of (s1 _ _ k3), atI_nat (j := 0) rfl, _, hD1, (by rw [List.length_map, List.length_take]; exact small1000 (by omega)), ?_, same_upd hD _ s1⟩
      rw [upd_same, List.take_add_one]
      have : (colNs cols)[i]? = some cols[i].n := by unfold colNs; rw [List.getElem?_map, List.getElem?_eq_getElem hil]; rfl
      rw [this]
      simp
    · rintro H1 ⟨hD1, s1⟩
      have : (colNs cols).take xs.length = colNs cols := List.take_of_length_le (by unfold colNs; rw [List.length_map]; omega)
      rw [this] at hD1
      exact q D H1 hD s1 hD1)
theorem ok_law_integer {f : Addr} {fd : FuncData} (k : Kn K mg "_law_integer" s_law_integer ["tape"] f fd) (z : Z mg)
    {g_law_take : Addr} {gd_law_take : FuncData} (c_law_take : Cal P w K mg base 1 "_law_take" ["tape", "many"] (spTake) g_law_take gd_law_take) :
    Cal P w K mg base 2 "_law_integer" ["tape"] (spDraw (isInt (-999999999) 999999999)) f fd := k.cal (by
  refine k.F.ok sc_law_integer (fun vs H Q E h => ?_) (fun cdv A outer s H vs Q E hr h => ?_)
  · obtain ⟨t, c, cs, rfl, _⟩ := h; rfl
  · obtain ⟨t, c, cs, rfl, T, q⟩ := h
    refine ⟨_, (pss_cons (ps_set (i := 1) sc_law_integer.nd rfl (Or.inl rfl) (pe_call c_law_take.G (hr.mono (by decide)) (by rfl) c_law_take.m c_law_take.kp c_law_take.b .nil pass0 (pa_cons (pv 0) (pa_cons pe_int pa_nil))))
        (pss_cons (ps_if (pt_cmpR op_eq (pv 1) pe_int (nomark _)) (pss_one (ps_ret (pe_op op_sub (pe_call c_law_take.G (hr.mono (by decide)) (by rfl) c_law_take.m c_law_take.kp c_law_take.b .nil pass0 (pa_cons (pv 0) (pa_cons pe_int pa_nil))) pe_int))) pss_nil)
        (pss_cons (ps_if (pt_cmpR op_eq (pv 1) pe_int (nomark _)) (pss_one (ps_ret (pe_ix ix_list (pe_lst (pa_cons pe_int (pa_cons (pe_un un_neg pe_int) (pa_cons pe_int (pa_cons pe_int pa_nil))))) (pe_call c_law_take.G (hr.mono (by decide)) (by rfl) c_law_take.m c_law_take.kp c_law_take.b .nil pass0 (pa_cons (pv 0) (pa_cons pe_int pa_nil))) (fun _ _ => rfl)))) pss_nil)
        (pss_cons (ps_if (pt_cmpR op_eq (pv 1) pe_int (nomark _)) (pss_one (ps_ret (pe_un un_neg (pe_call c_law_take.G (hr.mono (by decide)) (by rfl) c_law_take.m c_law_take.kp c_law_take.b .nil pass0 (pa_cons (pv 0) (pa_cons pe_int pa_nil)))))) pss_nil)
        (pss_one (ps_ret (pe_call c_law_take.G (hr.mono (by decide)) (by rfl) c_law_take.m c_law_take.kp c_law_take.b .nil pass0 (pa_cons (pv 0) (pa_cons pe_int pa_nil))))))))), ?_⟩
    refine ⟨_, rfl, t, c, cs, 8, rfl, T, by decide, by decide +kernel, fun d H1 d0 d1 T1 s1 => ?_⟩
    refine ⟨_, rfl, rfl, _, rfl, ?_⟩
    refine ifD (fun _ => ?_) (fun _ => ?_)
    · refine ⟨_, rfl, t, c, cs, 1999999999, rfl, T1, by decide, by decide +kernel, fun e H2 e0 e1 T2 s2 => ⟨_, _, rfl, rfl, ?_⟩⟩
      exact q _ H2 ⟨_, by omega, by omega, rfl⟩ T2 (s1.trans s2)
    refine ⟨_, rfl, rfl, _, rfl, ?_⟩
    refine ifD (fun _ => ?_) (fun _ => ?_)
    · refine ⟨_, rfl, (by show 4 ≤ sizeLine; decide), fun L hL => ?_⟩
      refine ⟨_, rfl, t, c, cs, 4, rfl, T1.mono (same_new hL _), by decide, by decide +kernel, fun e H2 e0 e1 T2 s2 => ?_⟩
      obtain ⟨v, h1, h2⟩ := at_in (xs := [V.int 999999999, V.int (-999999999), V.int 999999998, V.int 0]) e0 (by simpa using e1)
      obtain ⟨n, rfl, n0, n1⟩ : ∃ n : Int, v = V.int n ∧ -999999999 ≤ n ∧ n ≤ 999999999 := by
        simp only [List.mem_cons, List.not_mem_nil, or_false] at h2
        rcases h2 with rfl | rfl | rfl | rfl <;> exact ⟨_, rfl, by decide, by decide⟩
      refine ⟨L, _, e, _, rfl, rfl, SqL.of (s2 _ _ upd_same (T1.fresh hL).1), h1, ?_⟩
      exact q _ H2 ⟨n, n0, n1, rfl⟩ T2 (s1.trans ((SameX.of (same_new hL _)).trans s2))
    refine ⟨_, rfl, rfl, _, rfl, ?_⟩
    refine ifD (fun _ => ?_) (fun _ => ?_)
    · refine ⟨_, rfl, t, c, cs, 12, rfl, T1, by decide, by decide +kernel, fun e H2 e0 e1 T2 s2 => ⟨_, rfl, ?_⟩⟩
      exact q _ H2 ⟨_, by omega, by omega, rfl⟩ T2 (s1.trans s2)
    · refine ⟨_, rfl, t, c, cs, 6, rfl, T1, by decide, by decide +kernel, fun e H2 e0 e1 T2 s2 => ?_⟩
      exact q _ H2 ⟨_, by omega, by omega, rfl⟩ T2 (s1.trans s2))

theorem chars_len : (((" !\"#$&'()*+,-./0123456789:;<=>?@ABCDEFGHIJKLMNOPQRSTUVWXYZ[\\]^" : Str) ++ ("_`abcdefghijklmnopqrstuvwxyz{|}~" : Str)).cps.toList).length = 94 := by decide +kernel
theorem chars_ok : ∀ c ∈ ((" !\"#$&'()*+,-./0123456789:;<=>?@ABCDEFGHIJKLMNOPQRSTUVWXYZ[\\]^" : Str) ++ ("_`abcdefghijklmnopqrstuvwxyz{|}~" : Str)).cps.toList, chOk c := by decide +kernel
theorem few_len : ("ab -07" : Str).cps.toList.length = 6 := by decide +kernel
theorem few_ok : ∀ c ∈ ("ab -07" : Str).cps.toList, chOk c := by decide +kernel
theorem ok_law_char {f : Addr} {fd : FuncData} (k : Kn K mg "_law_char" s_law_char ["tape"] f fd) (z : Z mg)
    {g_law_take : Addr} {gd_law_take : FuncData} (c_law_take : Cal P w K mg base 1 "_law_take" ["tape", "many"] (spTake) g_law_take gd_law_take) :
    Cal P w K mg base 2 "_law_char" ["tape"] (spDraw isChar) f fd := k.cal (by
  refine k.F.ok sc_law_char (fun vs H Q E h => ?_) (fun cdv A outer s H vs Q E hr h => ?_)
  · obtain ⟨t, c, cs, rfl, _⟩ := h; rfl
  · obtain ⟨t, c, cs, rfl, T, q⟩ := h
    refine ⟨_, (pss_cons (ps_set (i := 1) sc_law_char.nd rfl (Or.inl rfl) pe_str)
        (pss_cons (ps_set (i := 1) sc_law_char.nd rfl (Or.inl rfl) (pe_op op_add_str (pv 1) pe_str))
        (pss_cons (ps_if (pt_cmpR op_eq (pe_call c_law_take.G (hr.mono (by decide)) (by rfl) c_law_take.m c_law_take.kp c_law_take.b .nil pass0 (pa_cons (pv 0) (pa_cons pe_int pa_nil))) pe_int (nomark _)) (pss_one (ps_ret (pe_ix ix_str (pv 1) (pe_call c_law_take.G (hr.mono (by decide)) (by rfl) c_law_take.m c_law_take.kp c_law_take.b .nil pass0 (pa_cons (pv 0) (pa_cons pe_int pa_nil))) (fun _ _ => rfl)))) pss_nil)
        (pss_one (ps_ret (pe_ix ix_str pe_str (pe_call c_law_take.G (hr.mono (by decide)) (by rfl) c_law_take.m c_law_take.kp c_law_take.b .nil pass0 (pa_cons (pv 0) (pa_cons pe_int pa_nil))) (fun _ _ => rfl))))))), ?_⟩
    refine ⟨_, rfl, _, _, rfl, rfl, (by decide +kernel), ?_⟩
    refine ⟨_, rfl, t, c, cs, 3, rfl, T, by decide, by decide +kernel, fun d H1 d0 d1 T1 s1 => ⟨rfl, _, rfl, ?_⟩⟩
    refine ite2 (fun _ => ?_) (fun _ => ?_)
    · refine ⟨_, rfl, _, rfl, t, c, cs, 94, rfl, T1, by decide, by decide +kernel, fun e H2 e0 e1 T2 s2 => ?_⟩
      obtain ⟨ch, h1, h2⟩ := at_in (xs := ((" !\"#$&'()*+,-./0123456789:;<=>?@ABCDEFGHIJKLMNOPQRSTUVWXYZ[\\]^" : Str) ++ ("_`abcdefghijklmnopqrstuvwxyz{|}~" : Str)).cps.toList) e0 (by rw [chars_len]; exact e1)
      exact ⟨_, _, _, rfl, rfl, (by decide +kernel), h1, q _ H2 ⟨ch, chars_ok _ h2, rfl⟩ T2 (s1.trans s2)⟩
    · refine ⟨_, rfl, t, c, cs, 6, rfl, T1, by decide, by decide +kernel, fun e H2 e0 e1 T2 s2 => ?_⟩
      obtain ⟨ch, h1, h2⟩ := at_in (xs := ("ab -07" : Str).cps.toList) e0 (by rw [few_len]; exact e1)
      exact ⟨_, _, _, rfl, rfl, (by decide +kernel), h1, q _ H2 ⟨ch, few_ok _ h2, rfl⟩ T2 (s1.trans s2)⟩)
theorem ok_law_text {f : Addr} {fd : FuncData} (k : Kn K mg "_law_text" s_law_text ["tape"] f fd) (z : Z mg)
    {g_law_take : Addr} {gd_law_take : FuncData} (c_law_take : Cal P w K mg base 1 "_law_take" ["tape", "many"] (spTake) g_law_take gd_law_take)
    {g_law_char : Addr} {gd_law_char : FuncData} (c_law_char : Cal P w K mg base 2 "_law_char" ["tape"] (spDraw isChar) g_law_char gd_law_char) :
    Cal P w K mg base 3 "_law_text" ["tape"] (spDraw (isText 30)) f fd := k.cal (by
  refine k.F.ok sc_law_text (fun vs H Q E h => ?_) (fun cdv A outer s H vs Q E hr h => ?_)
  · obtain ⟨t, c, cs, rfl, _⟩ := h; rfl
  · obtain ⟨t, c, cs, rfl, T, q⟩ := h
    have ht : ∃ o, H t = some o := by obtain ⟨_, _, _, _, e, _⟩ := T.dk; exact ⟨_, e⟩
    refine ⟨_, (pss_cons (ps_set (i := 1) sc_law_text.nd rfl (Or.inl rfl) (pe_call c_law_take.G (hr.mono (by decide)) (by rfl) c_law_take.m c_law_take.kp c_law_take.b .nil pass0 (pa_cons (pv 0) (pa_cons pe_int pa_nil))))
        (pss_cut (ps_if (pt_cmpR op_eq (pe_call c_law_take.G (hr.mono (by decide)) (by rfl) c_law_take.m c_law_take.kp c_law_take.b .nil pass0 (pa_cons (pv 0) (pa_cons pe_int pa_nil))) pe_int (nomark _)) (pss_one (ps_set (i := 1) sc_law_text.nd rfl (Or.inl rfl) (pe_op op_add pe_int (pe_call c_law_take.G (hr.mono (by decide)) (by rfl) c_law_take.m c_law_take.kp c_law_take.b .nil pass0 (pa_cons (pv 0) (pa_cons pe_int pa_nil)))))) pss_nil)
        (pss_one (ps_ret (pe_join pe_str (pe_lc (own := [("k", 2)]) (g := gName 2) (tt := tYes) (by rfl) sc_law_text.nd (pi_range1 (by rfl) z.range (pa_cons (pv 1) pa_nil)) (blkOk_by (own := [("k", 2)]) (N := ["tape", "size", "k"]) (sc := defScope s_law_text) (by decide +kernel)) (fun _ _ _ _ _ => pg_name (i := 2) sc_law_text.nd rfl (Or.inl rfl)) (fun _ _ _ _ _ => pts_nil) (fun _ _ _ _ _ => (pe_call c_law_char.G (hr.mono (by decide)) (by rfl) c_law_char.m c_law_char.kp c_law_char.b .nil pass0 (pa_cons (pv 0) pa_nil))))))))), ?_⟩
    refine ⟨_, rfl, t, c, cs, 6, rfl, T, by decide, by decide +kernel, fun d H1 d0 d1 T1 s1 => ?_⟩
    refine ⟨fun σ H' => ∃ n : Int, σ = [some (.ref t), some (.int n), none] ∧ 0 ≤ n ∧ n ≤ 30 ∧ TapeAt H' t c cs ∧ SameX t H H', ?_, ?_⟩
    · refine ⟨_, rfl, t, c, cs, 12, rfl, T1, by decide, by decide +kernel, fun e H2 e0 e1 T2 s2 => ⟨rfl, _, rfl, ?_⟩⟩
      refine ite2 (fun _ => ?_) (fun _ => ?_)
      · refine ⟨_, rfl, t, c, cs, 6, rfl, T2, by decide, by decide +kernel, fun g H3 g0 g1 T3 s3 => ⟨_, _, rfl, rfl, _, rfl, by omega, by omega, T3, s1.trans (s2.trans s3)⟩⟩
      · exact ⟨d, rfl, d0, by omega, T2, s1.trans s2⟩
    · rintro σ H2 ⟨n, rfl, n0, n1, T2, s2⟩
      refine ⟨⟨_, rfl⟩, _, rfl, n, rfl, by omega, by omega, fun D hD => lc_range (lo := 0) (n := n.toNat) (fun i H' => ∃ chs : List Nat, H' D = some (.lst ((chs.map one).map V.str)) ∧ chs.length = i ∧ (∀ x ∈ chs, chOk x) ∧ TapeAt H' t c cs ∧ SameX t H H' ∧ (∀ b o, H2 b = some o → b ≠ t → H' b = some o)) ?_ ?_ ?_⟩
      · exact ⟨[], upd_same, rfl, (by intro x hx; cases hx), T2.mono (same_new hD _), s2.trans (SameX.of (same_new hD _)), fun b o e _ => same_new hD _ b o e⟩
      · rintro i H3 hi ⟨chs, hc, hl, hn, T3, s3, s3'⟩
        have hDt : D ≠ t := by
          obtain ⟨_, _, _, _, e, _⟩ := T2.dk
          intro z; subst z; rw [hD] at e; cases e
        refine ⟨rfl, _, rfl, t, c, cs, rfl, T3, fun v H4 ⟨ch, hch, e⟩ T4 s4 => ?_⟩
        subst e
        refine ⟨_, s4 _ _ hc hDt, (by rw [List.length_map, List.length_map]; exact small1000 (by omega)), chs ++ [ch], ?_, by simp [hl], ?_, ?_, ?_, ?_⟩
        · rw [upd_same, List.map_append, List.map_append]; rfl
        · intro y hy
          rcases List.mem_append.mp hy with hy | hy
          · exact hn y hy
          · rw [List.mem_singleton.mp hy]; exact hch
        · obtain ⟨a, l, s, m, h1, h2, h3⟩ := T4.dk
          have hDc : c ≠ D := by
            intro z; subst z
            have h5 := T2.ls
            rw [hD] at h5; cases h5
          exact ⟨⟨a, l, s, m, by rw [upd_ne hDt.symm]; exact h1, h2, h3⟩, by rw [upd_ne hDc]; exact T4.ls, T4.nn⟩
        · intro b o e ne
          have hb : b ≠ D := by
            intro z; subst z
            have := s2 _ _ e ne
            rw [hD] at this; cases this
          rw [upd_ne hb]; exact s4 _ _ (s3 _ _ e ne) ne
        · intro b o e ne
          rw [upd_ne (ne_of_none e hD)]; exact s4 _ _ (s3' _ _ e ne) ne
      · rintro H3 ⟨chs, hc, hl, hn, T3, s3, _⟩
        have hsum : ((chs.map one).map (·.length)).sum + (chs.map one).length * ("" : Str).length ≤ 16777216 := by
          have e0 : ("" : Str).length = 0 := by decide +kernel
          rw [sum_ones, e0, Nat.mul_zero]; omega
        refine ⟨_, D, _, rfl, rfl, .inl (SqL.of hc), hsum, ?_⟩
        exact q _ H3 ⟨_, by rw [len_joined]; omega, by rw [tl_joined]; exact hn, rfl⟩ T3 s3)
theorem ok_law_value {f : Addr} {fd : FuncData} (k : Kn K mg "_law_value" s_law_value ["tape", "kind", "nullable"] f fd) (z : Z mg)
    {g_law_take : Addr} {gd_law_take : FuncData} (c_law_take : Cal P w K mg base 1 "_law_take" ["tape", "many"] (spTake) g_law_take gd_law_take)
    {g_law_integer : Addr} {gd_law_integer : FuncData} (c_law_integer : Cal P w K mg base 2 "_law_integer" ["tape"] (spDraw (isInt (-999999999) 999999999)) g_law_integer gd_law_integer)
    {g_law_text : Addr} {gd_law_text : FuncData} (c_law_text : Cal P w K mg base 3 "_law_text" ["tape"] (spDraw (isText 30)) g_law_text gd_law_text) :
    Cal P w K mg base 4 "_law_value" ["tape", "kind", "nullable"] (spVal) f fd := k.cal (by
  refine k.F.ok sc_law_value (fun vs H Q E h => ?_) (fun cdv A outer s H vs Q E hr h => ?_)
  · obtain ⟨t, c, cs, kk, b, rfl, _⟩ := h; rfl
  · obtain ⟨t, c, cs, kk, b, rfl, T, q⟩ := h
    refine ⟨_, (pss_cut (ps_if (PW.pt (pw_and (pt_val (pv 2)) (pw_and1 (pt_cmpR op_eq (pe_call c_law_take.G (hr.mono (by decide)) (by rfl) c_law_take.m c_law_take.kp c_law_take.b .nil pass0 (pa_cons (pv 0) (pa_cons pe_int pa_nil))) pe_int (nomark _))))) (pss_one (ps_ret pe_non)) pss_nil)
        (pss_cons (ps_if (pt_cmpR op_eq (pv 1) pe_str (nomark _)) (pss_one (ps_ret (pe_call c_law_integer.G (hr.mono (by decide)) (by rfl) c_law_integer.m c_law_integer.kp c_law_integer.b .nil pass0 (pa_cons (pv 0) pa_nil)))) pss_nil)
        (pss_cons (ps_if (pt_cmpR op_eq (pe_call c_law_take.G (hr.mono (by decide)) (by rfl) c_law_take.m c_law_take.kp c_law_take.b .nil pass0 (pa_cons (pv 0) (pa_cons pe_int pa_nil))) pe_int (nomark _)) (pss_one (ps_ret (pe_op op_add_str (pe_ix ix_list (pe_lst (pa_cons pe_str (pa_cons pe_str (pa_cons pe_str (pa_cons pe_str pa_nil))))) (pe_call c_law_take.G (hr.mono (by decide)) (by rfl) c_law_take.m c_law_take.kp c_law_take.b .nil pass0 (pa_cons (pv 0) (pa_cons pe_int pa_nil))) (fun _ _ => rfl)) (pe_callTy call_str_int (by rfl) z.str (by decide +kernel) (pa_cons (pe_call c_law_integer.G (hr.mono (by decide)) (by rfl) c_law_integer.m c_law_integer.kp c_law_integer.b .nil pass0 (pa_cons (pv 0) pa_nil)) pa_nil))))) pss_nil)
        (pss_one (ps_ret (pe_call c_law_text.G (hr.mono (by decide)) (by rfl) c_law_text.m c_law_text.kp c_law_text.b .nil pass0 (pa_cons (pv 0) pa_nil))))))), ?_⟩
    refine ⟨fun σ' H' => σ' = [some (.ref t), some (.str kk), some (.bl b)] ∧ TapeAt H' t c cs ∧ SameX t H H', ?_, ?_⟩
    · refine ⟨_, rfl, b, rfl, ?_⟩
      cases b with
      | false => exact iteF ⟨rfl, T, SameX.refl _ _⟩
      | true =>
        refine iteT ⟨_, rfl, t, c, cs, 4, rfl, T, by decide, by decide +kernel, fun d H1 d0 d1 T1 s1 => ⟨rfl, _, rfl, ?_⟩⟩
        exact ifD (fun _ => q _ H1 (.inl ⟨rfl, rfl⟩) T1 s1) (fun _ => ⟨rfl, T1, s1⟩)
    rintro σ1 H1 ⟨rfl, T1, s1⟩
    refine ⟨_, rfl, rfl, _, rfl, ?_⟩
    refine ifD (fun hk => ?_) (fun hk => ?_)
    · refine ⟨_, rfl, t, c, cs, rfl, T1, fun v H2 hv T2 s2 => ?_⟩
      obtain ⟨i, i0, i1, rfl⟩ := hv
      exact q _ H2 (.inr (.inl ⟨V.str.inj hk, i, rfl, i0, i1⟩)) T2 (s1.trans s2)
    have hk' : kk ≠ ("int" : Str) := fun z => hk (congrArg V.str z)
    refine ⟨_, rfl, t, c, cs, 3, rfl, T1, by decide, by decide +kernel, fun d H2 d0 d1 T2 s2 => ⟨rfl, _, rfl, ?_⟩⟩
    refine ifD (fun _ => ?_) (fun _ => ?_)
    · refine ⟨(by show 4 ≤ sizeLine; decide), fun L hL => ?_⟩
      refine ⟨_, rfl, t, c, cs, 4, rfl, T2.mono (same_new hL _), by decide, by decide +kernel, fun e H3 e0 e1 T3 s3 => ?_⟩
      obtain ⟨v, h1, h2⟩ := at_in (xs := [V.str ("" : Str), V.str ("0" : Str), V.str ("-" : Str), V.str ("+" : Str)]) e0 (by simpa using e1)
      obtain ⟨y, rfl, hy, hyo⟩ : ∃ y : Str, v = V.str y ∧ y.length ≤ 1 ∧ ∀ c ∈ tl y, chOk c := by
        simp only [List.mem_cons, List.not_mem_nil, or_false] at h2
        rcases h2 with rfl | rfl | rfl | rfl
        · exact ⟨_, rfl, by decide +kernel, by decide +kernel⟩
        · exact ⟨_, rfl, by decide +kernel, by decide +kernel⟩
        · exact ⟨_, rfl, by decide +kernel, by decide +kernel⟩
        · exact ⟨_, rfl, by decide +kernel, by decide +kernel⟩
      refine ⟨L, _, e, _, rfl, rfl, SqL.of (s3 _ _ upd_same (T2.fresh hL).1), h1, ?_⟩
      refine ⟨_, rfl, t, c, cs, rfl, T3, fun v H4 hv T4 s4 => ?_⟩
      obtain ⟨i, i0, i1, rfl⟩ := hv
      obtain ⟨l1, l2⟩ := int_text i0 i1
      refine ⟨i, rfl, log_small i0 i1, _, _, rfl, rfl, Nat.le_of_lt (small1000 (by omega)), ?_⟩
      refine q _ H4 (.inr (.inr ⟨hk', _, rfl, by rw [len_app]; omega, fun ch hch => ?_⟩)) T4 (s1.trans (s2.trans ((SameX.of (same_new hL _)).trans (s3.trans s4))))
      rw [tl_append] at hch
      rcases List.mem_append.mp hch with hch | hch
      · exact hyo _ hch
      · exact digit_ok (l2 _ hch)
    · refine ⟨_, rfl, t, c, cs, rfl, T2, fun v H3 hv T3 s3 => ?_⟩
      obtain ⟨y, y0, y1, rfl⟩ := hv
      exact q _ H3 (.inr (.inr ⟨hk', y, rfl, y0, y1⟩)) T3 (s1.trans (s2.trans s3)))

theorem ops_cases {v : V} (h : v ∈ [V.str ("=" : Str), V.str ("!=" : Str), V.str ("<" : Str), V.str ("<=" : Str), V.str (">" : Str), V.str (">=" : Str), V.str ("null" : Str), V.str ("given" : Str)]) : ∃ o : Str, v = V.str o := by
  simp only [List.mem_cons, List.not_mem_nil, or_false] at h
  rcases h with rfl | rfl | rfl | rfl | rfl | rfl | rfl | rfl <;> exact ⟨_, rfl⟩
theorem ok_law_clause {f : Addr} {fd : FuncData} (k : Kn K mg "_law_clause" s_law_clause ["tape", "columns"] f fd) (z : Z mg)
    {g_law_take : Addr} {gd_law_take : FuncData} (c_law_take : Cal P w K mg base 1 "_law_take" ["tape", "many"] (spTake) g_law_take gd_law_take)
    {g_law_value : Addr} {gd_law_value : FuncData} (c_law_value : Cal P w K mg base 4 "_law_value" ["tape", "kind", "nullable"] (spVal) g_law_value gd_law_value) :
    Cal P w K mg base 5 "_law_clause" ["tape", "columns"] (spClause) f fd := k.cal (by
  refine k.F.ok sc_law_clause (fun vs H Q E h => ?_) (fun cdv A outer s H vs Q E hr h => ?_)
  · obtain ⟨t, c, L, cs, cols, rfl, _⟩ := h; rfl
  · obtain ⟨t, c, L, cs, cols, rfl, T, C, hp0, hl, q⟩ := h
    refine ⟨_, (pss_cons (ps_set (i := 2) sc_law_clause.nd rfl (Or.inl rfl) (pe_ix ix_list (pv 1) (pe_call c_law_take.G (hr.mono (by decide)) (by rfl) c_law_take.m c_law_take.kp c_law_take.b .nil pass0 (pa_cons (pv 0) (pa_cons (pe_callB call_len_seq (by rfl) z.len (by decide +kernel) (pa_cons (pv 1) pa_nil)) pa_nil))) (fun _ _ => rfl)))
        (pss_cons (ps_set (i := 3) sc_law_clause.nd rfl (Or.inl rfl) (pe_ix ix_list (pe_lst (pa_cons pe_str (pa_cons pe_str (pa_cons pe_str (pa_cons pe_str (pa_cons pe_str (pa_cons pe_str (pa_cons pe_str (pa_cons pe_str pa_nil))))))))) (pe_call c_law_take.G (hr.mono (by decide)) (by rfl) c_law_take.m c_law_take.kp c_law_take.b .nil pass0 (pa_cons (pv 0) (pa_cons pe_int pa_nil))) (fun _ _ => rfl)))
        (pss_cons (ps_if (PW.pt (pw_or (pt_cmpR op_eq (pv 3) pe_str (nomark _)) (pw_or1 (pt_cmpR op_eq (pv 3) pe_str (nomark _))))) (pss_one (ps_ret (pe_tup (pa_cons (pe_ix ix_tup (pv 2) pe_int (fun _ _ => rfl)) (pa_cons (pv 3) (pa_cons pe_non pa_nil)))))) pss_nil)
        (pss_one (ps_ret (pe_tup (pa_cons (pe_ix ix_tup (pv 2) pe_int (fun _ _ => rfl)) (pa_cons (pv 3) (pa_cons (pe_call c_law_value.G (hr.mono (by decide)) (by rfl) c_law_value.m c_law_value.kp c_law_value.b .nil pass0 (pa_cons (pv 0) (pa_cons (pe_ix ix_tup (pv 2) pe_int (fun _ _ => rfl)) (pa_cons pe_bl pa_nil)))) pa_nil))))))))), ?_⟩
    obtain ⟨xs, h1, h2⟩ := id C
    have hx : xs.length = cols.length := by rw [h2.length, List.length_map]
    refine ⟨_, rfl, _, rfl, _, rfl, L, _, rfl, .inl (SqL.of h1), t, c, cs, (xs.length : Int), rfl, T, by omega, ?_, fun d H1 d0 d1 T1 s1 => ?_⟩
    · have b9 : (2 : Nat) ^ 9000 = 2 ^ 7 * 2 ^ 8993 := by rw [← Nat.pow_add]
      have b8 : 0 < (2 : Nat) ^ 8993 := Nat.pow_pos (by decide)
      rw [b9]
      have : ((xs.length : Int)).natAbs = xs.length := by omega
      omega
    have hd : d.toNat < cols.length := by omega
    obtain ⟨xs', a, k1, k2, k3⟩ := C.get (List.getElem?_eq_getElem hd)
    rw [h1] at k1
    cases k1
    have hLt := T.notL h1
    refine ⟨L, _, d, _, rfl, rfl, SqL.of (s1 _ _ h1 hLt), at_of (by omega) k2, ?_⟩
    refine ⟨(by show 8 ≤ sizeLine; decide), fun O hO => ?_⟩
    refine ⟨_, rfl, t, c, cs, 8, rfl, T1.mono (same_new hO _), by decide, by decide +kernel, fun e H2 e0 e1 T2 s2 => ?_⟩
    obtain ⟨v, g1, g2⟩ := at_in (xs := [V.str ("=" : Str), V.str ("!=" : Str), V.str ("<" : Str), V.str ("<=" : Str), V.str (">" : Str), V.str (">=" : Str), V.str ("null" : Str), V.str ("given" : Str)]) e0 (by simpa using e1)
    obtain ⟨op, rfl⟩ := ops_cases g2
    refine ⟨O, _, e, _, rfl, rfl, SqL.of (s2 _ _ upd_same (T1.fresh hO).1), g1, ?_⟩
    have S2 : SameX t H H2 := s1.trans ((SameX.of (same_new hO _)).trans s2)
    have k4 := KeepT.ofX T S2 _ _ k3
    have hc : cols[d.toNat] ∈ cols := List.getElem_mem hd
    refine ⟨_, rfl, rfl, _, rfl, ?_⟩
    refine ifD (fun ho => ?_) (fun ho => ?_)
    · refine ⟨_, rfl, a, _, 0, _, rfl, rfl, SqT.of k4, atI_nat (j := 0) rfl, _, rfl, (by show 3 ≤ sizeLine; decide), fun p hp => ?_⟩
      exact q (.ref p) ⟨cols[d.toNat].n, op, .non⟩ _ (cl_mk upd_same rfl) ⟨_, hc, rfl, .inl ⟨.inl (V.str.inj ho), rfl⟩⟩ (T2.mono (same_new hp _)) (S2.trans (SameX.of (same_new hp _)))
    refine ⟨_, rfl, rfl, _, rfl, ?_⟩
    refine ifD (fun ho2 => ?_) (fun ho2 => ?_)
    · refine ⟨_, rfl, a, _, 0, _, rfl, rfl, SqT.of k4, atI_nat (j := 0) rfl, _, rfl, (by show 3 ≤ sizeLine; decide), fun p hp => ?_⟩
      exact q (.ref p) ⟨cols[d.toNat].n, op, .non⟩ _ (cl_mk upd_same rfl) ⟨_, hc, rfl, .inl ⟨.inr (V.str.inj ho2), rfl⟩⟩ (T2.mono (same_new hp _)) (S2.trans (SameX.of (same_new hp _)))
    · refine ⟨_, rfl, a, _, 0, _, rfl, rfl, SqT.of k4, atI_nat (j := 0) rfl, _, rfl, ?_⟩
      refine ⟨_, rfl, _, rfl, a, _, 1, _, rfl, rfl, SqT.of k4, atI_nat (j := 1) rfl, t, c, cs, _, _, rfl, T2, fun w H3 hw T3 s3 => ?_⟩
      refine ⟨(by show 3 ≤ sizeLine; decide), fun p hp => ?_⟩
      exact q (.ref p) ⟨cols[d.toNat].n, op, w⟩ _ (cl_mk upd_same hw.scal) ⟨_, hc, rfl, .inr ⟨⟨fun z => ho (congrArg V.str z), fun z => ho2 (congrArg V.str z)⟩, hw⟩⟩ (T3.mono (same_new hp _)) (S2.trans (s3.trans (SameX.of (same_new hp _)))))

theorem five_a {d : Int} (d0 : 0 ≤ d) (d1 : d < 5) : ∃ n : Int, atI [V.int 1, V.int 0, V.int 2, V.int 1, V.int 4] d = some (.int n) ∧ 0 ≤ n ∧ n ≤ 4 := by
  obtain ⟨v, h1, h2⟩ := at_in (xs := [V.int 1, V.int 0, V.int 2, V.int 1, V.int 4]) d0 (by simpa using d1)
  simp only [List.mem_cons, List.not_mem_nil, or_false] at h2
  rcases h2 with rfl | rfl | rfl | rfl | rfl <;> exact ⟨_, h1, by decide, by decide⟩
theorem five_b {d : Int} (d0 : 0 ≤ d) (d1 : d < 5) : ∃ n : Int, atI [V.int 1, V.int 2, V.int 0, V.int 1, V.int 4] d = some (.int n) ∧ 0 ≤ n ∧ n ≤ 4 := by
  obtain ⟨v, h1, h2⟩ := at_in (xs := [V.int 1, V.int 2, V.int 0, V.int 1, V.int 4]) d0 (by simpa using d1)
  simp only [List.mem_cons, List.not_mem_nil, or_false] at h2
  rcases h2 with rfl | rfl | rfl | rfl | rfl <;> exact ⟨_, h1, by decide, by decide⟩
theorem ok_law_condition {f : Addr} {fd : FuncData} (k : Kn K mg "_law_condition" s_law_condition ["tape", "columns"] f fd) (z : Z mg)
    {g_law_take : Addr} {gd_law_take : FuncData} (c_law_take : Cal P w K mg base 1 "_law_take" ["tape", "many"] (spTake) g_law_take gd_law_take)
    {g_law_clause : Addr} {gd_law_clause : FuncData} (c_law_clause : Cal P w K mg base 5 "_law_clause" ["tape", "columns"] (spClause) g_law_clause gd_law_clause) :
    Cal P w K mg base 6 "_law_condition" ["tape", "columns"] (spCond) f fd := k.cal (by
  refine k.F.ok sc_law_condition (fun vs H Q E h => ?_) (fun cdv A outer s H vs Q E hr h => ?_)
  · obtain ⟨t, c, L, cs, cols, rfl, _⟩ := h; rfl
  · obtain ⟨t, c, L, cs, cols, rfl, T, C, hp0, hl, q⟩ := h
    refine ⟨_, (pss_cons (ps_set (i := 2) sc_law_condition.nd rfl (Or.inl rfl) (pe_lst pa_nil))
        (pss_cons (ps_for PassesOwn.never rfl (pi_range1 (by rfl) z.range (pa_cons (pe_ix ix_list (pe_lst (pa_cons pe_int (pa_cons pe_int (pa_cons pe_int (pa_cons pe_int (pa_cons pe_int pa_nil)))))) (pe_call c_law_take.G (hr.mono (by decide)) (by rfl) c_law_take.m c_law_take.kp c_law_take.b .nil pass0 (pa_cons (pv 0) (pa_cons pe_int pa_nil))) (fun _ _ => rfl)) pa_nil)) (pg_name (i := 3) sc_law_condition.nd rfl (Or.inl rfl))
        (pss_cons (ps_set (i := 4) sc_law_condition.nd rfl (Or.inl rfl) (pe_ix ix_list (pe_lst (pa_cons pe_int (pa_cons pe_int (pa_cons pe_int (pa_cons pe_int (pa_cons pe_int pa_nil)))))) (pe_call c_law_take.G (hr.mono (by decide)) (by rfl) c_law_take.m c_law_take.kp c_law_take.b .nil pass0 (pa_cons (pv 0) (pa_cons pe_int pa_nil))) (fun _ _ => rfl)))
        (pss_one (ps_expr (pe_bm PySem.F.plainAttrs_list PySem.F.slot_list_append PySem.F.type_list_append mt_append (pv 2) (pa_cons (pe_callTy call_tuple_of (by rfl) z.tuple (by decide +kernel) (pa_cons (pe_lc (own := [("j", 5)]) (g := gName 5) (tt := tYes) (by rfl) sc_law_condition.nd (pi_range1 (by rfl) z.range (pa_cons (pv 4) pa_nil)) (blkOk_by (own := [("j", 5)]) (N := ["tape", "columns", "condition", "k", "many", "j"]) (sc := defScope s_law_condition) (by decide +kernel)) (fun _ _ _ _ _ => pg_name (i := 5) sc_law_condition.nd rfl (Or.inl rfl)) (fun _ _ _ _ _ => pts_nil) (fun _ _ _ _ _ => (pe_call c_law_clause.G (hr.mono (by decide)) (by rfl) c_law_clause.m c_law_clause.kp c_law_clause.b .nil pass0 (pa_cons (pv 0) (pa_cons (pv 1) pa_nil))))) pa_nil)) pa_nil))))))
        (pss_one (ps_ret (pe_callTy call_tuple_of (by rfl) z.tuple (by decide +kernel) (pa_cons (pv 2) pa_nil)))))), ?_⟩
    have hLt : L ≠ t := by obtain ⟨xs, h1, _⟩ := C; exact T.notL h1
    refine ⟨(by show 0 ≤ sizeLine; decide), fun R hR => ?_⟩
    have fR := T.fresh hR
    refine ⟨(by show 5 ≤ sizeLine; decide), fun A1 hA1 => ?_⟩
    have TA := (T.mono (same_new hR (.lst []))).mono (same_new hA1 (.lst [.int 1, .int 0, .int 2, .int 1, .int 4]))
    refine ⟨_, rfl, t, c, cs, 5, rfl, TA, by decide, by decide +kernel, fun d H1 d0 d1 T1 s1 => ?_⟩
    obtain ⟨n, hn, n0, n4⟩ := five_a d0 d1
    have fA := (T.mono (same_new hR (.lst []))).fresh hA1
    have RA : R ≠ A1 := ne_of_none upd_same hA1
    have R1 : H1 R = some (.lst []) := s1 _ _ (by rw [upd_ne RA]; exact upd_same) fR.1
    have S1 : SameX t H H1 := (SameX.of ((same_new hR _).trans (same_new hA1 _))).trans s1
    refine ⟨A1, _, d, _, rfl, rfl, SqL.of (s1 _ _ upd_same fA.1), hn, n, rfl, by omega, by omega, for_range (lo := 0) (n := n.toNat) (fun i σ H' => ∃ v3 v4 v5 xs, ∃ cond : Cond, σ = [some (.ref t), some (.ref L), some (.ref R), v3, v4, v5] ∧ H' R = some (.lst xs) ∧ TpL H' xs (cond.map altD) ∧ cond.length = i ∧ (∀ a ∈ cond, ∀ cl ∈ a, ClOk cols cl) ∧ (∀ a ∈ cond, a.length ≤ 4) ∧ TapeAt H' t c cs ∧ SameX t H H') ⟨none, none, none, [], [], rfl, R1, .nil, rfl, (fun a h => by cases h), (fun a h => by cases h), T1, S1⟩ ?_ ?_⟩
    · rintro i σ H2 hi ⟨v3, v4, v5, xs, cond, rfl, R2, r2, l2, k2, m2, T2, s2⟩
      refine ⟨(by show 5 ≤ sizeLine; decide), fun B hB => ?_⟩
      have e3 := same_new hB (.lst [.int 1, .int 2, .int 0, .int 1, .int 4])
      have fB := T2.fresh hB
      refine ⟨_, rfl, t, c, cs, 5, rfl, T2.mono e3, by decide, by decide +kernel, fun d H3 d0 d1 T3 s3 => ?_⟩
      obtain ⟨g, hg, g0, g4⟩ := five_b d0 d1
      refine ⟨B, _, d, _, rfl, rfl, SqL.of (s3 _ _ upd_same fB.1), hg, ?_⟩
      have S3 : SameX t H2 H3 := (SameX.of e3).trans s3
      have R3 := S3 _ _ R2 fR.1
      have r3 := r2.mono (KeepT.ofX T2 S3)
      have C3 := C.mono (KeepT.ofX T (s2.trans S3)) (fun o h => (s2.trans S3) _ _ h hLt)
      refine ⟨_, rfl, .inl ⟨rfl, _, SqL.of R3⟩, ?_⟩
      refine ⟨_, rfl, g, rfl, by omega, by omega, fun D hD => lc_range (lo := 0) (n := g.toNat) (fun j H' => ∃ ys, ∃ cls : List Cl, H' D = some (.lst ys) ∧ TpL H' ys (cls.map clD) ∧ cls.length = j ∧ (∀ cl ∈ cls, ClOk cols cl) ∧ TapeAt H' t c cs ∧ SameX t H3 H') ?_ ?_ ?_⟩
      · exact ⟨[], [], upd_same, .nil, rfl, (fun cl h => by cases h), T3.mono (same_new hD _), SameX.of (same_new hD _)⟩
      · rintro j H4 hj ⟨ys, cls, D4, r4, l4, k4, T4, s4⟩
        have fD := T3.fresh hD
        have C4 := C3.mono (KeepT.ofX T3 s4) (fun o h => s4 _ _ h hLt)
        refine ⟨rfl, _, rfl, _, rfl, t, c, L, cs, cols, rfl, T4, C4, hp0, hl, fun v cl H5 hv kcl T5 s5 => ?_⟩
        have D5 := s5 _ _ D4 fD.1
        refine ⟨ys, D5, (by rw [r4.length, List.length_map]; exact small1000 (by omega)), ys ++ [v], cls ++ [cl], upd_same, ?_, by simp [l4], ?_, T5.upd fD.1 fD.2, samex_upd hD _ (s4.trans s5)⟩
        · rw [List.map_append]
          have ku : KeepT H5 (upd H5 D (.lst (ys ++ [v]))) := KeepT.upd (fun zs z => by rw [D5] at z; cases z)
          exact TpL.snoc ((r4.mono (KeepT.ofX T4 s5)).mono ku) (hv.mono ku)
        · intro x hx
          rcases List.mem_append.mp hx with hx | hx
          · exact k4 x hx
          · rw [List.mem_singleton.mp hx]; exact kcl
      rintro H4 ⟨ys, cls, D4, r4, l4, k4, T4, s4⟩
      refine ⟨D, ys, rfl, .inl ⟨SqL.of D4, fun p hp => ?_⟩⟩
      have e5 := same_new hp (.tup ys)
      have R4 := s4 _ _ R3 fR.1
      have Rp : R ≠ p := ne_of_none R4 hp
      refine ⟨R, xs, _, rfl, rfl, e5 _ _ R4, (by rw [r2.length, List.length_map]; exact small1000 (by omega)), ?_⟩
      have ku : KeepT (upd H4 p (.tup ys)) (upd (upd H4 p (.tup ys)) R (.lst (xs ++ [.ref p]))) := KeepT.upd (fun zs z => by rw [e5 _ _ R4] at z; cases z)
      have S4 : SameX t H (upd H4 p (.tup ys)) := s2.trans (S3.trans (s4.trans (SameX.of e5)))
      refine ⟨_, _, _, xs ++ [.ref p], cond ++ [cls], rfl, upd_same, ?_, by simp [l2], ?_, ?_, (T4.mono e5).upd fR.1 fR.2, samex_upd hR _ S4⟩
      · rw [List.map_append]
        exact TpL.snoc (((r3.mono (KeepT.ofX T3 s4)).mono (KeepT.of e5)).mono ku) (.t (ku _ _ upd_same) ((r4.mono (KeepT.of e5)).mono ku))
      · intro a ha
        rcases List.mem_append.mp ha with ha | ha
        · exact k2 a ha
        · rw [List.mem_singleton.mp ha]; exact k4
      · intro a ha
        rcases List.mem_append.mp ha with ha | ha
        · exact m2 a ha
        · rw [List.mem_singleton.mp ha]; omega
    · rintro σ H2 ⟨v3, v4, v5, xs, cond, rfl, R2, r2, l2, k2, m2, T2, s2⟩
      refine ⟨_, rfl, R, xs, rfl, .inl ⟨SqL.of R2, fun p hp => ?_⟩⟩
      exact q (.ref p) cond _ (.t upd_same (r2.mono (KeepT.new hp _))) k2 (by omega) m2 (T2.mono (same_new hp _)) (s2.trans (SameX.of (same_new hp _))))

theorem four_a {d : Int} (d0 : 0 ≤ d) (d1 : d < 4) : ∃ n : Int, atI [V.int 0, V.int 0, V.int 1, V.int 2] d = some (.int n) ∧ 0 ≤ n ∧ n ≤ 2 := by
  obtain ⟨v, h1, h2⟩ := at_in (xs := [V.int 0, V.int 0, V.int 1, V.int 2]) d0 (by simpa using d1)
  simp only [List.mem_cons, List.not_mem_nil, or_false] at h2
  rcases h2 with rfl | rfl | rfl | rfl <;> exact ⟨_, h1, by decide, by decide⟩
theorem ok_law_limits {f : Addr} {fd : FuncData} (k : Kn K mg "_law_limits" s_law_limits ["tape", "schema", "table"] f fd) (z : Z mg)
    {g_law_names : Addr} {gd_law_names : FuncData} (c_law_names : Cal P w K mg base 1 "_law_names" ["columns"] (spNames) g_law_names gd_law_names)
    {g_law_take : Addr} {gd_law_take : FuncData} (c_law_take : Cal P w K mg base 1 "_law_take" ["tape", "many"] (spTake) g_law_take gd_law_take)
    {g_law_condition : Addr} {gd_law_condition : FuncData} (c_law_condition : Cal P w K mg base 6 "_law_condition" ["tape", "columns"] (spCond) g_law_condition gd_law_condition) :
    Cal P w K mg base 7 "_law_limits" ["tape", "schema", "table"] (spLimits) f fd := k.cal (by
  refine k.F.ok sc_law_limits (fun vs H Q E h => ?_) (fun cdv A outer s H vs Q E hr h => ?_)
  · obtain ⟨t, c, S, cs, s, a, tab, rfl, _⟩ := h; rfl
  · obtain ⟨t, c, S, cs, s, a, tab, rfl, T, A, l6, hnk, hm, bare, q⟩ := h
    have hu := hu_of hr
    have htk : ∃ kvs, H t = some (.dK kvs) := by obtain ⟨_, _, _, _, e, _⟩ := T.dk; exact ⟨_, e⟩
    have D := A.ds _ hm
    obtain ⟨a1, a2, a3, a4⟩ := A.tS
    have hk0 : H a.k = some (.lst []) := by obtain ⟨xs, g1, g2⟩ := D.ch; rw [bare.c0] at g2; cases g2; exact g1
    have hu0 : H a.u = some (.lst []) := by have := D.un; rw [bare.u0] at this; exact this
    have hr0 : H a.r = some (.lst []) := by obtain ⟨xs, g1, g2⟩ := D.rf; rw [bare.r0] at g2; cases g2; exact g1
    have l5 := bare.l5
    have l0 := bare.l0
    have ck : a.k ≠ c := a4 _ hm _ (by simp [adL])
    have cu : a.u ≠ c := a4 _ hm _ (by simp [adL])
    have cr : a.r ≠ c := a4 _ hm _ (by simp [adL])
    have kt' : a.k ≠ t := T.notL hk0
    have ut' : a.u ≠ t := T.notL hu0
    have rt' : a.r ≠ t := T.notL hr0
    have lcn : (colNs tab.cols).length = tab.cols.length := by unfold colNs; rw [List.length_map]
    have ndA : (adL a).Nodup := (List.pairwise_flatMap.mp (List.nodup_cons.mp A.ln).2).1 _ hm
    simp only [adL, List.nodup_cons, List.mem_cons, List.not_mem_nil, or_false, not_or] at ndA
    obtain ⟨⟨n1, n2, n3⟩, ⟨n4, n5⟩, n6, _⟩ := ndA
    refine ⟨_, (pss_cons (ps_set (i := 3) sc_law_limits.nd rfl (Or.inl rfl) (pe_dget hu (pe_dget hu (pv 1) (pv 2) (fun _ _ => rfl)) pe_str (fun _ _ => rfl)))
        (pss_cons (ps_set (i := 4) sc_law_limits.nd rfl (Or.inl rfl) (pe_slice sl_list (pe_call c_law_names.G (hr.mono (by decide)) (by rfl) c_law_names.m c_law_names.kp c_law_names.b .nil pass0 (pa_cons (pv 3) pa_nil)) (po_some pe_int) po_none))
        (pss_cons (ps_setLc (i := 6) (own := [("name", 5)]) (g := gName 5) (by rfl) sc_law_limits.nd rfl rfl (sw_true rfl rfl rfl (by decide +kernel)) (pi_list (pe_callB (call_sortedD rfl) (by rfl) z.sorted (by decide +kernel) (pa_cons (pv 1) pa_nil))) (blkOk_by (own := [("name", 5)]) (N := ["tape", "schema", "table", "columns", "names", "name", "others", "k", "column", "other"]) (sc := defScope s_law_limits) (by decide +kernel)) (fun _ _ _ _ _ => pg_name (i := 5) sc_law_limits.nd rfl (Or.inl rfl)) (fun _ _ _ _ _ => (pts_one (pt_cmpR op_ne (pv 5) (pv 2) (nomark _)))) (fun _ _ _ _ _ => (pv 5)))
        (pss_cons (ps_for PassesOwn.never rfl (pi_range1 (by rfl) z.range (pa_cons (pe_ix ix_list (pe_lst (pa_cons pe_int (pa_cons pe_int (pa_cons pe_int (pa_cons pe_int pa_nil))))) (pe_call c_law_take.G (hr.mono (by decide)) (by rfl) c_law_take.m c_law_take.kp c_law_take.b .nil pass0 (pa_cons (pv 0) (pa_cons pe_int pa_nil))) (fun _ _ => rfl)) pa_nil)) (pg_name (i := 7) sc_law_limits.nd rfl (Or.inl rfl))
        (pss_one (ps_expr (pe_bm PySem.F.plainAttrs_list PySem.F.slot_list_append PySem.F.type_list_append mt_append (pe_dget hu (pe_dget hu (pv 1) (pv 2) (fun _ _ => rfl)) pe_str (fun _ _ => rfl)) (pa_cons (pe_call c_law_condition.G (hr.mono (by decide)) (by rfl) c_law_condition.m c_law_condition.kp c_law_condition.b .nil pass0 (pa_cons (pv 0) (pa_cons (pv 3) pa_nil))) pa_nil)))))
        (pss_cons (ps_for PassesOwn.never rfl (pi_list (pv 4)) (pg_name (i := 5) sc_law_limits.nd rfl (Or.inl rfl))
        (pss_one (ps_if (PW.pt (pw_and (pt_cmpR op_eq (pe_call c_law_take.G (hr.mono (by decide)) (by rfl) c_law_take.m c_law_take.kp c_law_take.b .nil pass0 (pa_cons (pv 0) (pa_cons pe_int pa_nil))) pe_int (nomark _)) (pw_and1 (pt_cmpR op_lt (pe_callB call_len_seq (by rfl) z.len (by decide +kernel) (pa_cons (pe_dget hu (pe_dget hu (pv 1) (pv 2) (fun _ _ => rfl)) pe_str (fun _ _ => rfl)) pa_nil)) pe_int (nomark _))))) (pss_one (ps_expr (pe_bm PySem.F.plainAttrs_list PySem.F.slot_list_append PySem.F.type_list_append mt_append (pe_dget hu (pe_dget hu (pv 1) (pv 2) (fun _ _ => rfl)) pe_str (fun _ _ => rfl)) (pa_cons (pv 5) pa_nil)))) pss_nil)))
        (pss_one (ps_for PassesOwn.never rfl (pi_list (pe_slice sl_list (pv 3) (po_some pe_int) po_none)) (pg_name (i := 8) sc_law_limits.nd rfl (Or.inl rfl))
        (pss_one (ps_if (PW.pt (pw_and (pt_cmpR (op_neD hr.units) (pv 6) (pe_lst pa_nil) (nomark _)) (pw_and (pt_cmpR op_eq (pe_call c_law_take.G (hr.mono (by decide)) (by rfl) c_law_take.m c_law_take.kp c_law_take.b .nil pass0 (pa_cons (pv 0) (pa_cons pe_int pa_nil))) pe_int (nomark _)) (pw_and1 (pt_cmpR op_lt (pe_callB call_len_seq (by rfl) z.len (by decide +kernel) (pa_cons (pe_dget hu (pe_dget hu (pv 1) (pv 2) (fun _ _ => rfl)) pe_str (fun _ _ => rfl)) pa_nil)) pe_int (nomark _)))))) (pss_cons (ps_set (i := 9) sc_law_limits.nd rfl (Or.inl rfl) (pe_ix ix_list (pv 6) (pe_call c_law_take.G (hr.mono (by decide)) (by rfl) c_law_take.m c_law_take.kp c_law_take.b .nil pass0 (pa_cons (pv 0) (pa_cons (pe_callB call_len_seq (by rfl) z.len (by decide +kernel) (pa_cons (pv 6) pa_nil)) pa_nil))) (fun _ _ => rfl)))
        (pss_one (ps_if (pt_cmpR op_eq (pe_ix ix_tup (pe_ix ix_list (pe_dget hu (pe_dget hu (pv 1) (pv 9) (fun _ _ => rfl)) pe_str (fun _ _ => rfl)) pe_int (fun _ _ => rfl)) pe_int (fun _ _ => rfl)) (pe_ix ix_tup (pv 8) pe_int (fun _ _ => rfl)) (nomark _)) (pss_one (ps_expr (pe_bm PySem.F.plainAttrs_list PySem.F.slot_list_append PySem.F.type_list_append mt_append (pe_dget hu (pe_dget hu (pv 1) (pv 2) (fun _ _ => rfl)) pe_str (fun _ _ => rfl)) (pa_cons (pe_tup (pa_cons (pe_ix ix_tup (pv 8) pe_int (fun _ _ => rfl)) (pa_cons (pv 9) pa_nil))) pa_nil)))) pss_nil))) pss_nil))))))))), ?_⟩
    refine ⟨_, rfl, _, rfl, S, _, rfl, A.desc hm, a.d, _, rfl, D.gc, ?_⟩
    refine ⟨_, rfl, a.c, tab.cols, rfl, D.co, by omega, fun N H1 hN0 s1 hN => ⟨_, rfl, N, _, rfl, SqL.of hN, fun NL hNL => ?_⟩⟩
    rw [cut_tail, ← List.map_drop]
    have e2 := same_new hNL (.lst (((colNs tab.cols).drop 1).map V.str))
    have S2 : Same H (upd H1 NL (.lst (((colNs tab.cols).drop 1).map V.str))) := s1.trans e2
    refine ⟨_, rfl, S, schK s, schN s, rfl, .inl (S2 _ _ A.sk), sch_keys s, (by unfold schN; rw [List.length_map]; omega), fun ys P hper _ hP => ?_⟩
    have e3 := same_new hP (.lst (ys.map V.str))
    have ly : ys.length ≤ 6 := by rw [hper.length_eq]; unfold schN; rw [List.length_map]; exact l6
    refine ⟨P, rfl, ⟨_, SqL.of upd_same⟩, fun OL hOL => inner walk_list (fun i H' => ∃ os : List Str, H' OL = some (.lst (os.map V.str)) ∧ (∀ o ∈ os, o ∈ schN s ∧ o ≠ tab.n) ∧ os.length ≤ i ∧ Same (upd (upd H1 NL (.lst (((colNs tab.cols).drop 1).map V.str))) P (.lst (ys.map V.str))) H') ⟨[], upd_same, (by intro o ho; cases ho), Nat.le_refl _, same_new hOL _⟩ (fun i H' _ ⟨_, _, _, _, s⟩ => SqL.of (s _ _ upd_same)) ?_ ?_⟩
    · rintro i x H4 H4' hi ⟨os, h1, h2, h3, h4⟩ ⟨rfl, ex⟩
      obtain ⟨z, hz, rfl⟩ : ∃ z, z ∈ ys ∧ x = V.str z := by
        obtain ⟨z, h1, h2⟩ := List.mem_map.mp (List.mem_of_getElem? ex)
        exact ⟨z, h1, h2.symm⟩
      refine ⟨rfl, _, rfl, _, rfl, rfl, _, rfl, ?_⟩
      refine ifN (fun hne => ?_) (fun _ => ⟨os, h1, h2, by omega, h4⟩)
      rw [List.length_map] at hi
      refine ⟨_, rfl, _, h1, (by rw [List.length_map]; exact small1000 (by omega)), os ++ [z], by rw [upd_same, List.map_append]; rfl, ?_, by rw [List.length_append, List.length_singleton]; omega, same_upd hOL _ h4⟩
      intro o ho
      rcases List.mem_append.mp ho with ho | ho
      · exact h2 o ho
      · rw [List.mem_singleton.mp ho]
        exact ⟨hper.mem_iff.mp hz, fun e => hne (congrArg V.str e)⟩
    rintro H4 ⟨os, ol, ho, lo, s4⟩
    have lo6 : os.length ≤ 6 := by rw [List.length_map] at lo; omega
    have S4 : Same H H4 := S2.trans (e3.trans s4)
    have hNL4 : H4 NL = some (.lst (((colNs tab.cols).drop 1).map V.str)) := s4 _ _ (e3 _ _ upd_same)
    have L4 : Lim H H4 t c cs a OL os [] [] [] := ⟨T.mono S4, KeepT.of S4, SameE.of S4, ol, ⟨[], S4 _ _ hk0, .nil⟩, S4 _ _ hu0, ⟨[], S4 _ _ hr0, .nil⟩⟩
    have fresh : ∀ {b : Addr}, H b = none → b ≠ a.k ∧ b ≠ a.u ∧ b ≠ a.r ∧ b ≠ t := fun h => ⟨(ne_of_none hk0 h).symm, (ne_of_none hu0 h).symm, (ne_of_none hr0 h).symm, by obtain ⟨_, e⟩ := htk; exact (ne_of_none e h).symm⟩
    have fNL : H NL = none := s1.free hNL
    have fOL : H OL = none := (S2.trans e3).free hOL
    obtain ⟨x1, x2, x3, x4⟩ := fresh fNL
    obtain ⟨y1, y2, y3, y4⟩ := fresh fOL
    -- the checks
    refine ⟨(by show 4 ≤ sizeLine; decide), fun M hM => ?_⟩
    have e5 := same_new hM (.lst [.int 0, .int 0, .int 1, .int 2])
    refine ⟨_, rfl, t, c, cs, 4, rfl, L4.T.mono e5, by decide, by decide +kernel, fun d H6 d0 d1 T6 s6 => ?_⟩
    obtain ⟨n, hn, m0, m2⟩ := four_a d0 d1
    have L6 := (L4.step e5).stepX T6 s6
    have hNL6 := s6 _ _ (e5 _ _ hNL4) x4
    refine ⟨M, _, d, _, rfl, rfl, SqL.of (s6 _ _ upd_same (L4.T.fresh hM).1), hn, n, rfl, by omega, by omega, for_range (lo := 0) (n := n.toNat) (fun i σ H' => ∃ v5 v7, ∃ conds : List Cond, σ = [some (.ref t), some (.ref S), some (.str tab.n), some (.ref a.c), some (.ref NL), v5, some (.ref OL), v7, none, none] ∧ Lim H H' t c cs a OL os conds [] [] ∧ conds.length = i ∧ (∀ cd ∈ conds, cd.length ≤ 4 ∧ ∀ x ∈ cd, x.length ≤ 4 ∧ ∀ cl ∈ x, ClOk tab.cols cl) ∧ H' NL = some (.lst (((colNs tab.cols).drop 1).map V.str))) ⟨_, _, [], rfl, L6, rfl, (by intro x hx; cases hx), hNL6⟩ ?_ ?_⟩
    · rintro i σ H7 hi ⟨v5, v7, conds, rfl, L7, l7, k7, N7⟩
      obtain ⟨g1, g2, g3, g4, g5, g6, _⟩ := L7.see A hm htk
      obtain ⟨xs, c1, c2⟩ := L7.ch
      refine ⟨_, rfl, _, rfl, S, _, rfl, g1, a.d, _, rfl, g3, .inl ⟨rfl, _, SqL.of c1⟩, ?_⟩
      refine ⟨_, rfl, _, rfl, t, c, a.c, cs, tab.cols, rfl, L7.T, g6, by omega, by omega, fun v cond H8 hv kc lc mc T8 s8 => ?_⟩
      have L8 := L7.stepX T8 s8
      have c8 := s8 _ _ c1 kt'
      have r8 := c2.mono (KeepT.ofX L7.T s8)
      refine ⟨a.k, xs, v, rfl, rfl, c8, (by rw [c2.length, List.length_map]; exact small1000 (by omega)), ?_⟩
      have ku : KeepT H8 (upd H8 a.k (.lst (xs ++ [v]))) := KeepT.upd (fun zs z => by rw [c8] at z; cases z)
      obtain ⟨ys', r1, r2⟩ := L8.rf
      refine ⟨_, _, conds ++ [cond], rfl, ⟨T8.upd kt' ck.symm, L8.kt.trans ku, SameE.upd (by simp) _ L8.se, by rw [upd_ne y1]; exact L8.ol, ⟨xs ++ [v], upd_same, ?_⟩, by rw [upd_ne (Ne.symm n4)]; exact L8.un, ⟨ys', by rw [upd_ne (Ne.symm n5)]; exact r1, r2.mono ku⟩⟩, by rw [List.length_append, List.length_singleton, l7], ?_, by rw [upd_ne x1]; exact s8 _ _ N7 x4⟩
      · rw [List.map_append]
        exact TpL.snoc (r8.mono ku) (hv.mono ku)
      · intro x hx
        rcases List.mem_append.mp hx with hx | hx
        · exact k7 x hx
        · rw [List.mem_singleton.mp hx]
          exact ⟨lc, fun y hy => ⟨mc y hy, kc y hy⟩⟩
    rintro σ H7 ⟨v5, v7, conds, rfl, L7, l7, k7, N7⟩
    -- the uniques
    refine ⟨_, rfl, NL, rfl, ⟨_, SqL.of N7⟩, for_it walk_list (fun j σ H' => ∃ v5, ∃ un : List Str, σ = [some (.ref t), some (.ref S), some (.str tab.n), some (.ref a.c), some (.ref NL), v5, some (.ref OL), v7, none, none] ∧ Lim H H' t c cs a OL os conds un [] ∧ un.length ≤ 4 ∧ un.Nodup ∧ (∀ x ∈ un, x ∈ ((colNs tab.cols).drop 1).take j) ∧ H' NL = some (.lst (((colNs tab.cols).drop 1).map V.str))) ⟨v5, [], rfl, L7, by decide, List.nodup_nil, (by intro x hx; cases hx), N7⟩ (fun j σ H' _ ⟨_, _, _, _, _, _, _, e⟩ => SqL.of e) ?_ ?_⟩
    · rintro j x σ H8 H8' hj ⟨v5, un, rfl, L8, l8, nd8, k8, N8⟩ ⟨rfl, ex⟩
      rw [List.length_map] at hj
      obtain ⟨z, hz, rfl⟩ : ∃ z, ((colNs tab.cols).drop 1)[j]? = some z ∧ x = V.str z := by
        rw [List.getElem?_map] at ex
        cases e : ((colNs tab.cols).drop 1)[j]? with
        | none => rw [e] at ex; cases ex
        | some z => rw [e] at ex; exact ⟨z, rfl, (Option.some.inj ex).symm⟩
      have mono : ∀ y ∈ un, y ∈ ((colNs tab.cols).drop 1).take (j + 1) := fun y hy => by rw [List.take_add_one]; exact List.mem_append.mpr (.inl (k8 y hy))
      refine ⟨_, rfl, t, c, cs, 4, rfl, L8.T, by decide, by decide +kernel, fun d H9 d0 d1 T9 s9 => ⟨rfl, _, rfl, ?_⟩⟩
      have L9 := L8.stepX T9 s9
      have N9 := s9 _ _ N8 x4
      refine ifD (fun _ => ?_) (fun _ => ⟨_, un, rfl, L9, l8, nd8, mono, N9⟩)
      obtain ⟨g1, g2, g3, g4, g5, g6, _⟩ := L9.see A hm htk
      refine ⟨_, rfl, _, rfl, S, _, rfl, g1, a.d, _, rfl, g4, a.u, _, rfl, .inl (SqL.of L9.un), _, _, rfl, rfl, _, rfl, ?_⟩
      refine ifD (fun h4 => ?_) (fun _ => ⟨_, un, rfl, L9, l8, nd8, mono, N9⟩)
      rw [List.length_map] at h4
      refine ⟨_, rfl, _, rfl, S, _, rfl, g1, a.d, _, rfl, g4, .inl ⟨rfl, _, SqL.of L9.un⟩, _, rfl, a.u, _, _, rfl, rfl, L9.un, (by rw [List.length_map]; exact small1000 (by omega)), ?_⟩
      have ku : KeepT H9 (upd H9 a.u (.lst (un.map V.str ++ [.str z]))) := KeepT.upd (fun zs q => by rw [L9.un] at q; cases q)
      obtain ⟨xs', r1, r2⟩ := L9.ch
      obtain ⟨ys', r3, r4⟩ := L9.rf
      refine ⟨_, un ++ [z], rfl, ⟨T9.upd ut' cu.symm, L9.kt.trans ku, SameE.upd (by simp) _ L9.se, by rw [upd_ne y2]; exact L9.ol, ⟨xs', by rw [upd_ne n4]; exact r1, r2.mono ku⟩, by rw [upd_same, List.map_append]; rfl, ⟨ys', by rw [upd_ne (Ne.symm n6)]; exact r3, r4.mono ku⟩⟩, by rw [List.length_append, List.length_singleton]; omega, ?_, ?_, by rw [upd_ne x2]; exact N9⟩
      · refine List.nodup_append.mpr ⟨nd8, by simp, fun y hy w hw => ?_⟩
        have : w = z := by simpa using hw
        subst this
        rintro rfl
        obtain ⟨i0, hi0, ei⟩ := List.getElem_of_mem (k8 _ hy)
        rw [List.length_take] at hi0
        rw [List.getElem_take] at ei
        have ndn : ((colNs tab.cols).drop 1).Nodup := bare.co.nd.sublist (List.drop_sublist _ _)
        have b1 : ((colNs tab.cols).drop 1)[i0]? = some y := by rw [List.getElem?_eq_getElem (by omega), ei]
        have := nd_ix ndn b1 hz
        omega
      · intro y hy
        rcases List.mem_append.mp hy with hy | hy
        · exact mono y hy
        · rw [List.mem_singleton.mp hy, List.take_add_one, hz]
          exact List.mem_append.mpr (.inr (by simp))
    rintro σ H8 ⟨v5, un, rfl, L8, l8, nd8, k8, N8⟩
    have hun : ∀ x ∈ un, x ∈ colNs (tab.cols.drop 1) := fun x hx => by
      have := List.mem_of_mem_take (k8 x hx)
      unfold colNs at this ⊢
      rw [List.map_drop]
      exact this
    -- the references
    obtain ⟨g1, g2, g3, g4, g5, ⟨xc, g6, g7⟩, _⟩ := L8.see A hm htk
    have lx : xc.length = tab.cols.length := by rw [g7.length, List.length_map]
    refine ⟨_, rfl, _, rfl, a.c, xc, rfl, SqL.of g6, fun CL hCL => ?_⟩
    rw [cut_tail]
    have e9 := same_new hCL (.lst (xc.drop 1))
    have fCL : H CL = none := by
      cases e : H CL with
      | none => rfl
      | some o =>
        exfalso
        by_cases hin : CL ∈ [t, a.k, a.u, a.r]
        · simp only [List.mem_cons, List.not_mem_nil, or_false] at hin
          obtain ⟨xs', r1, _⟩ := L8.ch
          obtain ⟨ys', r3, _⟩ := L8.rf
          rcases hin with z | z | z | z
          · obtain ⟨_, _, _, _, e', _⟩ := L8.T.dk; rw [z, e'] at hCL; cases hCL
          · rw [z, r1] at hCL; cases hCL
          · rw [z, L8.un] at hCL; cases hCL
          · rw [z, r3] at hCL; cases hCL
        · have := L8.se _ _ e hin; rw [hCL] at this; cases this
    obtain ⟨w1, w2, w3, w4⟩ := fresh fCL
    refine ⟨CL, rfl, ⟨_, SqL.of upd_same⟩, for_it walk_list (fun j σ H' => ∃ v8 v9, ∃ rf : List (Str × Str), σ = [some (.ref t), some (.ref S), some (.str tab.n), some (.ref a.c), some (.ref NL), v5, some (.ref OL), v7, v8, v9] ∧ Lim H H' t c cs a OL os conds un rf ∧ rf.length ≤ 4 ∧ (rf.map (·.1)).Nodup ∧ (∀ p ∈ rf, p.1 ∈ ((colNs tab.cols).drop 1).take j) ∧ (∀ p ∈ rf, ∃ col ∈ tab.cols.drop 1, col.n = p.1 ∧ p.2 ≠ tab.n ∧ ∃ f ∈ frOf s, f.1 = p.2 ∧ ∃ kc, f.2[0]? = some kc ∧ kc.k = col.k) ∧ H' CL = some (.lst (xc.drop 1))) ⟨_, _, [], rfl, L8.step e9, by decide, List.nodup_nil, (by intro x hx; cases hx), (by intro x hx; cases hx), upd_same⟩ (fun j σ H' _ ⟨_, _, _, _, _, _, _, _, _, e⟩ => SqL.of e) ?_ ?_⟩
    · rintro j x σ H9 H9' hj ⟨v8, v9, rf, rfl, L9, l9, nd9, k9, rc9, C9⟩ ⟨rfl, ex⟩
      have ex1 : xc[j + 1]? = some x := by rw [List.getElem?_drop] at ex; rw [show j + 1 = 1 + j by omega]; exact ex
      have hjl : j + 1 < tab.cols.length := by rw [← lx]; exact (List.getElem?_eq_some_iff.mp ex1).1
      have ecol : tab.cols[j + 1]? = some tab.cols[j + 1] := List.getElem?_eq_getElem hjl
      obtain ⟨xs', ca, u1, u2, u3⟩ := (D.co).get ecol
      have hxc : xs' = xc := by
        have := L8.se _ _ u1 (by
          simp only [List.mem_cons, List.not_mem_nil, or_false, not_or]
          exact ⟨T.notL u1, n1, n2, n3⟩)
        rw [g6] at this
        cases this
        rfl
      rw [hxc, ex1] at u2
      cases u2
      have hca : ∀ {H' : Hp} {rf' : List (Str × Str)}, Lim H H' t c cs a OL os conds un rf' → H' ca = some (.tup [.str tab.cols[j + 1].n, .str tab.cols[j + 1].k, .bl tab.cols[j + 1].b]) := fun L => L.kt _ _ u3
      have mono : ∀ p ∈ rf, p.1 ∈ ((colNs tab.cols).drop 1).take (j + 1) := fun p hp => by rw [List.take_add_one]; exact List.mem_append.mpr (.inl (k9 p hp))
      have skip : ∀ (H' : Hp) (v9 : Option V), Lim H H' t c cs a OL os conds un rf → H' CL = some (.lst (xc.drop 1)) → ∃ v8 v9', ∃ rf' : List (Str × Str), [some (V.ref t), some (V.ref S), some (V.str tab.n), some (V.ref a.c), some (V.ref NL), v5, some (V.ref OL), v7, some (V.ref ca), v9] = [some (V.ref t), some (V.ref S), some (V.str tab.n), some (V.ref a.c), some (V.ref NL), v5, some (V.ref OL), v7, v8, v9'] ∧ Lim H H' t c cs a OL os conds un rf' ∧ rf'.length ≤ 4 ∧ (rf'.map (·.1)).Nodup ∧ (∀ p ∈ rf', p.1 ∈ ((colNs tab.cols).drop 1).take (j + 1)) ∧ (∀ p ∈ rf', ∃ col ∈ tab.cols.drop 1, col.n = p.1 ∧ p.2 ≠ tab.n ∧ ∃ f ∈ frOf s, f.1 = p.2 ∧ ∃ kc, f.2[0]? = some kc ∧ kc.k = col.k) ∧ H' CL = some (.lst (xc.drop 1)) :=
        fun H' v9 L h => ⟨_, _, rf, rfl, L, l9, nd9, mono, rc9, h⟩
      refine ⟨_, rfl, (by show 0 ≤ sizeLine; decide), fun pe hpe => ?_⟩
      have e10 := same_new hpe (.lst [])
      have L10 := L9.step e10
      have C10 := e10 _ _ C9
      have sok : ∀ x ∈ os, PySem.PyData.strOk x = true := fun x hx => by
        obtain ⟨p, hp, e⟩ := sch_in (ho x hx).1
        rw [← e]
        exact (hnk p hp).1.str
      refine ⟨.list (os.map PyData.str), .list [], .lst (SqL.of L10.ol) (strs_dp _), .lst (SqL.of upd_same) .nil, strs_shaped sok, rfl, _, rfl, ?_⟩
      rw [strs_eqv]
      refine ite2 (fun hne => ?_) (fun _ => skip _ _ L10 C10)
      have hpos : 0 < os.length := by
        cases os with
        | nil => cases hne
        | cons y r => exact Nat.succ_pos _
      refine ⟨_, rfl, t, c, cs, 3, rfl, L10.T, by decide, by decide +kernel, fun d H11 d0 d1 T11 s11 => ⟨rfl, _, rfl, ?_⟩⟩
      have L11 := L10.stepX T11 s11
      have C11 := s11 _ _ C10 w4
      refine ifD (fun _ => ?_) (fun _ => skip _ _ L11 C11)
      obtain ⟨g1, g2, g3, g4, g5, g6', _⟩ := L11.see A hm htk
      obtain ⟨ys', r3, r4⟩ := L11.rf
      have lr : ys'.length = rf.length := by rw [r4.length, List.length_map]
      refine ⟨_, rfl, _, rfl, S, _, rfl, g1, a.d, _, rfl, g5, a.r, _, rfl, .inl (SqL.of r3), _, _, rfl, rfl, _, rfl, ?_⟩
      refine ifD (fun h4 => ?_) (fun _ => skip _ _ L11 C11)
      refine ⟨_, rfl, _, rfl, _, rfl, OL, _, rfl, .inl (SqL.of L11.ol), t, c, cs, ((os.map V.str).length : Int), rfl, L11.T, by rw [List.length_map]; omega, ?_, fun g H12 gg0 gg1 T12 s12 => ?_⟩
      · have b9 : (2 : Nat) ^ 9000 = 2 ^ 7 * 2 ^ 8993 := by rw [← Nat.pow_add]
        have b8 : 0 < (2 : Nat) ^ 8993 := Nat.pow_pos (by decide)
        rw [b9]
        have : (((os.map V.str).length : Int)).natAbs = os.length := by rw [List.length_map]; omega
        omega
      have L12 := L11.stepX T12 s12
      have C12 := s12 _ _ C11 w4
      rw [List.length_map] at gg1
      have hgl : g.toNat < os.length := by omega
      have eo : os[g.toNat]? = some os[g.toNat] := List.getElem?_eq_getElem hgl
      have hmo := List.getElem_mem hgl
      generalize os[g.toNat] = oth at eo hmo
      obtain ⟨hin, hneq⟩ := ho _ hmo
      obtain ⟨p, hp, ep⟩ := sch_in hin
      subst ep
      refine ⟨OL, _, g, _, rfl, rfl, SqL.of L12.ol, at_of (j := g.toNat) (by omega) (by rw [List.getElem?_map, eo]; rfl), ?_⟩
      obtain ⟨g1, g2, g3, g4, g5, g6', gq⟩ := L12.see A hm htk
      obtain ⟨q1, q2, q3⟩ := gq p hp
      have hp0 : p.2.cols[0]? = some (p.2.cols[0]'((hnk p hp).2)) := List.getElem?_eq_getElem _
      obtain ⟨xq, qa, z1, z2, z3⟩ := q3.get hp0
      generalize p.2.cols[0]'((hnk p hp).2) = kc at hp0 z3
      refine ⟨_, rfl, _, rfl, S, _, rfl, q1, p.1.d, _, rfl, q2, p.1.c, _, 0, _, rfl, rfl, SqL.of z1, atI_nat (j := 0) z2, qa, _, 1, _, rfl, rfl, SqT.of z3, atI_nat (j := 1) rfl, _, rfl, ca, _, 1, _, rfl, rfl, SqT.of (hca L12), atI_nat (j := 1) rfl, rfl, _, rfl, ?_⟩
      refine ifD (fun hkk => ?_) (fun _ => skip _ _ L12 C12)
      obtain ⟨ys2, r5, r6⟩ := L12.rf
      refine ⟨_, rfl, _, rfl, S, _, rfl, g1, a.d, _, rfl, g5, .inl ⟨rfl, _, SqL.of r5⟩, ?_⟩
      refine ⟨_, rfl, ca, _, 0, _, rfl, rfl, SqT.of (hca L12), atI_nat (j := 0) rfl, _, rfl, (by show 2 ≤ sizeLine; decide), fun pt hpt => ?_⟩
      have e13 := same_new hpt (.tup [.str tab.cols[j + 1].n, .str p.2.n])
      have L13 := L12.step e13
      have r7 := e13 _ _ r5
      refine ⟨a.r, ys2, _, rfl, rfl, r7, (by rw [r6.length, List.length_map]; exact small1000 (by omega)), ?_⟩
      have ku : KeepT (upd H12 pt (.tup [.str tab.cols[j + 1].n, .str p.2.n])) (upd (upd H12 pt (.tup [.str tab.cols[j + 1].n, .str p.2.n])) a.r (.lst (ys2 ++ [.ref pt]))) := KeepT.upd (fun zs q => by rw [r7] at q; cases q)
      obtain ⟨xs3, v1, v2⟩ := L13.ch
      have enm : ((colNs tab.cols).drop 1)[j]? = some tab.cols[j + 1].n := by
        rw [List.getElem?_drop, show 1 + j = j + 1 by omega]
        unfold colNs
        rw [List.getElem?_map, ecol]
        rfl
      refine ⟨_, _, rf ++ [(tab.cols[j + 1].n, p.2.n)], rfl, ⟨L13.T.upd rt' cr.symm, L13.kt.trans ku, SameE.upd (by simp) _ L13.se, by rw [upd_ne y3]; exact L13.ol, ⟨xs3, by rw [upd_ne n5]; exact v1, v2.mono ku⟩, by rw [upd_ne n6]; exact L13.un, ⟨ys2 ++ [.ref pt], upd_same, ?_⟩⟩, by rw [List.length_append, List.length_singleton]; omega, ?_, ?_, ?_, by rw [upd_ne w3]; exact e13 _ _ C12⟩
      · rw [List.map_append]
        exact TpL.snoc ((r6.mono (KeepT.of e13)).mono ku) (rf_mk (ku _ _ upd_same))
      · rw [List.map_append]
        refine List.nodup_append.mpr ⟨nd9, by simp, fun y hy w hw => ?_⟩
        have : w = tab.cols[j + 1].n := by simpa using hw
        subst this
        rintro rfl
        obtain ⟨pp, hpp, epp⟩ := List.mem_map.mp hy
        have hkk9 := k9 pp hpp
        rw [epp] at hkk9
        obtain ⟨i0, hi0, ei⟩ := List.getElem_of_mem hkk9
        rw [List.length_take] at hi0
        rw [List.getElem_take] at ei
        have ndn : ((colNs tab.cols).drop 1).Nodup := bare.co.nd.sublist (List.drop_sublist _ _)
        have b1 : ((colNs tab.cols).drop 1)[i0]? = some tab.cols[j + 1].n := by rw [List.getElem?_eq_getElem (by omega), ei]
        have := nd_ix ndn b1 enm
        omega
      · intro y hy
        rcases List.mem_append.mp hy with hy | hy
        · exact mono y hy
        · rw [List.mem_singleton.mp hy, List.take_add_one, enm]
          exact List.mem_append.mpr (.inr (by simp))
      · intro y hy
        rcases List.mem_append.mp hy with hy | hy
        · exact rc9 y hy
        · rw [List.mem_singleton.mp hy]
          refine ⟨tab.cols[j + 1], ?_, rfl, hneq, (p.2.n, p.2.cols), List.mem_map.mpr ⟨p, hp, rfl⟩, rfl, kc, hp0, V.str.inj hkk⟩
          refine List.mem_of_getElem? (i := j) ?_
          rw [List.getElem?_drop, show 1 + j = j + 1 by omega]
          exact ecol
    · rintro σ H9 ⟨v8, v9, rf, rfl, L9, l9, nd9, k9, rc9, C9⟩
      obtain ⟨g1, g2, g3, g4, g5, g6', _⟩ := L9.see A hm htk
      obtain ⟨xs3, v1, v2⟩ := L9.ch
      obtain ⟨ys3, v3, v4⟩ := L9.rf
      have hd9 : H9 a.d = some (.dK (descD a)) := L9.se _ _ D.dk (by
        simp only [List.mem_cons, List.not_mem_nil, or_false, not_or]
        exact ⟨a2 _ hm, ne_of D.dk hk0 (by intro z; cases z), ne_of D.dk hu0 (by intro z; cases z), ne_of D.dk hr0 (by intro z; cases z)⟩)
      exact q ⟨tab.n, tab.cols, conds, un, rf⟩ H9 rfl rfl ⟨bare.nm, bare.co, bare.l0, bare.l5, by show conds.length ≤ 2; omega, k7, l8, nd8, hun, l9, nd9, rc9⟩ ⟨hd9, g6', ⟨xs3, v1, v2⟩, L9.un, ⟨ys3, v3, v4⟩⟩ L9.T L9.kt L9.se)

theorem small_nat {x : Int} (h : 0 ≤ x) (h2 : x ≤ 1000) : x.natAbs < 2 ^ 9000 := by
  have h1 : x.natAbs ≤ 1000 := by omega
  exact Nat.lt_of_le_of_lt h1 (by decide +kernel)
theorem ok_law_schema {f : Addr} {fd : FuncData} (k : Kn K mg "_law_schema" s_law_schema ["tape", "least", "most"] f fd) (z : Z mg)
    {g_law_take : Addr} {gd_law_take : FuncData} (c_law_take : Cal P w K mg base 1 "_law_take" ["tape", "many"] (spTake) g_law_take gd_law_take)
    {g_law_name : Addr} {gd_law_name : FuncData} (c_law_name : Cal P w K mg base 2 "_law_name" ["tape", "used"] (spName) g_law_name gd_law_name)
    {g_law_table : Addr} {gd_law_table : FuncData} (c_law_table : Cal P w K mg base 1 "_law_table" ["columns"] (spTable) g_law_table gd_law_table)
    {g_law_columns : Addr} {gd_law_columns : FuncData} (c_law_columns : Cal P w K mg base 3 "_law_columns" ["tape", "used", "many"] (spColumns) g_law_columns gd_law_columns)
    {g_law_limits : Addr} {gd_law_limits : FuncData} (c_law_limits : Cal P w K mg base 7 "_law_limits" ["tape", "schema", "table"] (spLimits) g_law_limits gd_law_limits) :
    Cal P w K mg base 8 "_law_schema" ["tape", "least", "most"] (spSchema) f fd := k.cal (by
  refine k.F.ok sc_law_schema (fun vs H Q E h => ?_) (fun cdv A outer s H vs Q E hr h => ?_)
  · obtain ⟨t, c, cs, least, most, rfl, _⟩ := h; rfl
  · obtain ⟨t, c, cs, least, most, rfl, T, b0, b1, b6, q⟩ := h
    have hu := hu_of hr
    refine ⟨_, (pss_cons (ps_set (i := 3) sc_law_schema.nd rfl (Or.inl rfl) (pe_lst pa_nil))
        (pss_cons (ps_set (i := 4) sc_law_schema.nd rfl (Or.inl rfl) pe_dnewK)
        (pss_cons (ps_for PassesOwn.never rfl (pi_range1 (by rfl) z.range (pa_cons (pe_op op_add (pv 1) (pe_call c_law_take.G (hr.mono (by decide)) (by rfl) c_law_take.m c_law_take.kp c_law_take.b .nil pass0 (pa_cons (pv 0) (pa_cons (pe_op op_add (pe_op op_sub (pv 2) (pv 1)) pe_int) pa_nil)))) pa_nil)) (pg_name (i := 5) sc_law_schema.nd rfl (Or.inl rfl))
        (pss_one (ps_dput hu (pv 4) (pe_call c_law_name.G (hr.mono (by decide)) (by rfl) c_law_name.m c_law_name.kp c_law_name.b .nil pass0 (pa_cons (pv 0) (pa_cons (pv 3) pa_nil))) (pe_call c_law_table.G (hr.mono (by decide)) (by rfl) c_law_table.m c_law_table.kp c_law_table.b .nil pass0 (pa_cons (pe_call c_law_columns.G (hr.mono (by decide)) (by rfl) c_law_columns.m c_law_columns.kp c_law_columns.b .nil pass0 (pa_cons (pv 0) (pa_cons (pe_lst pa_nil) (pa_cons (pe_call c_law_take.G (hr.mono (by decide)) (by rfl) c_law_take.m c_law_take.kp c_law_take.b .nil pass0 (pa_cons (pv 0) (pa_cons pe_int pa_nil))) pa_nil)))) pa_nil)) rfl)))
        (pss_cons (ps_for PassesOwn.never rfl (pi_list (pe_callB (call_sortedD rfl) (by rfl) z.sorted (by decide +kernel) (pa_cons (pv 4) pa_nil))) (pg_name (i := 6) sc_law_schema.nd rfl (Or.inl rfl))
        (pss_one (ps_expr (pe_call c_law_limits.G (hr.mono (by decide)) (by rfl) c_law_limits.m c_law_limits.kp c_law_limits.b .nil pass0 (pa_cons (pv 0) (pa_cons (pv 4) (pa_cons (pv 6) pa_nil)))))))
        (pss_one (ps_ret (pv 4))))))), ?_⟩
    refine ⟨(by show 0 ≤ sizeLine; decide), fun U hU => ?_⟩
    refine fun S hS => ?_
    have m1 := same_new hU (.lst [])
    have m2 := same_new hS (.dK [])
    have M := m1.trans m2
    have fS : H S = none := m1.free hS
    have US : U ≠ S := ne_of_none upd_same hS
    have hUt := T.fresh hU
    have hSt := T.fresh fS
    refine ⟨_, rfl, _, rfl, _, rfl, _, rfl, _, _, rfl, rfl, _, _, rfl, rfl, t, c, cs, most - least + 1, rfl, T.mono M, by omega, small_nat (by omega) (by omega), fun d H1 d0 d1 T1 s1 => ?_⟩
    have hU1 : H1 U = some (.lst []) := s1 _ _ (m2 _ _ upd_same) hUt.1
    have hS1 : H1 S = some (.dK []) := s1 _ _ upd_same hSt.1
    refine ⟨_, _, rfl, rfl, _, rfl, by omega, by omega, for_range (lo := 0) (n := (least + d).toNat) (fun i σ H' => ∃ v, ∃ s : Sch, σ = [some (.ref t), some (.int least), some (.int most), some (.ref U), some (.ref S), v, none] ∧ SchAt H' S s t c ∧ TapeAt H' t c cs ∧ H' U = some (.lst ((schN s).map V.str)) ∧ U ∉ schL s ∧ (∀ p ∈ s, TabBare p.2) ∧ s.length = i ∧ SameX t H H' ∧ (∀ b ∈ schL s, H b = none)) ⟨none, [], rfl, ⟨hS1, (by intro p hp; cases hp), List.nodup_nil, ?_, ?_⟩, T1, hU1, (by intro z; cases z), (by intro p hp; cases hp), rfl, (SameX.of M).trans s1, (by intro p hp; cases hp)⟩ ?_ ?_⟩
    · show [t, S].Nodup
      simp only [List.nodup_cons, List.mem_cons, List.not_mem_nil, or_false, not_false_eq_true, List.nodup_nil, and_true]
      exact hSt.1.symm
    · show [c].Nodup
      simp
    · rintro i σ H2 hi ⟨v, s, rfl, A, T2, hU2, nU, bare, ls, S2, new⟩
      have ln : (schN s).length = i := by unfold schN; rw [List.length_map]; exact ls
      refine ⟨_, rfl, (by show 0 ≤ sizeLine; decide), fun E hE => ?_⟩
      have e3 := same_new hE (.lst [])
      refine ⟨_, rfl, t, c, cs, 5, rfl, T2.mono e3, by decide, by decide +kernel, fun d H3 d0 d1 T3 s3 => ?_⟩
      have fE := T2.fresh hE
      refine ⟨t, c, E, cs, [], d, rfl, T3, s3 _ _ upd_same fE.1, fE.2.symm, d0, by omega, (by show ((0 : Nat) : Int) + d ≤ 25; omega), fun L cols xs H4 _ hL rL lc okc T4 _ s4 => ?_⟩
      refine ⟨L, cols, rfl, ⟨xs, hL, rL⟩, fun a H5 D5 s5 fd fl ndA => ?_⟩
      have X24 : ∀ b o, H2 b = some o → b ≠ t → H4 b = some o := fun b o hb ht => s4 _ _ (s3 _ _ (e3 _ _ hb) ht) ht (ne_of_none hb hE)
      have X25 : SameX t H2 H5 := fun b o hb ht => s5 _ _ (X24 b o hb ht)
      have ht4 : ∃ o, H4 t = some o := by obtain ⟨_, _, _, _, e, _⟩ := T4.dk; exact ⟨_, e⟩
      have back : ∀ {b : Addr}, H4 b = none → b ≠ t ∧ H2 b = none := fun {b} hb => by
        have h1 : b ≠ t := fun z => by obtain ⟨o, e⟩ := ht4; rw [z, e] at hb; cases hb
        refine ⟨h1, ?_⟩
        cases z : H2 b with
        | none => rfl
        | some o => have := X24 b o z h1; rw [hb] at this; cases this
      have T5 := T4.mono s5
      have A5 := A.monoX T2 X25
      have hU5 := X25 _ _ hU2 hUt.1
      refine ⟨_, rfl, _, rfl, _, rfl, t, c, U, cs, schN s, rfl, T5, hU5, hUt.2.symm, by omega, fun z H6 nk nf T6 hU6 s6 => ?_⟩
      have A6 := A5.monoXY T5 hU5 nU s6
      have hdk : H5 a.d = some (.dK (descD a)) := (D5 z).dk
      have aU : a.d ≠ U := fun e => by rw [e, hU5] at hdk; cases hdk
      have bU : ∀ b ∈ adL a, b ≠ U := fun b hb e => by
        have := (back (fl b hb)).2
        rw [e, hU2] at this; cases this
      have D6 : DescAt H6 a ⟨z, cols, [], [], []⟩ := (D5 z).frame (KeepT.ofXY T5 hU5 s6) (fun o e => s6 _ _ e (back fd).1 aU) (fun b hb o e => s6 _ _ e (back (fl b hb)).1 (bU b hb))
      refine ⟨S, _, rfl, DPut.k (k := (Sum.inr z : Key)) A6.sk (by unfold schK; rw [List.length_map]; exact Nat.lt_of_lt_of_le (by omega : s.length < 1000) (by show 1000 ≤ sizeLine; decide)), ?_⟩
      rw [schK_new (s := s) (a := a) (tab := ⟨z, cols, [], [], []⟩) nf]
      refine ⟨_, s ++ [(a, ⟨z, cols, [], [], []⟩)], rfl, A6.add D6 nf ?_ ?_ ndA, T6.upd hSt.1 hSt.2, ?_, ?_, ?_, (by rw [List.length_append, List.length_singleton, ls]), ?_, ?_⟩
      · refine ⟨(back fd).1, fun e => ?_, fun p hp e => ?_⟩
        · have := (back fd).2; rw [e, A.sk] at this; cases this
        · have := (back fd).2; rw [e, (A.ds p hp).dk] at this; cases this
      · refine fun b hb => ⟨fun e => ?_, fun e => ?_⟩
        · have := (back (fl b hb)).2; rw [e, T2.ls] at this; cases this
        · obtain ⟨p, hp, hbp⟩ := List.mem_flatMap.mp e
          obtain ⟨xs', g⟩ := (A.ds p hp).isL b hbp
          have := (back (fl b hb)).2; rw [g] at this; cases this
      · rw [upd_ne US, hU6]
        have : schN (s ++ [(a, ⟨z, cols, [], [], []⟩)]) = schN s ++ [z] := by unfold schN; rw [List.map_append]; rfl
        rw [this]
      · intro e
        unfold schL at e
        rw [List.flatMap_append] at e
        rcases List.mem_append.mp e with e | e
        · exact nU e
        · exact bU U (by simpa using e) rfl
      · intro p hp
        rcases List.mem_append.mp hp with hp | hp
        · exact bare p hp
        · rw [List.mem_singleton.mp hp]
          exact ⟨nk, okc, by show 1 ≤ cols.length; omega, by show cols.length ≤ 5; omega, rfl, rfl, rfl⟩
      · intro b o hb ht
        have nb : b ≠ U := ne_of_none hb hU
        rw [upd_ne (ne_of_none hb fS)]
        exact s6 _ _ (X25 _ _ (S2 _ _ hb ht) ht) ht nb
      · intro b hb
        unfold schL at hb
        rw [List.flatMap_append] at hb
        rcases List.mem_append.mp hb with hb | hb
        · exact new b hb
        · have hb : b ∈ adL a := by simpa using hb
          have h2 := back (fl b hb)
          exact S2.free h2.1 h2.2
    rintro σ H2 ⟨v, s, rfl, A, T2, hU2, nU, bare, ls, S2, new⟩
    have l6 : s.length ≤ 6 := by omega
    refine ⟨_, rfl, S, schK s, schN s, rfl, .inl A.sk, sch_keys s, (by unfold schN; rw [List.length_map]; omega), fun ys P hper _ hP => ?_⟩
    have e3 := same_new hP (.lst (ys.map V.str))
    have ndy : ys.Nodup := hper.nodup_iff.mpr A.nm
    refine ⟨P, rfl, ⟨_, SqL.of upd_same⟩, for_it walk_list (fun j σ H' => ∃ w, ∃ s' : Sch, σ = [some (.ref t), some (.int least), some (.int most), some (.ref U), some (.ref S), v, w] ∧ Half H H' t c cs S s s' (ys.take j) ∧ H' P = some (.lst (ys.map V.str))) ⟨none, s, rfl, ⟨A.monoX T2 (SameX.of e3), T2.mono e3, rfl, rfl, (by intro p hp hd; cases hd), fun p hp _ => bare p hp, S2.trans (SameX.of e3), new⟩, upd_same⟩ (fun j σ H' _ ⟨_, _, _, _, e⟩ => SqL.of e) ?_ ?_⟩
    · rintro j x σ H3 H3' hj ⟨w, s', rfl, L, hP3⟩ ⟨rfl, ex⟩
      rw [List.length_map] at hj
      have ey : ys[j]? = some ys[j] := List.getElem?_eq_getElem hj
      rw [List.getElem?_map, ey] at ex
      cases ex
      have hin : ys[j] ∈ schN s' := by rw [schN_of L.fr]; exact hper.mem_iff.mp (List.getElem_mem hj)
      obtain ⟨⟨a, tab⟩, hm, hn⟩ := sch_in hin
      have hn : tab.n = ys[j] := hn
      have hnd : tab.n ∉ ys.take j := by
        rw [hn]
        intro z
        obtain ⟨i0, hi0, ei⟩ := List.getElem_of_mem z
        rw [List.length_take] at hi0
        rw [List.getElem_take] at ei
        have b1 : ys[i0]? = some ys[j] := by rw [List.getElem?_eq_getElem (by omega), ei]
        have := nd_ix ndy b1 ey
        omega
      have l6' : s'.length ≤ 6 := by have := congrArg List.length L.ads; simp only [List.length_map] at this; omega
      refine ⟨_, rfl, _, rfl, _, rfl, t, c, S, cs, s', a, tab, (by rw [hn]; rfl), L.T, L.A, l6', fun p hp => ?_, hm, L.ba _ hm hnd, fun tab' H4 hn' hc' ok D T4 kt se => ?_⟩
      · by_cases hd : p.2.n ∈ ys.take j
        · have k := L.ok p hp hd; exact ⟨k.nm, k.l0⟩
        · have k := L.ba p hp hd; exact ⟨k.nm, k.l0⟩
      obtain ⟨s2, L2⟩ := L.put hm hn' hc' ok D T4 kt se
      have et : ys.take (j + 1) = ys.take j ++ [tab.n] := by rw [List.take_add_one, ey, hn]; rfl
      refine ⟨_, s2, rfl, by rw [et]; exact L2, se _ _ hP3 fun hc => ?_⟩
      have hP0 : H2 P = none := hP
      obtain ⟨_, _, _, _, et2, _⟩ := T2.dk
      have dd : ∀ b ∈ adL a, H2 b ≠ none := fun b hb z => by
        have e1 : b ∈ schL s := by rw [← schL_of L.ads]; exact mem_flat hm hb
        obtain ⟨p, hp, hbp⟩ := List.mem_flatMap.mp e1
        obtain ⟨xs', g⟩ := (A.ds p hp).isL b hbp
        rw [g] at z; cases z
      simp only [List.mem_cons, List.not_mem_nil, or_false] at hc
      rcases hc with z | z | z | z
      · rw [z, et2] at hP0; cases hP0
      · exact dd a.k (by simp [adL]) (z ▸ hP0)
      · exact dd a.u (by simp [adL]) (z ▸ hP0)
      · exact dd a.r (by simp [adL]) (z ▸ hP0)
    rintro σ H3 ⟨w, s', rfl, L, hP3⟩
    rw [List.length_map, List.take_length] at L
    have ls' : s'.length = s.length := by have := congrArg List.length L.ads; simpa using this
    refine ⟨_, rfl, q S s' H3 L.A (fun p hp => ?_) (by omega) (by omega) L.T L.se⟩
    rw [L.fr]
    refine L.ok p hp (hper.mem_iff.mpr ?_)
    rw [← schN_of L.fr]
    exact List.mem_map.mpr ⟨p, hp, rfl⟩)

theorem no_copy {f : Addr} {fd : FuncData} : FnOk P w K mg base CX0 0 f fd ["thing"] (spCopyG 0) := by
  have no : ∀ vs H Q E, ¬ spCopyG 0 vs H Q E := fun vs H Q E h => by
    obtain ⟨x, g, D, _, _, h1, _⟩ := h
    exact Nat.not_lt_zero _ h1
  exact ⟨fun vs H Q E h => absurd h (no vs H Q E), fun A outer s H args us vs Q E _ _ _ _ h => absurd h (no vs H Q E)⟩
theorem ok_copy {n : Nat} {f : Addr} {fd : FuncData} (k : Kn K mg "_law_copy" s_law_copy ["thing"] f fd) (z : Z mg)
    (c_law_copy : Cal P w K mg base n "_law_copy" ["thing"] (spCopyG n) f fd) : Cal P w K mg base (n + 1) "_law_copy" ["thing"] (spCopyG (n + 1)) f fd := k.cal (by
  refine k.F.ok sc_law_copy (fun vs H Q E h => ?_) (fun cdv A outer s H vs Q E hr h => ?_)
  · obtain ⟨x, g, D, rfl, _⟩ := h; rfl
  · obtain ⟨x, g, D, rfl, hx, hdep, q⟩ := h
    have hu := hu_of hr
    refine ⟨_, (pss_cons (ps_if (pt_val (pe_callB call_isi (by rfl) z.isinstance (by decide +kernel) (pa_cons (pv 0) (pa_cons (pe_bltn (v := .ty "list") (u := .type "list") (by rfl) z.list (by decide +kernel) rfl) pa_nil)))) (pss_one (ps_ret (pe_lc (own := [("item", 3)]) (g := gName 3) (tt := tYes) (by rfl) sc_law_copy.nd (pi_list (pv 0)) (blkOk_by (own := [("item", 3)]) (N := ["thing", "result", "key", "item"]) (sc := defScope s_law_copy) (by decide +kernel)) (fun _ _ _ _ _ => pg_name (i := 3) sc_law_copy.nd rfl (Or.inl rfl)) (fun _ _ _ _ _ => pts_nil) (fun _ _ _ _ _ => (pe_call c_law_copy.G (hr.mono (by omega)) (by rfl) c_law_copy.m c_law_copy.kp c_law_copy.b .nil pass0 (pa_cons (pv 3) pa_nil)))))) pss_nil)
    (pss_cons (ps_if (pt_val (pe_callB call_isi (by rfl) z.isinstance (by decide +kernel) (pa_cons (pv 0) (pa_cons (pe_bltn (v := .ty "tuple") (u := .type "tuple") (by rfl) z.tuple (by decide +kernel) rfl) pa_nil)))) (pss_one (ps_ret (pe_callTy call_tuple_of (by rfl) z.tuple (by decide +kernel) (pa_cons (pe_lc (own := [("item", 3)]) (g := gName 3) (tt := tYes) (by rfl) sc_law_copy.nd (pi_tup (pv 0)) (blkOk_by (own := [("item", 3)]) (N := ["thing", "result", "key", "item"]) (sc := defScope s_law_copy) (by decide +kernel)) (fun _ _ _ _ _ => pg_name (i := 3) sc_law_copy.nd rfl (Or.inl rfl)) (fun _ _ _ _ _ => pts_nil) (fun _ _ _ _ _ => (pe_call c_law_copy.G (hr.mono (by omega)) (by rfl) c_law_copy.m c_law_copy.kp c_law_copy.b .nil pass0 (pa_cons (pv 3) pa_nil)))) pa_nil)))) pss_nil)
    (pss_cons (ps_if (pt_val (pe_callB call_isi (by rfl) z.isinstance (by decide +kernel) (pa_cons (pv 0) (pa_cons (pe_bltn (v := .ty "dict") (u := .type "dict") (by rfl) z.dict (by decide +kernel) rfl) pa_nil)))) (pss_cons (ps_set (i := 1) sc_law_copy.nd rfl (Or.inl rfl) pe_dnewK)
    (pss_cons (ps_lock (ps_for PassesOwn.never rfl (pi_keys (pv 0)) (pg_name (i := 2) sc_law_copy.nd rfl (Or.inl rfl))
    (pss_one (ps_dput hu (pv 1) (pv 2) (pe_call c_law_copy.G (hr.mono (by omega)) (by rfl) c_law_copy.m c_law_copy.kp c_law_copy.b .nil pass0 (pa_cons (pe_dget hu (pv 0) (pv 2) (fun _ _ => rfl)) pa_nil)) rfl))))
    (pss_one (ps_ret (pv 1))))) pss_nil)
    (pss_one (ps_ret (pv 0)))))), ?_⟩
    -- the items of a list or a tuple, one by one, into a new list R
    have part : ∀ (gs : List G) (xs : List V) (R : Addr), H R = none → (∀ g ∈ gs, g.dep < n) → xs.length = gs.length → xs.length ≤ 1000 → True := fun _ _ _ _ _ _ _ => True.intro
    cases hx with
    | @s v hs =>
      obtain ⟨t, hT, c⟩ := ty_scal (K := K) (H := H) hs
      have n1 : kitB t "list" = some false ∧ kitB t "tuple" = some false ∧ kitB t "dict" = some false := by
        rcases c with ⟨_, rfl⟩ | ⟨_, rfl⟩ | ⟨_, rfl⟩ | ⟨_, rfl⟩ <;> exact ⟨by decide +kernel, by decide +kernel, by decide +kernel⟩
      refine ⟨_, rfl, _, _, _, _, false, rfl, .ty _, hT, kit_ty n1.1, _, rfl, ?_⟩
      refine ⟨_, rfl, _, _, _, _, false, rfl, .ty _, hT, kit_ty n1.2.1, _, rfl, ?_⟩
      refine ⟨_, rfl, _, _, _, _, false, rfl, .ty _, hT, kit_ty n1.2.2, _, rfl, ?_⟩
      exact ⟨_, rfl, q _ [] _ (.s hs) (Same.refl _) (fun a h => by cases h)⟩
    | @l a xs gs D hxa hn rx =>
      have hA : TyX K H (.ref a) (.type "list") := .base (.lst hxa)
      have hd : ∀ g ∈ gs, g.dep < n := fun g hg => by have := depL_mem hg; simp only [G.dep] at hdep; omega
      refine ⟨_, rfl, _, _, _, _, true, rfl, .ty _, hA, kit_ty (by decide +kernel), _, rfl, ?_⟩
      refine ⟨_, rfl, a, rfl, ⟨_, SqL.of hxa⟩, fun R hR => inner walk_list (fun i H' => ∃ ys E, H' R = some (.lst ys) ∧ GpL H' ys (gs.take i) E ∧ Same H H' ∧ (∀ b ∈ E, H b = none ∧ b ≠ R)) ⟨[], [], upd_same, .nil, same_new hR _, (fun b h => by cases h)⟩ (fun i H' _ ⟨_, _, _, _, s, _⟩ => SqL.of (s _ _ hxa)) ?_ ?_⟩
      · rintro i x H1 H1' hi ⟨ys, E, R1, r1, s1, f1⟩ ⟨rfl, ex⟩
        obtain ⟨g1, D1, e1, p1, i1⟩ := rx.get ex
        refine ⟨rfl, _, rfl, x, g1, D1, rfl, p1.mono s1, hd g1 (List.mem_of_getElem? e1), fun x' D' H2 p2 s2 f2 => ?_⟩
        have R2 := s2 _ _ R1
        have ku : KeepT H2 (upd H2 R (.lst (ys ++ [x']))) := KeepT.upd (fun zs z => by rw [R2] at z; cases z)
        have nR : ∀ b ∈ D', b ≠ R := fun b hb e => by subst e; have := f2 _ hb; rw [R1] at this; cases this
        refine ⟨ys, R2, (by rw [r1.length, List.length_take]; exact small1000 (by omega)), ys ++ [x'], E ++ D', upd_same, ?_, same_upd hR _ (s1.trans s2), ?_⟩
        · rw [List.take_add_one, e1]
          exact GpL.snoc ((r1.mono s2).frame ku fun b hb o ho => by rw [upd_ne (f1 b hb).2]; exact ho) (p2.frame ku fun b hb o ho => by rw [upd_ne (nR b hb)]; exact ho)
        · intro b hb
          rcases List.mem_append.mp hb with hb | hb
          · exact f1 b hb
          · exact ⟨s1.free (f2 b hb), nR b hb⟩
      · rintro H1 ⟨ys, E, R1, r1, s1, f1⟩
        rw [List.take_of_length_le (by rw [rx.length]; omega)] at r1
        refine q (.ref R) (R :: E) H1 (.l R1 (by rw [r1.length, ← rx.length]; exact hn) r1) s1 (fun b hb => ?_)
        rcases List.mem_cons.mp hb with rfl | hb
        · exact hR
        · exact (f1 b hb).1
    | @t a xs gs D hxa hn rx =>
      have hA : TyX K H (.ref a) (.type "tuple") := .base (.tup hxa)
      have hd : ∀ g ∈ gs, g.dep < n := fun g hg => by have := depL_mem hg; simp only [G.dep] at hdep; omega
      refine ⟨_, rfl, _, _, _, _, false, rfl, .ty _, hA, kit_ty (by decide +kernel), _, rfl, ?_⟩
      refine ⟨_, rfl, _, _, _, _, true, rfl, .ty _, hA, kit_ty (by decide +kernel), _, rfl, ?_⟩
      refine ⟨_, rfl, a, rfl, ⟨_, SqT.of hxa⟩, fun R hR => inner walk_tup (fun i H' => ∃ ys E, H' R = some (.lst ys) ∧ GpL H' ys (gs.take i) E ∧ Same H H' ∧ (∀ b ∈ E, H b = none ∧ b ≠ R)) ⟨[], [], upd_same, .nil, same_new hR _, (fun b h => by cases h)⟩ (fun i H' _ ⟨_, _, _, _, s, _⟩ => SqT.of (s _ _ hxa)) ?_ ?_⟩
      · rintro i x H1 H1' hi ⟨ys, E, R1, r1, s1, f1⟩ ⟨rfl, ex⟩
        obtain ⟨g1, D1, e1, p1, i1⟩ := rx.get ex
        refine ⟨rfl, _, rfl, x, g1, D1, rfl, p1.mono s1, hd g1 (List.mem_of_getElem? e1), fun x' D' H2 p2 s2 f2 => ?_⟩
        have R2 := s2 _ _ R1
        have ku : KeepT H2 (upd H2 R (.lst (ys ++ [x']))) := KeepT.upd (fun zs z => by rw [R2] at z; cases z)
        have nR : ∀ b ∈ D', b ≠ R := fun b hb e => by subst e; have := f2 _ hb; rw [R1] at this; cases this
        refine ⟨ys, R2, (by rw [r1.length, List.length_take]; exact small1000 (by omega)), ys ++ [x'], E ++ D', upd_same, ?_, same_upd hR _ (s1.trans s2), ?_⟩
        · rw [List.take_add_one, e1]
          exact GpL.snoc ((r1.mono s2).frame ku fun b hb o ho => by rw [upd_ne (f1 b hb).2]; exact ho) (p2.frame ku fun b hb o ho => by rw [upd_ne (nR b hb)]; exact ho)
        · intro b hb
          rcases List.mem_append.mp hb with hb | hb
          · exact f1 b hb
          · exact ⟨s1.free (f2 b hb), nR b hb⟩
      · rintro H1 ⟨ys, E, R1, r1, s1, f1⟩
        rw [List.take_of_length_le (by rw [rx.length]; omega)] at r1
        refine ⟨R, ys, rfl, .inl ⟨SqL.of R1, fun p hp => ?_⟩⟩
        exact q (.ref p) E _ (.t upd_same (by rw [r1.length, ← rx.length]; exact hn) (r1.mono (same_new hp _))) (s1.trans (same_new hp _)) (fun b hb => (f1 b hb).1)
    | @d a kvs kgs D hxa hn nd rx fx =>
      have hA : TyX K H (.ref a) (.type "dict") := .base (.dK hxa)
      have hd : ∀ (k : Key) (g : G), (k, g) ∈ kgs → g.dep < n := fun k g hg => by have := depK_mem hg; simp only [G.dep] at hdep; omega
      refine ⟨_, rfl, _, _, _, _, false, rfl, .ty _, hA, kit_ty (by decide +kernel), _, rfl, ?_⟩
      refine ⟨_, rfl, _, _, _, _, false, rfl, .ty _, hA, kit_ty (by decide +kernel), _, rfl, ?_⟩
      refine ⟨_, rfl, _, _, _, _, true, rfl, .ty _, hA, kit_ty (by decide +kernel), _, rfl, ?_⟩
      refine fun R hR => ?_
      have aR : a ≠ R := ne_of_none hxa hR
      have hxa1 : (upd H R (.dK [])) a = some (.dK kvs) := by rw [upd_ne aR]; exact hxa
      refine ⟨a, .dK kvs, hxa1, True.intro, fun od => ?_⟩
      refine ⟨_, rfl, a, od, rfl, .inl ⟨kvs, upd_same, for_it walk_keys (fun i σ H' => ∃ v2 ys E, σ = [some (.ref a), some (.ref R), v2, none] ∧ H' a = some (.frz od (.dK kvs)) ∧ H' R = some (.dK ys) ∧ GpK H' ys (kgs.take i) E ∧ (∀ b o, H b = some o → b ≠ a → H' b = some o) ∧ (∀ b ∈ E, H b = none ∧ b ≠ R)) ⟨none, [], [], rfl, upd_same, by rw [upd_ne aR.symm]; exact upd_same, .nil, fun b o h nb => by rw [upd_ne nb, upd_ne (ne_of_none h hR)]; exact h, (fun b h => by cases h)⟩ (fun i σ H' _ ⟨_, _, _, _, e, _⟩ => e) ?_ ?_⟩⟩
      · rintro i x σ H1 H1' hi ⟨v2, ys, E, rfl, a1, R1, r1, s1, f1⟩ ⟨rfl, key, wv, ek, rfl⟩
        obtain ⟨g1, D1, e1, p1, i1⟩ := rx.get ek
        have ga : DGet H1' a (kV key) (some wv) := .inl ⟨kvs, key, .inr ⟨od, a1⟩, rfl, (valV_at nd ek).symm⟩
        have p1' : Gp H1' wv g1 D1 := p1.frame (fun b zs h => s1 _ _ h (ne_of h hxa (by intro z; cases z))) (fun b hb o h => s1 _ _ h (fun e => by subst e; exact fx (i1 _ hb)))
        refine ⟨_, rfl, _, rfl, a, wv, rfl, ga, wv, g1, D1, rfl, p1', hd _ _ (List.mem_of_getElem? e1), fun x' D' H2 p2 s2 f2 => ?_⟩
        have R2 := s2 _ _ R1
        have a2 := s2 _ _ a1
        have nR : ∀ b ∈ D', b ≠ R := fun b hb e => by subst e; have := f2 _ hb; rw [R1] at this; cases this
        have lk : ys.length = i := by
          have := congrArg List.length r1.keys
          rw [List.length_map, List.length_map, List.length_take] at this
          have l2 := congrArg List.length rx.keys
          rw [List.length_map, List.length_map] at l2
          omega
        have hno : valV ys key = none := by
          cases e : valV ys key with
          | none => rfl
          | some v =>
            exfalso
            have hin := valV_in e
            rw [r1.keys, List.map_take, ← rx.keys] at hin
            obtain ⟨j, hj, ej⟩ := List.getElem_of_mem hin
            rw [List.length_take] at hj
            rw [List.getElem_take] at ej
            have b1 : (kvs.map (·.1))[j]? = some key := by rw [List.getElem?_eq_getElem (by omega), ej]
            have b2 : (kvs.map (·.1))[i]? = some key := by rw [List.getElem?_map, ek]; rfl
            have := nd_ix nd b1 b2
            omega
        refine ⟨_, rfl, _, rfl, R, _, rfl, DPut.k (k := key) R2 (by rw [lk]; exact small1000 (by omega)), ?_⟩
        rw [putK_new _ hno]
        have ku : KeepT H2 (upd H2 R (.dK (ys ++ [(key, x')]))) := KeepT.upd (fun zs z => by rw [R2] at z; cases z)
        refine ⟨_, ys ++ [(key, x')], E ++ D', rfl, by rw [upd_ne aR]; exact a2, upd_same, ?_, ?_, ?_⟩
        · rw [List.take_add_one, e1]
          exact GpK.snoc ((r1.mono s2).frame ku fun b hb o ho => by rw [upd_ne (f1 b hb).2]; exact ho) (p2.frame ku fun b hb o ho => by rw [upd_ne (nR b hb)]; exact ho)
        · intro b o h nb
          rw [upd_ne (ne_of_none h hR)]
          exact s2 _ _ (s1 b o h nb)
        · intro b hb
          rcases List.mem_append.mp hb with hb | hb
          · exact f1 b hb
          · refine ⟨?_, nR b hb⟩
            cases e : H b with
            | none => rfl
            | some o =>
              by_cases eb : b = a
              · subst eb; have := f2 _ hb; rw [a1] at this; cases this
              · have := s1 b o e eb
                rw [f2 _ hb] at this
                cases this
      · rintro σ H1 ⟨v2, ys, E, rfl, a1, R1, r1, s1, f1⟩
        have l2 : kvs.length = kgs.length := by have := congrArg List.length rx.keys; simpa using this
        rw [List.take_of_length_le (by omega)] at r1
        have kk : ys.map (·.1) = kvs.map (·.1) := by rw [r1.keys, rx.keys]
        have ly : ys.length = kvs.length := by have := congrArg List.length kk; simpa using this
        refine ⟨a1, ?_⟩
        have ku : KeepT H1 (upd H1 a (.dK kvs)) := KeepT.upd (fun zs z => by rw [a1] at z; cases z)
        have na : ∀ b ∈ E, b ≠ a := fun b hb e => by subst e; have := (f1 _ hb).1; rw [hxa] at this; cases this
        refine ⟨_, rfl, q (.ref R) (R :: E) _ (.d (by rw [upd_ne aR.symm]; exact R1) (by omega) (by rw [kk]; exact nd) (r1.frame ku fun b hb o ho => by rw [upd_ne (na b hb)]; exact ho) (fun h => (f1 R h).2 rfl)) ?_ ?_⟩
        · intro b o h
          by_cases e : b = a
          · subst e; rw [hxa] at h; cases h; exact upd_same
          · rw [upd_ne e]; exact s1 b o h e
        · intro b hb
          rcases List.mem_cons.mp hb with rfl | hb
          · exact hR
          · exact (f1 b hb).1)
theorem ok_law_copy {f : Addr} {fd : FuncData} (k : Kn K mg "_law_copy" s_law_copy ["thing"] f fd) (z : Z mg) : ∀ n : Nat, Cal P w K mg base n "_law_copy" ["thing"] (spCopyG n) f fd
  | 0 => k.cal no_copy
  | n + 1 => ok_copy k z (ok_law_copy k z n)
theorem ok_copy_description {f : Addr} {fd : FuncData} (k : Kn K mg "copy_description" s_copy_description ["description"] f fd) (z : Z mg) :
    Cal P w K mg base 1 "copy_description" ["description"] (spCopyDesc) f fd := k.cal (by
  refine k.F.ok sc_copy_description (fun vs H Q E h => ?_) (fun cdv A outer s H vs Q E hr h => ?_)
  · obtain ⟨a, tab, rfl, _⟩ := h; rfl
  · obtain ⟨a, tab, rfl, D, q⟩ := h
    have hu := hu_of hr
    refine ⟨_, (pss_one (ps_ret (pe_disp (pps_cons pe_str (pe_callTy call_list_of (by rfl) z.list (by decide +kernel) (pa_cons (pe_dget hu (pv 0) pe_str (fun _ _ => rfl)) pa_nil)) (pps_cons pe_str (pe_callTy call_list_of (by rfl) z.list (by decide +kernel) (pa_cons (pe_dget hu (pv 0) pe_str (fun _ _ => rfl)) pa_nil)) (pps_cons pe_str (pe_callTy call_list_of (by rfl) z.list (by decide +kernel) (pa_cons (pe_dget hu (pv 0) pe_str (fun _ _ => rfl)) pa_nil)) (pps_cons pe_str (pe_callTy call_list_of (by rfl) z.list (by decide +kernel) (pa_cons (pe_dget hu (pv 0) pe_str (fun _ _ => rfl)) pa_nil)) pps_nil)))) (by rfl) (by rfl) (fun z => by cases z) (by decide)))), ?_⟩
    obtain ⟨xc, c1, c2⟩ := D.co
    obtain ⟨xk, k1, k2⟩ := D.ch
    have u1 := D.un
    obtain ⟨xr, r1, r2⟩ := D.rf
    refine fun p hp => ?_
    have e0 := same_new hp (.dK [])
    refine ⟨_, rfl, a.d, _, rfl, (D.frame (KeepT.of e0) (fun o => e0 _ _) (fun b _ o => e0 _ _)).gc, a.c, xc, rfl, .inl (SqL.of (e0 _ _ c1)), fun c hc => ?_⟩
    have e1 := e0.trans (same_new hc (.lst xc))
    refine ⟨_, rfl, a.d, _, rfl, (D.frame (KeepT.of e1) (fun o => e1 _ _) (fun b _ o => e1 _ _)).gk, a.k, xk, rfl, .inl (SqL.of (e1 _ _ k1)), fun k hk => ?_⟩
    have e2 := e1.trans (same_new hk (.lst xk))
    refine ⟨_, rfl, a.d, _, rfl, (D.frame (KeepT.of e2) (fun o => e2 _ _) (fun b _ o => e2 _ _)).gu, a.u, _, rfl, .inl (SqL.of (e2 _ _ u1)), fun u hu' => ?_⟩
    have e3 := e2.trans (same_new hu' (.lst (tab.un.map V.str)))
    refine ⟨_, rfl, a.d, _, rfl, (D.frame (KeepT.of e3) (fun o => e3 _ _) (fun b _ o => e3 _ _)).gr, a.r, xr, rfl, .inl (SqL.of (e3 _ _ r1)), fun r hr' => ?_⟩
    have m1 := same_new hc (.lst xc)
    have m2 := same_new hk (.lst xk)
    have m3 := same_new hu' (.lst (tab.un.map V.str))
    have m4 := same_new hr' (.lst xr)
    have ckn : c ≠ k := ne_of_none upd_same hk
    have cun : c ≠ u := ne_of_none (m2 _ _ upd_same) hu'
    have crn : c ≠ r := ne_of_none (m3 _ _ (m2 _ _ upd_same)) hr'
    have kun : k ≠ u := ne_of_none upd_same hu'
    have krn : k ≠ r := ne_of_none (m3 _ _ upd_same) hr'
    have urn : u ≠ r := ne_of_none upd_same hr'
    have fr1 : H c = none := (same_new hp _).free hc
    have fr2 : H k = none := (same_new hp _).free (m1.free hk)
    have fr3 : H u = none := (same_new hp _).free (m1.free (m2.free hu'))
    have fr4 : H r = none := (same_new hp _).free (m1.free (m2.free (m3.free hr')))
    have kp : (upd (upd (upd (upd (upd H p (.dK [])) c (.lst xc)) k (.lst xk)) u (.lst (tab.un.map V.str))) r (.lst xr)) p = some (.dK []) := m4 _ _ (m3 _ _ (m2 _ _ (m1 _ _ upd_same)))
    have kc : (upd (upd (upd (upd (upd H p (.dK [])) c (.lst xc)) k (.lst xk)) u (.lst (tab.un.map V.str))) r (.lst xr)) c = some (.lst xc) := m4 _ _ (m3 _ _ (m2 _ _ upd_same))
    have kk : (upd (upd (upd (upd (upd H p (.dK [])) c (.lst xc)) k (.lst xk)) u (.lst (tab.un.map V.str))) r (.lst xr)) k = some (.lst xk) := m4 _ _ (m3 _ _ upd_same)
    have ku : (upd (upd (upd (upd (upd H p (.dK [])) c (.lst xc)) k (.lst xk)) u (.lst (tab.un.map V.str))) r (.lst xr)) u = some (.lst (tab.un.map V.str)) := m4 _ _ upd_same
    have kr : (upd (upd (upd (upd (upd H p (.dK [])) c (.lst xc)) k (.lst xk)) u (.lst (tab.un.map V.str))) r (.lst xr)) r = some (.lst xr) := upd_same
    have S5 : Same H (upd (upd (upd (upd (upd H p (.dK [])) c (.lst xc)) k (.lst xk)) u (.lst (tab.un.map V.str))) r (.lst xr)) := e3.trans m4
    generalize hH : (upd (upd (upd (upd (upd H p (.dK [])) c (.lst xc)) k (.lst xk)) u (.lst (tab.un.map V.str))) r (.lst xr)) = H5 at *
    refine ⟨kp, descD ⟨p, c, k, u, r⟩, rfl, (by show 4 ≤ 15; decide), ?_⟩
    rw [merge_desc]
    have np : ∀ b, (∃ ys, H5 b = some (.lst ys)) → b ≠ p := fun b ⟨ys, e⟩ => ne_of e kp (by intro z; cases z)
    have kt : KeepT H (upd H5 p (.dK (descD ⟨p, c, k, u, r⟩))) := (KeepT.of S5).trans (KeepT.upd fun ys z => by rw [kp] at z; cases z)
    refine q ⟨p, c, k, u, r⟩ _ ⟨upd_same, ⟨xc, by rw [upd_ne (np _ ⟨_, kc⟩)]; exact kc, c2.mono kt⟩, ⟨xk, by rw [upd_ne (np _ ⟨_, kk⟩)]; exact kk, k2.mono kt⟩, by rw [upd_ne (np _ ⟨_, ku⟩)]; exact ku, ⟨xr, by rw [upd_ne (np _ ⟨_, kr⟩)]; exact kr, r2.mono kt⟩⟩ (same_upd hp _ S5) hp ?_ ?_
    · intro b hb
      simp only [adL, List.mem_cons, List.not_mem_nil, or_false] at hb
      rcases hb with rfl | rfl | rfl | rfl
      · exact fr1
      · exact fr2
      · exact fr3
      · exact fr4
    · simp only [adL, List.nodup_cons, List.mem_cons, List.not_mem_nil, or_false, not_or, not_false_eq_true, List.nodup_nil, and_true]
      exact ⟨⟨ckn, cun, crn⟩, ⟨kun, krn⟩, urn⟩)
theorem ok_copy_schema {f : Addr} {fd : FuncData} (k : Kn K mg "copy_schema" s_copy_schema ["schema"] f fd) (z : Z mg)
    {g_copy_description : Addr} {gd_copy_description : FuncData} (c_copy_description : Cal P w K mg base 1 "copy_description" ["description"] (spCopyDesc) g_copy_description gd_copy_description) :
    Cal P w K mg base 2 "copy_schema" ["schema"] (spCopySchema) f fd := k.cal (by
  refine k.F.ok sc_copy_schema (fun vs H Q E h => ?_) (fun cdv A outer s H vs Q E hr h => ?_)
  · obtain ⟨S, s, rfl, _⟩ := h; rfl
  · obtain ⟨S, s, rfl, hS, hD, nm, hl, q⟩ := h
    have hu := hu_of hr
    refine ⟨_, (pss_one (ps_ret (pe_lock (pe_dc (own := [("table", 1)]) (g := gName 1) (tt := tYes) (by rfl) sc_copy_schema.nd (pi_keys (pv 0)) (blkOk_by (own := [("table", 1)]) (N := ["schema", "table"]) (sc := defScope s_copy_schema) (by decide +kernel)) (fun _ _ _ _ _ => pg_name (i := 1) sc_copy_schema.nd rfl (Or.inl rfl)) (fun _ _ _ _ _ => pts_nil) (fun _ _ _ _ _ => (pv 1)) (fun _ _ _ _ _ => (pe_call c_copy_description.G (hr.mono (by decide)) (by rfl) c_copy_description.m c_copy_description.kp c_copy_description.b .nil pass0 (pa_cons (pe_dget hu (pv 0) (pv 1) (fun _ _ => rfl)) pa_nil))))))), ?_⟩
    have neS := desc_ne hS hD
    refine ⟨S, _, hS, True.intro, fun od => ?_⟩
    refine ⟨_, rfl, S, od, rfl, .inl ⟨schK s, upd_same, fun N hN => inner walk_keys (fun i H' => ∃ s' : Sch, H' S = some (.frz od (.dK (schK s))) ∧ H' N = some (.dK (schK s')) ∧ (∀ p ∈ s', DescAt H' p.1 p.2) ∧ s'.map (·.2) = (s.take i).map (·.2) ∧ (∀ p ∈ s', H p.1.d = none ∧ p.1.d ≠ N ∧ p.1.d ≠ S ∧ ∀ b ∈ adL p.1, H b = none ∧ b ≠ S ∧ b ≠ N) ∧ (s'.map fun p => p.1.d).Nodup ∧ (schL s').Nodup ∧ (∀ b o, H b = some o → b ≠ S → H' b = some o)) ⟨[], ?_, upd_same, (by intro p hp; cases hp), rfl, (by intro p hp; cases hp), List.nodup_nil, List.nodup_nil, fun b o h n => ?_⟩ (fun i H' _ ⟨_, e, _⟩ => e) ?_ ?_⟩⟩
    · rw [upd_ne (ne_of_none upd_same hN)]; exact upd_same
    · rw [upd_ne (ne_of_none (by rw [upd_ne n]; exact h) hN), upd_ne n]; exact h
    · rintro i x H1 H1' hi ⟨s', hS1, hN1, hD1, hm1, fr1, dn1, ln1, se1⟩ ⟨rfl, key, wv, ek, rfl⟩
      obtain ⟨p, ep, rfl, rfl⟩ := sch_at ek
      have hp : p ∈ s := List.mem_of_getElem? ep
      have Dp : DescAt H1' p.1 p.2 := (hD p hp).frame (fun b xs e => se1 _ _ e (ne_of e hS (by intro z; cases z))) (fun o e => se1 _ _ e (neS p hp)) (fun b hb o e => se1 _ _ e (fun z => by
        obtain ⟨xs, g⟩ := (hD p hp).isL _ hb
        rw [z, hS] at g; cases g))
      refine ⟨rfl, _, rfl, _, rfl, _, rfl, S, _, rfl, sch_getF hS1 nm hp, p.1, p.2, rfl, Dp, fun a H2 D2 s2 f2 l2 nd2 => ?_⟩
      have ls' : s'.length = i := by
        have := congrArg List.length hm1
        have hi' : i < s.length := (List.getElem?_eq_some_iff.mp ep).1
        simp only [List.length_map, List.length_take] at this
        omega
      have hi' : i < s.length := (List.getElem?_eq_some_iff.mp ep).1
      have hno : p.2.n ∉ schN s' := fun z => by
        have e1 : schN s' = (schN s).take i := by
          have := congrArg (List.map fun t : Tab => t.n) hm1
          unfold schN
          rw [List.map_map, List.map_map] at this
          exact this.trans List.map_take
        rw [e1] at z
        obtain ⟨j, hj, ej⟩ := List.getElem_of_mem z
        rw [List.length_take] at hj
        rw [List.getElem_take] at ej
        have b1 : (schN s)[j]? = some p.2.n := by rw [List.getElem?_eq_getElem (by omega), ej]
        have b2 : (schN s)[i]? = some p.2.n := by unfold schN; rw [List.getElem?_map, ep]; rfl
        have := nd_ix nm b1 b2
        omega
      have hN2 := s2 _ _ hN1
      have hS2 := s2 _ _ hS1
      refine ⟨schK s', Sum.inr p.2.n, rfl, hN2, (by unfold schK; rw [List.length_map]; exact small1000 (by omega)), ?_⟩
      rw [schK_new (s := s') (a := a) (tab := p.2) hno]
      have kt := KeepT.lock (o := .dK (schK (s' ++ [(a, p.2)]))) hN2
      have notN : ∀ {b : Addr}, (∃ xs, H2 b = some (.lst xs)) → b ≠ N := fun ⟨xs, e⟩ z => by rw [z, hN2] at e; cases e
      have notS : ∀ {b : Addr}, (∃ xs, H2 b = some (.lst xs)) → b ≠ S := fun ⟨xs, e⟩ z => by rw [z, hS2] at e; cases e
      have old : ∀ p' ∈ s', DescAt H2 p'.1 p'.2 := fun p' hp' => (hD1 p' hp').frame (KeepT.of s2) (fun o => s2 _ _) (fun b _ o => s2 _ _)
      have fN : H N = none := by
        have h2 : N ≠ S := (ne_of_none upd_same hN).symm
        rw [upd_ne h2] at hN
        exact hN
      have aN : a.d ≠ N := (ne_of_none hN1 f2).symm
      have aS : a.d ≠ S := (ne_of_none hS1 f2).symm
      have back : ∀ {b : Addr}, H1' b = none → H b = none ∧ b ≠ S := fun {b} hb => by
        have n1 : b ≠ S := (ne_of_none hS1 hb).symm
        refine ⟨?_, n1⟩
        cases e : H b with
        | none => rfl
        | some o => have := se1 _ _ e n1; rw [hb] at this; cases this
      refine ⟨s' ++ [(a, p.2)], ?_, upd_same, ?_, ?_, ?_, ?_, ?_, ?_⟩
      · rw [upd_ne (ne_of_none upd_same hN)]; exact hS2
      · intro p' hp'
        rcases List.mem_append.mp hp' with h | h
        · exact (old p' h).lock hN2 (fr1 p' h).2.1
        · rw [List.mem_singleton.mp h]; exact D2.lock hN2 aN
      · rw [List.map_append, hm1, List.take_add_one, ep, List.map_append]; rfl
      · intro p' hp'
        rcases List.mem_append.mp hp' with h | h
        · exact fr1 p' h
        · rw [List.mem_singleton.mp h]
          refine ⟨(back f2).1, aN, aS, fun b hb => ⟨(back (l2 b hb)).1, (back (l2 b hb)).2, fun z => ?_⟩⟩
          have := l2 b hb
          rw [z, hN1] at this; cases this
      · rw [List.map_append]
        refine List.nodup_append.mpr ⟨dn1, by simp, fun x hx y hy => ?_⟩
        have : y = a.d := by simpa using hy
        subst this
        rintro rfl
        obtain ⟨p', hp', e⟩ := List.mem_map.mp hx
        have := (hD1 p' hp').dk
        have e' : p'.1.d = a.d := e
        rw [e', f2] at this; cases this
      · unfold schL
        rw [List.flatMap_append]
        refine List.nodup_append.mpr ⟨ln1, by simpa using nd2, fun x hx y hy => ?_⟩
        rintro rfl
        obtain ⟨p', hp', hb⟩ := List.mem_flatMap.mp hx
        obtain ⟨xs, g⟩ := (hD1 p' hp').isL _ hb
        have : x ∈ adL a := by simpa using hy
        have := l2 x this
        rw [g] at this; cases this
      · intro b o e n
        rw [upd_ne (ne_of_none e fN)]
        exact s2 _ _ (se1 b o e n)
    · rintro H1 ⟨s', hS1, hN1, hD1, hm1, fr1, dn1, ln1, se1⟩
      refine ⟨hS1, ?_⟩
      have fN : H N = none := by
        have h2 : N ≠ S := (ne_of_none upd_same hN).symm
        rw [upd_ne h2] at hN
        exact hN
      have nS : N ≠ S := (ne_of_none upd_same hN).symm
      have kt : KeepT H1 (upd H1 S (.dK (schK s))) := KeepT.upd fun xs z => by rw [hS1] at z; cases z
      have lk : (schK s).length = s.length := by unfold schK; rw [List.length_map]
      rw [lk, List.take_length] at hm1
      refine q N s' _ ⟨by rw [upd_ne nS]; exact hN1, fun p hp => (hD1 p hp).frame kt (fun o e => by rw [upd_ne (fr1 p hp).2.2.1]; exact e) (fun b hb o e => by rw [upd_ne ((fr1 p hp).2.2.2 b hb).2.1]; exact e), hm1, fN, fun p hp => ⟨(fr1 p hp).1, (fr1 p hp).2.1, fun b hb => ((fr1 p hp).2.2.2 b hb).1⟩, dn1, ln1, fun b o e => ?_⟩
      by_cases z : b = S
      · subst z; rw [hS] at e; cases e; exact upd_same
      · rw [upd_ne z]; exact se1 b o e z)
theorem ok_law_is_integer {f : Addr} {fd : FuncData} (k : Kn K mg "_law_is_integer" s_law_is_integer ["actual"] f fd) (z : Z mg) :
    Cal P w K mg base 1 "_law_is_integer" ["actual"] (spIsInt) f fd := k.cal (by
  refine k.F.ok sc_law_is_integer (fun vs H Q E h => ?_) (fun cdv A outer s H vs Q E hr h => ?_)
  · obtain ⟨x, rfl, _⟩ := h; rfl
  · obtain ⟨x, rfl, hx, q⟩ := h
    refine ⟨_, (pss_one (ps_ret (pe_and (pe_callB call_isi (by rfl) z.isinstance (by decide +kernel) (pa_cons (pv 0) (pa_cons (pe_bltn (v := .ty "int") (u := .type "int") (by rfl) z.int (by decide +kernel) rfl) pa_nil))) (pe_one (pe_not (pe_callB call_isi (by rfl) z.isinstance (by decide +kernel) (pa_cons (pv 0) (pa_cons (pe_bltn (v := .ty "bool") (u := .type "bool") (by rfl) z.bool (by decide +kernel) rfl) pa_nil)))))))), ?_⟩
    obtain ⟨t, hT, c⟩ := ty_scal (K := K) (H := H) hx
    rcases c with ⟨rfl, rfl⟩ | ⟨⟨b, rfl⟩, rfl⟩ | ⟨⟨i, rfl⟩, rfl⟩ | ⟨⟨y, rfl⟩, rfl⟩
    · exact ⟨_, rfl, _, _, _, _, false, rfl, .ty _, hT, kit_ty (by decide +kernel), ⟨_, rfl, q⟩⟩
    · exact ⟨_, rfl, _, _, _, _, true, rfl, .ty _, hT, kit_ty (by decide +kernel), ⟨_, rfl, ⟨_, rfl, _, _, _, _, true, rfl, .ty _, hT, kit_ty (by decide +kernel), ⟨_, rfl, q⟩⟩⟩⟩
    · exact ⟨_, rfl, _, _, _, _, true, rfl, .ty _, hT, kit_ty (by decide +kernel), ⟨_, rfl, ⟨_, rfl, _, _, _, _, false, rfl, .ty _, hT, kit_ty (by decide +kernel), ⟨_, rfl, q⟩⟩⟩⟩
    · exact ⟨_, rfl, _, _, _, _, false, rfl, .ty _, hT, kit_ty (by decide +kernel), ⟨_, rfl, q⟩⟩)

theorem no_same {f : Addr} {fd : FuncData} : FnOk P w K mg base CX0 0 f fd ["actual", "expected"] (spSameG 0) := by
  have no : ∀ vs H Q E, ¬ spSameG 0 vs H Q E := fun vs H Q E h => by
    obtain ⟨x, y, g, D, E', _, _, _, _, h1, _⟩ := h
    exact Nat.not_lt_zero _ h1
  exact ⟨fun vs H Q E h => absurd h (no vs H Q E), fun A outer s H args us vs Q E _ _ _ _ h => absurd h (no vs H Q E)⟩
theorem ok_items {n : Nat} {f g : Addr} {fd gd : FuncData} (k : Kn K mg "_law_same_items" s_law_same_items ["actual", "expected"] f fd) (z : Z mg)
    (c_law_same : Cal P w K mg base (2 * n) "_law_same" ["actual", "expected"] (spSameG n) g gd) : Cal P w K mg base (2 * n + 1) "_law_same_items" ["actual", "expected"] (spItemsG n) f fd := k.cal (by
  refine k.F.ok sc_law_same_items (fun vs H Q E h => ?_) (fun cdv A outer s H vs Q E hr h => ?_)
  · obtain ⟨a, b, xs, ys, gs, D, E', rfl, _⟩ := h; rfl
  · obtain ⟨a, b, xs, ys, gs, D, E', rfl, hk, h1, rx, ry, hdis, hdep, q⟩ := h
    have A1 : SqL K H a xs ∨ SqT K H a xs := by rcases hk with hk | hk; exact .inl (SqL.of hk.1); exact .inr (SqT.of hk.1)
    have B1 : SqL K H b ys ∨ SqT K H b ys := by rcases hk with hk | hk; exact .inl (SqL.of hk.2); exact .inr (SqT.of hk.2)
    have hl : xs.length = ys.length := by rw [rx.length, ry.length]
    refine ⟨_, (pss_cons (ps_if (pt_cmpR op_ne (pe_callB call_len_seq (by rfl) z.len (by decide +kernel) (pa_cons (pv 0) pa_nil)) (pe_callB call_len_seq (by rfl) z.len (by decide +kernel) (pa_cons (pv 1) pa_nil)) (nomark _)) (pss_one (ps_ret pe_bl)) pss_nil)
    (pss_cons (ps_for PassesOwn.never rfl (pi_range1 (by rfl) z.range (pa_cons (pe_callB call_len_seq (by rfl) z.len (by decide +kernel) (pa_cons (pv 1) pa_nil)) pa_nil)) (pg_name (i := 2) sc_law_same_items.nd rfl (Or.inl rfl))
    (pss_one (ps_if (pt_not (pt_val (pe_call c_law_same.G (hr.mono (by omega)) (by rfl) c_law_same.m c_law_same.kp c_law_same.b .nil pass0 (pa_cons (pe_ix ix_seq (pv 0) (pv 2) (fun _ _ => rfl)) (pa_cons (pe_ix ix_seq (pv 1) (pv 2) (fun _ _ => rfl)) pa_nil))))) (pss_one (ps_ret pe_bl)) pss_nil)))
    (pss_one (ps_ret pe_bl)))), ?_⟩
    refine ⟨_, rfl, a, _, rfl, A1, _, rfl, b, _, rfl, B1, rfl, _, rfl, ?_⟩
    refine iteNS (by rw [hl]) ?_
    refine ⟨_, rfl, b, _, rfl, B1, _, rfl, (by omega), (by omega), for_range (lo := 0) (n := ys.length) (fun i σ H2 => (∃ v, σ = [some (.ref a), some (.ref b), v]) ∧ H2 = H) ⟨⟨none, rfl⟩, rfl⟩ ?_ ?_⟩
    · rintro i σ H2 hi ⟨⟨v, rfl⟩, rfl⟩
      have hx : xs[i]? = some xs[i] := List.getElem?_eq_getElem (by omega)
      have hy : ys[i]? = some ys[i] := List.getElem?_eq_getElem hi
      obtain ⟨g1, E1, e1, p1, i1⟩ := rx.get hx
      obtain ⟨g2, E2, e2, p2, i2⟩ := ry.get hy
      rw [e1] at e2
      cases e2
      refine ⟨_, rfl, _, rfl, ixq A1 (at_of (by omega) hx) ⟨_, rfl, _, rfl, ixq B1 (at_of (by omega) hy) ⟨_, _, g1, E1, E2, rfl, p1, p2, fun a ha hb => hdis a (i1 a ha) (i2 a hb), hdep g1 (List.mem_of_getElem? e1), ⟨_, rfl, ?_⟩⟩⟩⟩
      exact iteF ⟨⟨_, rfl⟩, rfl⟩
    · rintro σ H2 ⟨⟨v, rfl⟩, rfl⟩
      exact q)
theorem ok_same {n : Nat} {f g i : Addr} {fd gd ii : FuncData} (k : Kn K mg "_law_same" s_law_same ["actual", "expected"] f fd) (z : Z mg)
    (c_law_same : Cal P w K mg base (2 * n) "_law_same" ["actual", "expected"] (spSameG n) f fd)
    (c_law_is_integer : Cal P w K mg base 1 "_law_is_integer" ["actual"] spIsInt i ii)
    (c_law_same_items : Cal P w K mg base (2 * n + 1) "_law_same_items" ["actual", "expected"] (spItemsG n) g gd) : Cal P w K mg base (2 * n + 2) "_law_same" ["actual", "expected"] (spSameG (n + 1)) f fd := k.cal (by
  refine k.F.ok sc_law_same (fun vs H Q E h => ?_) (fun cdv A outer s H vs Q E hr h => ?_)
  · obtain ⟨x, y, g, D, E', rfl, _⟩ := h; rfl
  · obtain ⟨x, y, g, D, E', rfl, hx, hy, hdis, hdep, q⟩ := h
    have hu := hu_of hr
    refine ⟨_, (pss_cons (ps_if (pt_cmpR op_isN (pv 1) pe_non (nomark _)) (pss_one (ps_ret (pe_cmpR op_isN (pv 0) pe_non (nomark _)))) pss_nil)
    (pss_cons (ps_if (pt_val (pe_callB call_isi (by rfl) z.isinstance (by decide +kernel) (pa_cons (pv 1) (pa_cons (pe_bltn (v := .ty "bool") (u := .type "bool") (by rfl) z.bool (by decide +kernel) rfl) pa_nil)))) (pss_one (ps_ret (pe_and (pe_callB call_isi (by rfl) z.isinstance (by decide +kernel) (pa_cons (pv 0) (pa_cons (pe_bltn (v := .ty "bool") (u := .type "bool") (by rfl) z.bool (by decide +kernel) rfl) pa_nil))) (pe_one (pe_cmpR op_eq (pv 0) (pv 1) (nomark _)))))) pss_nil)
    (pss_cons (ps_if (pt_val (pe_callB call_isi (by rfl) z.isinstance (by decide +kernel) (pa_cons (pv 1) (pa_cons (pe_bltn (v := .ty "int") (u := .type "int") (by rfl) z.int (by decide +kernel) rfl) pa_nil)))) (pss_one (ps_ret (pe_and (pe_call c_law_is_integer.G (hr.mono (by omega)) (by rfl) c_law_is_integer.m c_law_is_integer.kp c_law_is_integer.b .nil pass0 (pa_cons (pv 0) pa_nil)) (pe_one (pe_cmpR op_eq (pv 0) (pv 1) (nomark _)))))) pss_nil)
    (pss_cons (ps_if (pt_val (pe_callB call_isi (by rfl) z.isinstance (by decide +kernel) (pa_cons (pv 1) (pa_cons (pe_bltn (v := .ty "str") (u := .type "str") (by rfl) z.str (by decide +kernel) rfl) pa_nil)))) (pss_one (ps_ret (pe_and (pe_callB call_isi (by rfl) z.isinstance (by decide +kernel) (pa_cons (pv 0) (pa_cons (pe_bltn (v := .ty "str") (u := .type "str") (by rfl) z.str (by decide +kernel) rfl) pa_nil))) (pe_one (pe_cmpR op_eq (pv 0) (pv 1) (nomark _)))))) pss_nil)
    (pss_cons (ps_if (pt_val (pe_callB call_isi (by rfl) z.isinstance (by decide +kernel) (pa_cons (pv 1) (pa_cons (pe_bltn (v := .ty "tuple") (u := .type "tuple") (by rfl) z.tuple (by decide +kernel) rfl) pa_nil)))) (pss_one (ps_ret (pe_and (pe_callB call_isi (by rfl) z.isinstance (by decide +kernel) (pa_cons (pv 0) (pa_cons (pe_bltn (v := .ty "tuple") (u := .type "tuple") (by rfl) z.tuple (by decide +kernel) rfl) pa_nil))) (pe_one (pe_call c_law_same_items.G (hr.mono (by omega)) (by rfl) c_law_same_items.m c_law_same_items.kp c_law_same_items.b .nil pass0 (pa_cons (pv 0) (pa_cons (pv 1) pa_nil))))))) pss_nil)
    (pss_cons (ps_if (pt_val (pe_callB call_isi (by rfl) z.isinstance (by decide +kernel) (pa_cons (pv 1) (pa_cons (pe_bltn (v := .ty "list") (u := .type "list") (by rfl) z.list (by decide +kernel) rfl) pa_nil)))) (pss_one (ps_ret (pe_and (pe_callB call_isi (by rfl) z.isinstance (by decide +kernel) (pa_cons (pv 0) (pa_cons (pe_bltn (v := .ty "list") (u := .type "list") (by rfl) z.list (by decide +kernel) rfl) pa_nil))) (pe_one (pe_call c_law_same_items.G (hr.mono (by omega)) (by rfl) c_law_same_items.m c_law_same_items.kp c_law_same_items.b .nil pass0 (pa_cons (pv 0) (pa_cons (pv 1) pa_nil))))))) pss_nil)
    (pss_cons (ps_if (PW.pt (pw_or (pt_not (pt_val (pe_callB call_isi (by rfl) z.isinstance (by decide +kernel) (pa_cons (pv 0) (pa_cons (pe_bltn (v := .ty "dict") (u := .type "dict") (by rfl) z.dict (by decide +kernel) rfl) pa_nil))))) (pw_or1 (pt_cmpR op_ne (pe_callB call_lenD (by rfl) z.len (by decide +kernel) (pa_cons (pv 0) pa_nil)) (pe_callB call_lenD (by rfl) z.len (by decide +kernel) (pa_cons (pv 1) pa_nil)) (nomark _))))) (pss_one (ps_ret pe_bl)) pss_nil)
    (pss_cons (ps_lock (ps_for PassesOwn.never rfl (pi_keys (pv 1)) (pg_name (i := 2) sc_law_same.nd rfl (Or.inl rfl))
    (pss_one (ps_if (PW.pt (pw_or (pt_cmp (pc_dnotin hu (pv 2) (pv 0))) (pw_or1 (pt_not (pt_val (pe_call c_law_same.G (hr.mono (by omega)) (by rfl) c_law_same.m c_law_same.kp c_law_same.b .nil pass0 (pa_cons (pe_dget hu (pv 0) (pv 2) (fun _ _ => rfl)) (pa_cons (pe_dget hu (pv 1) (pv 2) (fun _ _ => rfl)) pa_nil)))))))) (pss_one (ps_ret pe_bl)) pss_nil))))
    (pss_cons (ps_lock (ps_for PassesOwn.never rfl (pi_keys (pv 0)) (pg_name (i := 2) sc_law_same.nd rfl (Or.inl rfl))
    (pss_one (ps_if (pt_val (pe_callB call_isi (by rfl) z.isinstance (by decide +kernel) (pa_cons (pv 2) (pa_cons (pe_bltn (v := .ty "bool") (u := .type "bool") (by rfl) z.bool (by decide +kernel) rfl) pa_nil)))) (pss_one (ps_ret pe_bl)) pss_nil))))
    (pss_one (ps_ret pe_bl))))))))))), ?_⟩
    cases hx with
    | @s v hs =>
      cases hy with
      | s _ =>
      obtain ⟨t, hT, c⟩ := ty_scal (K := K) (H := H) hs
      rcases c with ⟨rfl, rfl⟩ | ⟨⟨b, rfl⟩, rfl⟩ | ⟨⟨i, rfl⟩, rfl⟩ | ⟨⟨y, rfl⟩, rfl⟩
      · exact ⟨_, rfl, rfl, _, rfl, iteDT rfl ⟨_, rfl, rfl, bl_T rfl q⟩⟩
      · refine ⟨_, rfl, rfl, _, rfl, iteDF (fun e => nomatch e) ⟨_, rfl, _, _, _, _, true, rfl, .ty _, hT, kit_ty (by decide +kernel), ⟨_, rfl, ?_⟩⟩⟩
        exact ⟨_, rfl, _, _, _, _, true, rfl, .ty _, hT, kit_ty (by decide +kernel), ⟨_, rfl, ⟨_, rfl, _, rfl, rfl, bl_T rfl q⟩⟩⟩
      · refine ⟨_, rfl, rfl, _, rfl, iteDF (fun e => nomatch e) ⟨_, rfl, _, _, _, _, false, rfl, .ty _, hT, kit_ty (by decide +kernel), ⟨_, rfl, ?_⟩⟩⟩
        refine ⟨_, rfl, _, _, _, _, true, rfl, .ty _, hT, kit_ty (by decide +kernel), ⟨_, rfl, ?_⟩⟩
        exact ⟨_, rfl, _, rfl, rfl, ⟨_, rfl, ⟨_, rfl, _, rfl, rfl, bl_T rfl q⟩⟩⟩
      · refine ⟨_, rfl, rfl, _, rfl, iteDF (fun e => nomatch e) ⟨_, rfl, _, _, _, _, false, rfl, .ty _, hT, kit_ty (by decide +kernel), ⟨_, rfl, ?_⟩⟩⟩
        refine ⟨_, rfl, _, _, _, _, false, rfl, .ty _, hT, kit_ty (by decide +kernel), ⟨_, rfl, ?_⟩⟩
        refine ⟨_, rfl, _, _, _, _, true, rfl, .ty _, hT, kit_ty (by decide +kernel), ⟨_, rfl, ?_⟩⟩
        exact ⟨_, rfl, _, _, _, _, true, rfl, .ty _, hT, kit_ty (by decide +kernel), ⟨_, rfl, ⟨_, rfl, _, rfl, rfl, bl_T rfl q⟩⟩⟩
    | @l a xs gs D hxa hn rx =>
      cases hy with
      | @l b ys _ E hyb hm ry =>
      have hA : TyX K H (.ref a) (.type "list") := .base (.lst hxa)
      have hB : TyX K H (.ref b) (.type "list") := .base (.lst hyb)
      have hd : ∀ g ∈ gs, g.dep < n := fun g hg => by have := depL_mem hg; simp only [G.dep] at hdep; omega
      refine ⟨_, rfl, rfl, _, rfl, iteDF (fun e => nomatch e) ⟨_, rfl, _, _, _, _, false, rfl, .ty _, hB, kit_ty (by decide +kernel), ⟨_, rfl, ?_⟩⟩⟩
      refine ⟨_, rfl, _, _, _, _, false, rfl, .ty _, hB, kit_ty (by decide +kernel), ⟨_, rfl, ?_⟩⟩
      refine ⟨_, rfl, _, _, _, _, false, rfl, .ty _, hB, kit_ty (by decide +kernel), ⟨_, rfl, ?_⟩⟩
      refine ⟨_, rfl, _, _, _, _, false, rfl, .ty _, hB, kit_ty (by decide +kernel), ⟨_, rfl, ?_⟩⟩
      refine ⟨_, rfl, _, _, _, _, true, rfl, .ty _, hB, kit_ty (by decide +kernel), ⟨_, rfl, ?_⟩⟩
      exact ⟨_, rfl, _, _, _, _, true, rfl, .ty _, hA, kit_ty (by decide +kernel), ⟨_, rfl, ⟨_, rfl, _, rfl, a, b, xs, ys, gs, D, E, rfl, .inl ⟨hxa, hyb⟩, hn, rx, ry, fun c h1 h2 => hdis c (List.mem_cons_of_mem _ h1) (List.mem_cons_of_mem _ h2), hd, q⟩⟩⟩
    | @t a xs gs D hxa hn rx =>
      cases hy with
      | @t b ys _ E hyb hm ry =>
      have hA : TyX K H (.ref a) (.type "tuple") := .base (.tup hxa)
      have hB : TyX K H (.ref b) (.type "tuple") := .base (.tup hyb)
      have hd : ∀ g ∈ gs, g.dep < n := fun g hg => by have := depL_mem hg; simp only [G.dep] at hdep; omega
      refine ⟨_, rfl, rfl, _, rfl, iteDF (fun e => nomatch e) ⟨_, rfl, _, _, _, _, false, rfl, .ty _, hB, kit_ty (by decide +kernel), ⟨_, rfl, ?_⟩⟩⟩
      refine ⟨_, rfl, _, _, _, _, false, rfl, .ty _, hB, kit_ty (by decide +kernel), ⟨_, rfl, ?_⟩⟩
      refine ⟨_, rfl, _, _, _, _, false, rfl, .ty _, hB, kit_ty (by decide +kernel), ⟨_, rfl, ?_⟩⟩
      refine ⟨_, rfl, _, _, _, _, true, rfl, .ty _, hB, kit_ty (by decide +kernel), ⟨_, rfl, ?_⟩⟩
      exact ⟨_, rfl, _, _, _, _, true, rfl, .ty _, hA, kit_ty (by decide +kernel), ⟨_, rfl, ⟨_, rfl, _, rfl, a, b, xs, ys, gs, _, _, rfl, .inr ⟨hxa, hyb⟩, hn, rx, ry, hdis, hd, q⟩⟩⟩
    | @d a kvs kgs D hxa hn nd rx fx =>
      cases hy with
      | @d b kws _ E hyb hm nd2 ry fy =>
      have hA : TyX K H (.ref a) (.type "dict") := .base (.dK hxa)
      have hB : TyX K H (.ref b) (.type "dict") := .base (.dK hyb)
      have hd : ∀ (k : Key) (g : G), (k, g) ∈ kgs → g.dep < n := fun k g hg => by have := depK_mem hg; simp only [G.dep] at hdep; omega
      have hab : a ≠ b := fun e => by subst e; exact hdis a List.mem_cons_self List.mem_cons_self
      have hbD : b ∉ D := fun h => hdis b (List.mem_cons_of_mem _ h) List.mem_cons_self
      have hkeys : kvs.map (·.1) = kws.map (·.1) := by rw [rx.keys, ry.keys]
      have hlen : kvs.length = kws.length := by have := congrArg List.length hkeys; simpa using this
      refine ⟨_, rfl, rfl, _, rfl, iteDF (fun e => nomatch e) ⟨_, rfl, _, _, _, _, false, rfl, .ty _, hB, kit_ty (by decide +kernel), ⟨_, rfl, ?_⟩⟩⟩
      refine ⟨_, rfl, _, _, _, _, false, rfl, .ty _, hB, kit_ty (by decide +kernel), ⟨_, rfl, ?_⟩⟩
      refine ⟨_, rfl, _, _, _, _, false, rfl, .ty _, hB, kit_ty (by decide +kernel), ⟨_, rfl, ?_⟩⟩
      refine ⟨_, rfl, _, _, _, _, false, rfl, .ty _, hB, kit_ty (by decide +kernel), ⟨_, rfl, ?_⟩⟩
      refine ⟨_, rfl, _, _, _, _, false, rfl, .ty _, hB, kit_ty (by decide +kernel), ⟨_, rfl, ?_⟩⟩
      refine ⟨_, rfl, _, _, _, _, true, rfl, .ty _, hA, kit_ty (by decide +kernel), ⟨_, rfl, ?_⟩⟩
      refine ⟨_, rfl, a, kvs, rfl, hxa, _, rfl, b, kws, rfl, hyb, rfl, _, rfl, ?_⟩
      refine iteNS (by rw [hlen]) ?_
      refine ⟨b, .dK kws, hyb, True.intro, fun od => ?_⟩
      have hLa : (upd H b (.frz od (.dK kws))) a = some (.dK kvs) := by rw [upd_ne hab]; exact hxa
      refine ⟨_, rfl, b, od, rfl, .inl ⟨kws, upd_same, for_it walk_keys (fun i σ H2 => (∃ v, σ = [some (.ref a), some (.ref b), v]) ∧ H2 = upd H b (.frz od (.dK kws))) ⟨⟨none, rfl⟩, rfl⟩ (fun i σ H2 _ hh => by rw [hh.2]; exact upd_same) ?_ ?_⟩⟩
      · rintro i x σ H2 H2' hi ⟨⟨v, rfl⟩, rfl⟩ ⟨rfl, key, wv, ek, rfl⟩
        have eki : (kvs.map (·.1))[i]? = some key := by rw [hkeys, List.getElem?_map, ek]; rfl
        obtain ⟨vv, evv⟩ : ∃ vv, kvs[i]? = some (key, vv) := by
          rw [List.getElem?_map] at eki
          cases e : kvs[i]? with
          | none => rw [e] at eki; cases eki
          | some p => rw [e] at eki; obtain ⟨p1, p2⟩ := p; cases eki; exact ⟨p2, rfl⟩
        have ga : DGet (upd H b (.frz od (.dK kws))) a (kV key) (some vv) := by
          have g := DGet.k (k := key) hLa
          rw [valV_at nd evv] at g
          exact g
        have gb : DGet (upd H b (.frz od (.dK kws))) b (kV key) (some wv) := .inl ⟨kws, key, .inr ⟨od, upd_same⟩, rfl, (valV_at nd2 ek).symm⟩
        obtain ⟨g1, D1, e1, p1, i1⟩ := rx.get evv
        obtain ⟨g2, E1, e2, p2, i2⟩ := ry.get ek
        rw [e1] at e2
        cases e2
        refine ⟨_, rfl, _, rfl, a, _, rfl, ga, _, rfl, ?_⟩
        refine iteF ⟨_, rfl, _, rfl, a, vv, rfl, ga, _, rfl, _, rfl, b, wv, rfl, gb, vv, wv, g1, D1, E1, rfl, p1.locked hyb (fun h => hbD (i1 b h)), p2.locked hyb (fun h => fy (i2 b h)), fun c h1 h2 => hdis c (List.mem_cons_of_mem _ (i1 c h1)) (List.mem_cons_of_mem _ (i2 c h2)), hd _ _ (List.mem_of_getElem? e1), _, rfl, ?_⟩
        exact iteF ⟨⟨_, rfl⟩, rfl⟩
      · rintro σ H2 ⟨⟨v, rfl⟩, rfl⟩
        refine ⟨upd_same, ?_⟩
        rw [upd_upd, upd_self hyb]
        refine ⟨a, .dK kvs, hxa, True.intro, fun oe => ?_⟩
        refine ⟨_, rfl, a, oe, rfl, .inl ⟨kvs, upd_same, for_it walk_keys (fun i σ H2 => (∃ v, σ = [some (.ref a), some (.ref b), v]) ∧ H2 = upd H a (.frz oe (.dK kvs))) ⟨⟨v, rfl⟩, rfl⟩ (fun i σ H2 _ hh => by rw [hh.2]; exact upd_same) ?_ ?_⟩⟩
        · rintro i x σ H2 H2' hi ⟨⟨v, rfl⟩, rfl⟩ ⟨rfl, key, wv, ek, rfl⟩
          cases key with
          | inl i0 => exact ⟨_, rfl, _, _, _, _, false, rfl, .ty _, .base (.int _), kit_ty (by decide +kernel), _, rfl, ⟨_, rfl⟩, rfl⟩
          | inr s0 => exact ⟨_, rfl, _, _, _, _, false, rfl, .ty _, .base (.str _), kit_ty (by decide +kernel), _, rfl, ⟨_, rfl⟩, rfl⟩
        · rintro σ H2 ⟨⟨v, rfl⟩, rfl⟩
          refine ⟨upd_same, ?_⟩
          rw [upd_upd, upd_self hxa]
          exact q)
theorem ok_law_same {f g i : Addr} {fd gd ii : FuncData} (k : Kn K mg "_law_same" s_law_same ["actual", "expected"] f fd) (kI : Kn K mg "_law_same_items" s_law_same_items ["actual", "expected"] g gd) (z : Z mg)
    (c_law_is_integer : Cal P w K mg base 1 "_law_is_integer" ["actual"] spIsInt i ii) : ∀ n : Nat, Cal P w K mg base (2 * n) "_law_same" ["actual", "expected"] (spSameG n) f fd
  | 0 => k.cal no_same
  | n + 1 => by
    have h := ok_law_same k kI z c_law_is_integer n
    exact ok_same k z h c_law_is_integer (ok_items kI z h)
theorem ok_column_names {f : Addr} {fd : FuncData} (k : Kn K mg "column_names" s_column_names ["description"] f fd) (z : Z mg) :
    Cal P w K mg base 1 "column_names" ["description"] (spColumnNames) f fd := k.cal (by
  refine k.F.ok sc_column_names (fun vs H Q E h => ?_) (fun cdv A outer s H vs Q E hr h => ?_)
  · obtain ⟨d, L, cols, rfl, _⟩ := h; rfl
  · obtain ⟨d, L, cols, rfl, G, C, hl, q⟩ := h
    have hu := hu_of hr
    refine ⟨_, (pss_one (ps_ret (pe_lc (own := [("column", 1)]) (g := gName 1) (tt := tYes) (by rfl) sc_column_names.nd (pi_list (pe_dget hu (pv 0) pe_str (fun _ _ => rfl))) (blkOk_by (own := [("column", 1)]) (N := ["description", "column"]) (sc := defScope s_column_names) (by decide +kernel)) (fun _ _ _ _ _ => pg_name (i := 1) sc_column_names.nd rfl (Or.inl rfl)) (fun _ _ _ _ _ => pts_nil) (fun _ _ _ _ _ => (pe_ix (r := rIxT K) ix_tup (pv 1) pe_int (fun _ _ => rfl)))))), ?_⟩
    obtain ⟨xs, h1, h2⟩ := id C
    have hx : xs.length = cols.length := by rw [h2.length, List.length_map]
    refine ⟨_, rfl, d, _, rfl, G, L, rfl, ⟨_, SqL.of h1⟩, fun D hD => lc_list (K := K) (a := L) (xs := xs) (fun i H' => H' D = some (.lst (((colNs cols).take i).map V.str)) ∧ Same H H') ⟨upd_same, same_new hD _⟩ (fun i H' _ hh => SqL.of (hh.2 _ _ h1)) ?_ ?_⟩
    · rintro i x H1 hi ⟨hD1, s1⟩
      have hil : i < cols.length := by rw [← hx]; exact (List.getElem?_eq_some_iff.mp hi).1
      obtain ⟨xs', a, k1, k2, k3⟩ := C.get (List.getElem?_eq_getElem hil)
      rw [h1] at k1
      cases k1
      rw [hi] at k2
      cases k2
      refine ⟨rfl, _, rfl, a, _, 0, _, rfl, rfl, SqT.of (s1 _ _ k3), atI_nat (j := 0) rfl, _, hD1, (by rw [List.length_map, List.length_take]; exact small1000 (by omega)), ?_, same_upd hD _ s1⟩
      rw [upd_same, List.take_add_one]
      have : (colNs cols)[i]? = some cols[i].n := by unfold colNs; rw [List.getElem?_map, List.getElem?_eq_getElem hil]; rfl
      rw [this]
      simp
    · rintro H1 ⟨hD1, s1⟩
      have : (colNs cols).take xs.length = colNs cols := List.take_of_length_le (by unfold colNs; rw [List.length_map]; omega)
      rw [this] at hD1
      exact q D H1 hD s1 hD1)
theorem ok_law_uses {f : Addr} {fd : FuncData} (k : Kn K mg "_law_uses" s_law_uses ["description", "name"] f fd) (z : Z mg) :
    Cal P w K mg base 1 "_law_uses" ["description", "name"] (spIsUsed) f fd := k.cal (by
  refine k.F.ok sc_law_uses (fun vs H Q E h => ?_) (fun cdv A outer s H vs Q E hr h => ?_)
  · obtain ⟨a, tab, n, rfl, _⟩ := h; rfl
  · obtain ⟨a, tab, n, rfl, D, sm, q⟩ := h
    have hu := hu_of hr
    refine ⟨_, (pss_cons (ps_for PassesOwn.never rfl (pi_list (pe_dget hu (pv 0) pe_str (fun _ _ => rfl))) (pg_name (i := 2) sc_law_uses.nd rfl (Or.inl rfl))
        (pss_one (ps_for PassesOwn.never rfl (pi_tup (pv 2)) (pg_name (i := 3) sc_law_uses.nd rfl (Or.inl rfl))
        (pss_one (ps_for PassesOwn.never rfl (pi_tup (pv 3)) (pg_name (i := 4) sc_law_uses.nd rfl (Or.inl rfl))
        (pss_one (ps_if (pt_cmpR op_eq (pe_ix ix_tup (pv 4) pe_int (fun _ _ => rfl)) (pv 1) (nomark _)) (pss_one (ps_ret pe_bl)) pss_nil)))))))
        (pss_cons (ps_for PassesOwn.never rfl (pi_list (pe_dget hu (pv 0) pe_str (fun _ _ => rfl))) (pg_name (i := 5) sc_law_uses.nd rfl (Or.inl rfl))
        (pss_one (ps_if (pt_cmpR op_eq (pe_ix ix_tup (pv 5) pe_int (fun _ _ => rfl)) (pv 1) (nomark _)) (pss_one (ps_ret pe_bl)) pss_nil)))
        (pss_one (ps_ret (pe_cmpR op_in_seq (pv 1) (pe_dget hu (pv 0) pe_str (fun _ _ => rfl)) (by rfl)))))), ?_⟩
    obtain ⟨xk, k1, k2⟩ := D.ch
    have lk : xk.length = tab.ch.length := by rw [k2.length, List.length_map]
    have yes : (∃ c ∈ tab.ch, mentM n c = true) → Q (.bl true) H := fun ⟨c, h1, h2⟩ => by
      have e : usedM tab n = true := by
        have h3 : tab.ch.any (mentM n) = true := List.any_eq_true.mpr ⟨c, h1, h2⟩
        unfold usedM
        rw [h3]
        rfl
      rw [← e]
      exact q _ (Same.refl _)
    refine ⟨_, rfl, a.d, _, rfl, D.gk, a.k, rfl, ⟨_, SqL.of k1⟩, for_it walk_list (fun i σ H' => ∃ v w x, σ = [some (.ref a.d), some (.str n), v, w, x, none] ∧ H' = H ∧ (tab.ch.take i).any (mentM n) = false) ⟨none, none, none, rfl, rfl, rfl⟩ (fun i σ H' _ ⟨_, _, _, _, e, _⟩ => by rw [e]; exact SqL.of k1) ?_ ?_⟩
    · rintro i x σ H1 H1' hi ⟨v, w, x', rfl, rfl, ab⟩ ⟨rfl, ex⟩
      have hil : i < tab.ch.length := by omega
      have ec : tab.ch[i]? = some tab.ch[i] := List.getElem?_eq_getElem hil
      obtain ⟨v, g1, g2⟩ := k2.get' (i := i) (d := condD tab.ch[i]) (by rw [List.getElem?_map, ec]; rfl)
      rw [ex] at g1
      cases g1
      obtain ⟨ca, ws, rfl, ha, ra⟩ := t_at g2
      have lw : ws.length = tab.ch[i].length := by rw [ra.length, List.length_map]
      refine ⟨_, rfl, ca, rfl, ⟨_, SqT.of ha⟩, for_it walk_tup (fun j σ H' => ∃ w x, σ = [some (.ref a.d), some (.str n), some (.ref ca), w, x, none] ∧ H' = H1' ∧ mentM n (tab.ch[i].take j) = false) ⟨w, x', rfl, rfl, rfl⟩ (fun i σ H' _ ⟨_, _, _, e, _⟩ => by rw [e]; exact SqT.of ha) ?_ ?_⟩
      · rintro j y σ H2 H2' hj ⟨w, x', rfl, rfl, ac⟩ ⟨rfl, ey⟩
        have hjl : j < tab.ch[i].length := by omega
        have ej : tab.ch[i][j]? = some tab.ch[i][j] := List.getElem?_eq_getElem hjl
        obtain ⟨v, g3, g4⟩ := ra.get' (i := j) (d := altD tab.ch[i][j]) (by rw [List.getElem?_map, ej]; rfl)
        rw [ey] at g3
        cases g3
        obtain ⟨aa, vs, rfl, hav, rav⟩ := t_at g4
        have lv : vs.length = tab.ch[i][j].length := by rw [rav.length, List.length_map]
        refine ⟨_, rfl, aa, rfl, ⟨_, SqT.of hav⟩, for_it walk_tup (fun k σ H' => ∃ x, σ = [some (.ref a.d), some (.str n), some (.ref ca), some (.ref aa), x, none] ∧ H' = H2' ∧ ((tab.ch[i][j].take k).any fun cl => decide (cl.n = n)) = false) ⟨x', rfl, rfl, rfl⟩ (fun i σ H' _ ⟨_, _, e, _⟩ => by rw [e]; exact SqT.of hav) ?_ ?_⟩
        · rintro k z' σ H3 H3' hk ⟨x', rfl, rfl, ad⟩ ⟨rfl, ez⟩
          have hkl : k < tab.ch[i][j].length := by omega
          have ek : tab.ch[i][j][k]? = some tab.ch[i][j][k] := List.getElem?_eq_getElem hkl
          obtain ⟨v, g5, g6⟩ := rav.get' (i := k) (d := clD tab.ch[i][j][k]) (by rw [List.getElem?_map, ek]; rfl)
          rw [ez] at g5
          cases g5
          obtain ⟨cla, rfl, hcl, _⟩ := cl_at g6
          refine ⟨_, rfl, cla, _, 0, _, rfl, rfl, SqT.of hcl, atI_nat (j := 0) rfl, _, rfl, rfl, _, rfl, ?_⟩
          refine ifD (fun h => yes ⟨_, List.getElem_mem hil, ?_⟩) (fun h => ⟨_, rfl, rfl, ?_⟩)
          · unfold mentM
            exact List.any_eq_true.mpr ⟨_, List.getElem_mem hjl, List.any_eq_true.mpr ⟨_, List.getElem_mem hkl, decide_eq_true (V.str.inj h)⟩⟩
          · rw [List.take_add_one, ek, List.any_append, ad]
            simp only [Option.toList_some, List.any_cons, List.any_nil, Bool.or_false, Bool.false_or]
            exact decide_eq_false fun e => h (congrArg V.str e)
        · rintro σ H3 ⟨x', rfl, rfl, ad⟩
          rw [lv, List.take_length] at ad
          refine ⟨_, _, rfl, rfl, ?_⟩
          unfold mentM at ac ⊢
          rw [List.take_add_one, ej, List.any_append, ac]
          simp only [Option.toList_some, List.any_cons, List.any_nil, Bool.or_false, Bool.false_or]
          exact ad
      · rintro σ H2 ⟨w, x', rfl, rfl, ac⟩
        rw [lw, List.take_length] at ac
        refine ⟨_, _, _, rfl, rfl, ?_⟩
        rw [List.take_add_one, ec, List.any_append, ab]
        simp only [Option.toList_some, List.any_cons, List.any_nil, Bool.or_false, Bool.false_or]
        exact ac
    rintro σ H1 ⟨v, w, x', rfl, rfl, ab⟩
    rw [lk, List.take_length] at ab
    have eU : usedM tab n = (decide (n ∈ tab.un) || decide (n ∈ tab.rf.map (·.1))) := by unfold usedM; rw [ab]; rfl
    obtain ⟨xr, r1, r2⟩ := D.rf
    have lr : xr.length = tab.rf.length := by rw [r2.length, List.length_map]
    refine ⟨_, rfl, a.d, _, rfl, D.gr, a.r, rfl, ⟨_, SqL.of r1⟩, for_it walk_list (fun i σ H' => ∃ x, σ = [some (.ref a.d), some (.str n), v, w, x', x] ∧ H' = H1 ∧ n ∉ (tab.rf.take i).map (·.1)) ⟨none, rfl, rfl, (by intro h; cases h)⟩ (fun i σ H' _ ⟨_, _, e, _⟩ => by rw [e]; exact SqL.of r1) ?_ ?_⟩
    · rintro i x σ H2 H2' hi ⟨x'', rfl, rfl, ac⟩ ⟨rfl, ex⟩
      have hil : i < tab.rf.length := by omega
      have ec : tab.rf[i]? = some tab.rf[i] := List.getElem?_eq_getElem hil
      obtain ⟨v, g1, g2⟩ := r2.get' (i := i) (d := rfD tab.rf[i]) (by rw [List.getElem?_map, ec]; rfl)
      rw [ex] at g1
      cases g1
      obtain ⟨ra, rfl, hra⟩ := rf_at g2
      refine ⟨_, rfl, ra, _, 0, _, rfl, rfl, SqT.of hra, atI_nat (j := 0) rfl, _, rfl, rfl, _, rfl, ?_⟩
      refine ifD (fun h => ?_) (fun h => ⟨_, rfl, rfl, fun hm => ?_⟩)
      · have e : usedM tab n = true := by
          rw [eU, Bool.or_eq_true]
          exact .inr (decide_eq_true (List.mem_map.mpr ⟨_, List.getElem_mem hil, V.str.inj h⟩))
        rw [← e]
        exact q _ (Same.refl _)
      · rw [take_map (fun p : Str × Str => p.1) ec] at hm
        rcases List.mem_append.mp hm with hm | hm
        · exact ac hm
        · exact h (congrArg V.str (List.mem_singleton.mp hm).symm)
    · rintro σ H2 ⟨x'', rfl, rfl, ac⟩
      rw [lr, List.take_length] at ac
      refine ⟨_, rfl, _, rfl, a.d, _, rfl, D.gu, a.u, _, rfl, .inl (SqL.of D.un), rfl, flat_strs _, ?_⟩
      show Q (.bl (inV (.str n) (tab.un.map V.str))) H2
      rw [inV_str]
      have e : usedM tab n = decide (n ∈ tab.un) := by rw [eU, decide_eq_false ac, Bool.or_false]
      rw [← e]
      exact q _ (Same.refl _))
theorem ok_mentions {f : Addr} {fd : FuncData} (k : Kn K mg "mentions" s_mentions ["condition", "name"] f fd) (z : Z mg) :
    Cal P w K mg base 1 "mentions" ["condition", "name"] (fun vs H Q _ => ∃ (c : Addr) (cond : Cond) (n : Str), vs = [.ref c, .str n] ∧ Tp H (.ref c) (condD cond) ∧ cond.flatten.length ≤ 1000 ∧ ∀ H', Same H H' → Q (.bl (mentM n cond)) H') f fd := k.cal (by
  refine k.F.ok sc_mentions (fun vs H Q E h => ?_) (fun cdv A outer s H vs Q E hr h => ?_)
  · obtain ⟨c, cond, n, rfl, _⟩ := h; rfl
  · obtain ⟨c, cond, nm, rfl, hC, hf, q⟩ := h
    refine ⟨_, (pss_one (ps_ret (pe_callB (cr_any rfl) (by rfl) z.any (by decide +kernel) (pa_cons (pe_lc2 (own := [("alternative", 2), ("clause", 3)]) (vs1 := [3]) (g := gName 2) (tt := tYes) (g1 := gName 3) (tt1 := tYes) (wi1 := iTup K (tVar 2))  (by rfl) sc_mentions.nd (pi_tup (pv 0)) (blkOk_by (own := [("alternative", 2), ("clause", 3)]) (N := ["condition", "name", "alternative", "clause"]) (sc := defScope s_mentions) (by decide +kernel)) (by decide) (fun _ _ _ _ _ => pg_name (i := 2) sc_mentions.nd rfl (Or.inl rfl)) (fun _ _ _ _ _ => pts_nil) (fun _ _ _ _ _ => (pi_tup (pv 2))) (fun _ _ _ _ _ => pg_name (i := 3) sc_mentions.nd rfl (Or.inl rfl)) (fun _ _ _ _ _ => pts_nil) (fun _ _ _ _ _ => (pe_cmpR op_eq (pe_ix (r := rIxT K) ix_tup (pv 3) pe_int (fun _ _ => rfl)) (pv 1) (nomark _)))) pa_nil)))), ?_⟩
    obtain ⟨c', ys, e, hc, rc⟩ := t_at hC
    cases e
    have hy : ys.length = cond.length := by rw [rc.length, List.length_map]
    refine ⟨_, rfl, c, rfl, ⟨_, SqT.of hc⟩, fun E hE => inner walk_tup (fun i H' => H' E = some (.lst (((cond.take i).flatten.map (fun cl => decide (cl.n = nm))).map V.bl)) ∧ Same H H') ⟨upd_same, same_new hE _⟩ (fun i H' _ hh => SqT.of (hh.2 _ _ hc)) ?_ ?_⟩
    · rintro i x H2 H2' hi ⟨hE2, s2⟩ ⟨rfl, ex⟩
      have hil : i < cond.length := by omega
      have ec : cond[i]? = some cond[i] := List.getElem?_eq_getElem hil
      obtain ⟨v, g1, g2⟩ := rc.get' (i := i) (d := altD cond[i]) (by rw [List.getElem?_map, ec]; rfl)
      rw [ex] at g1
      cases g1
      obtain ⟨al, ws, rfl, ha, ra⟩ := t_at g2
      have hw : ws.length = cond[i].length := by rw [ra.length, List.length_map]
      refine ⟨rfl, _, rfl, al, rfl, ⟨_, SqT.of (s2 _ _ ha)⟩, inner walk_tup (fun j H' => H' E = some (.lst ((((cond.take i).flatten ++ cond[i].take j).map (fun cl => decide (cl.n = nm))).map V.bl)) ∧ Same H H') ⟨by rw [List.take_zero, List.append_nil]; exact hE2, s2⟩ (fun j H' _ hh => SqT.of (hh.2 _ _ ha)) ?_ ?_⟩
      · rintro j y H3 H3' hj ⟨hE3, s3⟩ ⟨rfl, ey⟩
        have hjl : j < cond[i].length := by omega
        have ej : cond[i][j]? = some cond[i][j] := List.getElem?_eq_getElem hjl
        obtain ⟨v, g3, g4⟩ := ra.get' (i := j) (d := clD cond[i][j]) (by rw [List.getElem?_map, ej]; rfl)
        rw [ey] at g3
        cases g3
        obtain ⟨ca, rfl, hca, _⟩ := cl_at g4
        have fl : ((cond.take i).flatten ++ cond[i].take j).length ≤ 1000 := by
          have e1 : cond.flatten.length = ((cond.take i).flatten ++ cond[i] ++ (cond.drop (i + 1)).flatten).length := by
            conv => lhs; rw [← List.take_append_drop (i + 1) cond, List.flatten_append, flat_next ec]
          rw [List.length_append, List.length_append] at e1
          rw [List.length_append, List.length_take]
          omega
        refine ⟨rfl, _, rfl, ca, _, 0, _, rfl, rfl, SqT.of (s3 _ _ hca), atI_nat (j := 0) rfl, _, rfl, rfl, _, hE3, (by rw [List.length_map, List.length_map]; exact small1000 fl), ?_, same_upd hE _ s3⟩
        have ed : decide (V.str cond[i][j].n = V.str nm) = decide (cond[i][j].n = nm) := by
          by_cases h : cond[i][j].n = nm
          · rw [decide_eq_true h, decide_eq_true (congrArg V.str h)]
          · rw [decide_eq_false h, decide_eq_false (fun z => h (V.str.inj z))]
        rw [upd_same, flat_step ec ej, map2_snoc, ed]
      · rintro H3 ⟨hE3, s3⟩
        rw [hw, List.take_length] at hE3
        exact ⟨by rw [flat_next ec]; exact hE3, s3⟩
    · rintro H2 ⟨hE2, s2⟩
      have et : cond.take ys.length = cond := List.take_of_length_le (by omega)
      rw [et] at hE2
      refine ⟨E, _, rfl, SqL.of hE2, ?_⟩
      have ee : (cond.flatten.map (fun cl => decide (cl.n = nm))).any id = mentM nm cond := by rw [List.any_map]; exact any_flat cond _
      rw [ee]
      exact q _ s2)
theorem ok_is_used {f : Addr} {fd : FuncData} (k : Kn K mg "is_used" s_is_used ["description", "column"] f fd) (z : Z mg)
    {g_mentions : Addr} {gd_mentions : FuncData} (c_mentions : Cal P w K mg base 1 "mentions" ["condition", "name"] (fun vs H Q _ => ∃ (c : Addr) (cond : Cond) (n : Str), vs = [.ref c, .str n] ∧ Tp H (.ref c) (condD cond) ∧ cond.flatten.length ≤ 1000 ∧ ∀ H', Same H H' → Q (.bl (mentM n cond)) H') g_mentions gd_mentions) :
    Cal P w K mg base 2 "is_used" ["description", "column"] (spIsUsed) f fd := k.cal (by
  refine k.F.ok sc_is_used (fun vs H Q E h => ?_) (fun cdv A outer s H vs Q E hr h => ?_)
  · obtain ⟨a, tab, n, rfl, _⟩ := h; rfl
  · obtain ⟨a, tab, n, rfl, D, sm, q⟩ := h
    have hu := hu_of hr
    refine ⟨_, (pss_cons (ps_if (pt_val (pe_callB (cr_any rfl) (by rfl) z.any (by decide +kernel) (pa_cons (pe_lc (own := [("check", 2)]) (g := gName 2) (tt := tYes) (by rfl) sc_is_used.nd (pi_list (pe_dget hu (pv 0) pe_str (fun _ _ => rfl))) (blkOk_by (own := [("check", 2)]) (N := ["description", "column", "check", "name", "_"]) (sc := defScope s_is_used) (by decide +kernel)) (fun _ _ _ _ _ => pg_name (i := 2) sc_is_used.nd rfl (Or.inl rfl)) (fun _ _ _ _ _ => pts_nil) (fun _ _ _ _ _ => (pe_call c_mentions.G (hr.mono (by decide)) (by rfl) c_mentions.m c_mentions.kp c_mentions.b .nil pass0 (pa_cons (pv 2) (pa_cons (pv 1) pa_nil))))) pa_nil))) (pss_one (ps_ret pe_bl)) pss_nil)
        (pss_one (ps_ret (pe_or (pe_cmpR op_in_seq (pv 1) (pe_dget hu (pv 0) pe_str (fun _ _ => rfl)) (by rfl)) (pe_one (pe_cmpR op_in_seq (pv 1) (pe_lc (own := [("name", 3), ("_", 4)]) (g := (gTup K 2 (gCons (gName 3) (gCons (gName 4) (gNil))))) (tt := tYes) (by rfl) sc_is_used.nd (pi_list (pe_dget hu (pv 0) pe_str (fun _ _ => rfl))) (blkOk_by (own := [("name", 3), ("_", 4)]) (N := ["description", "column", "check", "name", "_"]) (sc := defScope s_is_used) (by decide +kernel)) (fun _ _ _ _ _ => (pg_tup (by rfl) (pgs_cons (pg_name (i := 3) sc_is_used.nd rfl (Or.inl rfl)) (pgs_cons (pg_name (i := 4) sc_is_used.nd rfl (Or.inl rfl)) pgs_nil)))) (fun _ _ _ _ _ => pts_nil) (fun _ _ _ _ _ => (pv 3))) (by rfl))))))), ?_⟩
    obtain ⟨xk, k1, k2⟩ := D.ch
    have lk : xk.length = tab.ch.length := by rw [k2.length, List.length_map]
    refine ⟨_, rfl, a.d, _, rfl, D.gk, a.k, rfl, ⟨_, SqL.of k1⟩, fun E hE => inner walk_list (fun i H' => H' E = some (.lst (((tab.ch.take i).map (mentM n)).map V.bl)) ∧ Same H H') ⟨upd_same, same_new hE _⟩ (fun i H' _ hh => SqL.of (hh.2 _ _ k1)) ?_ ?_⟩
    · rintro i x H1 H1' hi ⟨hE1, s1⟩ ⟨rfl, ex⟩
      have hil : i < tab.ch.length := by omega
      have ec : tab.ch[i]? = some tab.ch[i] := List.getElem?_eq_getElem hil
      obtain ⟨v, g1, g2⟩ := k2.get' (i := i) (d := condD tab.ch[i]) (by rw [List.getElem?_map, ec]; rfl)
      rw [ex] at g1
      cases g1
      obtain ⟨ca, ws, rfl, ha, ra⟩ := t_at g2
      have cs := sm.cc _ (List.getElem_mem hil)
      have h40 := sm.ch
      refine ⟨rfl, _, rfl, _, rfl, ca, tab.ch[i], n, rfl, g2.mono (KeepT.of s1), cond_flat cs.1 cs.2, fun H2 s2 => ?_⟩
      refine ⟨_, s2 _ _ hE1, (by rw [List.length_map, List.length_map, List.length_take]; exact small1000 (by omega)), ?_, same_upd hE _ (s1.trans s2)⟩
      rw [upd_same, take_map2 (mentM n) V.bl ec]
    · rintro H1 ⟨hE1, s1⟩
      rw [lk, List.take_length] at hE1
      refine ⟨E, _, rfl, SqL.of hE1, _, rfl, ?_⟩
      have ee : (tab.ch.map (mentM n)).any id = tab.ch.any (mentM n) := List.any_map
      rw [ee]
      refine ite2 (fun h1 => ?_) (fun h1 => ?_)
      · have e : usedM tab n = true := by unfold usedM; rw [h1]; rfl
        rw [e] at q
        exact q _ s1
      · have h1 : tab.ch.any (mentM n) = false := by simpa using h1
        have e : usedM tab n = (decide (n ∈ tab.un) || decide (n ∈ tab.rf.map (·.1))) := by unfold usedM; rw [h1]; rfl
        rw [e] at q
        have D1 := D.frame (KeepT.of s1) (fun o => s1 _ _) (fun b _ o => s1 _ _)
        refine ⟨_, rfl, _, rfl, a.d, _, rfl, D1.gu, a.u, _, rfl, .inl (SqL.of D1.un), rfl, flat_strs _, _, rfl, ?_⟩
        show if inV (.str n) (tab.un.map V.str) = true then _ else _
        rw [inV_str]
        refine ifD (fun h2 => ?_) (fun h2 => ?_)
        · rw [decide_eq_true h2] at q
          exact q _ s1
        · rw [decide_eq_false h2] at q
          obtain ⟨xr, r1, r2⟩ := D1.rf
          have lr : xr.length = tab.rf.length := by rw [r2.length, List.length_map]
          have h40 := sm.rf
          refine ⟨_, rfl, _, rfl, a.d, _, rfl, D1.gr, a.r, rfl, ⟨_, SqL.of r1⟩, fun F hF => inner walk_list (fun i H' => H' F = some (.lst (((tab.rf.take i).map (·.1)).map V.str)) ∧ Same H1 H') ⟨upd_same, same_new hF _⟩ (fun i H' _ hh => SqL.of (hh.2 _ _ r1)) ?_ ?_⟩
          · rintro i x H2 H2' hi ⟨hF2, s2⟩ ⟨rfl, ex⟩
            have hil : i < tab.rf.length := by omega
            have ec : tab.rf[i]? = some tab.rf[i] := List.getElem?_eq_getElem hil
            obtain ⟨v, g1, g2⟩ := r2.get' (i := i) (d := rfD tab.rf[i]) (by rw [List.getElem?_map, ec]; rfl)
            rw [ex] at g1
            cases g1
            obtain ⟨ra, rfl, hra⟩ := rf_at g2
            refine ⟨ra, _, rfl, SqT.of (s2 _ _ hra), rfl, _, _, rfl, _, _, rfl, rfl, rfl, _, rfl, _, hF2, (by rw [List.length_map, List.length_map, List.length_take]; exact small1000 (by omega)), ?_, same_upd hF _ s2⟩
            rw [upd_same, take_map2 (fun p : Str × Str => p.1) V.str ec]
          · rintro H2 ⟨hF2, s2⟩
            rw [lr, List.take_length] at hF2
            refine ⟨F, _, rfl, .inl (SqL.of hF2), rfl, flat_strs _, ?_⟩
            show Q (.bl (inV (.str n) ((tab.rf.map (·.1)).map V.str))) H2
            rw [inV_str]
            exact q _ (s1.trans s2))
theorem ok_law_leads {f : Addr} {fd : FuncData} (k : Kn K mg "_law_leads" s_law_leads ["schema", "table"] f fd) (z : Z mg) :
    Cal P w K mg base 1 "_law_leads" ["schema", "table"] (spIsReferenced) f fd := k.cal (by
  refine k.F.ok sc_law_leads (fun vs H Q E h => ?_) (fun cdv A outer s H vs Q E hr h => ?_)
  · obtain ⟨S, s, n, rfl, _⟩ := h; rfl
  · obtain ⟨S, s, n, rfl, hS, hD, nm, sm, l20, q⟩ := h
    have hu := hu_of hr
    refine ⟨_, (pss_cons (ps_lock (ps_for PassesOwn.never rfl (pi_keys (pv 0)) (pg_name (i := 2) sc_law_leads.nd rfl (Or.inl rfl))
        (pss_one (ps_for PassesOwn.never rfl (pi_list (pe_dget hu (pe_dget hu (pv 0) (pv 2) (fun _ _ => rfl)) pe_str (fun _ _ => rfl))) (pg_name (i := 3) sc_law_leads.nd rfl (Or.inl rfl))
        (pss_one (ps_if (pt_cmpR op_eq (pe_ix ix_tup (pv 3) pe_int (fun _ _ => rfl)) (pv 1) (nomark _)) (pss_one (ps_ret pe_bl)) pss_nil))))))
        (pss_one (ps_ret pe_bl))), ?_⟩
    have neS := desc_ne hS hD
    have lk : (schK s).length = s.length := by unfold schK; rw [List.length_map]
    refine ⟨S, _, hS, True.intro, fun od => ?_⟩
    have hQ : ∀ b, b = refdM (s.map (·.2)) n → Q (.bl b) (upd (upd H S (.frz od (.dK (schK s)))) S (.dK (schK s))) := fun b e => by
      rw [e, upd_upd, upd_self hS]
      exact q _ (Same.refl _)
    refine ⟨_, rfl, S, od, rfl, .inl ⟨schK s, upd_same, for_it walk_keys (fun i σ H' => ∃ v w, σ = [some (.ref S), some (.str n), v, w] ∧ H' = upd H S (.frz od (.dK (schK s))) ∧ refdM ((s.take i).map (·.2)) n = false) ⟨none, none, rfl, rfl, rfl⟩ (fun i σ H' _ ⟨_, _, _, e, _⟩ => by rw [e]; exact upd_same) ?_ ?_⟩⟩
    · rintro i x σ H1 H1' hi ⟨v, w, rfl, rfl, ab⟩ ⟨rfl, key, wv, ek, rfl⟩
      obtain ⟨p, ep, rfl, rfl⟩ := sch_at ek
      have hp : p ∈ s := List.mem_of_getElem? ep
      have D1 := (hD p hp).lock (o := .frz od (.dK (schK s))) hS (neS p hp)
      obtain ⟨xr, r1, r2⟩ := D1.rf
      have lr : xr.length = p.2.rf.length := by rw [r2.length, List.length_map]
      refine ⟨_, rfl, _, rfl, S, _, rfl, sch_getF upd_same nm hp, p.1.d, _, rfl, D1.gr, p.1.r, rfl, ⟨_, SqL.of r1⟩, for_it walk_list (fun j σ H' => ∃ w, σ = [some (.ref S), some (.str n), some (.str p.2.n), w] ∧ H' = upd H S (.frz od (.dK (schK s))) ∧ ((p.2.rf.take j).any fun r => decide (r.2 = n)) = false) ⟨w, rfl, rfl, rfl⟩ (fun i σ H' _ ⟨_, _, e, _⟩ => by rw [e]; exact SqL.of r1) ?_ ?_⟩
      · rintro j y σ H2 H2' hj ⟨w, rfl, rfl, ac⟩ ⟨rfl, ey⟩
        have hjl : j < p.2.rf.length := by omega
        have ec : p.2.rf[j]? = some p.2.rf[j] := List.getElem?_eq_getElem hjl
        obtain ⟨v, g1, g2⟩ := r2.get' (i := j) (d := rfD p.2.rf[j]) (by rw [List.getElem?_map, ec]; rfl)
        rw [ey] at g1
        cases g1
        obtain ⟨ra, rfl, hra⟩ := rf_at g2
        refine ⟨_, rfl, ra, _, 1, _, rfl, rfl, SqT.of hra, atI_nat (j := 1) rfl, _, rfl, rfl, _, rfl, ?_⟩
        refine ifD (fun h => ⟨upd_same, hQ _ ?_⟩) (fun h => ⟨_, rfl, rfl, ?_⟩)
        · symm
          unfold refdM
          rw [List.any_eq_true]
          exact ⟨p.2, List.mem_map.mpr ⟨p, hp, rfl⟩, List.any_eq_true.mpr ⟨_, List.getElem_mem hjl, decide_eq_true (V.str.inj h)⟩⟩
        · rw [List.take_add_one, ec, List.any_append, ac]
          simp only [Option.toList_some, List.any_cons, List.any_nil, Bool.or_false, Bool.false_or]
          exact decide_eq_false fun e => h (congrArg V.str e)
      · rintro σ H2 ⟨w, rfl, rfl, ac⟩
        rw [lr, List.take_length] at ac
        refine ⟨_, _, rfl, rfl, ?_⟩
        unfold refdM at ab ⊢
        rw [take_map (fun p : Ads × Tab => p.2) ep, List.any_append, ab]
        simp only [List.any_cons, List.any_nil, Bool.or_false, Bool.false_or]
        exact ac
    · rintro σ H1 ⟨v, w, rfl, rfl, ab⟩
      rw [lk, List.take_length] at ab
      exact ⟨upd_same, hQ _ ab.symm⟩)
theorem ok_is_referenced {f : Addr} {fd : FuncData} (k : Kn K mg "is_referenced" s_is_referenced ["schema", "table"] f fd) (z : Z mg) :
    Cal P w K mg base 1 "is_referenced" ["schema", "table"] (spIsReferenced) f fd := k.cal (by
  refine k.F.ok sc_is_referenced (fun vs H Q E h => ?_) (fun cdv A outer s H vs Q E hr h => ?_)
  · obtain ⟨S, s, n, rfl, _⟩ := h; rfl
  · obtain ⟨S, s, n, rfl, hS, hD, nm, sm, l20, q⟩ := h
    have hu := hu_of hr
    refine ⟨_, (pss_one (ps_ret (pe_callB (cr_any rfl) (by rfl) z.any (by decide +kernel) (pa_cons (pe_lock (pe_lc2 (own := [("name", 2), ("_", 3), ("other", 4)]) (vs1 := [3, 4]) (g := gName 2) (tt := tYes) (g1 := (gTup K 2 (gCons (gName 3) (gCons (gName 4) (gNil))))) (tt1 := tYes) (wi1 := iList K (tDGet (tDGet (tVar 0) (tVar 2)) (tC (.str "references"))))  (by rfl) sc_is_referenced.nd (pi_keys (pv 0)) (blkOk_by (own := [("name", 2), ("_", 3), ("other", 4)]) (N := ["schema", "table", "name", "_", "other"]) (sc := defScope s_is_referenced) (by decide +kernel)) (by decide) (fun _ _ _ _ _ => pg_name (i := 2) sc_is_referenced.nd rfl (Or.inl rfl)) (fun _ _ _ _ _ => pts_nil) (fun _ _ _ _ _ => (pi_list (pe_dget hu (pe_dget hu (pv 0) (pv 2) (fun _ _ => rfl)) pe_str (fun _ _ => rfl)))) (fun _ _ _ _ _ => (pg_tup (by rfl) (pgs_cons (pg_name (i := 3) sc_is_referenced.nd rfl (Or.inl rfl)) (pgs_cons (pg_name (i := 4) sc_is_referenced.nd rfl (Or.inl rfl)) pgs_nil)))) (fun _ _ _ _ _ => pts_nil) (fun _ _ _ _ _ => (pe_cmpR op_eq (pv 4) (pv 1) (nomark _))))) pa_nil)))), ?_⟩
    have neS := desc_ne hS hD
    have lk : (schK s).length = s.length := by unfold schK; rw [List.length_map]
    refine ⟨S, _, hS, True.intro, fun od => ?_⟩
    refine ⟨_, rfl, S, od, rfl, .inl ⟨schK s, upd_same, fun E hE => inner walk_keys (fun i H' => ∃ bs : List Bool, H' E = some (.lst (bs.map V.bl)) ∧ bs.length ≤ 40 * i ∧ bs.any id = refdM ((s.take i).map (·.2)) n ∧ Same (upd H S (.frz od (.dK (schK s)))) H') ⟨[], upd_same, Nat.zero_le _, rfl, same_new hE _⟩ (fun i H' _ ⟨_, _, _, _, e⟩ => e _ _ upd_same) ?_ ?_⟩⟩
    · rintro i x H1 H1' hi ⟨bs, hE1, lb, ab, s1⟩ ⟨rfl, key, wv, ek, rfl⟩
      obtain ⟨p, ep, rfl, rfl⟩ := sch_at ek
      have hp : p ∈ s := List.mem_of_getElem? ep
      have D1 := (hD p hp).lock (o := .frz od (.dK (schK s))) hS (neS p hp)
      obtain ⟨xr, r1, r2⟩ := D1.rf
      have lr : xr.length = p.2.rf.length := by rw [r2.length, List.length_map]
      have h40 := (sm p hp).rf
      have hil : i < s.length := (List.getElem?_eq_some_iff.mp ep).1
      refine ⟨rfl, _, rfl, _, rfl, S, _, rfl, sch_getF (s1 _ _ upd_same) nm hp, p.1.d, _, rfl, (D1.frame (KeepT.of s1) (fun o => s1 _ _) (fun b _ o => s1 _ _)).gr, p.1.r, rfl, ⟨_, SqL.of (s1 _ _ r1)⟩, inner walk_list (fun j H' => H' E = some (.lst ((bs ++ (p.2.rf.take j).map fun r => decide (r.2 = n)).map V.bl)) ∧ Same (upd H S (.frz od (.dK (schK s)))) H') ⟨by rw [List.take_zero, List.map_nil, List.append_nil]; exact hE1, s1⟩ (fun i H' _ hh => SqL.of (hh.2 _ _ r1)) ?_ ?_⟩
      · rintro j y H2 H2' hj ⟨hE2, s2⟩ ⟨rfl, ey⟩
        have hjl : j < p.2.rf.length := by omega
        have ec : p.2.rf[j]? = some p.2.rf[j] := List.getElem?_eq_getElem hjl
        obtain ⟨v, g1, g2⟩ := r2.get' (i := j) (d := rfD p.2.rf[j]) (by rw [List.getElem?_map, ec]; rfl)
        rw [ey] at g1
        cases g1
        obtain ⟨ra, rfl, hra⟩ := rf_at g2
        refine ⟨ra, _, rfl, SqT.of (s2 _ _ hra), rfl, _, _, rfl, _, _, rfl, rfl, rfl, _, rfl, _, rfl, rfl, _, hE2, (by rw [List.length_map, List.length_append, List.length_map, List.length_take]; exact small1000 (by omega)), ?_, same_upd hE _ s2⟩
        rw [upd_same, take_map (fun r : Str × Str => decide (r.2 = n)) ec, ← List.append_assoc, List.map_append (f := V.bl) (l₁ := bs ++ List.map (fun r : Str × Str => decide (r.2 = n)) (List.take j p.2.rf)), D_str_eq]; rfl
      · rintro H2 ⟨hE2, s2⟩
        rw [lr, List.take_length] at hE2
        refine ⟨_, hE2, by rw [List.length_append, List.length_map]; omega, ?_, s2⟩
        rw [List.any_append, ab, List.any_map]
        unfold refdM
        rw [take_map (fun p : Ads × Tab => p.2) ep, List.any_append]
        simp
    · rintro H1 ⟨bs, hE1, lb, ab, s1⟩
      rw [lk, List.take_length] at ab
      rw [lk] at lb
      refine ⟨s1 _ _ upd_same, E, _, rfl, SqL.of (by rw [upd_ne (ne_of_none upd_same hE).symm]; exact hE1), ?_⟩
      rw [ab]
      refine q _ fun b o h => ?_
      by_cases z : b = S
      · subst z; rw [hS] at h; cases h; exact upd_same
      · rw [upd_ne z]
        exact s1 _ _ (by rw [upd_ne z]; exact h))
theorem ok_law {f : Addr} {fd : FuncData} (k : Kn K mg "law" s_law ["script"] f fd) (z : Z mg)
    {g_law_tape : Addr} {gd_law_tape : FuncData} (c_law_tape : Cal P w K mg base 1 "_law_tape" ["script"] (spTape K) g_law_tape gd_law_tape)
    {g_law_schema : Addr} {gd_law_schema : FuncData} (c_law_schema : Cal P w K mg base 8 "_law_schema" ["tape", "least", "most"] (spSchema) g_law_schema gd_law_schema)
    {g_law_copy : Addr} {gd_law_copy : FuncData} (c_law_copy : Cal P w K mg base 9 "_law_copy" ["thing"] (spCopyG 9) g_law_copy gd_law_copy)
    {g_copy_schema : Addr} {gd_copy_schema : FuncData} (c_copy_schema : Cal P w K mg base 2 "copy_schema" ["schema"] (spCopySchema) g_copy_schema gd_copy_schema)
    {g_law_same : Addr} {gd_law_same : FuncData} (c_law_same : Cal P w K mg base 18 "_law_same" ["actual", "expected"] (spSameG 9) g_law_same gd_law_same)
    {g_law_names : Addr} {gd_law_names : FuncData} (c_law_names : Cal P w K mg base 1 "_law_names" ["columns"] (spNames) g_law_names gd_law_names)
    {g_column_names : Addr} {gd_column_names : FuncData} (c_column_names : Cal P w K mg base 1 "column_names" ["description"] (spColumnNames) g_column_names gd_column_names)
    {g_law_uses : Addr} {gd_law_uses : FuncData} (c_law_uses : Cal P w K mg base 1 "_law_uses" ["description", "name"] (spIsUsed) g_law_uses gd_law_uses)
    {g_is_used : Addr} {gd_is_used : FuncData} (c_is_used : Cal P w K mg base 2 "is_used" ["description", "column"] (spIsUsed) g_is_used gd_is_used)
    {g_law_leads : Addr} {gd_law_leads : FuncData} (c_law_leads : Cal P w K mg base 1 "_law_leads" ["schema", "table"] (spIsReferenced) g_law_leads gd_law_leads)
    {g_is_referenced : Addr} {gd_is_referenced : FuncData} (c_is_referenced : Cal P w K mg base 1 "is_referenced" ["schema", "table"] (spIsReferenced) g_is_referenced gd_is_referenced) :
    Cal P w K mg base 19 "law" ["script"] (spLaw K) f fd := k.cal (by
  refine k.F.ok sc_law (fun vs H Q E h => ?_) (fun cdv A outer s H vs Q E hr h => ?_)
  · obtain ⟨a, ns, rfl, _⟩ := h; rfl
  · obtain ⟨a, ns, rfl, hS, h63, q⟩ := h
    have hu := hu_of hr
    refine ⟨_, (pss_cons (ps_set (i := 1) sc_law.nd rfl (Or.inl rfl) (pe_call c_law_tape.G (hr.mono (by decide)) (by rfl) c_law_tape.m c_law_tape.kp c_law_tape.b .nil pass0 (pa_cons (pv 0) pa_nil)))
        (pss_cons (ps_set (i := 2) sc_law.nd rfl (Or.inl rfl) (pe_call c_law_schema.G (hr.mono (by decide)) (by rfl) c_law_schema.m c_law_schema.kp c_law_schema.b .nil pass0 (pa_cons (pv 1) (pa_cons pe_int (pa_cons pe_int pa_nil)))))
        (pss_cons (ps_set (i := 3) sc_law.nd rfl (Or.inl rfl) (pe_call c_law_copy.G (hr.mono (by decide)) (by rfl) c_law_copy.m c_law_copy.kp c_law_copy.b .nil pass0 (pa_cons (pv 2) pa_nil)))
        (pss_cons (ps_set (i := 4) sc_law.nd rfl (Or.inl rfl) (pe_call c_copy_schema.G (hr.mono (by decide)) (by rfl) c_copy_schema.m c_copy_schema.kp c_copy_schema.b .nil pass0 (pa_cons (pv 2) pa_nil)))
        (pss_cons (ps_if (pt_not (pt_val (pe_call c_law_same.G (hr.mono (by decide)) (by rfl) c_law_same.m c_law_same.kp c_law_same.b .nil pass0 (pa_cons (pv 4) (pa_cons (pv 3) pa_nil))))) (pss_one (ps_ret pe_bl)) pss_nil)
        (pss_cons (ps_for PassesOwn.never rfl (pi_list (pe_callB (call_sortedD rfl) (by rfl) z.sorted (by decide +kernel) (pa_cons (pv 2) pa_nil))) (pg_name (i := 5) sc_law.nd rfl (Or.inl rfl))
        (pss_cons (ps_set (i := 6) sc_law.nd rfl (Or.inl rfl) (pe_dget hu (pv 2) (pv 5) (fun _ _ => rfl)))
        (pss_cons (ps_set (i := 7) sc_law.nd rfl (Or.inl rfl) (pe_call c_law_names.G (hr.mono (by decide)) (by rfl) c_law_names.m c_law_names.kp c_law_names.b .nil pass0 (pa_cons (pe_dget hu (pv 6) pe_str (fun _ _ => rfl)) pa_nil)))
        (pss_cons (ps_if (pt_not (pt_val (pe_call c_law_same.G (hr.mono (by decide)) (by rfl) c_law_same.m c_law_same.kp c_law_same.b .nil pass0 (pa_cons (pe_call c_column_names.G (hr.mono (by decide)) (by rfl) c_column_names.m c_column_names.kp c_column_names.b .nil pass0 (pa_cons (pv 6) pa_nil)) (pa_cons (pv 7) pa_nil))))) (pss_one (ps_ret pe_bl)) pss_nil)
        (pss_one (ps_for PassesOwn.never rfl (pi_list (pe_op op_cat (pv 7) (pe_lst (pa_cons pe_str pa_nil)))) (pg_name (i := 8) sc_law.nd rfl (Or.inl rfl))
        (pss_one (ps_if (pt_not (pt_val (pe_call c_law_same.G (hr.mono (by decide)) (by rfl) c_law_same.m c_law_same.kp c_law_same.b .nil pass0 (pa_cons (pe_call c_is_used.G (hr.mono (by decide)) (by rfl) c_is_used.m c_is_used.kp c_is_used.b .nil pass0 (pa_cons (pv 6) (pa_cons (pv 8) pa_nil))) (pa_cons (pe_call c_law_uses.G (hr.mono (by decide)) (by rfl) c_law_uses.m c_law_uses.kp c_law_uses.b .nil pass0 (pa_cons (pv 6) (pa_cons (pv 8) pa_nil))) pa_nil))))) (pss_one (ps_ret pe_bl)) pss_nil))))))))
        (pss_cons (ps_for PassesOwn.never rfl (pi_list (pe_op op_cat (pe_callB (call_sortedD rfl) (by rfl) z.sorted (by decide +kernel) (pa_cons (pv 2) pa_nil)) (pe_lst (pa_cons pe_str pa_nil)))) (pg_name (i := 5) sc_law.nd rfl (Or.inl rfl))
        (pss_one (ps_if (pt_not (pt_val (pe_call c_law_same.G (hr.mono (by decide)) (by rfl) c_law_same.m c_law_same.kp c_law_same.b .nil pass0 (pa_cons (pe_call c_is_referenced.G (hr.mono (by decide)) (by rfl) c_is_referenced.m c_is_referenced.kp c_is_referenced.b .nil pass0 (pa_cons (pv 2) (pa_cons (pv 5) pa_nil))) (pa_cons (pe_call c_law_leads.G (hr.mono (by decide)) (by rfl) c_law_leads.m c_law_leads.kp c_law_leads.b .nil pass0 (pa_cons (pv 2) (pa_cons (pv 5) pa_nil))) pa_nil))))) (pss_one (ps_ret pe_bl)) pss_nil)))
        (pss_cons (ps_for PassesOwn.never rfl (pi_list (pe_callB (call_sortedD rfl) (by rfl) z.sorted (by decide +kernel) (pa_cons (pv 4) pa_nil))) (pg_name (i := 5) sc_law.nd rfl (Or.inl rfl))
        (pss_cons (ps_for PassesOwn.never rfl (pi_list (pe_lst (pa_cons pe_str (pa_cons pe_str (pa_cons pe_str (pa_cons pe_str pa_nil)))))) (pg_name (i := 9) sc_law.nd rfl (Or.inl rfl))
        (pss_one (ps_expr (pe_bm PySem.F.plainAttrs_list PySem.F.slot_list_append PySem.F.type_list_append mt_append (pe_dget hu (pe_dget hu (pv 4) (pv 5) (fun _ _ => rfl)) (pv 9) (fun _ _ => rfl)) (pa_cons (pv 9) pa_nil)))))
        (pss_one (ps_dput hu (pe_dget hu (pv 4) (pv 5) (fun _ _ => rfl)) pe_str (pe_lst pa_nil) rfl))))
        (pss_cons (ps_dput hu (pv 4) pe_str pe_dnewK rfl)
        (pss_one (ps_ret (pe_call c_law_same.G (hr.mono (by decide)) (by rfl) c_law_same.m c_law_same.kp c_law_same.b .nil pass0 (pa_cons (pv 2) (pa_cons (pv 3) pa_nil)))))))))))))), ?_⟩
    refine ⟨_, rfl, a, ns, rfl, hS, h63, fun t c cs H1 T1 s1 _ => ?_⟩
    refine ⟨_, rfl, t, c, cs, 0, 5, rfl, T1, by decide, by decide, by decide, fun S s H2 A ok ls0 ls5 T2 s2 => ?_⟩
    have sm : ∀ p ∈ s, TabSm p.2 := fun p hp => (ok p hp).sm
    have l5 : s.length ≤ 5 := by omega
    have g2 := A.g sm (by omega)
    refine ⟨_, rfl, _, _, _, rfl, g2, Nat.lt_of_le_of_lt (sch_dep s) (by decide), fun B D' H3 g3 s3 f3 => ?_⟩
    refine ⟨_, rfl, S, s, rfl, s3 _ _ A.sk, fun p hp => (A.ds p hp).mono s3, A.nm, by omega, fun W w H4 N => ?_⟩
    have s24 : Same H2 H4 := s3.trans N.se
    have g4 := N.g A.nm sm (by omega)
    have gB4 := g3.mono N.se
    refine ⟨_, rfl, _, rfl, _, _, _, _, _, rfl, g4, gB4, fun x hx hy => g3.there x hy (N.newD x hx), Nat.lt_of_le_of_lt (sch_dep s) (by decide), _, rfl, ?_⟩
    -- every table
    refine ⟨_, rfl, S, schK s, schN s, rfl, .inl (s24 _ _ A.sk), sch_keys s, (by unfold schN; rw [List.length_map]; omega), fun ys P hper _ hP => ?_⟩
    have e5 := same_new hP (.lst (ys.map V.str))
    have ly : ys.length ≤ 5 := by rw [hper.length_eq]; unfold schN; rw [List.length_map]; exact l5
    refine ⟨P, rfl, ⟨_, SqL.of upd_same⟩, for_it walk_list (fun i σ H' => (∃ v5 v6 v7 v8, σ = [some (.ref a), some (.ref t), some (.ref S), some B, some (.ref W), v5, v6, v7, v8, none]) ∧ Same (upd H4 P (.lst (ys.map V.str))) H') ⟨⟨none, none, none, none, rfl⟩, Same.refl _⟩ (fun i σ H' _ hh => SqL.of (hh.2 _ _ upd_same)) ?_ ?_⟩
    · rintro i x σ H6 H6' hi ⟨⟨v5, v6, v7, v8, rfl⟩, s6⟩ ⟨rfl, ex⟩
      obtain ⟨z, hz, rfl⟩ : ∃ z, z ∈ ys ∧ x = V.str z := by
        obtain ⟨z, h1, h2⟩ := List.mem_map.mp (List.mem_of_getElem? ex)
        exact ⟨z, h1, h2.symm⟩
      obtain ⟨p, hp, rfl⟩ := sch_in (hper.mem_iff.mp hz)
      have S6 : Same H2 H6' := s24.trans (e5.trans s6)
      have D6 := (A.ds p hp).mono S6
      have hS6 := S6 _ _ A.sk
      have gS : ∀ {H' : Hp}, H' S = some (.dK (schK s)) → DGet H' S (.str p.2.n) (some (.ref p.1.d)) := fun {H'} h => by
        have g := DGet.k (k := (Sum.inr p.2.n : Key)) h
        rw [sch_get A.nm hp] at g
        exact g
      have l5c := (ok p hp).l5
      refine ⟨_, rfl, _, rfl, S, _, rfl, gS hS6, ?_⟩
      refine ⟨_, rfl, p.1.d, _, rfl, D6.gc, p.1.c, p.2.cols, rfl, D6.co, by omega, fun N1 H7 hN1 s7 hN7 => ?_⟩
      have D7 := D6.mono s7
      refine ⟨_, rfl, p.1.d, p.1.c, p.2.cols, rfl, D7.gc, D7.co, by omega, fun M H8 hM s8 hM8 => ?_⟩
      have lcn : (colNs p.2.cols).length ≤ 5 := by unfold colNs; rw [List.length_map]; exact l5c
      have hN8 := s8 _ _ hN7
      refine ⟨_, rfl, _, _, _, _, _, rfl, strsG_at hM8 (by omega), strsG_at hN8 (by omega), fun x hx hy => ?_, Nat.lt_of_le_of_lt (strsG_dep _) (by decide), _, rfl, ?_⟩
      · rw [List.mem_singleton.mp hx] at hy
        have := List.mem_singleton.mp hy
        rw [this, hN7] at hM
        cases hM
      refine ⟨_, rfl, (by show 1 ≤ sizeLine; decide), fun l hl => ⟨N1, l, _, _, rfl, rfl, same_new hl _ _ _ hN8, upd_same, (by rw [List.length_map]; exact Nat.le_of_lt (small1000 (by show (colNs p.2.cols).length + 1 ≤ 1000; omega))), fun m hm => ?_⟩⟩
      have s9 : Same H8 (upd (upd H8 l (.lst [.str "nowhere"])) m (.lst ((colNs p.2.cols).map V.str ++ [.str "nowhere"]))) := (same_new hl _).trans (same_new hm _)
      refine ⟨m, rfl, ⟨_, SqL.of upd_same⟩, for_it walk_list (fun i σ H' => (∃ v8, σ = [some (.ref a), some (.ref t), some (.ref S), some B, some (.ref W), some (.str p.2.n), some (.ref p.1.d), some (.ref N1), v8, none]) ∧ Same (upd (upd H8 l (.lst [.str "nowhere"])) m (.lst ((colNs p.2.cols).map V.str ++ [.str "nowhere"]))) H') ⟨⟨v8, rfl⟩, Same.refl _⟩ (fun i σ H' _ hh => SqL.of (hh.2 _ _ upd_same)) ?_ ?_⟩
      · rintro j x σ H10 H10' hj ⟨⟨v8, rfl⟩, s10⟩ ⟨rfl, ex⟩
        obtain ⟨n, rfl⟩ : ∃ n : Str, x = .str n := by
          rcases List.mem_append.mp (List.mem_of_getElem? ex) with h | h
          · obtain ⟨n, _, e⟩ := List.mem_map.mp h
            exact ⟨n, e.symm⟩
          · exact ⟨_, List.mem_singleton.mp h⟩
        have D10 := D7.mono (s8.trans (s9.trans s10))
        refine ⟨_, rfl, _, rfl, p.1, p.2, n, rfl, D10, sm p hp, fun H11 s11 => ?_⟩
        refine ⟨_, rfl, _, rfl, p.1, p.2, n, rfl, D10.mono s11, sm p hp, fun H12 s12 => ?_⟩
        exact ⟨_, _, .s (.bl _), [], [], rfl, .s rfl, .s rfl, (by intro x h; cases h), (by show 0 < 9; decide), _, rfl, ⟨_, rfl⟩, s10.trans (s11.trans s12)⟩
      · rintro σ H10 ⟨⟨v8, rfl⟩, s10⟩
        exact ⟨⟨_, _, _, _, rfl⟩, s6.trans (s7.trans (s8.trans (s9.trans s10)))⟩
    rintro σ H6 ⟨⟨v5, v6, v7, v8, rfl⟩, s6⟩
    have S6 : Same H2 H6 := s24.trans (e5.trans s6)
    -- references
    refine ⟨_, rfl, S, schK s, schN s, rfl, .inl (S6 _ _ A.sk), sch_keys s, (by unfold schN; rw [List.length_map]; omega), fun zs P2 hper2 _ hP2 => ?_⟩
    have e7 := same_new hP2 (.lst (zs.map V.str))
    have lz : zs.length ≤ 5 := by rw [hper2.length_eq]; unfold schN; rw [List.length_map]; exact l5
    refine ⟨(by show 1 ≤ sizeLine; decide), fun l hl => ⟨P2, l, _, _, rfl, rfl, same_new hl _ _ _ upd_same, upd_same, (by rw [List.length_map]; exact Nat.le_of_lt (small1000 (by show zs.length + 1 ≤ 1000; omega))), fun m hm => ?_⟩⟩
    have s9 : Same H6 (upd (upd (upd H6 P2 (.lst (zs.map V.str))) l (.lst [.str "nowhere"])) m (.lst (zs.map V.str ++ [.str "nowhere"]))) := e7.trans ((same_new hl _).trans (same_new hm _))
    refine ⟨m, rfl, ⟨_, SqL.of upd_same⟩, for_it walk_list (fun i σ H' => (∃ v5, σ = [some (.ref a), some (.ref t), some (.ref S), some B, some (.ref W), v5, v6, v7, v8, none]) ∧ Same (upd (upd (upd H6 P2 (.lst (zs.map V.str))) l (.lst [.str "nowhere"])) m (.lst (zs.map V.str ++ [.str "nowhere"]))) H') ⟨⟨v5, rfl⟩, Same.refl _⟩ (fun i σ H' _ hh => SqL.of (hh.2 _ _ upd_same)) ?_ ?_⟩
    · rintro j x σ H10 H10' hj ⟨⟨v5, rfl⟩, s10⟩ ⟨rfl, ex⟩
      obtain ⟨n, rfl⟩ : ∃ n : Str, x = .str n := by
        rcases List.mem_append.mp (List.mem_of_getElem? ex) with h | h
        · obtain ⟨n, _, e⟩ := List.mem_map.mp h
          exact ⟨n, e.symm⟩
        · exact ⟨_, List.mem_singleton.mp h⟩
      have S10 := S6.trans (s9.trans s10)
      refine ⟨_, rfl, _, rfl, S, s, n, rfl, S10 _ _ A.sk, fun p hp => (A.ds p hp).mono S10, A.nm, sm, by omega, fun H11 s11 => ?_⟩
      have S11 := S10.trans s11
      refine ⟨_, rfl, _, rfl, S, s, n, rfl, S11 _ _ A.sk, fun p hp => (A.ds p hp).mono S11, A.nm, sm, by omega, fun H12 s12 => ?_⟩
      exact ⟨_, _, .s (.bl _), [], [], rfl, .s rfl, .s rfl, (by intro x h; cases h), (by show 0 < 9; decide), _, rfl, ⟨_, rfl⟩, s10.trans (s11.trans s12)⟩
    rintro σ H10 ⟨⟨v5, rfl⟩, s10⟩
    have S10 := s9.trans s10
    have S410 : Same H4 H10 := e5.trans (s6.trans S10)
    have wds : ∀ p ∈ w, DescAt H10 p.1 p.2 := fun p hp => (N.ds p hp).mono S410
    have wnm := N.nm A.nm
    have wl : w.length ≤ 5 := by have := congrArg List.length N.ts; simp only [List.length_map] at this; omega
    -- the twin is spoilt
    refine ⟨_, rfl, W, schK w, schN w, rfl, .inl (S410 _ _ N.sk), sch_keys w, (by unfold schN; rw [List.length_map]; omega), fun us P3 hper3 _ hP3 => ?_⟩
    have e11 := same_new hP3 (.lst (us.map V.str))
    have wsm : ∀ p ∈ w, TabSm p.2 := fun p hp => by
      obtain ⟨r, h1, h2⟩ := N.mem hp
      rw [← h2]; exact sm r h1
    have lu : us.length ≤ 5 := by rw [hper3.length_eq]; unfold schN; rw [List.length_map]; exact wl
    have ndu : us.Nodup := hper3.nodup_iff.mpr wnm
    have hP3W : P3 ∉ W :: schD w := fun h => by
      have : H4 P3 ≠ none := g4.there P3 h
      rw [S410.free hP3] at this
      exact this rfl
    refine ⟨P3, rfl, ⟨_, SqL.of upd_same⟩, for_it walk_list (fun j σ H' => (∃ v5 v9, σ = [some (.ref a), some (.ref t), some (.ref S), some B, some (.ref W), v5, v6, v7, v8, v9]) ∧ H' W = some (.dK (schK w)) ∧ H' P3 = some (.lst (us.map V.str)) ∧ (∀ p ∈ w, p.2.n ∉ us.take j → H' p.1.d = some (.dK (descD p.1)) ∧ ∀ b ∈ adL p.1, ∃ xs, H' b = some (.lst xs) ∧ xs.length ≤ 40 + 4 * j) ∧ SameE (W :: schD w) H10 H') ⟨⟨_, _, rfl⟩, e11 _ _ (S410 _ _ N.sk), upd_same, fun p hp _ => ⟨e11 _ _ (wds p hp).dk, fun b hb => ?_⟩, SameE.of e11⟩ (fun i σ H' _ hh => SqL.of hh.2.2.1) ?_ ?_⟩
    · obtain ⟨xs, h1, h2⟩ := (wds p hp).isLn (wsm p hp) b hb
      exact ⟨xs, e11 _ _ h1, by omega⟩
    · rintro j x σ H12 H12' hj ⟨⟨v5, v9, rfl⟩, hW, hP3', live, se⟩ ⟨rfl, ex⟩
      rw [List.length_map] at hj
      have ey : us[j]? = some us[j] := List.getElem?_eq_getElem hj
      rw [List.getElem?_map, ey] at ex
      cases ex
      obtain ⟨p, hp, hpn⟩ := sch_in (hper3.mem_iff.mp (List.getElem_mem hj))
      have hnot : p.2.n ∉ us.take j := by
        rw [hpn]
        intro z
        obtain ⟨i0, hi0, ei⟩ := List.getElem_of_mem z
        rw [List.length_take] at hi0
        rw [List.getElem_take] at ei
        have b1 : us[i0]? = some us[j] := by rw [List.getElem?_eq_getElem (by omega), ei]
        have := nd_ix ndu b1 ey
        omega
      rw [← hpn]
      refine ⟨(by show 4 ≤ sizeLine; decide), fun M hM => ?_⟩
      have e13 := same_new hM (.lst [.str "columns", .str "checks", .str "uniques", .str "references"])
      refine ⟨M, rfl, ⟨_, SqL.of upd_same⟩, for_it walk_list (fun k σ H' => (∃ v9, σ = [some (.ref a), some (.ref t), some (.ref S), some B, some (.ref W), some (.str p.2.n), v6, v7, v8, v9]) ∧ H' W = some (.dK (schK w)) ∧ H' P3 = some (.lst (us.map V.str)) ∧ H' M = some (.lst [.str "columns", .str "checks", .str "uniques", .str "references"]) ∧ (∀ p ∈ w, p.2.n ∉ us.take j → H' p.1.d = some (.dK (descD p.1)) ∧ ∀ b ∈ adL p.1, b ≠ M ∧ b ≠ P3 ∧ ∃ xs, H' b = some (.lst xs) ∧ xs.length ≤ 40 + 4 * j + k) ∧ SameE (W :: schD w) H10 H') ⟨⟨_, rfl⟩, e13 _ _ hW, e13 _ _ hP3', upd_same, fun p hp hn => ?_, se.trans (SameE.of e13)⟩ (fun i σ H' _ hh => SqL.of hh.2.2.2.1) ?_ ?_⟩
      · obtain ⟨h1, h2⟩ := live p hp hn
        refine ⟨e13 _ _ h1, fun b hb => ?_⟩
        obtain ⟨xs, h3, h4⟩ := h2 b hb
        refine ⟨(fun z => by rw [z, hM] at h3; cases h3), (fun z => ?_), xs, e13 _ _ h3, by omega⟩
        exact hP3W (by rw [← z]; exact List.mem_cons_of_mem _ (List.mem_flatMap.mpr ⟨p, hp, List.mem_cons_of_mem _ hb⟩))
      · rintro k x σ H14 H14' hk ⟨⟨v9, rfl⟩, kW, kP, kM, kl, ks⟩ ⟨rfl, ex⟩
        obtain ⟨k1, k2⟩ := kl p hp hnot
        obtain ⟨b, hb, gb⟩ := desc_part k1 ex
        obtain ⟨bM, bP, xs, hxs, lxs⟩ := k2 b hb
        have hk4 : k < 4 := hk
        have bw : b ∈ W :: schD w := List.mem_cons_of_mem _ (List.mem_flatMap.mpr ⟨p, hp, List.mem_cons_of_mem _ hb⟩)
        have bW : b ≠ W := fun z => by rw [z, kW] at hxs; cases hxs
        refine ⟨_, rfl, _, rfl, W, _, rfl, sch_getK kW wnm hp, _, rfl, p.1.d, _, rfl, gb, .inl ⟨rfl, _, SqL.of hxs⟩, _, rfl, b, xs, _, rfl, rfl, hxs, small1000 (by omega), ?_⟩
        refine ⟨⟨_, rfl⟩, by rw [upd_ne bW.symm]; exact kW, by rw [upd_ne bP.symm]; exact kP, by rw [upd_ne bM.symm]; exact kM, fun r hr' hn => ?_, SameE.upd bw _ ks⟩
        obtain ⟨r1, r2⟩ := kl r hr' hn
        refine ⟨by rw [upd_ne (fun z => by rw [z, hxs] at r1; cases r1)]; exact r1, fun b' hb' => ?_⟩
        obtain ⟨m1, m2, ys', m3, m4⟩ := r2 b' hb'
        refine ⟨m1, m2, ?_⟩
        by_cases z : b' = b
        · subst z
          rw [hxs] at m3
          cases m3
          exact ⟨_, upd_same, by rw [List.length_append, List.length_singleton]; omega⟩
        · exact ⟨ys', by rw [upd_ne z]; exact m3, by omega⟩
      · rintro σ H14 ⟨⟨v9, rfl⟩, kW, kP, kM, kl, ks⟩
        obtain ⟨k1, k2⟩ := kl p hp hnot
        refine ⟨(by show 0 ≤ sizeLine; decide), fun l2 hl2 => ?_⟩
        have e15 := same_new hl2 (.lst [])
        refine ⟨_, rfl, _, rfl, W, _, rfl, sch_getK (e15 _ _ kW) wnm hp, p.1.d, _, rfl, DPut.k (k := (Sum.inr ("columns" : Str) : Key)) (e15 _ _ k1) (by show 4 < sizeLine; decide), ?_⟩
        have pW : p.1.d ≠ W := (N.fd p hp).2.1
        have pP : p.1.d ≠ P3 := fun z => by rw [z, kP] at k1; cases k1
        have pw : p.1.d ∈ W :: schD w := List.mem_cons_of_mem _ (List.mem_flatMap.mpr ⟨p, hp, List.mem_cons_self⟩)
        refine ⟨⟨_, _, rfl⟩, by rw [upd_ne pW.symm]; exact e15 _ _ kW, by rw [upd_ne pP.symm]; exact e15 _ _ kP, fun r hr' hn => ?_, SameE.upd pw _ (ks.trans (SameE.of e15))⟩
        have hn' : r.2.n ∉ us.take j := fun z => hn (by rw [List.take_add_one]; exact List.mem_append.mpr (.inl z))
        have hrp : r.1.d ≠ p.1.d := fun z => by
          obtain ⟨i1, h1, e1⟩ := List.getElem_of_mem hr'
          obtain ⟨i2, h2, e2⟩ := List.getElem_of_mem hp
          have b1 : (w.map fun p => p.1.d)[i1]? = some p.1.d := by rw [List.getElem?_map, List.getElem?_eq_getElem h1, e1]; exact congrArg some z
          have b2 : (w.map fun p => p.1.d)[i2]? = some p.1.d := by rw [List.getElem?_map, List.getElem?_eq_getElem h2, e2]; rfl
          have := nd_ix N.dn b1 b2
          subst this
          rw [e1] at e2
          refine hn ?_
          rw [e2, hpn, List.take_add_one, ey]
          exact List.mem_append.mpr (.inr (by simp))
        obtain ⟨r1, r2⟩ := kl r hr' hn'
        refine ⟨by rw [upd_ne hrp]; exact e15 _ _ r1, fun b hb => ?_⟩
        obtain ⟨_, _, xs, h3, h4⟩ := r2 b hb
        exact ⟨xs, by rw [upd_ne (fun z => by rw [z, k1] at h3; cases h3)]; exact e15 _ _ h3, by omega⟩
    rintro σ H12 ⟨⟨v5, v9, rfl⟩, hW, hP3', live, se⟩
    refine fun l3 hl3 => ?_
    have e16 := same_new hl3 (.dK [])
    refine ⟨_, rfl, W, _, rfl, DPut.k (k := (Sum.inr ("nowhere" : Str) : Key)) (e16 _ _ hW) (by unfold schK; rw [List.length_map]; exact small1000 (by omega)), ?_⟩
    have seF := SameE.upd (List.mem_cons_self (a := W) (l := schD w)) (.dK (putK (schK w) (Sum.inr ("nowhere" : Str) : Key) (.ref l3))) (se.trans (SameE.of e16))
    have S210 : Same H2 H10 := s24.trans S410
    have ktF : KeepT H10 (upd (upd H12 l3 (.dK [])) W (.dK (putK (schK w) (Sum.inr ("nowhere" : Str) : Key) (.ref l3)))) := fun b xs hb => seF _ _ hb fun h => by
      rcases List.mem_cons.mp h with z | h
      · rw [z, S410 _ _ N.sk] at hb; cases hb
      · obtain ⟨p, hp, h⟩ := List.mem_flatMap.mp h
        rcases List.mem_cons.mp h with z | h
        · rw [z, (wds p hp).dk] at hb; cases hb
        · obtain ⟨ys', g⟩ := (wds p hp).isL b h
          rw [g] at hb; cases hb
    have outD : ∀ {b : Addr}, H3 b ≠ none → b ∉ W :: schD w := fun {b} h hm => h (N.newD b hm)
    refine ⟨_, rfl, _, rfl, _, _, _, _, _, rfl, (g2.mono S210).frame ktF (fun b hb o h => seF _ _ h (outD ?_)), ((gB4.mono S410)).frame ktF (fun b hb o h => seF _ _ h (outD (g3.there b hb))), fun x hx hy => ?_, Nat.lt_of_le_of_lt (sch_dep s) (by decide), ?_⟩
    · exact (g2.mono s3).there b hb
    · exact g2.there x hx (f3 x hy)
    exact q _)
end
end Lt
namespace Lt
open PySem L2 TL
open C8 (pss_cut)
theorem all_mk {l : PySem.W.OpenLaw} {w : World} {K : PySem.W.Frag} {h : Heap} {mg : Str → Option Value} {fa : Addr} (X : K.In h) (G : h.Ns mainGlobals mg) (hfa : mg "law" = some (.ref fa))
    {f_law_tape f_law_take f_law_name f_law_table f_law_columns f_law_names f_law_integer f_law_char f_law_text f_law_value f_law_clause f_law_condition f_law_limits f_law_schema f_law_copy f_copy_description f_copy_schema f_law_is_integer f_law_same_items f_law_same f_column_names f_law_uses f_mentions f_is_used f_law_leads f_is_referenced f_law : Addr} {od_law_tape an_law_tape od_law_take an_law_take od_law_name an_law_name od_law_table an_law_table od_law_columns an_law_columns od_law_names an_law_names od_law_integer an_law_integer od_law_char an_law_char od_law_text an_law_text od_law_value an_law_value od_law_clause an_law_clause od_law_condition an_law_condition od_law_limits an_law_limits od_law_schema an_law_schema od_law_copy an_law_copy od_copy_description an_copy_description od_copy_schema an_copy_schema od_law_is_integer an_law_is_integer od_law_same_items an_law_same_items od_law_same an_law_same od_column_names an_column_names od_law_uses an_law_uses od_mentions an_mentions od_is_used an_is_used od_law_leads an_law_leads od_is_referenced an_is_referenced od_law an_law : Option Addr} {sl_law_tape sl_law_take sl_law_name sl_law_table sl_law_columns sl_law_names sl_law_integer sl_law_char sl_law_text sl_law_value sl_law_clause sl_law_condition sl_law_limits sl_law_schema sl_law_copy sl_copy_description sl_copy_schema sl_law_is_integer sl_law_same_items sl_law_same sl_column_names sl_law_uses sl_mentions sl_is_used sl_law_leads sl_is_referenced sl_law : Array (Option Value)} {oc_law_tape kV_law_tape dc_law_tape pm_law_tape cd_law_tape ct_law_tape oc_law_take kV_law_take dc_law_take pm_law_take cd_law_take ct_law_take oc_law_name kV_law_name dc_law_name pm_law_name cd_law_name ct_law_name oc_law_table kV_law_table dc_law_table pm_law_table cd_law_table ct_law_table oc_law_columns kV_law_columns dc_law_columns pm_law_columns cd_law_columns ct_law_columns oc_law_names kV_law_names dc_law_names pm_law_names cd_law_names ct_law_names oc_law_integer kV_law_integer dc_law_integer pm_law_integer cd_law_integer ct_law_integer oc_law_char kV_law_char dc_law_char pm_law_char cd_law_char ct_law_char oc_law_text kV_law_text dc_law_text pm_law_text cd_law_text ct_law_text oc_law_value kV_law_value dc_law_value pm_law_value cd_law_value ct_law_value oc_law_clause kV_law_clause dc_law_clause pm_law_clause cd_law_clause ct_law_clause oc_law_condition kV_law_condition dc_law_condition pm_law_condition cd_law_condition ct_law_condition oc_law_limits kV_law_limits dc_law_limits pm_law_limits cd_law_limits ct_law_limits oc_law_schema kV_law_schema dc_law_schema pm_law_schema cd_law_schema ct_law_schema oc_law_copy kV_law_copy dc_law_copy pm_law_copy cd_law_copy ct_law_copy oc_copy_description kV_copy_description dc_copy_description pm_copy_description cd_copy_description ct_copy_description oc_copy_schema kV_copy_schema dc_copy_schema pm_copy_schema cd_copy_schema ct_copy_schema oc_law_is_integer kV_law_is_integer dc_law_is_integer pm_law_is_integer cd_law_is_integer ct_law_is_integer oc_law_same_items kV_law_same_items dc_law_same_items pm_law_same_items cd_law_same_items ct_law_same_items oc_law_same kV_law_same dc_law_same pm_law_same cd_law_same ct_law_same oc_column_names kV_column_names dc_column_names pm_column_names cd_column_names ct_column_names oc_law_uses kV_law_uses dc_law_uses pm_law_uses cd_law_uses ct_law_uses oc_mentions kV_mentions dc_mentions pm_mentions cd_mentions ct_mentions oc_is_used kV_is_used dc_is_used pm_is_used cd_is_used ct_is_used oc_law_leads kV_law_leads dc_law_leads pm_law_leads cd_law_leads ct_law_leads oc_is_referenced kV_is_referenced dc_is_referenced pm_is_referenced cd_is_referenced ct_is_referenced oc_law kV_law dc_law pm_law cd_law ct_law : Value}
    (a_law_tape : PySem.W.nsIn K mainGlobals "_law_tape" = some (some (.ref f_law_tape)))
    (l_law_tape : K.lookup f_law_tape = some ⟨oc_law_tape, od_law_tape, .func (PySem.W.fnOf "_law_tape" "_law_tape" (defArgs s_law_tape) (defBody s_law_tape) (defScope s_law_tape) .none kV_law_tape dc_law_tape pm_law_tape an_law_tape cd_law_tape ct_law_tape), sl_law_tape⟩)
    (c_law_tape : PySem.W.codeIn K cd_law_tape "_law_tape" = true)
    (k_law_tape : PySem.W.keepIn K (.ref f_law_tape) = true)
    (a_law_take : PySem.W.nsIn K mainGlobals "_law_take" = some (some (.ref f_law_take)))
    (l_law_take : K.lookup f_law_take = some ⟨oc_law_take, od_law_take, .func (PySem.W.fnOf "_law_take" "_law_take" (defArgs s_law_take) (defBody s_law_take) (defScope s_law_take) .none kV_law_take dc_law_take pm_law_take an_law_take cd_law_take ct_law_take), sl_law_take⟩)
    (c_law_take : PySem.W.codeIn K cd_law_take "_law_take" = true)
    (k_law_take : PySem.W.keepIn K (.ref f_law_take) = true)
    (a_law_name : PySem.W.nsIn K mainGlobals "_law_name" = some (some (.ref f_law_name)))
    (l_law_name : K.lookup f_law_name = some ⟨oc_law_name, od_law_name, .func (PySem.W.fnOf "_law_name" "_law_name" (defArgs s_law_name) (defBody s_law_name) (defScope s_law_name) .none kV_law_name dc_law_name pm_law_name an_law_name cd_law_name ct_law_name), sl_law_name⟩)
    (c_law_name : PySem.W.codeIn K cd_law_name "_law_name" = true)
    (k_law_name : PySem.W.keepIn K (.ref f_law_name) = true)
    (a_law_table : PySem.W.nsIn K mainGlobals "_law_table" = some (some (.ref f_law_table)))
    (l_law_table : K.lookup f_law_table = some ⟨oc_law_table, od_law_table, .func (PySem.W.fnOf "_law_table" "_law_table" (defArgs s_law_table) (defBody s_law_table) (defScope s_law_table) .none kV_law_table dc_law_table pm_law_table an_law_table cd_law_table ct_law_table), sl_law_table⟩)
    (c_law_table : PySem.W.codeIn K cd_law_table "_law_table" = true)
    (k_law_table : PySem.W.keepIn K (.ref f_law_table) = true)
    (a_law_columns : PySem.W.nsIn K mainGlobals "_law_columns" = some (some (.ref f_law_columns)))
    (l_law_columns : K.lookup f_law_columns = some ⟨oc_law_columns, od_law_columns, .func (PySem.W.fnOf "_law_columns" "_law_columns" (defArgs s_law_columns) (defBody s_law_columns) (defScope s_law_columns) .none kV_law_columns dc_law_columns pm_law_columns an_law_columns cd_law_columns ct_law_columns), sl_law_columns⟩)
    (c_law_columns : PySem.W.codeIn K cd_law_columns "_law_columns" = true)
    (k_law_columns : PySem.W.keepIn K (.ref f_law_columns) = true)
    (a_law_names : PySem.W.nsIn K mainGlobals "_law_names" = some (some (.ref f_law_names)))
    (l_law_names : K.lookup f_law_names = some ⟨oc_law_names, od_law_names, .func (PySem.W.fnOf "_law_names" "_law_names" (defArgs s_law_names) (defBody s_law_names) (defScope s_law_names) .none kV_law_names dc_law_names pm_law_names an_law_names cd_law_names ct_law_names), sl_law_names⟩)
    (c_law_names : PySem.W.codeIn K cd_law_names "_law_names" = true)
    (k_law_names : PySem.W.keepIn K (.ref f_law_names) = true)
    (a_law_integer : PySem.W.nsIn K mainGlobals "_law_integer" = some (some (.ref f_law_integer)))
    (l_law_integer : K.lookup f_law_integer = some ⟨oc_law_integer, od_law_integer, .func (PySem.W.fnOf "_law_integer" "_law_integer" (defArgs s_law_integer) (defBody s_law_integer) (defScope s_law_integer) .none kV_law_integer dc_law_integer pm_law_integer an_law_integer cd_law_integer ct_law_integer), sl_law_integer⟩)
    (c_law_integer : PySem.W.codeIn K cd_law_integer "_law_integer" = true)
    (k_law_integer : PySem.W.keepIn K (.ref f_law_integer) = true)
    (a_law_char : PySem.W.nsIn K mainGlobals "_law_char" = some (some (.ref f_law_char)))
    (l_law_char : K.lookup f_law_char = some ⟨oc_law_char, od_law_char, .func (PySem.W.fnOf "_law_char" "_law_char" (defArgs s_law_char) (defBody s_law_char) (defScope s_law_char) .none kV_law_char dc_law_char pm_law_char an_law_char cd_law_char ct_law_char), sl_law_char⟩)
    (c_law_char : PySem.W.codeIn K cd_law_char "_law_char" = true)
    (k_law_char : PySem.W.keepIn K (.ref f_law_char) = true)
    (a_law_text : PySem.W.nsIn K mainGlobals "_law_text" = some (some (.ref f_law_text)))
    (l_law_text : K.lookup f_law_text = some ⟨oc_law_text, od_law_text, .func (PySem.W.fnOf "_law_text" "_law_text" (defArgs s_law_text) (defBody s_law_text) (defScope s_law_text) .none kV_law_text dc_law_text pm_law_text an_law_text cd_law_text ct_law_text), sl_law_text⟩)
    (c_law_text : PySem.W.codeIn K cd_law_text "_law_text" = true)
    (k_law_text : PySem.W.keepIn K (.ref f_law_text) = true)
    (a_law_value : PySem.W.nsIn K mainGlobals "_law_value" = some (some (.ref f_law_value)))
    (l_law_value : K.lookup f_law_value = some ⟨oc_law_value, od_law_value, .func (PySem.W.fnOf "_law_value" "_law_value" (defArgs s_law_value) (defBody s_law_value) (defScope s_law_value) .none kV_law_value dc_law_value pm_law_value an_law_value cd_law_value ct_law_value), sl_law_value⟩)
    (c_law_value : PySem.W.codeIn K cd_law_value "_law_value" = true)
    (k_law_value : PySem.W.keepIn K (.ref f_law_value) = true)
    (a_law_clause : PySem.W.nsIn K mainGlobals "_law_clause" = some (some (.ref f_law_clause)))
    (l_law_clause : K.lookup f_law_clause = some ⟨oc_law_clause, od_law_clause, .func (PySem.W.fnOf "_law_clause" "_law_clause" (defArgs s_law_clause) (defBody s_law_clause) (defScope s_law_clause) .none kV_law_clause dc_law_clause pm_law_clause an_law_clause cd_law_clause ct_law_clause), sl_law_clause⟩)
    (c_law_clause : PySem.W.codeIn K cd_law_clause "_law_clause" = true)
    (k_law_clause : PySem.W.keepIn K (.ref f_law_clause) = true)
    (a_law_condition : PySem.W.nsIn K mainGlobals "_law_condition" = some (some (.ref f_law_condition)))
    (l_law_condition : K.lookup f_law_condition = some ⟨oc_law_condition, od_law_condition, .func (PySem.W.fnOf "_law_condition" "_law_condition" (defArgs s_law_condition) (defBody s_law_condition) (defScope s_law_condition) .none kV_law_condition dc_law_condition pm_law_condition an_law_condition cd_law_condition ct_law_condition), sl_law_condition⟩)
    (c_law_condition : PySem.W.codeIn K cd_law_condition "_law_condition" = true)
    (k_law_condition : PySem.W.keepIn K (.ref f_law_condition) = true)
    (a_law_limits : PySem.W.nsIn K mainGlobals "_law_limits" = some (some (.ref f_law_limits)))
    (l_law_limits : K.lookup f_law_limits = some ⟨oc_law_limits, od_law_limits, .func (PySem.W.fnOf "_law_limits" "_law_limits" (defArgs s_law_limits) (defBody s_law_limits) (defScope s_law_limits) .none kV_law_limits dc_law_limits pm_law_limits an_law_limits cd_law_limits ct_law_limits), sl_law_limits⟩)
    (c_law_limits : PySem.W.codeIn K cd_law_limits "_law_limits" = true)
    (k_law_limits : PySem.W.keepIn K (.ref f_law_limits) = true)
    (a_law_schema : PySem.W.nsIn K mainGlobals "_law_schema" = some (some (.ref f_law_schema)))
    (l_law_schema : K.lookup f_law_schema = some ⟨oc_law_schema, od_law_schema, .func (PySem.W.fnOf "_law_schema" "_law_schema" (defArgs s_law_schema) (defBody s_law_schema) (defScope s_law_schema) .none kV_law_schema dc_law_schema pm_law_schema an_law_schema cd_law_schema ct_law_schema), sl_law_schema⟩)
    (c_law_schema : PySem.W.codeIn K cd_law_schema "_law_schema" = true)
    (k_law_schema : PySem.W.keepIn K (.ref f_law_schema) = true)
    (a_law_copy : PySem.W.nsIn K mainGlobals "_law_copy" = some (some (.ref f_law_copy)))
    (l_law_copy : K.lookup f_law_copy = some ⟨oc_law_copy, od_law_copy, .func (PySem.W.fnOf "_law_copy" "_law_copy" (defArgs s_law_copy) (defBody s_law_copy) (defScope s_law_copy) .none kV_law_copy dc_law_copy pm_law_copy an_law_copy cd_law_copy ct_law_copy), sl_law_copy⟩)
    (c_law_copy : PySem.W.codeIn K cd_law_copy "_law_copy" = true)
    (k_law_copy : PySem.W.keepIn K (.ref f_law_copy) = true)
    (a_copy_description : PySem.W.nsIn K mainGlobals "copy_description" = some (some (.ref f_copy_description)))
    (l_copy_description : K.lookup f_copy_description = some ⟨oc_copy_description, od_copy_description, .func (PySem.W.fnOf "copy_description" "copy_description" (defArgs s_copy_description) (defBody s_copy_description) (defScope s_copy_description) .none kV_copy_description dc_copy_description pm_copy_description an_copy_description cd_copy_description ct_copy_description), sl_copy_description⟩)
    (c_copy_description : PySem.W.codeIn K cd_copy_description "copy_description" = true)
    (k_copy_description : PySem.W.keepIn K (.ref f_copy_description) = true)
    (a_copy_schema : PySem.W.nsIn K mainGlobals "copy_schema" = some (some (.ref f_copy_schema)))
    (l_copy_schema : K.lookup f_copy_schema = some ⟨oc_copy_schema, od_copy_schema, .func (PySem.W.fnOf "copy_schema" "copy_schema" (defArgs s_copy_schema) (defBody s_copy_schema) (defScope s_copy_schema) .none kV_copy_schema dc_copy_schema pm_copy_schema an_copy_schema cd_copy_schema ct_copy_schema), sl_copy_schema⟩)
    (c_copy_schema : PySem.W.codeIn K cd_copy_schema "copy_schema" = true)
    (k_copy_schema : PySem.W.keepIn K (.ref f_copy_schema) = true)
    (a_law_is_integer : PySem.W.nsIn K mainGlobals "_law_is_integer" = some (some (.ref f_law_is_integer)))
    (l_law_is_integer : K.lookup f_law_is_integer = some ⟨oc_law_is_integer, od_law_is_integer, .func (PySem.W.fnOf "_law_is_integer" "_law_is_integer" (defArgs s_law_is_integer) (defBody s_law_is_integer) (defScope s_law_is_integer) .none kV_law_is_integer dc_law_is_integer pm_law_is_integer an_law_is_integer cd_law_is_integer ct_law_is_integer), sl_law_is_integer⟩)
    (c_law_is_integer : PySem.W.codeIn K cd_law_is_integer "_law_is_integer" = true)
    (k_law_is_integer : PySem.W.keepIn K (.ref f_law_is_integer) = true)
    (a_law_same_items : PySem.W.nsIn K mainGlobals "_law_same_items" = some (some (.ref f_law_same_items)))
    (l_law_same_items : K.lookup f_law_same_items = some ⟨oc_law_same_items, od_law_same_items, .func (PySem.W.fnOf "_law_same_items" "_law_same_items" (defArgs s_law_same_items) (defBody s_law_same_items) (defScope s_law_same_items) .none kV_law_same_items dc_law_same_items pm_law_same_items an_law_same_items cd_law_same_items ct_law_same_items), sl_law_same_items⟩)
    (c_law_same_items : PySem.W.codeIn K cd_law_same_items "_law_same_items" = true)
    (k_law_same_items : PySem.W.keepIn K (.ref f_law_same_items) = true)
    (a_law_same : PySem.W.nsIn K mainGlobals "_law_same" = some (some (.ref f_law_same)))
    (l_law_same : K.lookup f_law_same = some ⟨oc_law_same, od_law_same, .func (PySem.W.fnOf "_law_same" "_law_same" (defArgs s_law_same) (defBody s_law_same) (defScope s_law_same) .none kV_law_same dc_law_same pm_law_same an_law_same cd_law_same ct_law_same), sl_law_same⟩)
    (c_law_same : PySem.W.codeIn K cd_law_same "_law_same" = true)
    (k_law_same : PySem.W.keepIn K (.ref f_law_same) = true)
    (a_column_names : PySem.W.nsIn K mainGlobals "column_names" = some (some (.ref f_column_names)))
    (l_column_names : K.lookup f_column_names = some ⟨oc_column_names, od_column_names, .func (PySem.W.fnOf "column_names" "column_names" (defArgs s_column_names) (defBody s_column_names) (defScope s_column_names) .none kV_column_names dc_column_names pm_column_names an_column_names cd_column_names ct_column_names), sl_column_names⟩)
    (c_column_names : PySem.W.codeIn K cd_column_names "column_names" = true)
    (k_column_names : PySem.W.keepIn K (.ref f_column_names) = true)
    (a_law_uses : PySem.W.nsIn K mainGlobals "_law_uses" = some (some (.ref f_law_uses)))
    (l_law_uses : K.lookup f_law_uses = some ⟨oc_law_uses, od_law_uses, .func (PySem.W.fnOf "_law_uses" "_law_uses" (defArgs s_law_uses) (defBody s_law_uses) (defScope s_law_uses) .none kV_law_uses dc_law_uses pm_law_uses an_law_uses cd_law_uses ct_law_uses), sl_law_uses⟩)
    (c_law_uses : PySem.W.codeIn K cd_law_uses "_law_uses" = true)
    (k_law_uses : PySem.W.keepIn K (.ref f_law_uses) = true)
    (a_mentions : PySem.W.nsIn K mainGlobals "mentions" = some (some (.ref f_mentions)))
    (l_mentions : K.lookup f_mentions = some ⟨oc_mentions, od_mentions, .func (PySem.W.fnOf "mentions" "mentions" (defArgs s_mentions) (defBody s_mentions) (defScope s_mentions) .none kV_mentions dc_mentions pm_mentions an_mentions cd_mentions ct_mentions), sl_mentions⟩)
    (c_mentions : PySem.W.codeIn K cd_mentions "mentions" = true)
    (k_mentions : PySem.W.keepIn K (.ref f_mentions) = true)
    (a_is_used : PySem.W.nsIn K mainGlobals "is_used" = some (some (.ref f_is_used)))
    (l_is_used : K.lookup f_is_used = some ⟨oc_is_used, od_is_used, .func (PySem.W.fnOf "is_used" "is_used" (defArgs s_is_used) (defBody s_is_used) (defScope s_is_used) .none kV_is_used dc_is_used pm_is_used an_is_used cd_is_used ct_is_used), sl_is_used⟩)
    (c_is_used : PySem.W.codeIn K cd_is_used "is_used" = true)
    (k_is_used : PySem.W.keepIn K (.ref f_is_used) = true)
    (a_law_leads : PySem.W.nsIn K mainGlobals "_law_leads" = some (some (.ref f_law_leads)))
    (l_law_leads : K.lookup f_law_leads = some ⟨oc_law_leads, od_law_leads, .func (PySem.W.fnOf "_law_leads" "_law_leads" (defArgs s_law_leads) (defBody s_law_leads) (defScope s_law_leads) .none kV_law_leads dc_law_leads pm_law_leads an_law_leads cd_law_leads ct_law_leads), sl_law_leads⟩)
    (c_law_leads : PySem.W.codeIn K cd_law_leads "_law_leads" = true)
    (k_law_leads : PySem.W.keepIn K (.ref f_law_leads) = true)
    (a_is_referenced : PySem.W.nsIn K mainGlobals "is_referenced" = some (some (.ref f_is_referenced)))
    (l_is_referenced : K.lookup f_is_referenced = some ⟨oc_is_referenced, od_is_referenced, .func (PySem.W.fnOf "is_referenced" "is_referenced" (defArgs s_is_referenced) (defBody s_is_referenced) (defScope s_is_referenced) .none kV_is_referenced dc_is_referenced pm_is_referenced an_is_referenced cd_is_referenced ct_is_referenced), sl_is_referenced⟩)
    (c_is_referenced : PySem.W.codeIn K cd_is_referenced "is_referenced" = true)
    (k_is_referenced : PySem.W.keepIn K (.ref f_is_referenced) = true)
    (a_law : PySem.W.nsIn K mainGlobals "law" = some (some (.ref f_law)))
    (l_law : K.lookup f_law = some ⟨oc_law, od_law, .func (PySem.W.fnOf "law" "law" (defArgs s_law) (defBody s_law) (defScope s_law) .none kV_law dc_law pm_law an_law cd_law ct_law), sl_law⟩)
    (c_law : PySem.W.codeIn K cd_law "law" = true)
    (k_law : PySem.W.keepIn K (.ref f_law) = true)
    (z_abs : PySem.W.nsIn K mainGlobals "abs" = some none)
    (z_int : PySem.W.nsIn K mainGlobals "int" = some none)
    (z_len : PySem.W.nsIn K mainGlobals "len" = some none)
    (z_range : PySem.W.nsIn K mainGlobals "range" = some none)
    (z_list : PySem.W.nsIn K mainGlobals "list" = some none)
    (z_str : PySem.W.nsIn K mainGlobals "str" = some none)
    (z_tuple : PySem.W.nsIn K mainGlobals "tuple" = some none)
    (z_sorted : PySem.W.nsIn K mainGlobals "sorted" = some none)
    (z_isinstance : PySem.W.nsIn K mainGlobals "isinstance" = some none)
    (z_dict : PySem.W.nsIn K mainGlobals "dict" = some none)
    (z_bool : PySem.W.nsIn K mainGlobals "bool" = some none)
    (z_any : PySem.W.nsIn K mainGlobals "any" = some none)
    : ∃ fd : FuncData, (∀ (s : Shared) (v : Value), BindsTo s fd ⟨[v], []⟩ [("script", v)]) ∧ ∀ base : Heap, K.In base → base.Ns mainGlobals mg → FnOk l.prog w K mg base CX0 19 fa fd ["script"] (spLaw K) := by
  have e := hfa.symm.trans (PySem.W.mg_of X G a_law)
  cases e
  have F_law_tape := fun_mk (st := s_law_tape) l_law_tape c_law_tape k_law_tape
  have b_law_tape := F_law_tape.binds (ps := ["script"]) fun _ _ _ _ _ _ us hl => match us, hl with | [_], _ => rfl
  have n_law_tape : Kn K mg "_law_tape" s_law_tape ["script"] f_law_tape _ := ⟨F_law_tape, b_law_tape, PySem.W.mg_of X G a_law_tape⟩
  have F_law_take := fun_mk (st := s_law_take) l_law_take c_law_take k_law_take
  have b_law_take := F_law_take.binds (ps := ["tape", "many"]) fun _ _ _ _ _ _ us hl => match us, hl with | [_, _], _ => rfl
  have n_law_take : Kn K mg "_law_take" s_law_take ["tape", "many"] f_law_take _ := ⟨F_law_take, b_law_take, PySem.W.mg_of X G a_law_take⟩
  have F_law_name := fun_mk (st := s_law_name) l_law_name c_law_name k_law_name
  have b_law_name := F_law_name.binds (ps := ["tape", "used"]) fun _ _ _ _ _ _ us hl => match us, hl with | [_, _], _ => rfl
  have n_law_name : Kn K mg "_law_name" s_law_name ["tape", "used"] f_law_name _ := ⟨F_law_name, b_law_name, PySem.W.mg_of X G a_law_name⟩
  have F_law_table := fun_mk (st := s_law_table) l_law_table c_law_table k_law_table
  have b_law_table := F_law_table.binds (ps := ["columns"]) fun _ _ _ _ _ _ us hl => match us, hl with | [_], _ => rfl
  have n_law_table : Kn K mg "_law_table" s_law_table ["columns"] f_law_table _ := ⟨F_law_table, b_law_table, PySem.W.mg_of X G a_law_table⟩
  have F_law_columns := fun_mk (st := s_law_columns) l_law_columns c_law_columns k_law_columns
  have b_law_columns := F_law_columns.binds (ps := ["tape", "used", "many"]) fun _ _ _ _ _ _ us hl => match us, hl with | [_, _, _], _ => rfl
  have n_law_columns : Kn K mg "_law_columns" s_law_columns ["tape", "used", "many"] f_law_columns _ := ⟨F_law_columns, b_law_columns, PySem.W.mg_of X G a_law_columns⟩
  have F_law_names := fun_mk (st := s_law_names) l_law_names c_law_names k_law_names
  have b_law_names := F_law_names.binds (ps := ["columns"]) fun _ _ _ _ _ _ us hl => match us, hl with | [_], _ => rfl
  have n_law_names : Kn K mg "_law_names" s_law_names ["columns"] f_law_names _ := ⟨F_law_names, b_law_names, PySem.W.mg_of X G a_law_names⟩
  have F_law_integer := fun_mk (st := s_law_integer) l_law_integer c_law_integer k_law_integer
  have b_law_integer := F_law_integer.binds (ps := ["tape"]) fun _ _ _ _ _ _ us hl => match us, hl with | [_], _ => rfl
  have n_law_integer : Kn K mg "_law_integer" s_law_integer ["tape"] f_law_integer _ := ⟨F_law_integer, b_law_integer, PySem.W.mg_of X G a_law_integer⟩
  have F_law_char := fun_mk (st := s_law_char) l_law_char c_law_char k_law_char
  have b_law_char := F_law_char.binds (ps := ["tape"]) fun _ _ _ _ _ _ us hl => match us, hl with | [_], _ => rfl
  have n_law_char : Kn K mg "_law_char" s_law_char ["tape"] f_law_char _ := ⟨F_law_char, b_law_char, PySem.W.mg_of X G a_law_char⟩
  have F_law_text := fun_mk (st := s_law_text) l_law_text c_law_text k_law_text
  have b_law_text := F_law_text.binds (ps := ["tape"]) fun _ _ _ _ _ _ us hl => match us, hl with | [_], _ => rfl
  have n_law_text : Kn K mg "_law_text" s_law_text ["tape"] f_law_text _ := ⟨F_law_text, b_law_text, PySem.W.mg_of X G a_law_text⟩
  have F_law_value := fun_mk (st := s_law_value) l_law_value c_law_value k_law_value
  have b_law_value := F_law_value.binds (ps := ["tape", "kind", "nullable"]) fun _ _ _ _ _ _ us hl => match us, hl with | [_, _, _], _ => rfl
  have n_law_value : Kn K mg "_law_value" s_law_value ["tape", "kind", "nullable"] f_law_value _ := ⟨F_law_value, b_law_value, PySem.W.mg_of X G a_law_value⟩
  have F_law_clause := fun_mk (st := s_law_clause) l_law_clause c_law_clause k_law_clause
  have b_law_clause := F_law_clause.binds (ps := ["tape", "columns"]) fun _ _ _ _ _ _ us hl => match us, hl with | [_, _], _ => rfl
  have n_law_clause : Kn K mg "_law_clause" s_law_clause ["tape", "columns"] f_law_clause _ := ⟨F_law_clause, b_law_clause, PySem.W.mg_of X G a_law_clause⟩
  have F_law_condition := fun_mk (st := s_law_condition) l_law_condition c_law_condition k_law_condition
  have b_law_condition := F_law_condition.binds (ps := ["tape", "columns"]) fun _ _ _ _ _ _ us hl => match us, hl with | [_, _], _ => rfl
  have n_law_condition : Kn K mg "_law_condition" s_law_condition ["tape", "columns"] f_law_condition _ := ⟨F_law_condition, b_law_condition, PySem.W.mg_of X G a_law_condition⟩
  have F_law_limits := fun_mk (st := s_law_limits) l_law_limits c_law_limits k_law_limits
  have b_law_limits := F_law_limits.binds (ps := ["tape", "schema", "table"]) fun _ _ _ _ _ _ us hl => match us, hl with | [_, _, _], _ => rfl
  have n_law_limits : Kn K mg "_law_limits" s_law_limits ["tape", "schema", "table"] f_law_limits _ := ⟨F_law_limits, b_law_limits, PySem.W.mg_of X G a_law_limits⟩
  have F_law_schema := fun_mk (st := s_law_schema) l_law_schema c_law_schema k_law_schema
  have b_law_schema := F_law_schema.binds (ps := ["tape", "least", "most"]) fun _ _ _ _ _ _ us hl => match us, hl with | [_, _, _], _ => rfl
  have n_law_schema : Kn K mg "_law_schema" s_law_schema ["tape", "least", "most"] f_law_schema _ := ⟨F_law_schema, b_law_schema, PySem.W.mg_of X G a_law_schema⟩
  have F_law_copy := fun_mk (st := s_law_copy) l_law_copy c_law_copy k_law_copy
  have b_law_copy := F_law_copy.binds (ps := ["thing"]) fun _ _ _ _ _ _ us hl => match us, hl with | [_], _ => rfl
  have n_law_copy : Kn K mg "_law_copy" s_law_copy ["thing"] f_law_copy _ := ⟨F_law_copy, b_law_copy, PySem.W.mg_of X G a_law_copy⟩
  have F_copy_description := fun_mk (st := s_copy_description) l_copy_description c_copy_description k_copy_description
  have b_copy_description := F_copy_description.binds (ps := ["description"]) fun _ _ _ _ _ _ us hl => match us, hl with | [_], _ => rfl
  have n_copy_description : Kn K mg "copy_description" s_copy_description ["description"] f_copy_description _ := ⟨F_copy_description, b_copy_description, PySem.W.mg_of X G a_copy_description⟩
  have F_copy_schema := fun_mk (st := s_copy_schema) l_copy_schema c_copy_schema k_copy_schema
  have b_copy_schema := F_copy_schema.binds (ps := ["schema"]) fun _ _ _ _ _ _ us hl => match us, hl with | [_], _ => rfl
  have n_copy_schema : Kn K mg "copy_schema" s_copy_schema ["schema"] f_copy_schema _ := ⟨F_copy_schema, b_copy_schema, PySem.W.mg_of X G a_copy_schema⟩
  have F_law_is_integer := fun_mk (st := s_law_is_integer) l_law_is_integer c_law_is_integer k_law_is_integer
  have b_law_is_integer := F_law_is_integer.binds (ps := ["actual"]) fun _ _ _ _ _ _ us hl => match us, hl with | [_], _ => rfl
  have n_law_is_integer : Kn K mg "_law_is_integer" s_law_is_integer ["actual"] f_law_is_integer _ := ⟨F_law_is_integer, b_law_is_integer, PySem.W.mg_of X G a_law_is_integer⟩
  have F_law_same_items := fun_mk (st := s_law_same_items) l_law_same_items c_law_same_items k_law_same_items
  have b_law_same_items := F_law_same_items.binds (ps := ["actual", "expected"]) fun _ _ _ _ _ _ us hl => match us, hl with | [_, _], _ => rfl
  have n_law_same_items : Kn K mg "_law_same_items" s_law_same_items ["actual", "expected"] f_law_same_items _ := ⟨F_law_same_items, b_law_same_items, PySem.W.mg_of X G a_law_same_items⟩
  have F_law_same := fun_mk (st := s_law_same) l_law_same c_law_same k_law_same
  have b_law_same := F_law_same.binds (ps := ["actual", "expected"]) fun _ _ _ _ _ _ us hl => match us, hl with | [_, _], _ => rfl
  have n_law_same : Kn K mg "_law_same" s_law_same ["actual", "expected"] f_law_same _ := ⟨F_law_same, b_law_same, PySem.W.mg_of X G a_law_same⟩
  have F_column_names := fun_mk (st := s_column_names) l_column_names c_column_names k_column_names
  have b_column_names := F_column_names.binds (ps := ["description"]) fun _ _ _ _ _ _ us hl => match us, hl with | [_], _ => rfl
  have n_column_names : Kn K mg "column_names" s_column_names ["description"] f_column_names _ := ⟨F_column_names, b_column_names, PySem.W.mg_of X G a_column_names⟩
  have F_law_uses := fun_mk (st := s_law_uses) l_law_uses c_law_uses k_law_uses
  have b_law_uses := F_law_uses.binds (ps := ["description", "name"]) fun _ _ _ _ _ _ us hl => match us, hl with | [_, _], _ => rfl
  have n_law_uses : Kn K mg "_law_uses" s_law_uses ["description", "name"] f_law_uses _ := ⟨F_law_uses, b_law_uses, PySem.W.mg_of X G a_law_uses⟩
  have F_mentions := fun_mk (st := s_mentions) l_mentions c_mentions k_mentions
  have b_mentions := F_mentions.binds (ps := ["condition", "name"]) fun _ _ _ _ _ _ us hl => match us, hl with | [_, _], _ => rfl
  have n_mentions : Kn K mg "mentions" s_mentions ["condition", "name"] f_mentions _ := ⟨F_mentions, b_mentions, PySem.W.mg_of X G a_mentions⟩
  have F_is_used := fun_mk (st := s_is_used) l_is_used c_is_used k_is_used
  have b_is_used := F_is_used.binds (ps := ["description", "column"]) fun _ _ _ _ _ _ us hl => match us, hl with | [_, _], _ => rfl
  have n_is_used : Kn K mg "is_used" s_is_used ["description", "column"] f_is_used _ := ⟨F_is_used, b_is_used, PySem.W.mg_of X G a_is_used⟩
  have F_law_leads := fun_mk (st := s_law_leads) l_law_leads c_law_leads k_law_leads
  have b_law_leads := F_law_leads.binds (ps := ["schema", "table"]) fun _ _ _ _ _ _ us hl => match us, hl with | [_, _], _ => rfl
  have n_law_leads : Kn K mg "_law_leads" s_law_leads ["schema", "table"] f_law_leads _ := ⟨F_law_leads, b_law_leads, PySem.W.mg_of X G a_law_leads⟩
  have F_is_referenced := fun_mk (st := s_is_referenced) l_is_referenced c_is_referenced k_is_referenced
  have b_is_referenced := F_is_referenced.binds (ps := ["schema", "table"]) fun _ _ _ _ _ _ us hl => match us, hl with | [_, _], _ => rfl
  have n_is_referenced : Kn K mg "is_referenced" s_is_referenced ["schema", "table"] f_is_referenced _ := ⟨F_is_referenced, b_is_referenced, PySem.W.mg_of X G a_is_referenced⟩
  have F_law := fun_mk (st := s_law) l_law c_law k_law
  have b_law := F_law.binds (ps := ["script"]) fun _ _ _ _ _ _ us hl => match us, hl with | [_], _ => rfl
  have n_law : Kn K mg "law" s_law ["script"] fa _ := ⟨F_law, b_law, PySem.W.mg_of X G a_law⟩
  have z : Z mg := ⟨PySem.W.mg_none_of X G z_abs, PySem.W.mg_none_of X G z_int, PySem.W.mg_none_of X G z_len, PySem.W.mg_none_of X G z_range, PySem.W.mg_none_of X G z_list, PySem.W.mg_none_of X G z_str, PySem.W.mg_none_of X G z_tuple, PySem.W.mg_none_of X G z_sorted, PySem.W.mg_none_of X G z_isinstance, PySem.W.mg_none_of X G z_dict, PySem.W.mg_none_of X G z_bool, PySem.W.mg_none_of X G z_any⟩
  refine ⟨PySem.W.fnOf "law" "law" (defArgs s_law) (defBody s_law) (defScope s_law) .none kV_law dc_law pm_law an_law cd_law ct_law, fun s v => .of_eq rfl, fun base _ _ => ?_⟩
  have o_law_tape := ok_law_tape (P := l.prog) (w := w) (base := base) n_law_tape z 
  have o_law_take := ok_law_take (P := l.prog) (w := w) (base := base) n_law_take z 
  have o_law_name := ok_law_name (P := l.prog) (w := w) (base := base) n_law_name z o_law_take
  have o_law_table := ok_law_table (P := l.prog) (w := w) (base := base) n_law_table z 
  have o_law_columns := ok_law_columns (P := l.prog) (w := w) (base := base) n_law_columns z o_law_take o_law_name
  have o_law_names := ok_law_names (P := l.prog) (w := w) (base := base) n_law_names z 
  have o_law_integer := ok_law_integer (P := l.prog) (w := w) (base := base) n_law_integer z o_law_take
  have o_law_char := ok_law_char (P := l.prog) (w := w) (base := base) n_law_char z o_law_take
  have o_law_text := ok_law_text (P := l.prog) (w := w) (base := base) n_law_text z o_law_take o_law_char
  have o_law_value := ok_law_value (P := l.prog) (w := w) (base := base) n_law_value z o_law_take o_law_integer o_law_text
  have o_law_clause := ok_law_clause (P := l.prog) (w := w) (base := base) n_law_clause z o_law_take o_law_value
  have o_law_condition := ok_law_condition (P := l.prog) (w := w) (base := base) n_law_condition z o_law_take o_law_clause
  have o_law_limits := ok_law_limits (P := l.prog) (w := w) (base := base) n_law_limits z o_law_names o_law_take o_law_condition
  have o_law_schema := ok_law_schema (P := l.prog) (w := w) (base := base) n_law_schema z o_law_take o_law_name o_law_table o_law_columns o_law_limits
  have o_law_copy := ok_law_copy (P := l.prog) (w := w) (base := base) n_law_copy z 9
  have o_copy_description := ok_copy_description (P := l.prog) (w := w) (base := base) n_copy_description z 
  have o_copy_schema := ok_copy_schema (P := l.prog) (w := w) (base := base) n_copy_schema z o_copy_description
  have o_law_is_integer := ok_law_is_integer (P := l.prog) (w := w) (base := base) n_law_is_integer z 
  have _ := True.intro
  have o_law_same := ok_law_same (P := l.prog) (w := w) (base := base) n_law_same n_law_same_items z o_law_is_integer 9
  have o_column_names := ok_column_names (P := l.prog) (w := w) (base := base) n_column_names z 
  have o_law_uses := ok_law_uses (P := l.prog) (w := w) (base := base) n_law_uses z 
  have o_mentions := ok_mentions (P := l.prog) (w := w) (base := base) n_mentions z 
  have o_is_used := ok_is_used (P := l.prog) (w := w) (base := base) n_is_used z o_mentions
  have o_law_leads := ok_law_leads (P := l.prog) (w := w) (base := base) n_law_leads z 
  have o_is_referenced := ok_is_referenced (P := l.prog) (w := w) (base := base) n_is_referenced z 
  have o_law := ok_law (P := l.prog) (w := w) (base := base) n_law z o_law_tape o_law_schema o_law_copy o_copy_schema o_law_same o_law_names o_column_names o_law_uses o_is_used o_law_leads o_is_referenced
  exact o_law.G
theorem walk {l : PySem.W.OpenLaw} {q : Program} {loose : List Str} {XP : (Str → Option Value) → Heap → Prop} {YP : World → Heap → Prop} {d : DefRec} {K : Params → PySem.W.Frag} (hn : l.most = some 63) (hdf : d.params.defaults = [])
    (hY : ∀ (w : World) (h : Heap), YP w h → (K w.params).In h)
    (F : ∀ (w : World) (mg : Str → Option Value) (fa : Addr) (h : Heap), (K w.params).In h → h.Ns mainGlobals mg → mg d.name = some (.ref fa) →
      ∃ fd : FuncData, (∀ (s : Shared) (u : Value), BindsTo s fd ⟨[u], []⟩ [("script", u)]) ∧ ∀ base : Heap, (K w.params).In base → base.Ns mainGlobals mg → FnOk l.prog w (K w.params) mg base CX0 19 fa fd ["script"] (spLaw (K w.params))) :
    PySem.W.WalkO q loose XP YP l.row.toRowW d [] (fun f vs => PySem.call f vs) :=
  L2.walk_of (n := 63) (k := 19) (x := "script") (CX := fun _ => CX0) (sp := fun w => spLaw (K w.params)) hn (by decide) hdf ⟨rfl, by decide, by decide⟩ hY F (fun _ _ a ns hl _ hS => ⟨a, ns, rfl, hS, hl, fun _ => rfl⟩) fun _ _ _ _ _ z => z
end Lt
open PySem PySem.W PyProof.Rows
set_option maxRecDepth 100000 in
set_option maxHeartbeats 0 in
theorem PySem.Challenge.cw_lenstree_k07_schema_helpers_holds : PySem.Challenge.rw_lenstree_k07_schema_helpers.Holds := by
  w_on; o_law; k_head; (case hw => w_witness2)
  k_fill
  refine Lt.walk (l := PySem.Challenge.rw_lenstree_k07_schema_helpers) rfl rfl (fun w h Y => PySem.W.kIn_of Y) ?F
  case F =>
    intro w mg fa h KX G hmg
    refine' Lt.all_mk KX G hmg ?a_law_tape ?l_law_tape ?c_law_tape ?k_law_tape ?a_law_take ?l_law_take ?c_law_take ?k_law_take ?a_law_name ?l_law_name ?c_law_name ?k_law_name ?a_law_table ?l_law_table ?c_law_table ?k_law_table ?a_law_columns ?l_law_columns ?c_law_columns ?k_law_columns ?a_law_names ?l_law_names ?c_law_names ?k_law_names ?a_law_integer ?l_law_integer ?c_law_integer ?k_law_integer ?a_law_char ?l_law_char ?c_law_char ?k_law_char ?a_law_text ?l_law_text ?c_law_text ?k_law_text ?a_law_value ?l_law_value ?c_law_value ?k_law_value ?a_law_clause ?l_law_clause ?c_law_clause ?k_law_clause ?a_law_condition ?l_law_condition ?c_law_condition ?k_law_condition ?a_law_limits ?l_law_limits ?c_law_limits ?k_law_limits ?a_law_schema ?l_law_schema ?c_law_schema ?k_law_schema ?a_law_copy ?l_law_copy ?c_law_copy ?k_law_copy ?a_copy_description ?l_copy_description ?c_copy_description ?k_copy_description ?a_copy_schema ?l_copy_schema ?c_copy_schema ?k_copy_schema ?a_law_is_integer ?l_law_is_integer ?c_law_is_integer ?k_law_is_integer ?a_law_same_items ?l_law_same_items ?c_law_same_items ?k_law_same_items ?a_law_same ?l_law_same ?c_law_same ?k_law_same ?a_column_names ?l_column_names ?c_column_names ?k_column_names ?a_law_uses ?l_law_uses ?c_law_uses ?k_law_uses ?a_mentions ?l_mentions ?c_mentions ?k_mentions ?a_is_used ?l_is_used ?c_is_used ?k_is_used ?a_law_leads ?l_law_leads ?c_law_leads ?k_law_leads ?a_is_referenced ?l_is_referenced ?c_is_referenced ?k_is_referenced ?a_law ?l_law ?c_law ?k_law ?z_abs ?z_int ?z_len ?z_range ?z_list ?z_str ?z_tuple ?z_sorted ?z_isinstance ?z_dict ?z_bool ?z_any
    (case a_law_tape => k_is)
    (case l_law_tape => k_is)
    (case c_law_tape => k_is)
    (case k_law_tape => k_is)
    (case a_law_take => k_is)
    (case l_law_take => k_is)
    (case c_law_take => k_is)
    (case k_law_take => k_is)
    (case a_law_name => k_is)
    (case l_law_name => k_is)
    (case c_law_name => k_is)
    (case k_law_name => k_is)
    (case a_law_table => k_is)
    (case l_law_table => k_is)
    (case c_law_table => k_is)
    (case k_law_table => k_is)
    (case a_law_columns => k_is)
    (case l_law_columns => k_is)
    (case c_law_columns => k_is)
    (case k_law_columns => k_is)
    (case a_law_names => k_is)
    (case l_law_names => k_is)
    (case c_law_names => k_is)
    (case k_law_names => k_is)
    (case a_law_integer => k_is)
    (case l_law_integer => k_is)
    (case c_law_integer => k_is)
    (case k_law_integer => k_is)
    (case a_law_char => k_is)
    (case l_law_char => k_is)
    (case c_law_char => k_is)
    (case k_law_char => k_is)
    (case a_law_text => k_is)
    (case l_law_text => k_is)
    (case c_law_text => k_is)
    (case k_law_text => k_is)
    (case a_law_value => k_is)
    (case l_law_value => k_is)
    (case c_law_value => k_is)
    (case k_law_value => k_is)
    (case a_law_clause => k_is)
    (case l_law_clause => k_is)
    (case c_law_clause => k_is)
    (case k_law_clause => k_is)
    (case a_law_condition => k_is)
    (case l_law_condition => k_is)
    (case c_law_condition => k_is)
    (case k_law_condition => k_is)
    (case a_law_limits => k_is)
    (case l_law_limits => k_is)
    (case c_law_limits => k_is)
    (case k_law_limits => k_is)
    (case a_law_schema => k_is)
    (case l_law_schema => k_is)
    (case c_law_schema => k_is)
    (case k_law_schema => k_is)
    (case a_law_copy => k_is)
    (case l_law_copy => k_is)
    (case c_law_copy => k_is)
    (case k_law_copy => k_is)
    (case a_copy_description => k_is)
    (case l_copy_description => k_is)
    (case c_copy_description => k_is)
    (case k_copy_description => k_is)
    (case a_copy_schema => k_is)
    (case l_copy_schema => k_is)
    (case c_copy_schema => k_is)
    (case k_copy_schema => k_is)
    (case a_law_is_integer => k_is)
    (case l_law_is_integer => k_is)
    (case c_law_is_integer => k_is)
    (case k_law_is_integer => k_is)
    (case a_law_same_items => k_is)
    (case l_law_same_items => k_is)
    (case c_law_same_items => k_is)
    (case k_law_same_items => k_is)
    (case a_law_same => k_is)
    (case l_law_same => k_is)
    (case c_law_same => k_is)
    (case k_law_same => k_is)
    (case a_column_names => k_is)
    (case l_column_names => k_is)
    (case c_column_names => k_is)
    (case k_column_names => k_is)
    (case a_law_uses => k_is)
    (case l_law_uses => k_is)
    (case c_law_uses => k_is)
    (case k_law_uses => k_is)
    (case a_mentions => k_is)
    (case l_mentions => k_is)
    (case c_mentions => k_is)
    (case k_mentions => k_is)
    (case a_is_used => k_is)
    (case l_is_used => k_is)
    (case c_is_used => k_is)
    (case k_is_used => k_is)
    (case a_law_leads => k_is)
    (case l_law_leads => k_is)
    (case c_law_leads => k_is)
    (case k_law_leads => k_is)
    (case a_is_referenced => k_is)
    (case l_is_referenced => k_is)
    (case c_is_referenced => k_is)
    (case k_is_referenced => k_is)
    (case a_law => k_is)
    (case l_law => k_is)
    (case c_law => k_is)
    (case k_law => k_is)
    (case z_abs => k_is)
    (case z_int => k_is)
    (case z_len => k_is)
    (case z_range => k_is)
    (case z_list => k_is)
    (case z_str => k_is)
    (case z_tuple => k_is)
    (case z_sorted => k_is)
    (case z_isinstance => k_is)
    (case z_dict => k_is)
    (case z_bool => k_is)
    (case z_any => k_is)
#print axioms PySem.Challenge.cw_lenstree_k07_schema_helpers_holds
