import PyProof.Rows.All
import Wide.All
import OpenK.AllK
import Wide.FinOn
import KE.KStateDown
import KE.GoesEnum
import KE.GoesMore
import HandS.ForMost
import HandS.ForExc
import HandS.Walk
import HandS.Wide
import HandS.IsInst
import HandS.ClsMeth
import HandS.Property
import HandS.Star
import HandS.Style
import HandS.StrMore
import HandS.Flow
import HandS.Codes
import HandS.Small
import HandS.Deep
import HandS.ExcIs
import HandS.Replace
import HandS.ReplaceLit
import HandS.ReplaceDef
import PyProof.StrLawsReplace
import PyProof.ListStr
import KE.KRevSl
import HandS.GenBody
import HandS.GenYield
import HandS.GenList
import HandS.GenCall
import HandS.Lambda
import HandS.EndTab
import HandS.Words
import HandS.WordsExc
import HandS.Defaults
import HandS.HeadHook2
import HandS.HeadHook3
import HandS.HeadHook4
import HandS.HeadWalk
import HandS.Nested
import HandS.OwnEq
import HandS.Head0
import HandS.Head1
import HandS.Head2
import HandS.HeadEnd
import HandS.HeadHook1
import PySem.Challenge.RW_mirrorturns_k02_rooms_and_signs
set_option Elab.async false
set_option linter.all false
set_option maxRecDepth 100000
set_option maxHeartbeats 4000000
namespace My
open PySem PySem.Spec PyProof.Rows L2
section
variable {P : Program} {w : World} {K : PySem.W.Frag} {mg : Str → Option Value} {base : Heap}
/-- a def of the module by its name, positional -/
structure GF (P : Program) (w : World) (K : PySem.W.Frag) (mg : Str → Option Value) (base : Heap) (x : Str) (k : Nat) (sp : Sp) : Prop where
  ex : ∃ f, mg x = some (.ref f) ∧ PySem.W.keepIn K (.ref f) = true ∧ FnR P w K mg base (L2.CX P w) k f sp
theorem fnR_of0 {k : Nat} {f : Addr} {sp : Sp} (F : FnR P w K mg base CX0 k f sp) : FnR P w K mg base (L2.CX P w) k f sp :=
  fun A outer s H us vs Q E hr e0 r hs => codeAny_mono (F A outer s H us vs Q E hr e0 r hs) fun r s' h => by
    cases r with
    | ok fl => cases fl <;> exact h
    | error e => exact False.elim h
theorem gf_of {x : Str} {st : Stmt} {f : Addr} {fd : FuncData} {ps : List Str} {k : Nat} {sp : Sp} (F : Fun K x x st f fd) (hm : mg x = some (.ref f)) (hb : Binds K fd ps []) (O : FnOk P w K mg base CX0 k f fd ps sp) : GF P w K mg base x k sp :=
  ⟨f, hm, F.kp, fnR_of0 (FnR.imp (O.raw hb .nil) fun vs H Q E h => by rw [List.append_nil]; exact h)⟩
theorem gf_ofX {x : Str} {st : Stmt} {f : Addr} {fd : FuncData} {ps : List Str} {k : Nat} {sp : Sp} (F : Fun K x x st f fd) (hm : mg x = some (.ref f)) (hb : Binds K fd ps []) (O : FnOk P w K mg base (L2.CX P w) k f fd ps sp) : GF P w K mg base x k sp :=
  ⟨f, hm, F.kp, FnR.imp (O.raw hb .nil) fun vs H Q E h => by rw [List.append_nil]; exact h⟩
end
def tCR (sp : Sp) (E : XK) (t : TA) : TE := fun σ H Q => t σ H fun vs H1 => sp vs H1 Q E
section
variable {X : Cx} {k : Nat} {sp : Sp} {E : XK} {x : Str} {e : Expr} {es : List Expr} {t : TA} {p pos : Pos}
theorem pe_c (G : GF X.prog X.w X.K X.mg X.base x k sp) (hr : Room k X.A) (hx : Passes (L2.CX X.prog X.w) X E) (ha : PA X (e :: es) t) (hg : Gl X x := by rfl) (hd : (x == ("__debug__" : Str)) = false := by decide)
    (he : starEach (e :: es) X.env = (false, eval e X.env) :: starEach es X.env := by rfl) (hpl : (backTo pos (starEach es X.env)).any (·.1) = false := by rfl) : PE X (.Call (.Name x p) (e :: es) [] pos) (tCR sp E t) := by
  obtain ⟨f, hm, hk, F⟩ := G.ex
  refine ⟨fun pins s σ H Q I h => ?_⟩
  refine wpAny_Call_Name_kw (ld_glob I hg hm ?_ hd)
  refine PySem.W.callWith_K (h₀ := X.base) I.ok.mod.kin hk (thn (ha.run pos pins s σ H _ I h) fun us s1 ⟨vs, H1, I1, r, q⟩ => ⟨I1.kIn, ?_⟩) he hpl
  exact wpAny_call (run_fnR F hr hx I1 r q)
/-- a text, an int of the module's own -/
theorem pe_gs {z : Str} (h : ∃ t, X.mg x = some (.str z t)) (hg : Gl X x := by rfl) (hd : (x == ("__debug__" : Str)) = false := by decide) : PE X (.Name x p) (tC (.str z)) := by
  obtain ⟨t, h⟩ := h
  exact pe_glob hg h ⟨t, rfl⟩ hd
theorem pe_gr {a : Addr} (h : X.mg x = some (.ref a)) (hg : Gl X x := by rfl) (hd : (x == ("__debug__" : Str)) = false := by decide) : PE X (.Name x p) (tC (.ref a)) := pe_glob (v := .ref a) hg h rfl hd
theorem pe_gi {z : Int} (h : ∃ t, X.mg x = some (.int z t)) (hg : Gl X x := by rfl) (hd : (x == ("__debug__" : Str)) = false := by decide) : PE X (.Name x p) (tC (.int z)) := by
  obtain ⟨t, h⟩ := h
  exact pe_glob hg h ⟨t, rfl⟩ hd
end
def asgV : Stmt → Expr
  | .Assign _ v _ => v
  | _ => .Constant .none 0 ⟨0, 0, 0, 0⟩
def lcSc : Expr → Scope
  | .ListComp _ _ sc _ => sc
  | _ => { kind := .function, names := [], isGenerator := false, isCoroutine := false }
/-- a walk's loop within a comprehension, whatever its turn is -/
theorem it_gen {J : It} {n : Nat} {G : Hp → Prop} {Y : Nat → Hp → V → Hp → Prop} (w : Walk J n G Y) {B : (Hp → Prop) → V → Hp → Prop} {Qd : Hp → Prop} {H1 : Hp} (Pv : Nat → Hp → Prop) (h0 : Pv 0 H1) (hG : ∀ i H, i ≤ n → Pv i H → G H)
    (hs : ∀ i x H H', i < n → Pv i H → Y i H x H' → B (Pv (i + 1)) x H') (hd : ∀ H, Pv n H → Qd H) :
    ∃ W : Nat → Nat → Hp → Prop, (∃ m, W 0 m H1) ∧ ∀ i m H, W i m H → (J.stop i H ∧ Qd H) ∨ (J.go i H ∧ ∃ Nx : Hp → Prop, (∀ H', Nx H' → ∃ m', m' < m ∧ W (i + 1) m' H') ∧ ∀ x H', J.yld i H x H' → B Nx x H') := by
  refine ⟨fun i m H => m = n - i ∧ i ≤ n ∧ Pv i H, ⟨n, by simp, Nat.zero_le _, h0⟩, ?_⟩
  rintro i m H ⟨rfl, hi, p⟩
  have q := hG i H hi p
  by_cases hlt : i < n
  · exact .inr ⟨w.goes i H hlt q, Pv (i + 1), fun H' p' => ⟨n - (i + 1), by omega, rfl, hlt, p'⟩, fun x H' y => hs i x H H' hlt p (w.yields i H x H' hlt q y)⟩
  · have e : i = n := by omega
    subst e
    exact .inl ⟨w.stops H q, hd H p⟩
section
variable {X : Cx}
abbrev Blk5 (α : Type) := Shared → Hp → Addr → List (Str × Addr) → List Addr → α
/-- comprehensions whose parts may name the block's context -/
theorem pe_lcG {elt tg iter : Expr} {ifs : List Expr} {scope : Scope} {own : List (Str × Nat)} {pos : Pos} {wi : TI} {g : TG} {tt : TT} {te : TE} {tt' : Blk5 TT} {te' : Blk5 TE} (hc : X.calm = true) (hN : X.N.Nodup) (hi : PI X tg iter wi) (ok : BlkOk X.N X.env.scope scope own)
    (hg : ∀ (s : Shared) (H : Hp) (C : Addr) (cl : List (Str × Addr)) (fp : List Addr), PG (X.blk s H scope (compEnvC scope cl C X.env) fp) tg g) (ht : ∀ (s : Shared) (H : Hp) (C : Addr) (cl : List (Str × Addr)) (fp : List Addr), PTs (X.blk s H scope (compEnvC scope cl C X.env) fp) ifs (tt' s H C cl fp))
    (he : ∀ (s : Shared) (H : Hp) (C : Addr) (cl : List (Str × Addr)) (fp : List Addr), PE (X.blk s H scope (compEnvC scope cl C X.env) fp) elt (te' s H C cl fp)) (hs : ∀ x, foldedSetIterable iter X.env x = pure x := by intro _; rfl)
    (htt : ∀ s H C cl fp, tt' s H C cl fp = tt := by intro _ _ _ _ _; first | (dsimp only [Cx.blk] <;> exact rfl) | exact rfl) (hte : ∀ s H C cl fp, te' s H C cl fp = te := by intro _ _ _ _ _; first | (dsimp only [Cx.blk] <;> exact rfl) | exact rfl) :
    PE X (.ListComp elt [⟨tg, iter, ifs, 0⟩] scope pos) (tLc wi g tt te (own.map (·.2))) :=
  pe_lc hc hN hi ok hg (fun s H C cl fp => htt s H C cl fp ▸ ht s H C cl fp) (fun s H C cl fp => hte s H C cl fp ▸ he s H C cl fp) hs
theorem ps_setLcG {i : Nat} {y : Str} {py : Pos} {elt tg iter : Expr} {ifs : List Expr} {scope : Scope} {own : List (Str × Nat)} {pos spos : Pos} {wi : TI} {g : TG} {tt : TT} {te : TE} {tt' : Blk5 TT} {te' : Blk5 TE} (hc : X.calm = true) (hN : X.N.Nodup) (hy : X.N[i]? = some y) (hyl : X.env.scope.names.lookup y = some .local)
    (hsw : swapsWith (.ListComp elt [⟨tg, iter, ifs, 0⟩] scope pos) (some (.Name y py)) spos.line X.env = pure true) (hi : PI X tg iter wi) (ok : BlkOk X.N X.env.scope scope own)
    (hg : ∀ (s : Shared) (H : Hp) (C : Addr) (cl : List (Str × Addr)) (fp : List Addr), PG (X.blk s H scope (compEnvC scope cl C X.env) fp) tg g) (ht : ∀ (s : Shared) (H : Hp) (C : Addr) (cl : List (Str × Addr)) (fp : List Addr), PTs (X.blk s H scope (compEnvC scope cl C X.env) fp) ifs (tt' s H C cl fp))
    (he : ∀ (s : Shared) (H : Hp) (C : Addr) (cl : List (Str × Addr)) (fp : List Addr), PE (X.blk s H scope (compEnvC scope cl C X.env) fp) elt (te' s H C cl fp)) (hs : ∀ x, foldedSetIterable iter X.env x = pure x := by intro _; rfl)
    (htt : ∀ s H C cl fp, tt' s H C cl fp = tt := by intro _ _ _ _ _; first | (dsimp only [Cx.blk] <;> exact rfl) | exact rfl) (hte : ∀ s H C cl fp, te' s H C cl fp = te := by intro _ _ _ _ _; first | (dsimp only [Cx.blk] <;> exact rfl) | exact rfl) :
    PS X (.Assign [.Name y py] (.ListComp elt [⟨tg, iter, ifs, 0⟩] scope pos) spos) (tAsg (tLc wi g tt te (own.map (·.2))) (gName i)) :=
  ps_setLc hc hN hy hyl hsw hi ok hg (fun s H C cl fp => htt s H C cl fp ▸ ht s H C cl fp) (fun s H C cl fp => hte s H C cl fp ▸ he s H C cl fp) hs
end
theorem ifT {c : Bool} {A B : Prop} (hc : c = true) (h : A) : if c = true then A else B := by
  rw [if_pos hc]
  exact h
theorem ifF {c : Bool} {A B : Prop} (hc : c = false) (h : B) : if c = true then A else B := by
  rw [if_neg (by rw [hc]; exact Bool.false_ne_true)]
  exact h
theorem if2 {c : Bool} {A B : Prop} (h1 : c = true → A) (h2 : c = false → B) : if c = true then A else B := by
  cases c with
  | true => exact ifT rfl (h1 rfl)
  | false => exact ifF rfl (h2 rfl)
theorem dT {p : Prop} [Decidable p] (h : p) : decide p = true := decide_eq_true h
theorem dF {p : Prop} [Decidable p] (h : ¬ p) : decide p = false := decide_eq_false h
theorem ltT {i j : Int} (h : i < j) : decide (i < j) = true := decide_eq_true h
theorem sz2 {n : Nat} (h : n ≤ 100000) : n ≤ sizeLine := Nat.le_trans h (by decide)
theorem sz3 {n : Nat} (h : n < 100000) : n < sizeLine := Nat.lt_of_lt_of_le h (by decide)
end My
/-! the mirror: signs, rows, rooms -/
namespace My
open PySem PySem.Spec PyProof.Rows L2
inductive Sg where
  | d | r | f | R | F
  deriving DecidableEq
namespace Sg
def cp : Sg → Nat
  | d => 46
  | r => 114
  | f => 102
  | R => 82
  | F => 70
def str (s : Sg) : Str := ⟨#[s.cp]⟩
def turn : Sg → Sg
  | r => f
  | f => r
  | s => s
def tur : Sg → Bool
  | r => true
  | f => true
  | _ => false
def thr : Sg → Int → Int → Int × Int
  | r, a, b => (-b, -a)
  | R, a, b => (-b, -a)
  | f, a, b => (b, a)
  | F, a, b => (b, a)
  | d, a, b => (a, b)
theorem turn_turn (s : Sg) : s.turn.turn = s := by cases s <;> rfl
theorem tur_turn (s : Sg) : s.turn.tur = s.tur := by cases s <;> rfl
theorem cp_inj {s t : Sg} (h : s.cp = t.cp) : s = t := by
  cases s <;> cases t <;> first | rfl | exact absurd h (by decide)
end Sg
/-- a row's text -/
def lstr (l : List Sg) : Str := ⟨(l.map Sg.cp).toArray⟩
def lineV (l : List Sg) : V := .str (lstr l)
theorem lstr_len (l : List Sg) : (lstr l).length = l.length := by
  show ((l.map Sg.cp).toArray).size = l.length
  simp
theorem lstr_app (l : List Sg) (s : Sg) : lstr l ++ s.str = lstr (l ++ [s]) := by
  show (⟨(l.map Sg.cp).toArray ++ #[s.cp]⟩ : Str) = ⟨((l ++ [s]).map Sg.cp).toArray⟩
  simp
theorem cps_inj : ∀ {l m : List Sg}, l.map Sg.cp = m.map Sg.cp → l = m
  | [], [], _ => rfl
  | [], _ :: _, h => by simp at h
  | _ :: _, [], h => by simp at h
  | a :: l, b :: m, h => by
    simp only [List.map_cons, List.cons.injEq] at h
    rw [Sg.cp_inj h.1, cps_inj h.2]
theorem lstr_inj {l m : List Sg} (h : lstr l = lstr m) : l = m := by
  have e : (l.map Sg.cp).toArray = (m.map Sg.cp).toArray := congrArg Str.cps h
  exact cps_inj (by simpa using e)
theorem lstr_get (l : List Sg) (i : Nat) : (lstr l).cps[i]? = l[i]?.map Sg.cp := by
  show ((l.map Sg.cp).toArray)[i]? = _
  simp
theorem lstr_toList (l : List Sg) : (lstr l).cps.toList = l.map Sg.cp := by
  show ((l.map Sg.cp).toArray).toList = _
  simp
/-- how many mirrors of a row turn -/
def lcount (l : List Sg) : Nat := (l.filter Sg.tur).length
def gcount (g : List (List Sg)) : Nat := (g.map lcount).sum
theorem lcount_app (l : List Sg) (s : Sg) : lcount (l ++ [s]) = lcount l + if s.tur then 1 else 0 := by
  unfold lcount
  rw [List.filter_append, List.length_append]
  cases h : s.tur <;> simp [h]
theorem gcount_app (g : List (List Sg)) (l : List Sg) : gcount (g ++ [l]) = gcount g + lcount l := by
  unfold gcount
  simp
/-- rows that make a room, at most m by m, at most t mirrors that turn -/
structure Grid (m t : Nat) (g : List (List Sg)) (w : Nat) : Prop where
  h0 : 0 < g.length
  hm : g.length ≤ m
  w0 : 0 < w
  wm : w ≤ m
  ln : ∀ l ∈ g, l.length = w
  tu : gcount g ≤ t
theorem Grid.mono {m t m' t' : Nat} {g : List (List Sg)} {w : Nat} (x : Grid m t g w) (h1 : m ≤ m') (h2 : t ≤ t') : Grid m' t' g w :=
  ⟨x.h0, Nat.le_trans x.hm h1, x.w0, Nat.le_trans x.wm h1, x.ln, Nat.le_trans x.tu h2⟩
/-- all but a as it was -/
def Kp (a : Addr) (H H' : Hp) : Prop := ∀ b o, b ≠ a → H b = some o → H' b = some o
theorem Kp.refl {a : Addr} (H : Hp) : Kp a H H := fun _ _ _ h => h
theorem Kp.of {a : Addr} {H H' : Hp} (s : Same H H') : Kp a H H' := fun b o _ h => s b o h
theorem Kp.trans {a : Addr} {H H1 H2 : Hp} (x : Kp a H H1) (y : Kp a H1 H2) : Kp a H H2 := fun b o n h => y b o n (x b o n h)
theorem Kp.upd {a : Addr} {H H1 : Hp} {o : HO} (x : Kp a H H1) : Kp a H (upd H1 a o) := fun b u n h => by rw [upd_ne n]; exact x b u n h
theorem Kp.mut {a p : Addr} {H H1 : Hp} {o : HO} (x : Kp a H H1) (h : H p = none) : Kp a H (L2.upd H1 p o) := fun b u n e => by rw [upd_ne (ne_of_none e h)]; exact x b u n e
theorem Kp.free {a p : Addr} {H H' : Hp} (x : Kp a H H') (n : p ≠ a) (h : H' p = none) : H p = none := by
  cases q : H p with
  | none => rfl
  | some o => rw [x p o n q] at h; cases h
/-- a part that does not know a stands as it stood -/
theorem Kp.same {a : Addr} {F H H' : Hp} (x : Kp a H H') (s : Same F H) (n : F a = none) : Same F H' := fun b o h => x b o (ne_of_none h n) (s b o h)
theorem Same.new {H : Hp} {p : Addr} {o : HO} (h : H p = none) : Same H (upd H p o) := fun b u e => by rw [upd_ne (ne_of_none e h)]; exact e
theorem Same.new' {F H : Hp} {p : Addr} {o : HO} (s : Same F H) (h : H p = none) : Same F (upd H p o) := s.trans (Same.new h)
theorem Same.mut {F H : Hp} {p : Addr} {o : HO} (s : Same F H) (h : F p = none) : Same F (upd H p o) := fun b u e => by rw [upd_ne (ne_of_none e h)]; exact s b u e
/-- what tuples stood stand -/
def Tx (H H' : Hp) : Prop := ∀ a xs, H a = some (.tup xs) → H' a = some (.tup xs)
theorem Tx.refl (H : Hp) : Tx H H := fun _ _ h => h
theorem Tx.of {H H' : Hp} (s : Same H H') : Tx H H' := fun a xs h => s a _ h
theorem Tx.trans {H H1 H2 : Hp} (x : Tx H H1) (y : Tx H1 H2) : Tx H H2 := fun a xs h => y a xs (x a xs h)
theorem Tx.new {H : Hp} {p : Addr} {o : HO} (h : H p = none) : Tx H (upd H p o) := Tx.of (Same.new h)
theorem Tx.lst {H : Hp} {p : Addr} {o : HO} {ys : List V} (h : H p = some (.lst ys)) : Tx H (upd H p o) := fun a xs e => by rw [upd_ne (ne_of e h (by intro z; cases z))]; exact e
theorem Tx.kp {a : Addr} {H H' : Hp} (k : Kp a H H') (h : ∀ xs, H a ≠ some (.tup xs)) : Tx H H' := fun b xs e => k b _ (fun z => h xs (by rw [← z]; exact e)) e
/-- a pair of ints, a list of them -/
def PrAt (H : Hp) (v : V) (p : Int × Int) : Prop := ∃ a, v = .ref a ∧ H a = some (.tup [.int p.1, .int p.2])
def PrsAt (H : Hp) (vs : List V) (ps : List (Int × Int)) : Prop := Paired (PrAt H) vs ps
theorem PrAt.tx {H H' : Hp} {v : V} {p : Int × Int} (x : PrAt H v p) (t : Tx H H') : PrAt H' v p := let ⟨a, e, h⟩ := x; ⟨a, e, t _ _ h⟩
theorem PrsAt.tx {H H' : Hp} {vs : List V} {ps : List (Int × Int)} (x : PrsAt H vs ps) (t : Tx H H') : PrsAt H' vs ps := Paired.mapP x fun _ _ y => y.tx t
theorem Paired.app {α β : Type} {F : α → β → Prop} : ∀ {a c : List α} {b d : List β}, Paired F a b → Paired F c d → Paired F (a ++ c) (b ++ d)
  | _, _, _, _, .nil, y => y
  | _, _, _, _, .cons r x, y => .cons r (Paired.app x y)
theorem Paired.nth {α β : Type} {F : α → β → Prop} : ∀ {a : List α} {b : List β} {i : Nat} {x : α}, Paired F a b → a[i]? = some x → ∃ y, b[i]? = some y ∧ F x y
  | _, _, _, _, .nil, e => by simp at e
  | _, _, 0, _, .cons r _, e => by simp at e; subst e; exact ⟨_, rfl, r⟩
  | _, _, i + 1, x, .cons _ t, e => by
    obtain ⟨y, h1, h2⟩ := Paired.nth (i := i) (x := x) t (by simpa using e)
    exact ⟨y, by simpa using h1, h2⟩
theorem Paired.nth2 {α β : Type} {F : α → β → Prop} : ∀ {a : List α} {b : List β} {i : Nat} {y : β}, Paired F a b → b[i]? = some y → ∃ x, a[i]? = some x ∧ F x y
  | _, _, _, _, .nil, e => by simp at e
  | _, _, 0, _, .cons r _, e => by simp at e; subst e; exact ⟨_, rfl, r⟩
  | _, _, i + 1, x, .cons _ t, e => by
    obtain ⟨y, h1, h2⟩ := Paired.nth2 (i := i) (y := x) t (by simpa using e)
    exact ⟨y, by simpa using h1, h2⟩
theorem PrsAt.snoc {H : Hp} {vs : List V} {ps : List (Int × Int)} {v : V} {p : Int × Int} (x : PrsAt H vs ps) (y : PrAt H v p) : PrsAt H (vs ++ [v]) (ps ++ [p]) := Paired.app x (.cons y .nil)
theorem PrsAt.len {H : Hp} {vs : List V} {ps : List (Int × Int)} (x : PrsAt H vs ps) : vs.length = ps.length := Paired.length x
/-- the tiles of a row, of a room, that have a sign -/
def hit (f : Sg → Bool) (g : List (List Sg)) (r c : Nat) : Bool := ((g.getD r [])[c]?.map f).getD false
def rowTiles (f : Sg → Bool) (g : List (List Sg)) (r n : Nat) : List (Int × Int) := ((List.range n).filter (hit f g r)).map fun (c : Nat) => ((r : Int), (c : Int))
def tilesTo (f : Sg → Bool) (g : List (List Sg)) (i : Nat) : List (Int × Int) := (List.range i).flatMap fun r => rowTiles f g r (g.getD r []).length
def tiles (f : Sg → Bool) (g : List (List Sg)) : List (Int × Int) := tilesTo f g g.length
theorem rowTiles_yes {f : Sg → Bool} {g : List (List Sg)} {r n : Nat} (h : hit f g r n = true) : rowTiles f g r (n + 1) = rowTiles f g r n ++ [((r : Int), (n : Int))] := by
  unfold rowTiles
  rw [List.range_succ, List.filter_append, List.map_append]
  simp [h]
theorem rowTiles_no {f : Sg → Bool} {g : List (List Sg)} {r n : Nat} (h : hit f g r n = false) : rowTiles f g r (n + 1) = rowTiles f g r n := by
  unfold rowTiles
  rw [List.range_succ, List.filter_append, List.map_append]
  simp [h]
theorem rowTiles_len (f : Sg → Bool) (g : List (List Sg)) (r n : Nat) : (rowTiles f g r n).length ≤ n := by
  unfold rowTiles
  rw [List.length_map]
  have h := List.length_filter_le (hit f g r) (List.range n)
  rw [List.length_range] at h
  exact h
theorem tilesTo_succ (f : Sg → Bool) (g : List (List Sg)) (i : Nat) : tilesTo f g (i + 1) = tilesTo f g i ++ rowTiles f g i (g.getD i []).length := by
  unfold tilesTo
  rw [List.range_succ, List.flatMap_append]
  simp
theorem tilesTo_len (f : Sg → Bool) (g : List (List Sg)) (w : Nat) (hw : ∀ l ∈ g, l.length ≤ w) : ∀ i, (tilesTo f g i).length ≤ i * w
  | 0 => by simp [tilesTo]
  | i + 1 => by
    rw [tilesTo_succ, List.length_append, Nat.succ_mul]
    have h1 := tilesTo_len f g w hw i
    have h2 := rowTiles_len f g i (g.getD i []).length
    have h3 : (g.getD i []).length ≤ w := by
      rw [List.getD_eq_getElem?_getD]
      cases e : g[i]? with
      | none => simp
      | some l => exact hw l (List.mem_of_getElem? e)
    omega
theorem rowTiles_count (f : Sg → Bool) (g : List (List Sg)) (r : Nat) : ∀ n, n ≤ (g.getD r []).length → (rowTiles f g r n).length = (((g.getD r []).take n).filter f).length
  | 0, _ => by simp [rowTiles]
  | n + 1, h => by
    have ih := rowTiles_count f g r n (by omega)
    have e : (g.getD r []).take (n + 1) = (g.getD r []).take n ++ [(g.getD r [])[n]'(by omega)] := by rw [List.take_succ_eq_append_getElem]
    rw [e, List.filter_append, List.length_append, ← ih]
    have hh : hit f g r n = f ((g.getD r [])[n]'(by omega)) := by
      unfold hit
      rw [List.getElem?_eq_getElem (by omega)] <;> rfl
    cases hf : f ((g.getD r [])[n]'(by omega)) with
    | true =>
      rw [rowTiles_yes (hh.trans hf), List.length_append, List.filter_cons_of_pos (by exact hf)] <;> rfl
    | false =>
      rw [rowTiles_no (hh.trans hf), List.filter_cons_of_neg (by rw [hf]; exact Bool.false_ne_true)] <;> rfl
theorem tiles_one (l : List Sg) : (tiles Sg.tur [l]).length = lcount l := by
  show (tilesTo Sg.tur [l] 1).length = lcount l
  rw [tilesTo_succ]
  show ((tilesTo Sg.tur [l] 0) ++ rowTiles Sg.tur [l] 0 l.length).length = lcount l
  have e0 : tilesTo Sg.tur [l] 0 = [] := rfl
  rw [e0, List.nil_append, rowTiles_count _ _ _ _ (show l.length ≤ ([l].getD 0 []).length from Nat.le_refl _)]
  show ((l.take l.length).filter Sg.tur).length = lcount l
  rw [List.take_length] <;> rfl
theorem lcount_le_gcount {g : List (List Sg)} {l : List Sg} (h : l ∈ g) : lcount l ≤ gcount g := by
  unfold gcount
  induction g with
  | nil => exact absurd h (by simp)
  | cons a r ih =>
    rw [List.map_cons, List.sum_cons]
    rcases List.mem_cons.mp h with e | e
    · rw [e]; omega
    · have := ih e; omega
theorem gcount_take {g : List (List Sg)} {i : Nat} {l : List Sg} (h : g[i]? = some l) : gcount (g.take (i + 1)) = gcount (g.take i) + lcount l := by
  have hi := (List.getElem?_eq_some_iff.mp h).1
  have e : g.take (i + 1) = g.take i ++ [l] := by
    rw [List.take_succ_eq_append_getElem hi, (List.getElem?_eq_some_iff.mp h).2]
  rw [e, gcount_app]
theorem gcount_take_le (g : List (List Sg)) (i : Nat) : gcount (g.take i) ≤ gcount g := by
  unfold gcount
  have e : (g.map lcount).sum = ((g.take i).map lcount).sum + ((g.drop i).map lcount).sum := by
    rw [← List.sum_append, ← List.map_append, List.take_append_drop]
  omega
theorem lcount_take {l : List Sg} {j : Nat} {s : Sg} (h : l[j]? = some s) : lcount (l.take (j + 1)) = lcount (l.take j) + if s.tur then 1 else 0 := by
  have hi := (List.getElem?_eq_some_iff.mp h).1
  have e : l.take (j + 1) = l.take j ++ [s] := by
    rw [List.take_succ_eq_append_getElem hi, (List.getElem?_eq_some_iff.mp h).2]
  rw [e, lcount_app]
theorem lcount_take_le (l : List Sg) (j : Nat) : lcount (l.take j) ≤ lcount l := by
  unfold lcount
  have e : (l.filter Sg.tur).length = ((l.take j).filter Sg.tur).length + ((l.drop j).filter Sg.tur).length := by
    rw [← List.length_append, ← List.filter_append, List.take_append_drop]
  omega
/-- the places of the ports -/
def pUp (c : Nat) : Int × Int := (-1, (c : Int))
def pRt (w r : Nat) : Int × Int := ((r : Int), (w : Int))
def pDn (h c : Nat) : Int × Int := ((h : Int), (c : Int))
def pLf (r : Nat) : Int × Int := ((r : Int), -1)
def pfx (f : Nat → Int × Int) (n : Nat) : List (Int × Int) := (List.range n).map f
theorem pfx_succ (f : Nat → Int × Int) (n : Nat) : pfx f (n + 1) = pfx f n ++ [f n] := by
  unfold pfx
  rw [List.range_succ, List.map_append] <;> rfl
theorem pfx_len (f : Nat → Int × Int) (n : Nat) : (pfx f n).length = n := by
  unfold pfx
  rw [List.length_map, List.length_range]
def places (h w : Nat) : List (Int × Int) := pfx pUp w ++ pfx (pRt w) h ++ pfx (pDn h) w ++ pfx pLf h
theorem places_len (h w : Nat) : (places h w).length = 2 * (h + w) := by
  unfold places
  simp only [List.length_append, pfx_len]
  omega
/-- the source of numbers at a -/
def DOk (H : Hp) (a : Addr) : Prop := ∃ (s c : Int) (rest : List Int), H a = some (.lst (.int s :: .int c :: rest.map V.int)) ∧ 0 ≤ s ∧ s < 2147483647 ∧ 0 ≤ c ∧ (∀ x ∈ rest, 0 < x) ∧ rest.length ≤ 63
theorem DOk.same {H H' : Hp} {a : Addr} (x : DOk H a) (s : Same H H') : DOk H' a := let ⟨y, c, r, h, q⟩ := x; ⟨y, c, r, s _ _ h, q⟩
theorem DOk.upd {H : Hp} {a p : Addr} {o : HO} (x : DOk H a) (n : a ≠ p) : DOk (L2.upd H p o) a := let ⟨y, c, r, h, q⟩ := x; ⟨y, c, r, by rw [upd_ne n]; exact h, q⟩
theorem DOk.ne {H : Hp} {a p : Addr} (x : DOk H a) (h : H p = none) : a ≠ p := let ⟨y, c, r, e, q⟩ := x; ne_of_none e h
theorem DOk.some {H : Hp} {a : Addr} (x : DOk H a) : ∃ xs, H a = some (.lst xs) := let ⟨y, c, r, h, q⟩ := x; ⟨_, h⟩
end My
namespace My
open PySem PySem.Spec PyProof.Rows L2
def top (i : Nat) : Stmt := PySem.Challenge.pw_mirrorturns_k02_rooms_and_signs.main.body.getD i (.Pass ⟨0, 0, 0, 0⟩)
end My
namespace My
open PySem PySem.Spec PyProof.Rows L2
/-- the module's constants, and the built-ins, that no name of the module hides -/
structure Txt (mg : Str → Option Value) : Prop where
  v_SIGNS : ∃ t, mg "SIGNS" = some (.str ".rfRF" t)
  v_TURNING : ∃ t, mg "TURNING" = some (.str "rf" t)
  v_RISING : ∃ t, mg "RISING" = some (.str "rR" t)
  v_FALLING : ∃ t, mg "FALLING" = some (.str "fF" t)
  b_len : mg "len" = none
  b_range : mg "range" = none
  b_abs : mg "abs" = none
  b_enumerate : mg "enumerate" = none
  b_isinstance : mg "isinstance" = none
  b_all : mg "all" = none
  b_tuple : mg "tuple" = none
  b_list : mg "list" = none
  b_min : mg "min" = none
  b_bool : mg "bool" = none
  b_int : mg "int" = none
  b_str : mg "str" = none
  b_sum : mg "sum" = none
  b_divmod : mg "divmod" = none
  b_sorted : mg "sorted" = none
  b_set : mg "set" = none
end My
namespace My
open PySem PySem.Spec PyProof.Rows L2
/-! ### turned, thrown -/
def sp_turned : Sp := fun vs H Q _ => ∃ s : Sg, vs = [.str s.str] ∧ Q (.str s.turn.str) H
def sp_thrown : Sp := fun vs H Q _ => ∃ (s : Sg) (a b : Int), vs = [.str s.str, .int a, .int b] ∧ ∀ p, H p = none → Q (.ref p) (upd H p (.tup [.int (s.thr a b).1, .int (s.thr a b).2]))
abbrev s_turned : Stmt := (top 6)
abbrev N_turned : List Str := ["sign"]
theorem sc_turned : FnScope N_turned ["sign"] (defScope s_turned) := ⟨rfl, rfl, rfl, by decide +kernel, rfl, by decide +kernel, by decide +kernel⟩

abbrev s_thrown : Stmt := (top 5)
abbrev N_thrown : List Str := ["sign", "down", "right"]
theorem sc_thrown : FnScope N_thrown ["sign", "down", "right"] (defScope s_thrown) := ⟨rfl, rfl, rfl, by decide +kernel, rfl, by decide +kernel, by decide +kernel⟩

section
variable {P : Program} {w : World} {K : PySem.W.Frag} {mg : Str → Option Value} {base : Heap}
theorem ok_turned {f : Addr} {fd : FuncData} (F : Fun K "turned" "turned" s_turned f fd) : FnOk P w K mg base CX0 1 f fd ["sign"] sp_turned := by
  refine F.ok sc_turned (fun vs H Q E h => ?_) (fun cdv A outer s H vs Q E hr h => ?_)
  · obtain ⟨s, rfl, _⟩ := h
    rfl
  · obtain ⟨s, rfl, q⟩ := h
    refine ⟨_, (pss_cons (ps_if (pt_cmpR op_eq (pv 0) pe_str (nomark _))
      (pss_one (ps_ret pe_str))
      pss_nil)
    (pss_cons (ps_if (pt_cmpR op_eq (pv 0) pe_str (nomark _))
      (pss_one (ps_ret pe_str))
      pss_nil)
    (pss_one (ps_ret (pv 0))))), ?_⟩
    refine ⟨_, rfl, rfl, _, rfl, ?_⟩
    cases s
    case r => exact ifT (by decide +kernel) q
    case f =>
      refine ifF (by decide +kernel) ⟨_, rfl, rfl, _, rfl, ?_⟩
      exact ifT (by decide +kernel) q
    all_goals
      refine ifF (by decide +kernel) ⟨_, rfl, rfl, _, rfl, ?_⟩
      exact ifF (by decide +kernel) ⟨_, rfl, q⟩
theorem ok_thrown {f : Addr} {fd : FuncData} (F : Fun K "thrown" "thrown" s_thrown f fd) (T : Txt mg) : FnOk P w K mg base CX0 1 f fd ["sign", "down", "right"] sp_thrown := by
  refine F.ok sc_thrown (fun vs H Q E h => ?_) (fun cdv A outer s H vs Q E hr h => ?_)
  · obtain ⟨s, a, b, rfl, _⟩ := h
    rfl
  · obtain ⟨s, a, b, rfl, q⟩ := h
    refine ⟨_, (pss_cons (ps_if (pt_cmpR op_in_str (pv 0) (pe_gs T.v_RISING) (by rfl))
      (pss_one (ps_ret (pe_tup (pa_cons (pe_un un_neg (pv 2)) (pa_cons (pe_un un_neg (pv 1)) pa_nil)))))
      pss_nil)
    (pss_cons (ps_if (pt_cmpR op_in_str (pv 0) (pe_gs T.v_FALLING) (by rfl))
      (pss_one (ps_ret (pe_tup (pa_cons (pv 2) (pa_cons (pv 1) pa_nil)))))
      pss_nil)
    (pss_one (ps_ret (pe_tup (pa_cons (pv 1) (pa_cons (pv 2) pa_nil))))))), ?_⟩
    refine ⟨_, rfl, _, _, rfl, rfl, _, rfl, ?_⟩
    cases s
    case r => exact ifT (by decide +kernel) ⟨_, rfl, _, rfl, _, rfl, _, rfl, by show 2 ≤ sizeLine; decide, q⟩
    case R => exact ifT (by decide +kernel) ⟨_, rfl, _, rfl, _, rfl, _, rfl, by show 2 ≤ sizeLine; decide, q⟩
    case f =>
      refine ifF (by decide +kernel) ⟨_, rfl, _, _, rfl, rfl, _, rfl, ?_⟩
      exact ifT (by decide +kernel) ⟨_, rfl, _, rfl, by show 2 ≤ sizeLine; decide, q⟩
    case F =>
      refine ifF (by decide +kernel) ⟨_, rfl, _, _, rfl, rfl, _, rfl, ?_⟩
      exact ifT (by decide +kernel) ⟨_, rfl, _, rfl, by show 2 ≤ sizeLine; decide, q⟩
    case d =>
      refine ifF (by decide +kernel) ⟨_, rfl, _, _, rfl, rfl, _, rfl, ?_⟩
      exact ifF (by decide +kernel) ⟨_, rfl, _, rfl, by show 2 ≤ sizeLine; decide, q⟩
end
end My
namespace My
open PySem PySem.Spec PyProof.Rows L2
/-! ### the source of numbers -/
theorem at_0 {α : Type} {x : α} {r : List α} : atI (x :: r) 0 = some x := atI_nat (j := 0) rfl
theorem at_1 {α : Type} {x y : α} {r : List α} : atI (x :: y :: r) 1 = some y := atI_nat (j := 1) rfl
theorem ixN0 {n : Nat} : ixN (n + 1) 0 = some 0 := by
  unfold ixN
  rw [if_pos (by omega), if_pos (by omega)] <;> rfl
theorem ixN1 {n : Nat} : ixN (n + 2) 1 = some 1 := by
  unfold ixN
  rw [if_pos (by omega), if_pos (by omega)] <;> rfl
theorem seq2 {n : Nat} : seqIndex? 2 (n + 3) = some 2 := by
  unfold seqIndex?
  simp
  omega
def sp_below : Sp := fun vs H Q _ => ∃ (a : Addr) (n : Int), vs = [.ref a, .int n] ∧ DOk H a ∧ 0 < n ∧ n < 1152921504606846976 ∧ ∀ (r : Int) H', 0 ≤ r → r < n → Kp a H H' → DOk H' a → Q (.int r) H'
abbrev s_l_below : Stmt := (top 35)
abbrev N_l_below : List Str := ["_law_d", "_law_limit", "_law_result"]
theorem sc_l_below : FnScope N_l_below ["_law_d", "_law_limit"] (defScope s_l_below) := ⟨rfl, rfl, rfl, by decide +kernel, rfl, by decide +kernel, by decide +kernel⟩

section
variable {P : Program} {w : World} {K : PySem.W.Frag} {mg : Str → Option Value} {base : Heap}
theorem ok_below {f : Addr} {fd : FuncData} (F : Fun K "_law_below" "_law_below" s_l_below f fd) (T : Txt mg) : FnOk P w K mg base CX0 1 f fd ["_law_d", "_law_limit"] sp_below := by
  refine F.ok sc_l_below (fun vs H Q E h => ?_) (fun cdv A outer s H vs Q E hr h => ?_)
  · obtain ⟨a, n, rfl, _⟩ := h
    rfl
  · obtain ⟨a, n, rfl, ⟨sd, c, rest, hd, s0, s1, c0, r0, rl⟩, n0, n1, q⟩ := h
    refine ⟨_, (C8.pss_cut (ps_if (PW.pt (pw_and (pt_cmpR op_eq (pe_ix ix_list (pv 0) pe_int (fun _ _ => rfl)) pe_int (nomark _)) (pw_and1 (pt_cmpR op_gt (pe_callB call_len_seq (by rfl) T.b_len PySem.boot_len (pa_cons (pv 0) pa_nil)) pe_int (nomark _)))))
      (pss_one (ps_asg (pe_bm PySem.F.plainAttrs_list PySem.F.slot_list_pop PySem.F.type_list_pop mt_popAt (pv 0) (pa_cons pe_int pa_nil)) (pg_sub (pv 0) pe_int set_list)))
      pss_nil)
    (pss_cons (ps_if (pt_cmpR op_gt (pe_ix ix_list (pv 0) pe_int (fun _ _ => rfl)) pe_int (nomark _))
      (pss_cons (ps_set (i := 2) sc_l_below.nd rfl (Or.inl rfl) (pe_op op_mod (pe_ix ix_list (pv 0) pe_int (fun _ _ => rfl)) (pv 1)))
      (pss_cons (ps_asg (pe_op op_fdivW (pe_ix ix_list (pv 0) pe_int (fun _ _ => rfl)) (pv 1)) (pg_sub (pv 0) pe_int set_list))
      (pss_one (ps_ret (pv 2)))))
      pss_nil)
    (pss_cons (ps_asg (pe_op op_mod (pe_op op_add (pe_op op_mul (pe_ix ix_list (pv 0) pe_int (fun _ _ => rfl)) pe_int) pe_int) pe_int) (pg_sub (pv 0) pe_int set_list))
    (pss_one (ps_ret (pe_op op_mod (pe_op op_fdivW (pe_ix ix_list (pv 0) pe_int (fun _ _ => rfl)) pe_int) (pv 1))))))), ?_⟩
    refine ⟨fun σ H1 => σ = [some (.ref a), some (.int n), none] ∧ Kp a H H1 ∧ DOk H1 a, ?_, ?_⟩
    · refine ⟨_, rfl, a, _, _, _, rfl, rfl, SqL.of hd, at_1, rfl, _, rfl, ?_⟩
      refine if2 (fun hc => ?_) (fun hc => ?_)
      · refine ⟨_, rfl, a, _, rfl, .inl (SqL.of hd), _, _, rfl, rfl, _, rfl, ?_⟩
        refine if2 (fun hl => ?_) (fun hl => ?_)
        · cases rest with
          | nil => exact absurd (of_decide_eq_true hl) (by simp)
          | cons x rest =>
            refine ⟨_, rfl, .inl ⟨rfl, _, SqL.of hd⟩, a, _, 2, 2, .int x, rfl, rfl, hd, by decide, by decide, ?_, rfl, ?_⟩
            · show seqIndex? 2 ((rest.map V.int).length + 3) = _
              exact seq2
            refine ⟨_, rfl, a, _, 1, 1, rfl, rfl, upd_same, ?_, ?_⟩
            · show ixN ((rest.map V.int).length + 2) 1 = _
              exact ixN1
            refine ⟨rfl, (Kp.refl H).upd.upd, sd, x, rest, ?_, s0, s1, Int.le_of_lt (r0 x (List.mem_cons_self ..)), fun y hy => r0 y (List.mem_cons_of_mem _ hy), by simp at rl; omega⟩
            rw [upd_same] <;> rfl
        · exact ⟨rfl, Kp.refl H, sd, c, rest, hd, s0, s1, c0, r0, rl⟩
      · refine ifF rfl ?_
        exact ⟨rfl, Kp.refl H, sd, c, rest, hd, s0, s1, c0, r0, rl⟩
    · rintro σ H1 ⟨rfl, kp, sd, c, rest, hd, s0, s1, c0, r0, rl⟩
      refine ⟨_, rfl, a, _, _, _, rfl, rfl, SqL.of hd, at_1, _, _, rfl, rfl, _, rfl, ?_⟩
      refine if2 (fun hc => ?_) (fun hc => ?_)
      · have hc1 : 0 < c := of_decide_eq_true hc
        refine ⟨_, rfl, a, _, _, _, rfl, rfl, SqL.of hd, at_1, _, rfl, _, _, rfl, rfl, n0, ?_⟩
        refine ⟨_, rfl, a, _, _, _, rfl, rfl, SqL.of hd, at_1, _, rfl, _, _, rfl, rfl, wide_div (b := 60) n0 (by omega) (by omega) (by omega), ?_⟩
        refine ⟨_, rfl, a, _, 1, 1, rfl, rfl, hd, ?_, ?_⟩
        · show ixN ((rest.map V.int).length + 2) 1 = _
          exact ixN1
        refine ⟨_, rfl, ?_⟩
        refine q _ _ (Int.emod_nonneg _ (by omega)) (Int.emod_lt_of_pos _ n0) kp.upd ⟨sd, c / n, rest, ?_, s0, s1, Int.ediv_nonneg c0 (by omega), r0, rl⟩
        rw [upd_same] <;> rfl
      · refine ⟨_, rfl, a, _, _, _, rfl, rfl, SqL.of hd, at_0, _, _, rfl, rfl, .inr (by decide), _, _, rfl, rfl, _, _, rfl, rfl, (by show (0 : Int) < 2147483647; decide), ?_⟩
        refine ⟨_, rfl, a, _, 0, 0, rfl, rfl, hd, ?_, ?_⟩
        · show ixN ((rest.map V.int).length + 1 + 1) 0 = _
          exact ixN0
        refine ⟨_, rfl, a, _, _, _, rfl, rfl, SqL.of upd_same, at_0, _, _, rfl, rfl, wide_div (b := 60) (by decide) (by decide) (by omega) (by omega), _, rfl, _, _, rfl, rfl, n0, ?_⟩
        refine q _ _ (Int.emod_nonneg _ (by omega)) (Int.emod_lt_of_pos _ n0) kp.upd ⟨(sd * 48271 + 11) % 2147483647, c, rest, ?_, Int.emod_nonneg _ (by decide), Int.emod_lt_of_pos _ (by decide), c0, r0, rl⟩
        rw [upd_same] <;> rfl
end
end My
namespace My
open PySem PySem.Spec PyProof.Rows L2
def sp_random (K : PySem.W.Frag) : Sp := fun vs H Q _ => ∃ (a : Addr) (ns : List Int) (z : Int), vs = [.ref a, .int z] ∧ SqL K H a (ns.map V.int) ∧ ns.length ≤ 63 ∧ 0 ≤ z ∧ z < 2147483647 ∧ ∀ p H', H p = none → Same H H' → DOk H' p → Q (.ref p) H'
abbrev s_l_random : Stmt := (top 34)
abbrev N_l_random : List Str := ["_law_script", "_law_salt", "_law_seed", "_law_cell"]
theorem sc_l_random : FnScope N_l_random ["_law_script", "_law_salt"] (defScope s_l_random) := ⟨rfl, rfl, rfl, by decide +kernel, rfl, by decide +kernel, by decide +kernel⟩

section
variable {P : Program} {w : World} {K : PySem.W.Frag} {mg : Str → Option Value} {base : Heap}
theorem abs_nn (i : Int) : 0 ≤ if i < 0 then -i else i := by split <;> omega
theorem ok_random {f : Addr} {fd : FuncData} (F : Fun K "_law_random" "_law_random" s_l_random f fd) (T : Txt mg) : FnOk P w K mg base CX0 1 f fd ["_law_script", "_law_salt"] (sp_random K) := by
  refine F.ok sc_l_random (fun vs H Q E h => ?_) (fun cdv A outer s H vs Q E hr h => ?_)
  · obtain ⟨a, ns, z, rfl, _⟩ := h
    rfl
  · obtain ⟨a, ns, z, rfl, hS, hn, z0, z1, q⟩ := h
    refine ⟨_, (pss_cons (ps_set (i := 2) sc_l_random.nd rfl (Or.inl rfl) (pv 1))
    (pss_cons (ps_for PassesOwn.never rfl (pi_list (pv 0)) (pg_name (i := 3) sc_l_random.nd rfl (Or.inl rfl))
      (pss_one (ps_set (i := 2) sc_l_random.nd rfl (Or.inl rfl) (pe_op op_mod (pe_op op_add (pe_op op_mul (pv 2) pe_int) (pe_callB call_abs (by rfl) T.b_abs (by decide +kernel) (pa_cons (pv 3) pa_nil))) pe_int))))
    (pss_one (ps_ret (pe_op op_cat (pe_lst (pa_cons (pv 2) (pa_cons pe_int pa_nil))) (pe_lcG (own := [("_law_cell", 3)]) (g := gName 3)  rfl sc_l_random.nd (pi_list (pv 0)) (blkOk_by (N := N_l_random) (sc := defScope s_l_random) (by decide +kernel)) (fun _ _ _ _ _ => (pg_name (i := 3) sc_l_random.nd rfl (Or.inl rfl))) (fun _ _ _ _ _ => pts_one (pt_cmpR op_ge (pv 3) (pe_op op_pow pe_int pe_int) (nomark _))) (fun _ _ _ _ _ => (pv 3)))))))), ?_⟩
    refine ⟨_, rfl, _, rfl, a, rfl, ⟨_, hS⟩, for_list (K := K) (a := a) (xs := ns.map V.int) (fun i σ H' => ∃ (y : Int) (v : Option V), σ = [some (.ref a), some (.int z), some (.int y), v] ∧ H' = H ∧ 0 ≤ y ∧ y < 2147483647)
      ⟨z, none, rfl, rfl, z0, z1⟩ (fun i σ H' _ ⟨_, _, _, e, _⟩ => by rw [e]; exact hS) ?_ ?_⟩
    · rintro i x σ H' hi ⟨y, v, rfl, rfl, y0, y1⟩
      obtain ⟨u, rfl⟩ : ∃ u, x = V.int u := by
        rw [List.getElem?_map] at hi
        cases e : ns[i]? with
        | none => rw [e] at hi; cases hi
        | some u => rw [e] at hi; exact ⟨u, (Option.some.inj hi).symm⟩
      refine ⟨_, rfl, _, _, rfl, rfl, .inl ⟨by omega, by omega⟩, _, rfl, _, rfl, _, _, rfl, rfl, _, _, rfl, rfl, (by show (0 : Int) < 2147483647; decide), ?_⟩
      exact ⟨_, _, rfl, rfl, Int.emod_nonneg _ (by decide), Int.emod_lt_of_pos _ (by decide)⟩
    · rintro σ H' ⟨y, v, rfl, rfl, y0, y1⟩
      refine ⟨_, rfl, by show 2 ≤ sizeLine; decide, fun p hp => ?_⟩
      have s1 : Same H' (upd H' p (.lst [.int y, .int 0])) := Same.new hp
      refine ⟨_, rfl, a, rfl, ⟨_, s1.seq hS⟩, fun D hD => lc_list (K := K) (a := a) (xs := ns.map V.int) (fun i H2 => ∃ rest : List Int, H2 = upd (upd H' p (.lst [.int y, .int 0])) D (.lst (rest.map V.int)) ∧ (∀ x ∈ rest, 0 < x) ∧ rest.length ≤ i)
        ⟨[], rfl, fun _ h => (nomatch h), Nat.le_refl _⟩ ?_ ?_ ?_⟩
      · rintro i H2 _ ⟨rest, rfl, _⟩
        exact (Same.new' s1 hD).seq hS
      · rintro i x H2 hi ⟨rest, rfl, r0, rl⟩
        have hi2 : i < ns.length := by
          have q := (List.getElem?_eq_some_iff.mp hi).1
          rw [List.length_map] at q
          exact q
        obtain ⟨u, rfl⟩ : ∃ u, x = V.int u := by
          rw [List.getElem?_map] at hi
          cases e : ns[i]? with
          | none => rw [e] at hi; cases hi
          | some u => rw [e] at hi; exact ⟨u, (Option.some.inj hi).symm⟩
        refine ⟨rfl, _, rfl, _, _, rfl, rfl, ⟨by decide, by decide, by decide⟩, _, _, rfl, rfl, _, rfl, if2 (fun hc => ?_) (fun hc => ?_)⟩
        · have h1 : (10 : Int) ^ 18 ≤ u := of_decide_eq_true hc
          refine ⟨_, rfl, _, upd_same, sz3 (by rw [List.length_map]; omega), rest ++ [u], ?_, fun x hx => ?_, by rw [List.length_append]; exact Nat.succ_le_succ rl⟩
          · rw [upd_upd, List.map_append] <;> rfl
          · rcases List.mem_append.mp hx with h | h
            · exact r0 x h
            · have e : x = u := by simpa using h
              rw [e]
              exact Int.lt_of_lt_of_le (by decide) h1
        · exact ⟨rest, rfl, r0, Nat.le_succ_of_le rl⟩
      · rintro H2 ⟨rest, rfl, r0, rl⟩
        have npD : p ≠ D := fun e => by rw [e, upd_same] at hD; cases hD
        refine ⟨p, D, _, _, rfl, rfl, by rw [upd_ne npD, upd_same], upd_same, sz2 ?_, fun q2 hq2 => ?_⟩
        · rw [List.length_map] at rl ⊢
          show 2 + rest.length ≤ 100000
          omega
        · have f2 : H' q2 = none := (Same.new' s1 hD).free hq2
          refine q q2 _ f2 (Same.new' (Same.new' s1 hD) hq2) ⟨y, 0, rest, upd_same, y0, y1, Int.le_refl _, r0, by rw [List.length_map] at rl; omega⟩
end
end My
namespace My
open PySem PySem.Spec PyProof.Rows L2
def sp_lines : Sp := fun vs H Q _ => ∃ (a : Addr) (m t : Nat), vs = [.ref a, .int m, .int t] ∧ DOk H a ∧ 0 < m ∧ m ≤ 8 ∧ t ≤ 10 ∧ ∀ g w p H', Grid m t g w → H p = none → Kp a H H' → DOk H' a → H' p = some (.lst (g.map lineV)) → Q (.ref p) H'
theorem menu6 (r : Int) (h0 : 0 ≤ r) (h1 : r < 6) : ∃ s : Sg, atI ("rfrfRF" : Str).cps.toList r = some s.cp := by
  have h : r = 0 ∨ r = 1 ∨ r = 2 ∨ r = 3 ∨ r = 4 ∨ r = 5 := by omega
  rcases h with h | h | h | h | h | h <;> subst h
  · exact ⟨.r, by decide +kernel⟩
  · exact ⟨.f, by decide +kernel⟩
  · exact ⟨.r, by decide +kernel⟩
  · exact ⟨.f, by decide +kernel⟩
  · exact ⟨.R, by decide +kernel⟩
  · exact ⟨.F, by decide +kernel⟩
theorem menu2 (r : Int) (h0 : 0 ≤ r) (h1 : r < 2) : ∃ s : Sg, atI ("RF" : Str).cps.toList r = some s.cp ∧ s.tur = false := by
  have h : r = 0 ∨ r = 1 := by omega
  rcases h with h | h <;> subst h
  · exact ⟨.R, by decide +kernel, rfl⟩
  · exact ⟨.F, by decide +kernel, rfl⟩
theorem in_rf (s : Sg) : (!(Builtin.Str.occurrences ("rf" : Str) s.str 0 ("rf" : Str).length 1).isEmpty) = s.tur := by
  cases s <;> decide +kernel
abbrev s_l_lines : Stmt := (top 36)
abbrev N_l_lines : List Str := ["_law_d", "_law_most", "_law_turning", "_law_height", "_law_width", "_law_lines_here", "_law_left", "_law_dense", "_law_row", "_law_line", "_law_column", "_law_sign"]
theorem sc_l_lines : FnScope N_l_lines ["_law_d", "_law_most", "_law_turning"] (defScope s_l_lines) := ⟨rfl, rfl, rfl, by decide +kernel, rfl, by decide +kernel, by decide +kernel⟩

section
variable {P : Program} {w : World} {K : PySem.W.Frag} {mg : Str → Option Value} {base : Heap}
theorem ok_lines {f : Addr} {fd : FuncData} (F : Fun K "_law_lines" "_law_lines" s_l_lines f fd) (T : Txt mg) (g_l_below : GF P w K mg base "_law_below" 1 sp_below) : FnOk P w K mg base CX0 2 f fd ["_law_d", "_law_most", "_law_turning"] sp_lines := by
  refine F.ok sc_l_lines (fun vs H Q E h => ?_) (fun cdv A outer s H vs Q E hr h => ?_)
  · obtain ⟨a, m, t, rfl, _⟩ := h
    rfl
  · obtain ⟨a, m, t, rfl, hd, m0, m8, t10, q⟩ := h
    refine ⟨_, (pss_cons (ps_asg (pe_tup (pa_cons (pe_op op_add pe_int (pe_c g_l_below (hr.mono (by decide)) passL (pa_cons (pv 0) (pa_cons (pv 1) pa_nil)))) (pa_cons (pe_op op_add pe_int (pe_c g_l_below (hr.mono (by decide)) passL (pa_cons (pv 0) (pa_cons (pv 1) pa_nil)))) (pa_cons (pe_lst pa_nil) (pa_cons (pv 2) pa_nil))))) (pg_tup rfl (pgs_cons (pg_name (i := 3) sc_l_lines.nd rfl (Or.inl rfl)) (pgs_cons (pg_name (i := 4) sc_l_lines.nd rfl (Or.inl rfl)) (pgs_cons (pg_name (i := 5) sc_l_lines.nd rfl (Or.inl rfl)) (pgs_cons (pg_name (i := 6) sc_l_lines.nd rfl (Or.inl rfl)) pgs_nil))))))
    (pss_cons (ps_set (i := 7) sc_l_lines.nd rfl (Or.inl rfl) (pe_op op_add pe_int (pe_c g_l_below (hr.mono (by decide)) passL (pa_cons (pv 0) (pa_cons pe_int pa_nil)))))
    (pss_cons (ps_for PassesOwn.never rfl (pi_range1 (by rfl) T.b_range (pa_cons (pv 3) pa_nil)) (pg_name (i := 8) sc_l_lines.nd rfl (Or.inl rfl))
      (pss_cons (ps_set (i := 9) sc_l_lines.nd rfl (Or.inl rfl) pe_str)
      (pss_cons (ps_for PassesOwn.never rfl (pi_range1 (by rfl) T.b_range (pa_cons (pv 4) pa_nil)) (pg_name (i := 10) sc_l_lines.nd rfl (Or.inl rfl))
        (C8.pss_cut (ps_set (i := 11) sc_l_lines.nd rfl (Or.inl rfl) (pe_ifExp (pt_cmpR op_lt (pe_c g_l_below (hr.mono (by decide)) passL (pa_cons (pv 0) (pa_cons pe_int pa_nil))) (pv 7) (nomark _)) pe_str (pe_ix ix_str pe_str (pe_c g_l_below (hr.mono (by decide)) passL (pa_cons (pv 0) (pa_cons pe_int pa_nil))) (fun _ _ => rfl))))
        (C8.pss_cut (ps_if (pt_cmpR op_in_str (pv 11) pe_str (by rfl))
          (pss_one (ps_asg (pe_ifExp (pt_cmpR op_gt (pv 6) pe_int (nomark _)) (pe_tup (pa_cons (pv 11) (pa_cons (pe_op op_sub (pv 6) pe_int) pa_nil))) (pe_tup (pa_cons (pe_ix ix_str pe_str (pe_c g_l_below (hr.mono (by decide)) passL (pa_cons (pv 0) (pa_cons pe_int pa_nil))) (fun _ _ => rfl)) (pa_cons pe_int pa_nil)))) (pg_tup rfl (pgs_cons (pg_name (i := 11) sc_l_lines.nd rfl (Or.inl rfl)) (pgs_cons (pg_name (i := 6) sc_l_lines.nd rfl (Or.inl rfl)) pgs_nil)))))
          pss_nil)
        (pss_one (ps_set (i := 9) sc_l_lines.nd rfl (Or.inl rfl) (pe_op op_add_str (pv 9) (pv 11)))))))
      (pss_one (ps_expr (pe_bm PySem.F.plainAttrs_list PySem.F.slot_list_append PySem.F.type_list_append mt_append (pv 5) (pa_cons (pv 9) pa_nil)))))))
    (pss_one (ps_ret (pv 5)))))), ?_⟩
    refine ⟨_, rfl, _, rfl, a, _, rfl, hd, by omega, by omega, fun r1 H1 r10 r11 k1 d1 => ⟨_, _, rfl, rfl, ?_⟩⟩
    refine ⟨_, rfl, _, rfl, a, _, rfl, d1, by omega, by omega, fun r2 H2 r20 r21 k2 d2 => ⟨_, _, rfl, rfl, Nat.zero_le _, fun p hp => ?_⟩⟩
    have npa : p ≠ a := (d2.ne hp).symm
    have fp : H p = none := k1.free npa (k2.free npa hp)
    refine ⟨_, rfl, by show 4 ≤ sizeLine; decide, fun q4 hq4 => ?_⟩
    refine ⟨q4, _, rfl, SqT.of upd_same, rfl, _, _, rfl, _, _, rfl, _, _, rfl, _, _, rfl, rfl, ?_⟩
    have nqp : p ≠ q4 := fun e => by rw [← e, upd_same] at hq4; cases hq4
    have f4 : H2 q4 = none := (Same.new hp).free hq4
    have d3 := (d2.upd (o := .lst []) npa.symm).upd (o := .tup [.int (1 + r1), .int (1 + r2), .ref p, .int t]) (d2.ne f4)
    have k3 : Kp a H _ := ((k1.trans k2).mut fp (o := .lst [])).mut (k1.free (d2.ne f4).symm (k2.free (d2.ne f4).symm f4)) (o := .tup [.int (1 + r1), .int (1 + r2), .ref p, .int t])
    have e3 : upd (upd H2 p (.lst [])) q4 (.tup [.int (1 + r1), .int (1 + r2), .ref p, .int t]) p = some (.lst []) := by rw [upd_ne nqp, upd_same]
    generalize upd (upd H2 p (.lst [])) q4 (.tup [.int (1 + r1), .int (1 + r2), .ref p, .int t]) = H3 at d3 k3 e3
    refine ⟨_, rfl, a, 4, rfl, d3, by omega, by omega, fun dn H4 dn0 dn1 k4 d4 => ⟨_, _, rfl, rfl, ?_⟩⟩
    have e4 : H4 p = some (.lst []) := k4 p _ npa e3
    have hh : ((1 + r1).toNat : Int) = 1 + r1 := by omega
    have hw : ((1 + r2).toNat : Int) = 1 + r2 := by omega
    refine ⟨_, rfl, _, rfl, by omega, by omega, for_range (lo := 0) (n := (1 + r1).toNat) (fun i σ H' => ∃ (g : List (List Sg)) (left : Nat) (v1 v2 v3 v4 : Option V), σ = [some (.ref a), some (.int m), some (.int t), some (.int (1 + r1)), some (.int (1 + r2)), some (.ref p), some (.int left), some (.int (1 + dn)), v1, v2, v3, v4] ∧
      Kp a H H' ∧ DOk H' a ∧ H' p = some (.lst (g.map lineV)) ∧ g.length = i ∧ (∀ l ∈ g, l.length = (1 + r2).toNat) ∧ gcount g + left ≤ t)
      ⟨[], t, none, none, none, none, rfl, k3.trans k4, d4, e4, rfl, fun _ h => (nomatch h), by show 0 + t ≤ t; omega⟩ ?_ ?_⟩
    · rintro i σ H5 hi ⟨g, left, v1, v2, v3, v4, rfl, k5, d5, e5, gl, gw, gc⟩
      refine ⟨_, rfl, _, rfl, by omega, by omega, for_range (lo := 0) (n := (1 + r2).toNat) (fun j σ H' => ∃ (l : List Sg) (left : Nat) (v1 v3 v4 : Option V), σ = [some (.ref a), some (.int m), some (.int t), some (.int (1 + r1)), some (.int (1 + r2)), some (.ref p), some (.int left), some (.int (1 + dn)), v1, some (.str (lstr l)), v3, v4] ∧
        Kp a H H' ∧ DOk H' a ∧ H' p = some (.lst (g.map lineV)) ∧ l.length = j ∧ gcount g + lcount l + left ≤ t)
        ⟨[], left, _, v3, v4, rfl, k5, d5, e5, rfl, by show gcount g + 0 + left ≤ t; omega⟩ ?_ ?_⟩
      · rintro j σ H6 hj ⟨l, left, v1, v3, v4, rfl, k6, d6, e6, ll, gc⟩
        refine ⟨fun σ H' => ∃ (s : Sg), σ = [some (.ref a), some (.int m), some (.int t), some (.int (1 + r1)), some (.int (1 + r2)), some (.ref p), some (.int left), some (.int (1 + dn)), v1, some (.str (lstr l)), some (.int (0 + (j : Int))), some (.str s.str)] ∧ Kp a H H' ∧ DOk H' a ∧ H' p = some (.lst (g.map lineV)), ?_, ?_⟩
        · refine ⟨_, rfl, a, 5, rfl, d6, by omega, by omega, fun x H7 x0 x1 k7 d7 => ⟨_, rfl, _, _, rfl, rfl, _, rfl, if2 (fun hc => ?_) (fun hc => ?_)⟩⟩
          · exact ⟨.d, rfl, k6.trans k7, d7, k7 p _ npa e6⟩
          · refine ⟨_, rfl, a, 6, rfl, d7, by omega, by omega, fun y H8 y0 y1 k8 d8 => ?_⟩
            obtain ⟨s, hs⟩ := menu6 y y0 y1
            exact ⟨_, _, _, rfl, rfl, by decide +kernel, hs, s, rfl, (k6.trans k7).trans k8, d8, k8 p _ npa (k7 p _ npa e6)⟩
        · rintro σ H7 ⟨s, rfl, k7, d7, e7⟩
          refine ⟨fun σ H' => ∃ (s : Sg) (left : Nat), σ = [some (.ref a), some (.int m), some (.int t), some (.int (1 + r1)), some (.int (1 + r2)), some (.ref p), some (.int left), some (.int (1 + dn)), v1, some (.str (lstr l)), some (.int (0 + (j : Int))), some (.str s.str)] ∧ Kp a H H' ∧ DOk H' a ∧ H' p = some (.lst (g.map lineV)) ∧ gcount g + lcount (l ++ [s]) + left ≤ t, ?_, ?_⟩
          · refine ⟨_, rfl, _, _, rfl, rfl, _, rfl, ?_⟩
            refine if2 (fun hc => ?_) (fun hc => ?_)
            · have hs : s.tur = true := (in_rf s).symm.trans hc
              refine ⟨_, rfl, _, _, rfl, rfl, _, rfl, if2 (fun hl => ?_) (fun hl => ?_)⟩
              · have h0 : (0 : Int) < left := of_decide_eq_true hl
                refine ⟨_, rfl, _, rfl, _, _, rfl, rfl, by show 2 ≤ sizeLine; decide, fun x hx => ?_⟩
                have fx : H x = none := k7.free (d7.ne hx).symm hx
                refine ⟨x, _, rfl, SqT.of upd_same, rfl, _, _, rfl, _, _, rfl, rfl, s, left - 1, ?_, k7.mut fx, d7.upd (d7.ne hx), by rw [upd_ne (ne_of_none e7 hx)]; exact e7, ?_⟩
                · have e : ((left : Int) - 1) = ((left - 1 : Nat) : Int) := by omega
                  rw [← e] <;> rfl
                · rw [lcount_app, hs]
                  simp only [if_true]
                  omega
              · refine ⟨_, rfl, a, 2, rfl, d7, by omega, by omega, fun y H8 y0 y1 k8 d8 => ?_⟩
                obtain ⟨s2, hs2, ht2⟩ := menu2 y y0 y1
                have e8 := k8 p _ npa e7
                refine ⟨_, _, _, rfl, rfl, by decide +kernel, hs2, by show 2 ≤ sizeLine; decide, fun x hx => ?_⟩
                have k78 := k7.trans k8
                have fx : H x = none := k78.free (d8.ne hx).symm hx
                refine ⟨x, _, rfl, SqT.of upd_same, rfl, _, _, rfl, _, _, rfl, rfl, s2, 0, rfl, k78.mut fx, d8.upd (d8.ne hx), by rw [upd_ne (ne_of_none e8 hx)]; exact e8, ?_⟩
                rw [lcount_app, ht2]
                simp
                omega
            · have hs : s.tur = false := (in_rf s).symm.trans hc
              refine ⟨s, left, rfl, k7, d7, e7, ?_⟩
              rw [lcount_app, hs]
              simpa using gc
          · rintro σ H8 ⟨s, left, rfl, k8, d8, e8, gc8⟩
            refine ⟨_, rfl, _, rfl, _, _, rfl, rfl, sz2 ?_, l ++ [s], left, v1, some (.int (0 + (j : Int))), some (.str s.str), ?_, k8, d8, e8, by rw [List.length_append, ll] <;> rfl, gc8⟩
            · rw [lstr_len]
              show l.length + 1 ≤ 100000
              omega
            · rw [lstr_app] <;> rfl
      · rintro σ H6 ⟨l, left, v1, v3, v4, rfl, k6, d6, e6, ll, gc⟩
        refine ⟨_, rfl, .inl ⟨rfl, _, SqL.of e6⟩, _, rfl, p, _, _, rfl, rfl, e6, sz3 (by rw [List.length_map]; omega), ?_⟩
        refine ⟨g ++ [l], left, _, _, _, _, rfl, k6.mut fp, d6.upd npa.symm, ?_, by rw [List.length_append, gl] <;> rfl, fun x hx => ?_, by rw [gcount_app]; exact gc⟩
        · rw [upd_same, List.map_append] <;> rfl
        · rcases List.mem_append.mp hx with h | h
          · exact gw x h
          · have e : x = l := by simpa using h
            rw [e]
            exact ll
    · rintro σ H5 ⟨g, left, v1, v2, v3, v4, rfl, k5, d5, e5, gl, gw, gc⟩
      refine ⟨_, rfl, q g (1 + r2).toNat p H5 ⟨by omega, by omega, by omega, by omega, gw, by omega⟩ fp k5 d5 e5⟩
end
end My
/-! enumerate of a tuple, of a text -/
namespace My
open PySem PySem.Spec PyProof.Rows L2
set_option maxHeartbeats 1000000 in
theorem meets_enum_one {v : Value} {o : Obj} {H : Heap → Prop} (B : Begins v o H) :
    Meets (Builtin.«enumerate.__new__» ⟨[.type "enumerate", v], []⟩) (fun _ R s => H s.heap ∧
      R (.ok (.ret (.ref (s.heap.push o).objs.size))) { s with heap := (s.heap.push o).push { cls := .type "enumerate", data := .fields #[.none, .bool false, .ref s.heap.objs.size, rawInt 0, .none, .none] } }) :=
  .of_wp fun prog w A R s h => by
    obtain ⟨hp, g, d, tk, os⟩ := s; obtain ⟨h1, h⟩ := h
    have hsub := sub_enumerate
    have q1 : ∀ {A' : Around} {E : Value → Shared → Prop} {Q : Value → Shared → Prop}, Q (.ref hp.objs.size) ⟨hp.push o, g, d, tk, os⟩ → wpAny (model prog w) A' (pyIter v) Q E ⟨hp, g, d, tk, os⟩ :=
      fun q => B.iter prog w _ _ ⟨hp, g, d, tk, os⟩ _ h1 q
    wp_walk using q1
    refine wpAny_stack_any fun st => wpAny_pure ?_
    split
    · rename_i c _ _ _ _ _
      cases (c == Value.type "enumerate")
      · wp_walk using q1
        exact ⟨_, rfl, h⟩
      · wp_walk using q1
        exact ⟨_, rfl, h⟩
    · wp_walk using q1
      exact ⟨_, rfl, h⟩
theorem call_enum_one {prog : Program} {w : World} {A : Around} {E : Value → Shared → Prop} {s : Shared} {v : Value} {o : Obj} {H : Heap → Prop} {Q : Value → Shared → Prop} (B : Begins v o H) (h1 : H s.heap)
    (h : ∀ h', IsEnum h' (s.heap.objs.size + 1) s.heap.objs.size 0 .none → h'.get? s.heap.objs.size = some o → h'.objs.size = s.heap.objs.size + 2 →
      (∀ b o, s.heap.get? b = some o → h'.get? b = some o) → Q (.ref (s.heap.objs.size + 1)) { s with heap := h' }) :
    wpAny (model prog w) A (call (.type "enumerate") [v]) Q E s := by
  refine callType_new F.called_enumerate (by decide) (F.typeCall_enumerate_1 _) (F.newCall_enumerate_1 _) (fun obj => F.args_object_init_2 obj _) F.entry_enumerate_new
    (meets_enum_one B) ⟨h1, ?_⟩
  have hz : (s.heap.push o).objs.size = s.heap.objs.size + 1 := Heap.size_push ..
  show _ ∧ _
  rw [hz]
  have he : IsEnum ((s.heap.push o).push { cls := .type "enumerate", data := .fields #[.none, .bool false, .ref s.heap.objs.size, rawInt 0, .none, .none] }) (s.heap.objs.size + 1) s.heap.objs.size 0 .none := by
    have := Heap.get?_push_size (s.heap.push o) (o := { cls := .type "enumerate", data := .fields #[.none, .bool false, .ref s.heap.objs.size, rawInt 0, .none, .none] }) rfl
    rw [hz] at this; exact this
  refine ⟨⟨_, he, rfl⟩, h _ he (Heap.get?_push_of_some _ (Heap.get?_push_size _ B.free)) (by rw [Heap.size_push, hz]) fun b o y => Heap.get?_push_of_some _ (Heap.get?_push_of_some _ y)⟩
/-- the tuple at a, each item in a new pair -/
def IteT (K : PySem.W.Frag) (a : Addr) : It :=
  ⟨fun i H => ∃ (xs : List V) (x : V), SqT K H a xs ∧ xs[i]? = some x, fun i H v H' => ∃ T x, v = .ref T ∧ H T = none ∧ H' = upd H T (.tup [.int (i : Nat), x]) ∧ ∀ xs, SqT K H a xs → xs[i]? = some x, fun i H => ∃ xs : List V, SqT K H a xs ∧ xs.length ≤ i⟩
/-- a text's signs, each in a new pair -/
def IteS (z : Str) : It :=
  ⟨fun i _ => i < z.cps.size, fun i H v H' => ∃ T c, v = .ref T ∧ H T = none ∧ z.cps[i]? = some c ∧ H' = upd H T (.tup [.int (i : Nat), .str ⟨#[c]⟩]), fun i _ => z.cps.size ≤ i⟩
theorem turn_enumD {X : Cx} {J : It} {elts : List Expr} {kk : Nat} {tpos : Pos} {e it : Addr} {fp : List Addr} {n i : Nat} {P : Nat → Value → Prop} {St : Nat → Heap → Prop} {tn : Nat → Heap → Prop} {pins : List (Addr × Obj)} {s : Shared} {σ : L2.St} {H : Hp} {E : Value → Shared → Prop} {old : Value}
    (D : Draws X.prog X.w X.A.in1 it fp n P St) (I : Inv X pins σ H s) (hf : ∀ b ∈ [e, it], FpOk X pins H b) (he : IsEnum s.heap e it ((i : Nat) : Int) old) (hst : St i s.heap) (hi : i < n) (hne : e ≠ it) (hef : e ∉ fp)
    (hP : ∀ v, P i v → ∃ x, RelV x v ∧ ∀ T, H T = none → J.yld i H (.ref T) (upd H T (.tup [.int (i : Nat), x])))
    (htn : ∀ h' old, IsEnum h' e it ((i + 1 : Nat) : Int) old → St (i + 1) h' → tn (i + 1) h') :
    wpAny (model X.prog X.w) X.A (pyNext (.ref e)) (fun r s1 => ∃ u, r = some u ∧
      wpAny (model X.prog X.w) X.A (letOwnedTupleGo (.Tuple elts kk tpos) (.ref e) u) (fun _ s2 => ∃ x H', Inv X pins σ H' s2 ∧ RelV x u ∧ J.yld i H x H' ∧ tn (i + 1) s2.heap ∧ ∀ b ∈ [e, it], H' b = none) E s1) E s := by
  have hel : e < s.heap.objs.size := Heap.lt_size he
  obtain ⟨oi, hoi⟩ := D.live i _ hst
  have hil : it < s.heap.objs.size := Heap.lt_size hoi
  refine wpAny_pyNext_enum_itemD D he hst hi hne hef fun v h' tk hv ho hst' hT hsz hk => ?_
  obtain ⟨x, rx, hy⟩ := hP v hv
  refine ⟨_, rfl, wpAny_letOwnedTupleGo_enum (s := { s with heap := h', toks := tk + 1 }) ho fun h'' he' sb => ?_⟩
  have hT2 : h''.get? s.heap.objs.size = some { cls := .type "tuple", data := .seq #[.int i tk, v] } := (sb.2 _ (Nat.ne_of_gt hel)).trans hT
  have new : ObjOk X.prog X.w (upd H s.heap.objs.size (.tup [.int (i : Nat), x])) h'' s.heap.objs.size (.tup [.int (i : Nat), x]) :=
    ⟨by show 2 ≤ sizeLine; decide, [.int i tk, v], .cons ⟨_, rfl⟩ (.cons rx .nil), ⟨_, hT2, rfl, _, rfl⟩⟩
  have I1 : Inv X pins σ (upd H s.heap.objs.size (.tup [.int (i : Nat), x])) { s with heap := h'', toks := tk + 1 } :=
    I.turnedNew (ch := [e, it]) (fun b ob hb q => (sb.2 b (fun z => hb (by simp [z]))).trans (hk b ob (fun z => hb (by simp [z])) (fun z => hb (by simp [z])) q)) hf (Nat.le_refl _) new
  refine ⟨.ref s.heap.objs.size, _, I1, rfl, hy _ (I.hok.fresh (Nat.le_refl _)), htn h'' v ?_ ?_, fun b hb => ?_⟩
  · have e1 : ((i + 1 : Nat) : Int) = (i : Int) + 1 := by omega
    rw [e1]; exact he'
  · exact D.frame _ _ _ hst' fun b hb o q => (sb.2 b fun z => hef (z ▸ hb)).trans q
  · have hb' : b < s.heap.objs.size := by
      have e' : b = e ∨ b = it := by simpa using hb
      rcases e' with z | z
      · rw [z]; exact hel
      · rw [z]; exact hil
    rw [upd_ne (Nat.ne_of_lt hb')]
    exact (hf b hb).1
theorem turn_enumT {P : Program} {w : World} {K : PySem.W.Frag} {elts : List Expr} {kk : Nat} {tpos : Pos} (a e it : Addr) :
    Turn P w K (.Tuple elts kk tpos) (IteT K a) [e, it] e (fun i h => (∃ old, IsEnum h e it ((i : Nat) : Int) old) ∧ h.IsTupleIter it a i ∧ e ≠ it) where
  mem := by simp
  obj := fun i h st b hb => by
    obtain ⟨⟨old, he⟩, ⟨o, ho, hc, hd⟩, _⟩ := st
    have e' : b = e ∨ b = it := by simpa using hb
    rcases e' with z | z
    · rw [z]; exact ⟨_, he, fun v q => nomatch q⟩
    · rw [z]; exact ⟨o, ho, fun v q => by rw [hd] at q; cases q⟩
  keep := fun i h h' st k => let ⟨⟨old, he⟩, hi, hne⟩ := st; ⟨⟨old, k e (by simp) _ he⟩, hi.at fun o q => k it (by simp) o q, hne⟩
  item := by
    intro X hP hw hK hc i pins s σ H E I hf st hg
    subst hP hw hK
    obtain ⟨⟨old, he⟩, hit, hne⟩ := st
    obtain ⟨xs, x, hq, hx⟩ := hg
    obtain ⟨its, rv, p, hz⟩ := I.tuple hq
    have pt : s.heap.IsTuple a its.toArray := p
    have hai : a ≠ it := fun z => by
      obtain ⟨o, ho, hoc, hod⟩ := hit
      obtain ⟨o2, ho2, hc2, n2, hd2⟩ := pt
      rw [z, ho] at ho2
      cases ho2
      rw [hod] at hd2
      cases hd2
    have hae : a ≠ e := fun z => by
      obtain ⟨o2, ho2, hc2, n2, hd2⟩ := pt
      have he2 : s.heap.get? e = some _ := he
      rw [z] at ho2
      rw [ho2] at he2
      cases he2
      cases hd2
    have hlt : i < its.toArray.size := by
      have := (List.getElem?_eq_some_iff.mp hx).1
      have l := rv.length
      simp; omega
    refine turn_enumD (J := IteT X.K a) (tn := fun i h => (∃ old, IsEnum h e it ((i : Nat) : Int) old) ∧ h.IsTupleIter it a i ∧ e ≠ it) (Draws.tuple (A := X.A.in1) (I.ok.hd hc) it a hai its.toArray) I hf he ⟨hit, pt⟩ hlt hne (by simp [hne, Ne.symm hae]) (fun v hv => ?_) (fun h' old' h1 h2 => ⟨⟨old', h1⟩, h2.1, hne⟩)
    obtain ⟨u, hu, ru⟩ := rv.get hx
    have ev : v = u := by
      have : its[i]? = some v := by simpa using hv
      rw [hu] at this
      exact (Option.some.inj this).symm
    rw [ev]
    exact ⟨x, ru, fun T hT => ⟨T, x, rfl, hT, rfl, fun ys hy => by rw [I.tuple_inj hy hq]; exact hx⟩⟩
  done := by
    intro X hP hw hK hc i pins s σ H E I hf st hg
    subst hP hw hK
    obtain ⟨⟨old, he⟩, hit, hne⟩ := st
    obtain ⟨xs, hq, hx⟩ := hg
    obtain ⟨its, rv, p, hz⟩ := I.tuple hq
    have pt : s.heap.IsTuple a its.toArray := p
    obtain ⟨f0, f1, f2, f3, f4, f5⟩ := hf it (by simp)
    have hl := rv.length
    have hai : a ≠ it := fun z => by
      obtain ⟨o, ho, hoc, hod⟩ := hit
      obtain ⟨o2, ho2, hc2, n2, hd2⟩ := pt
      rw [z, ho] at ho2
      cases ho2
      rw [hod] at hd2
      cases hd2
    have D2 : Draws X.prog X.w X.A.in1 it [it, a] i (fun _ _ => False) (fun j h => h.IsTupleIter it a j ∧ h.IsTuple a its.toArray ∧ i ≤ j) := {
      live := fun _ _ st => let ⟨o, ho, _⟩ := st.1; ⟨o, ho⟩
      frame := fun _ _ _ st hk => ⟨st.1.at fun o e => hk it (by simp) o e, st.2.1.at fun o e => hk a (by simp) o e, st.2.2⟩
      item := fun j s Q E hj st _ => absurd st.2.2 (by omega)
      done := fun s Q E st hE => wpAny_nextOf_tuple_end (I.ok.hd hc) st.1 st.2.1 (by simp; omega) hE }
    refine wpAny_pyNext_enum_endD D2 he ⟨hit, pt, Nat.le_refl _⟩ fun h' eb => ⟨rfl, I.turned (t' := s.toks) (fun b o hb q => eb b o hb q) f0 f1 f3 f4 f5⟩
  self := fun A i s Q E st h => let ⟨⟨_, he⟩, _⟩ := st; wpAny_pyIter_enum he h
theorem turn_enumS {P : Program} {w : World} {K : PySem.W.Frag} {elts : List Expr} {kk : Nat} {tpos : Pos} (z : Str) (t : Tok) (e it : Addr) :
    Turn P w K (.Tuple elts kk tpos) (IteS z) [e, it] e (fun i h => (∃ old, IsEnum h e it ((i : Nat) : Int) old) ∧ h.IsStrIter it (strIterType z) z t i ∧ e ≠ it) where
  mem := by simp
  obj := fun i h st b hb => by
    obtain ⟨⟨old, he⟩, ⟨o, ho, hc, hd⟩, _⟩ := st
    have e' : b = e ∨ b = it := by simpa using hb
    rcases e' with z | z
    · rw [z]; exact ⟨_, he, fun v q => nomatch q⟩
    · rw [z]; exact ⟨o, ho, fun v q => by rw [hd] at q; cases q⟩
  keep := fun i h h' st k => let ⟨⟨old, he⟩, ⟨o, ho, r⟩, hne⟩ := st; ⟨⟨old, k e (by simp) _ he⟩, ⟨o, k it (by simp) o ho, r⟩, hne⟩
  item := by
    intro X hP hw hK hc i pins s σ H E I hf st hg
    subst hP hw hK
    obtain ⟨⟨old, he⟩, hit, hne⟩ := st
    refine turn_enumD (J := IteS z) (tn := fun i h => (∃ old, IsEnum h e it ((i : Nat) : Int) old) ∧ h.IsStrIter it (strIterType z) z t i ∧ e ≠ it) (Draws.text (A := X.A.in1) (I.ok.hd hc) it z t) I hf he hit hg hne (by simp [hne]) (fun v hv => ?_) (fun h' old' h1 h2 => ⟨⟨old', h1⟩, h2, hne⟩)
    obtain ⟨c, u, hc1, rfl⟩ := hv
    exact ⟨.str ⟨#[c]⟩, ⟨u, rfl⟩, fun T hT => ⟨T, c, rfl, hT, hc1, rfl⟩⟩
  done := by
    intro X hP hw hK hc i pins s σ H E I hf st hg
    subst hP hw hK
    obtain ⟨⟨old, he⟩, hit, hne⟩ := st
    obtain ⟨f0, f1, f2, f3, f4, f5⟩ := hf it (by simp)
    have hg' : z.cps.size ≤ i := hg
    have D2 : Draws X.prog X.w X.A.in1 it [it] i (fun _ _ => False) (fun j h => h.IsStrIter it (strIterType z) z t j ∧ i ≤ j) := {
      live := fun _ _ st => let ⟨o, ho, _⟩ := st.1; ⟨o, ho⟩
      frame := fun _ _ _ st hk => let ⟨⟨o, ho, r⟩, q⟩ := st; ⟨⟨o, hk it (by simp) o ho, r⟩, q⟩
      item := fun j s Q E hj st _ => absurd st.2 (by omega)
      done := fun s Q E st hE => by
        have st1 := st.1
        unfold strIterType at st1
        cases ha : z.cps.all (· < 128) with
        | true =>
          rw [ha] at st1
          exact wpAny_nextOf_ascii_end (I.ok.hd hc) st1 (by simp; omega) hE
        | false =>
          rw [ha] at st1
          exact wpAny_nextOf_wide_end (I.ok.hd hc) st1 (by simp; omega) hE }
    refine wpAny_pyNext_enum_endD D2 he ⟨hit, Nat.le_refl _⟩ fun h' eb => ⟨rfl, I.turned (t' := s.toks) (fun b o hb q => eb b o hb q) f0 f1 f3 f4 f5⟩
  self := fun A i s Q E st h => let ⟨⟨_, he⟩, _⟩ := st; wpAny_pyIter_enum he h
def iEnumT (K : PySem.W.Frag) (ta : TA) : TI := fun σ H R => ta σ H fun vs H1 => ∃ a xs, vs = [.ref a] ∧ SqT K H1 a xs ∧ R (IteT K a) H1
def iEnumS (ta : TA) : TI := fun σ H R => ta σ H fun vs H1 => ∃ z, vs = [.str z] ∧ R (IteS z) H1
def iEnumA (K : PySem.W.Frag) (ta : TA) : TI := fun σ H R => ta σ H fun vs H1 => ∃ a, vs = [.ref a] ∧ ((∃ xs, SqL K H1 a xs ∧ R (Ite K a) H1) ∨ (∃ xs, SqT K H1 a xs ∧ R (IteT K a) H1))
section
variable {X : Cx} {e : Expr} {ta : TA} {p pos tpos : Pos} {elts : List Expr} {kk : Nat}
theorem fp_two {pins : List (Addr × Obj)} {σ : L2.St} {H : Hp} {s : Shared} {h' : Heap} (I : Inv X pins σ H s) (J : Inv X pins σ H { s with heap := h' }) (hsz : h'.objs.size = s.heap.objs.size + 2) : ∀ b ∈ [s.heap.objs.size + 1, s.heap.objs.size], FpOk X pins H b := fun b hb => by
  have e' : b = s.heap.objs.size + 1 ∨ b = s.heap.objs.size := by simpa using hb
  have hle : s.heap.objs.size ≤ b := by
    rcases e' with z | z
    · rw [z]; exact Nat.le_add_right _ _
    · rw [z]; exact Nat.le_refl _
  exact I.fpOk hle (I.hok.fresh hle)
theorem pi_enumT (hg : Gl X "enumerate") (hm : X.mg "enumerate" = none) (ha : PA X [e] ta) (hs : starEach [e] X.env = [(false, eval e X.env)] := by rfl) :
    PI X (.Tuple elts kk tpos) (.Call (.Name "enumerate" p) [e] [] pos) (iEnumT X.K ta) := by
  refine ⟨fun pins s σ H R I h => ?_⟩
  refine Call_ (ld_blt I hg hm boot_enumerate (PyProof.Rows.callWith_type1 (thn (ha.run pos pins s σ H _ I h) fun us s1 ⟨vs, H1, I1, r1, q1⟩ => ?_) hs rfl))
  obtain ⟨a, xs, ex, hq, q⟩ := q1
  subst ex
  cases r1 with
  | cons r rr =>
    cases rr
    cases r
    obtain ⟨its, rv, p', hz⟩ := I1.tuple hq
    refine call_enum_one (begins_tuple a its.toArray) p' fun h' he hit hsz hk => wpAny_pyIter_enum he ?_
    have I2 : Inv X pins σ H1 { s1 with heap := h' } := I1.kept (t' := s1.toks) hk
    exact ⟨s1.heap.objs.size + 1, [s1.heap.objs.size + 1, s1.heap.objs.size], _, _, H1, rfl, I2, turn_enumT a (s1.heap.objs.size + 1) s1.heap.objs.size, ⟨⟨.none, he⟩, ⟨_, hit, rfl, rfl⟩, Nat.succ_ne_self _⟩, fp_two I1 I2 hsz, q⟩
theorem pi_enumS (hg : Gl X "enumerate") (hm : X.mg "enumerate" = none) (ha : PA X [e] ta) (hs : starEach [e] X.env = [(false, eval e X.env)] := by rfl) :
    PI X (.Tuple elts kk tpos) (.Call (.Name "enumerate" p) [e] [] pos) (iEnumS ta) := by
  refine ⟨fun pins s σ H R I h => ?_⟩
  refine Call_ (ld_blt I hg hm boot_enumerate (PyProof.Rows.callWith_type1 (thn (ha.run pos pins s σ H _ I h) fun us s1 ⟨vs, H1, I1, r1, q1⟩ => ?_) hs rfl))
  obtain ⟨z, ex, q⟩ := q1
  subst ex
  cases r1 with
  | cons r rr =>
    cases rr
    obtain ⟨t, rfl⟩ := r
    refine call_enum_one (begins_text z t) trivial fun h' he hit hsz hk => wpAny_pyIter_enum he ?_
    have I2 : Inv X pins σ H1 { s1 with heap := h' } := I1.kept (t' := s1.toks) hk
    exact ⟨s1.heap.objs.size + 1, [s1.heap.objs.size + 1, s1.heap.objs.size], _, _, H1, rfl, I2, turn_enumS z t (s1.heap.objs.size + 1) s1.heap.objs.size, ⟨⟨.none, he⟩, ⟨_, hit, rfl, rfl⟩, Nat.succ_ne_self _⟩, fp_two I1 I2 hsz, q⟩
theorem pi_enumA (hg : Gl X "enumerate") (hm : X.mg "enumerate" = none) (ha : PA X [e] ta) (hs : starEach [e] X.env = [(false, eval e X.env)] := by rfl) :
    PI X (.Tuple elts kk tpos) (.Call (.Name "enumerate" p) [e] [] pos) (iEnumA X.K ta) := by
  refine ⟨fun pins s σ H R I h => ?_⟩
  refine Call_ (ld_blt I hg hm boot_enumerate (PyProof.Rows.callWith_type1 (thn (ha.run pos pins s σ H _ I h) fun us s1 ⟨vs, H1, I1, r1, q1⟩ => ?_) hs rfl))
  obtain ⟨a, ex, q⟩ := q1
  subst ex
  cases r1 with
  | cons r rr =>
    cases rr
    cases r
    rcases q with ⟨xs, hq, q⟩ | ⟨xs, hq, q⟩
    · obtain ⟨its, rv, p', hz⟩ := I1.list hq
      refine call_enum_one (begins_list a its.toArray) p'.isList fun h' he hit hsz hk => wpAny_pyIter_enum he ?_
      have I2 : Inv X pins σ H1 { s1 with heap := h' } := I1.kept (t' := s1.toks) hk
      exact ⟨s1.heap.objs.size + 1, [s1.heap.objs.size + 1, s1.heap.objs.size], _, _, H1, rfl, I2, turn_enum a (s1.heap.objs.size + 1) s1.heap.objs.size, ⟨⟨.none, he⟩, ⟨_, hit, rfl, rfl⟩, Nat.succ_ne_self _⟩, fp_two I1 I2 hsz, q⟩
    · obtain ⟨its, rv, p', hz⟩ := I1.tuple hq
      refine call_enum_one (begins_tuple a its.toArray) p' fun h' he hit hsz hk => wpAny_pyIter_enum he ?_
      have I2 : Inv X pins σ H1 { s1 with heap := h' } := I1.kept (t' := s1.toks) hk
      exact ⟨s1.heap.objs.size + 1, [s1.heap.objs.size + 1, s1.heap.objs.size], _, _, H1, rfl, I2, turn_enumT a (s1.heap.objs.size + 1) s1.heap.objs.size, ⟨⟨.none, he⟩, ⟨_, hit, rfl, rfl⟩, Nat.succ_ne_self _⟩, fp_two I1 I2 hsz, q⟩
end
theorem walk_enumT {K : PySem.W.Frag} {a : Addr} {xs : List V} : Walk (IteT K a) xs.length (fun H => SqT K H a xs) (YPair (fun i => some (.int (i : Nat))) (fun i => xs[i]?)) := by
  refine ⟨fun i _ hi q => ⟨xs, xs[i], q, by simp [hi]⟩, fun _ q => ⟨xs, q, Nat.le_refl _⟩, fun i H v H' _ q y => ?_⟩
  obtain ⟨T, x, h1, h2, h3, h4⟩ := y
  exact ⟨T, .int (i : Nat), x, h1, h2, h3, rfl, h4 xs q⟩
theorem walk_enumS {z : Str} : Walk (IteS z) z.cps.size (fun _ => True) (YPair (fun i => some (.int (i : Nat))) (fun i => z.cps[i]?.map fun c => .str ⟨#[c]⟩)) := by
  refine ⟨fun i _ hi _ => hi, fun _ _ => Nat.le_refl _, fun i H v H' _ _ y => ?_⟩
  obtain ⟨T, c, h1, h2, h3, h4⟩ := y
  exact ⟨T, .int (i : Nat), .str ⟨#[c]⟩, h1, h2, h4, rfl, by simp [h3]⟩
end My
namespace My
open PySem PySem.Spec PyProof.Rows L2
def inS (z : Str) (s : Sg) : Bool := !(Builtin.Str.occurrences z s.str 0 z.length 1).isEmpty
def sp_tiles (K : PySem.W.Frag) : Sp := fun vs H Q _ => ∃ (a : Addr) (z : Str) (g : List (List Sg)) (f : Sg → Bool), vs = [.ref a, .str z] ∧ (SqL K H a (g.map lineV) ∨ SqT K H a (g.map lineV)) ∧ g.length ≤ 100 ∧ (∀ l ∈ g, l.length ≤ 100) ∧ (∀ s, inS z s = f s) ∧
  ∀ p ws H', H p = none → Same H H' → H' p = some (.lst ws) → PrsAt H' ws (tiles f g) → Q (.ref p) H'
abbrev s_tiles_with : Stmt := (top 7)
abbrev N_tiles_with : List Str := ["rows", "signs", "row", "line", "column", "sign"]
theorem sc_tiles_with : FnScope N_tiles_with ["rows", "signs"] (defScope s_tiles_with) := ⟨rfl, rfl, rfl, by decide +kernel, rfl, by decide +kernel, by decide +kernel⟩

section
variable {P : Program} {w : World} {K : PySem.W.Frag} {mg : Str → Option Value} {base : Heap}
theorem sameT {K : PySem.W.Frag} {H H' : Hp} {a : Addr} {xs : List V} (s : Same H H') (h : SqT K H a xs) : SqT K H' a xs := by
  rcases h with (h | ⟨o, h⟩) | h
  · exact .inl (.inl (s _ _ h))
  · exact .inl (.inr ⟨o, s _ _ h⟩)
  · exact .inr h
theorem seqA {K : PySem.W.Frag} {H H' : Hp} {a : Addr} {xs : List V} (s : Same H H') (h : SqL K H a xs ∨ SqT K H a xs) : SqL K H' a xs ∨ SqT K H' a xs := by
  rcases h with h | h
  · exact .inl (s.seq h)
  · rcases h with (h | ⟨o, h⟩) | h
    · exact .inr (.inl (.inl (s _ _ h)))
    · exact .inr (.inl (.inr ⟨o, s _ _ h⟩))
    · exact .inr (.inr h)
/-- a list at D in the making, of pairs; H: what stood ahead -/
def Mkg (H : Hp) (D : Addr) (ps : List (Int × Int)) (H' : Hp) : Prop := Same H H' ∧ H D = none ∧ ∃ ws, H' D = some (.lst ws) ∧ PrsAt H' ws ps
theorem Mkg.new {H H' : Hp} {D : Addr} {ps : List (Int × Int)} {p : Addr} {o : HO} (m : Mkg H D ps H') (h : H' p = none) : Mkg H D ps (upd H' p o) :=
  let ⟨s, d, ws, e, q⟩ := m
  ⟨Same.new' s h, d, ws, by rw [upd_ne (ne_of_none e h)]; exact e, q.tx (Tx.new h)⟩
theorem Mkg.add {H H' : Hp} {D : Addr} {ps : List (Int × Int)} {acc : List V} {v : V} {p : Int × Int} (m : Mkg H D ps H') (h : H' D = some (.lst acc)) (y : PrAt H' v p) : Mkg H D (ps ++ [p]) (upd H' D (.lst (acc ++ [v]))) := by
  obtain ⟨s, d, ws, e, q⟩ := m
  rw [h] at e
  cases e
  exact ⟨Same.mut s d, d, _, upd_same, (q.snoc y).tx (Tx.lst h)⟩
theorem Mkg.len {H H' : Hp} {D : Addr} {ps : List (Int × Int)} (m : Mkg H D ps H') : ∃ ws, H' D = some (.lst ws) ∧ ws.length = ps.length := let ⟨_, _, ws, e, q⟩ := m; ⟨ws, e, q.len⟩
theorem lstr_size (l : List Sg) : (lstr l).cps.size = l.length := lstr_len l
theorem ok_tiles {f : Addr} {fd : FuncData} (F : Fun K "tiles_with" "tiles_with" s_tiles_with f fd) (T : Txt mg) : FnOk P w K mg base CX0 1 f fd ["rows", "signs"] (sp_tiles K) := by
  refine F.ok sc_tiles_with (fun vs H Q E h => ?_) (fun cdv A outer s H vs Q E hr h => ?_)
  · obtain ⟨a, z, g, f, rfl, _⟩ := h
    rfl
  · obtain ⟨a, z, g, fz, rfl, hS, hg, hl, hz, q⟩ := h
    refine ⟨_, (pss_one (ps_ret (pe_lc2 (own := [("row", 2), ("line", 3), ("column", 4), ("sign", 5)]) (vs1 := [4, 5]) (g := gTup K 2 (gCons (gName 2) (gCons (gName 3) gNil))) (g1 := gTup K 2 (gCons (gName 4) (gCons (gName 5) gNil))) (tt := tYes) rfl sc_tiles_with.nd (pi_enumA (by rfl) T.b_enumerate (pa_cons (pv 0) pa_nil)) (blkOk_by (N := N_tiles_with) (sc := defScope s_tiles_with) (by decide +kernel)) (by decide +kernel) (fun _ _ _ _ _ => (pg_tup rfl (pgs_cons (pg_name (i := 2) sc_tiles_with.nd rfl (Or.inl rfl)) (pgs_cons (pg_name (i := 3) sc_tiles_with.nd rfl (Or.inl rfl)) pgs_nil)))) (fun _ _ _ _ _ => pts_nil) (fun _ _ _ _ _ => (pi_enumS (by rfl) T.b_enumerate (pa_cons (pv 3) pa_nil))) (fun _ _ _ _ _ => (pg_tup rfl (pgs_cons (pg_name (i := 4) sc_tiles_with.nd rfl (Or.inl rfl)) (pgs_cons (pg_name (i := 5) sc_tiles_with.nd rfl (Or.inl rfl)) pgs_nil)))) (fun _ _ _ _ _ => pts_one (pt_cmpR op_in_str (pv 5) (pv 1) (by rfl))) (fun _ _ _ _ _ => (pe_tup (pa_cons (pv 2) (pa_cons (pv 4) pa_nil))))))), ?_⟩
    have turn : ∀ (D : Addr) (i : Nat) (T0 : Addr) (v : V) (H2 : Hp) (Nx : Hp → Prop), i < g.length → Mkg H D (tilesTo fz g i) H2 → H2 T0 = none → (g.map lineV)[i]? = some v → (∀ H3, Mkg H D (tilesTo fz g (i + 1)) H3 → Nx H3) →
        (gTup K 2 (gCons (gName 2) (gCons (gName 3) gNil))) (.ref T0) (wipe (start N_tiles_with [V.ref a, V.str z]) [2, 3, 4, 5]) (upd H2 T0 (.tup [.int (i : Nat), v])) fun σ2 H3 =>
          wipe σ2 [2, 3, 4, 5] = wipe (start N_tiles_with [V.ref a, V.str z]) [2, 3, 4, 5] ∧ tYes σ2 H3 fun b H4 => if b = true then
            iEnumS (tCons (tVar 3) tNil) σ2 H4 fun J1 H5 => ∃ W1 : Nat → Nat → Hp → Prop, (∃ m, W1 0 m H5) ∧ ∀ j k H, W1 j k H →
              (J1.stop j H ∧ Nx H) ∨ (J1.go j H ∧ ∃ Nx1 : Hp → Prop, (∀ H', Nx1 H' → ∃ k', k' < k ∧ W1 (j + 1) k' H') ∧ ∀ x H', J1.yld j H x H' →
                (gTup K 2 (gCons (gName 4) (gCons (gName 5) gNil))) x (wipe σ2 [4, 5]) H' fun σ3 H5 => wipe σ3 [4, 5] = wipe σ2 [4, 5] ∧ tTest (tOp (fun x y H Q => ∃ i j, x = .str i ∧ y = .str j ∧ Q (.bl (!(Builtin.Str.occurrences j i 0 j.length 1).isEmpty)) H) (tVar 5) (tVar 1)) σ3 H5 fun b H6 =>
                  if b = true then tTup (tCons (tVar 2) (tCons (tVar 4) tNil)) σ3 H6 fun y H7 => ∃ acc, H7 D = some (.lst acc) ∧ acc.length < sizeLine ∧ Nx1 (upd H7 D (.lst (acc ++ [y]))) else Nx1 H6)
          else Nx H4 := by
      intro D i T0 v H2 Nx hi m hT hv hN
      obtain ⟨l, hgl⟩ : ∃ l, g[i]? = some l := ⟨g[i], by simp [hi]⟩
      have ev : v = lineV l := by
        rw [List.getElem?_map, hgl] at hv
        exact (Option.some.inj hv).symm
      subst ev
      have egl : g.getD i [] = l := by rw [List.getD_eq_getElem?_getD, hgl] <;> rfl
      have lm : l.length ≤ 100 := hl l (List.mem_of_getElem? hgl)
      refine ⟨T0, _, rfl, SqT.of upd_same, rfl, _, _, rfl, _, _, rfl, rfl, rfl, _, rfl, lstr l, rfl, it_gen (walk_enumS (z := lstr l)) (fun j H' => Mkg H D (tilesTo fz g i ++ rowTiles fz g i j) H') ?_ (fun _ _ _ _ => trivial) ?_ ?_⟩
      · have e0 : rowTiles fz g i 0 = [] := rfl
        rw [e0, List.append_nil]
        exact m.new hT
      · rintro j x H3 H4 hj mj ⟨T1, u, v, rfl, hT1, rfl, eu, ev⟩
        cases eu
        rw [lstr_size] at hj
        obtain ⟨sg, hsg⟩ : ∃ sg, l[j]? = some sg := ⟨l[j], by simp [hj]⟩
        have ev : ((lstr l).cps[j]?).map (fun c => V.str ⟨#[c]⟩) = some v := ev
        rw [lstr_get, hsg] at ev
        have ev2 : V.str sg.str = v := Option.some.inj ev
        subst ev2
        have hh : hit fz g i j = fz sg := by
          unfold hit
          rw [egl, hsg] <;> rfl
        have m2 := mj.new (o := .tup [.int (j : Nat), .str sg.str]) hT1
        refine ⟨T1, _, rfl, SqT.of upd_same, rfl, _, _, rfl, _, _, rfl, rfl, rfl, _, rfl, _, rfl, _, _, rfl, rfl, _, rfl, if2 (fun hc => ?_) (fun hc => ?_)⟩
        · have hy : hit fz g i j = true := hh.trans ((hz sg).symm.trans hc)
          refine ⟨_, rfl, _, rfl, by show 2 ≤ sizeLine; decide, fun p hp => ?_⟩
          have m3 := m2.new (o := .tup [.int (i : Nat), .int (j : Nat)]) hp
          obtain ⟨ws, e, el⟩ := m3.len
          refine ⟨ws, e, sz3 ?_, ?_⟩
          · rw [el, List.length_append]
            have h1 := tilesTo_len fz g 100 hl i
            have h2 := rowTiles_len fz g i j
            have h3 : i * 100 ≤ 100 * 100 := Nat.mul_le_mul_right _ (by omega)
            omega
          · have m4 := m3.add e (v := .ref p) (p := ((i : Int), (j : Int))) ⟨p, rfl, upd_same⟩
            rw [List.append_assoc, ← rowTiles_yes hy] at m4
            exact m4
        · have hy : hit fz g i j = false := hh.trans ((hz sg).symm.trans hc)
          show Mkg H D (tilesTo fz g i ++ rowTiles fz g i (j + 1)) _
          rw [rowTiles_no hy]
          exact m2
      · intro H3 m3
        refine hN H3 ?_
        rw [tilesTo_succ, egl, ← lstr_size]
        exact m3
    refine ⟨_, rfl, a, rfl, ?_⟩
    have fin : ∀ D H', H D = none → Mkg H D (tilesTo fz g (g.map lineV).length) H' → Q (.ref D) H' := fun D H' hD m => by
      obtain ⟨s, d, ws, e, pr⟩ := m
      rw [List.length_map] at pr
      exact q D ws H' d s e pr
    have m0 : ∀ D, H D = none → Mkg H D (tilesTo fz g 0) (upd H D (.lst [])) := fun D hD => ⟨Same.new hD, hD, [], upd_same, .nil⟩
    rcases hS with hS | hS
    · refine .inl ⟨_, hS, fun D hD => it_gen (walk_enum (xs := g.map lineV)) (fun i H' => Mkg H D (tilesTo fz g i) H') (m0 D hD) (fun i H' _ m => m.1.seq hS) ?_ (fun H' m => fin D H' hD m)⟩
      rintro i x H2 H3 hi m ⟨T1, u, v, rfl, hT1, rfl, eu, ev⟩
      cases eu
      rw [List.length_map] at hi
      exact turn D i T1 v H2 _ hi m hT1 ev fun _ z => z
    · refine .inr ⟨_, hS, fun D hD => it_gen (walk_enumT (xs := g.map lineV)) (fun i H' => Mkg H D (tilesTo fz g i) H') (m0 D hD) (fun i H' _ m => sameT m.1 hS) ?_ (fun H' m => fin D H' hD m)⟩
      rintro i x H2 H3 hi m ⟨T1, u, v, rfl, hT1, rfl, eu, ev⟩
      cases eu
      rw [List.length_map] at hi
      exact turn D i T1 v H2 _ hi m hT1 ev fun _ z => z
end
end My
namespace My
open PySem PySem.Spec PyProof.Rows L2
def sp_places : Sp := fun vs H Q _ => ∃ (h w : Nat), vs = [.int h, .int w] ∧ h ≤ 100 ∧ w ≤ 100 ∧ ∀ p ws H', H p = none → Same H H' → H' p = some (.lst ws) → PrsAt H' ws (places h w) → Q (.ref p) H'
abbrev s_port_places : Stmt := (top 9)
abbrev N_port_places : List Str := ["height", "width", "over", "right", "under", "left", "column", "row"]
theorem sc_port_places : FnScope N_port_places ["height", "width"] (defScope s_port_places) := ⟨rfl, rfl, rfl, by decide +kernel, rfl, by decide +kernel, by decide +kernel⟩

section
variable {P : Program} {w : World} {K : PySem.W.Frag} {mg : Str → Option Value} {base : Heap}
theorem mkg0 {H : Hp} {D : Addr} (hD : H D = none) : Mkg H D [] (upd H D (.lst [])) := ⟨Same.new hD, hD, [], upd_same, .nil⟩
theorem ok_places {f : Addr} {fd : FuncData} (F : Fun K "port_places" "port_places" s_port_places f fd) (T : Txt mg) : FnOk P w K mg base CX0 1 f fd ["height", "width"] sp_places := by
  refine F.ok sc_port_places (fun vs H Q E h => ?_) (fun cdv A outer s H vs Q E hr h => ?_)
  · obtain ⟨hh, ww, rfl, _⟩ := h
    rfl
  · obtain ⟨hh, ww, rfl, h1, w1, q⟩ := h
    have eh : ((hh : Int)).toNat = hh := by omega
    have ew : ((ww : Int)).toNat = ww := by omega
    refine ⟨_, (pss_cons (ps_setLcG (i := 2) (own := [("column", 6)]) (g := gName 6)  rfl sc_port_places.nd rfl rfl (sw_true rfl rfl rfl (by decide +kernel)) (pi_range1 (by rfl) T.b_range (pa_cons (pv 1) pa_nil)) (blkOk_by (N := N_port_places) (sc := defScope s_port_places) (by decide +kernel)) (fun _ _ _ _ _ => (pg_name (i := 6) sc_port_places.nd rfl (Or.inl rfl))) (fun _ _ _ _ _ => pts_nil) (fun _ _ _ _ _ => (pe_tup (pa_cons (pe_un un_neg pe_int) (pa_cons (pv 6) pa_nil)))))
    (pss_cons (ps_setLcG (i := 3) (own := [("row", 7)]) (g := gName 7)  rfl sc_port_places.nd rfl rfl (sw_true rfl rfl rfl (by decide +kernel)) (pi_range1 (by rfl) T.b_range (pa_cons (pv 0) pa_nil)) (blkOk_by (N := N_port_places) (sc := defScope s_port_places) (by decide +kernel)) (fun _ _ _ _ _ => (pg_name (i := 7) sc_port_places.nd rfl (Or.inl rfl))) (fun _ _ _ _ _ => pts_nil) (fun _ _ _ _ _ => (pe_tup (pa_cons (pv 7) (pa_cons (pv 1) pa_nil)))))
    (pss_cons (ps_setLcG (i := 4) (own := [("column", 6)]) (g := gName 6)  rfl sc_port_places.nd rfl rfl (sw_true rfl rfl rfl (by decide +kernel)) (pi_range1 (by rfl) T.b_range (pa_cons (pv 1) pa_nil)) (blkOk_by (N := N_port_places) (sc := defScope s_port_places) (by decide +kernel)) (fun _ _ _ _ _ => (pg_name (i := 6) sc_port_places.nd rfl (Or.inl rfl))) (fun _ _ _ _ _ => pts_nil) (fun _ _ _ _ _ => (pe_tup (pa_cons (pv 0) (pa_cons (pv 6) pa_nil)))))
    (pss_cons (ps_setLcG (i := 5) (own := [("row", 7)]) (g := gName 7)  rfl sc_port_places.nd rfl rfl (sw_true rfl rfl rfl (by decide +kernel)) (pi_range1 (by rfl) T.b_range (pa_cons (pv 0) pa_nil)) (blkOk_by (N := N_port_places) (sc := defScope s_port_places) (by decide +kernel)) (fun _ _ _ _ _ => (pg_name (i := 7) sc_port_places.nd rfl (Or.inl rfl))) (fun _ _ _ _ _ => pts_nil) (fun _ _ _ _ _ => (pe_tup (pa_cons (pv 7) (pa_cons (pe_un un_neg pe_int) pa_nil)))))
    (pss_one (ps_ret (pe_op op_cat (pe_op op_cat (pe_op op_cat (pv 2) (pv 3)) (pv 4)) (pv 5)))))))), ?_⟩
    refine ⟨_, rfl, _, rfl, by omega, by omega, fun D1 hD1 => it_gen walk_range (fun i H' => Mkg H D1 (pfx pUp i) H') (mkg0 hD1) (fun _ _ _ _ => trivial) ?_ fun H1 m1 => ?_⟩
    · rintro i x H1 H2 hi m ⟨rfl, rfl⟩
      refine ⟨rfl, _, rfl, _, rfl, by show 2 ≤ sizeLine; decide, fun p hp => ?_⟩
      have m3 := m.new (o := .tup [.int (-1), .int (0 + (i : Int))]) hp
      obtain ⟨ws, e, el⟩ := m3.len
      refine ⟨ws, e, sz3 (by rw [el, pfx_len]; omega), ?_⟩
      have m4 := m3.add e (v := .ref p) (p := pUp i) ⟨p, rfl, by rw [upd_same, Int.zero_add] <;> rfl⟩
      rw [← pfx_succ] at m4
      exact m4
    rw [ew] at m1
    obtain ⟨s1, d1, ws1, e1, p1⟩ := m1
    refine ⟨_, rfl, _, rfl, by omega, by omega, fun D2 hD2 => it_gen walk_range (fun i H' => Mkg H1 D2 (pfx (pRt ww) i) H') (mkg0 hD2) (fun _ _ _ _ => trivial) ?_ fun H2 m2 => ?_⟩
    · rintro i x H1 H2 hi m ⟨rfl, rfl⟩
      refine ⟨rfl, _, rfl, _, rfl, by show 2 ≤ sizeLine; decide, fun p hp => ?_⟩
      have m3 := m.new (o := .tup [.int (0 + (i : Int)), .int ww]) hp
      obtain ⟨ws, e, el⟩ := m3.len
      refine ⟨ws, e, sz3 (by rw [el, pfx_len]; omega), ?_⟩
      have m4 := m3.add e (v := .ref p) (p := pRt ww i) ⟨p, rfl, by rw [upd_same, Int.zero_add] <;> rfl⟩
      rw [← pfx_succ] at m4
      exact m4
    rw [eh] at m2
    obtain ⟨s2, d2, ws2, e2, p2⟩ := m2
    refine ⟨_, rfl, _, rfl, by omega, by omega, fun D3 hD3 => it_gen walk_range (fun i H' => Mkg H2 D3 (pfx (pDn hh) i) H') (mkg0 hD3) (fun _ _ _ _ => trivial) ?_ fun H3 m3 => ?_⟩
    · rintro i x H1 H2 hi m ⟨rfl, rfl⟩
      refine ⟨rfl, _, rfl, _, rfl, by show 2 ≤ sizeLine; decide, fun p hp => ?_⟩
      have m3 := m.new (o := .tup [.int hh, .int (0 + (i : Int))]) hp
      obtain ⟨ws, e, el⟩ := m3.len
      refine ⟨ws, e, sz3 (by rw [el, pfx_len]; omega), ?_⟩
      have m4 := m3.add e (v := .ref p) (p := pDn hh i) ⟨p, rfl, by rw [upd_same, Int.zero_add] <;> rfl⟩
      rw [← pfx_succ] at m4
      exact m4
    rw [ew] at m3
    obtain ⟨s3, d3, ws3, e3, p3⟩ := m3
    refine ⟨_, rfl, _, rfl, by omega, by omega, fun D4 hD4 => it_gen walk_range (fun i H' => Mkg H3 D4 (pfx pLf i) H') (mkg0 hD4) (fun _ _ _ _ => trivial) ?_ fun H4 m4 => ?_⟩
    · rintro i x H1 H2 hi m ⟨rfl, rfl⟩
      refine ⟨rfl, _, rfl, _, rfl, by show 2 ≤ sizeLine; decide, fun p hp => ?_⟩
      have m3 := m.new (o := .tup [.int (0 + (i : Int)), .int (-1)]) hp
      obtain ⟨ws, e, el⟩ := m3.len
      refine ⟨ws, e, sz3 (by rw [el, pfx_len]; omega), ?_⟩
      have m4 := m3.add e (v := .ref p) (p := pLf i) ⟨p, rfl, by rw [upd_same, Int.zero_add] <;> rfl⟩
      rw [← pfx_succ] at m4
      exact m4
    rw [eh] at m4
    obtain ⟨s4, d4, ws4, e4, p4⟩ := m4
    have l1 := p1.len
    have l2 := p2.len
    have l3 := p3.len
    have l4 := p4.len
    rw [pfx_len] at l1 l2 l3 l4
    have a1 := s4 _ _ (s3 _ _ (s2 _ _ e1))
    have a2 := s4 _ _ (s3 _ _ e2)
    have a3 := s4 _ _ e3
    refine ⟨_, rfl, _, rfl, D1, D2, ws1, ws2, rfl, rfl, a1, a2, sz2 (by omega), fun r1 hr1 => ?_⟩
    have n1 := Same.new (o := .lst (ws1 ++ ws2)) hr1
    refine ⟨_, rfl, r1, D3, _, ws3, rfl, rfl, upd_same, n1 _ _ a3, sz2 (by rw [List.length_append]; omega), fun r2 hr2 => ?_⟩
    have n2 := Same.new' n1 (o := .lst (ws1 ++ ws2 ++ ws3)) hr2
    refine ⟨_, rfl, r2, D4, _, ws4, rfl, rfl, upd_same, n2 _ _ e4, sz2 (by rw [List.length_append, List.length_append]; omega), fun r3 hr3 => ?_⟩
    have n3 := Same.new' n2 (o := .lst (ws1 ++ ws2 ++ ws3 ++ ws4)) hr3
    have s04 := ((s1.trans s2).trans s3).trans s4
    refine q r3 _ _ ((s04.trans n2).free hr3) (s04.trans n3) upd_same ?_
    have t4 := Tx.of n3
    have t3 := (Tx.of s4).trans t4
    have t2 := (Tx.of s3).trans t3
    have t1 := (Tx.of s2).trans t2
    exact Paired.app (Paired.app (Paired.app (p1.tx t1) (p2.tx t2)) (p3.tx t3)) (p4.tx t4)
end
end My
namespace My
open PySem PySem.Spec PyProof.Rows L2
/-- the class Room, as far as its constants go -/
structure RoomC (K : PySem.W.Frag) (mg : Str → Option Value) (C : Addr) : Prop where
  g_Room : mg "Room" = some (.ref C)
  rd : ∃ mc, ClX.CRead K C mc ∧ (∃ u, ClX.CVal K C mc "MAX_SIZE" (.int 8) u) ∧ (∃ u, ClX.CVal K C mc "MAX_TURNING" (.int 10) u)
structure TxtC (K : PySem.W.Frag) (mg : Str → Option Value) (C : Addr) : Prop extends Txt mg, RoomC K mg C
def sp_fault (K : PySem.W.Frag) : Sp := fun vs H Q _ => ∃ (a : Addr) (i al w : Nat) (g : List (List Sg)) (l : List Sg), vs = [.ref a, .int i, .int al] ∧ SqT K H a (g.map lineV) ∧ Grid 8 10 g w ∧ g[i]? = some l ∧ lcount l ≤ al ∧ ∀ H', Same H H' → Q .non H'
def sp_check (K : PySem.W.Frag) : Sp := fun vs H Q _ => ∃ (a : Addr) (w : Nat) (g : List (List Sg)), vs = [.ref a] ∧ SqT K H a (g.map lineV) ∧ Grid 8 10 g w ∧ ∀ H', Same H H' → Q .non H'
theorem inS_all (s : Sg) : inS ".rfRF" s = true := by cases s <;> decide +kernel
theorem inS_rf (s : Sg) : inS "rf" s = s.tur := in_rf s
abbrev s_fault_in_row : Stmt := (top 30)
abbrev N_fault_in_row : List Str := ["rows", "number", "allowed", "row", "width", "column", "sign"]
theorem sc_fault_in_row : FnScope N_fault_in_row ["rows", "number", "allowed"] (defScope s_fault_in_row) := ⟨rfl, rfl, rfl, by decide +kernel, rfl, by decide +kernel, by decide +kernel⟩

abbrev s_check_rows : Stmt := (top 31)
abbrev N_check_rows : List Str := ["rows", "allowed", "number", "row", "column"]
theorem sc_check_rows : FnScope N_check_rows ["rows"] (defScope s_check_rows) := ⟨rfl, rfl, rfl, by decide +kernel, rfl, by decide +kernel, by decide +kernel⟩

section
variable {P : Program} {w : World} {K : PySem.W.Frag} {mg : Str → Option Value} {base : Heap}
theorem ok_fault {f C : Addr} {fd : FuncData} (F : Fun K "fault_in_row" "fault_in_row" s_fault_in_row f fd) (T : TxtC K mg C) : FnOk P w K mg base CX0 1 f fd ["rows", "number", "allowed"] (sp_fault K) := by
  refine F.ok sc_fault_in_row (fun vs H Q E h => ?_) (fun cdv A outer s H vs Q E hr h => ?_)
  · obtain ⟨a, i, al, ww, g, l, rfl, _⟩ := h
    rfl
  · obtain ⟨a, i, al, ww, g, l, rfl, hS, G, hi, hal, q⟩ := h
    obtain ⟨mc, cr, ⟨u8, c8⟩, ⟨u10, c10⟩⟩ := T.rd
    have hig := (List.getElem?_eq_some_iff.mp hi).1
    have lw := G.ln l (List.mem_of_getElem? hi)
    have hgm := G.hm
    have hwm := G.wm
    have hw0 := G.w0
    have hm : (g.map lineV)[i]? = some (lineV l) := by rw [List.getElem?_map, hi] <;> rfl
    obtain ⟨l0, hl0⟩ : ∃ l0, g[0]? = some l0 := ⟨g[0]'(G.h0), by simp [G.h0]⟩
    have lw0 := G.ln l0 (List.mem_of_getElem? hl0)
    have hm0 : (g.map lineV)[0]? = some (lineV l0) := by rw [List.getElem?_map, hl0] <;> rfl
    refine ⟨_, (pss_cons (ps_set (i := 3) sc_fault_in_row.nd rfl (Or.inl rfl) (pe_ix ix_tup (pv 0) (pv 1) (fun _ _ => rfl)))
    (pss_cons (ps_if (PW.pt (pw_or (pt_cmpR op_eq (pv 1) (ClX.pe_cval (pe_gr T.g_Room)) (nomark _)) (pw_or (pt_not (pt_val (pe_callB call_isi (by rfl) T.b_isinstance (by decide +kernel) (pa_cons (pv 3) (pa_cons (pe_bltn (v := .ty "str") (u := .type "str") (by rfl) T.b_str (by decide +kernel) rfl) pa_nil))))) (pw_or1 (pt_not (pt_truth (pv 3) (by intro _; rfl)))))))
      (pss_one (ps_ret pe_int))
      pss_nil)
    (pss_cons (ps_set (i := 4) sc_fault_in_row.nd rfl (Or.inl rfl) (pe_callB (call_min2 rfl) (by rfl) T.b_min (by decide +kernel) (pa_cons (pe_callB call_len_str (by rfl) T.b_len PySem.boot_len (pa_cons (pe_ix ix_tup (pv 0) pe_int (fun _ _ => rfl)) pa_nil)) (pa_cons (ClX.pe_cval (pe_gr T.g_Room)) pa_nil))))
    (pss_cons (ps_for PassesOwn.never rfl (pi_enumS (by rfl) T.b_enumerate (pa_cons (pv 3) pa_nil)) (pg_tup rfl (pgs_cons (pg_name (i := 5) sc_fault_in_row.nd rfl (Or.inl rfl)) (pgs_cons (pg_name (i := 6) sc_fault_in_row.nd rfl (Or.inl rfl)) pgs_nil)))
      (pss_cons (ps_if (PW.pt (pw_or (pt_cmpR op_eq (pv 5) (pv 4) (nomark _)) (pw_or1 (pt_cmpR op_notIn_str (pv 6) (pe_gs T.v_SIGNS) (by rfl)))))
        (pss_one (ps_ret (pv 5)))
        pss_nil)
      (pss_one (ps_if (pt_cmpR op_in_str (pv 6) (pe_gs T.v_TURNING) (by rfl))
        (pss_cons (ps_if (pt_cmpR op_eq (pv 2) pe_int (nomark _))
          (pss_one (ps_ret (pv 5)))
          pss_nil)
        (pss_one (ps_set (i := 2) sc_fault_in_row.nd rfl (Or.inl rfl) (pe_op op_sub (pv 2) pe_int))))
        pss_nil))))
    (pss_cons (ps_if (pt_cmpR op_lt (pe_callB call_len_str (by rfl) T.b_len PySem.boot_len (pa_cons (pv 3) pa_nil)) (pv 4) (nomark _))
      (pss_one (ps_ret (pe_callB call_len_str (by rfl) T.b_len PySem.boot_len (pa_cons (pv 3) pa_nil))))
      pss_nil)
    (pss_one (ps_ret pe_non))))))), ?_⟩
    refine ⟨_, rfl, _, rfl, a, _, _, _, rfl, rfl, hS, atI_nat hm, ?_⟩
    refine ⟨_, rfl, C, mc, _, _, rfl, cr, c8, rfl, _, rfl, ?_⟩
    refine ifF (dF (by intro z; injection z with z; omega)) ?_
    refine ⟨_, rfl, _, _, _, _, true, rfl, .ty "str", .base (.str _), kit_ty (by decide +kernel), _, rfl, ?_⟩
    refine ifF rfl ?_
    refine ⟨_, rfl, true, ⟨sz2 (by rw [lstr_len]; omega), ?_⟩, ?_⟩
    · rw [lstr_len, lw]
      symm
      simp
      omega
    refine ifF rfl ?_
    refine ⟨_, rfl, a, _, _, _, rfl, rfl, hS, atI_nat hm0, lstr l0, rfl, sz2 (by rw [lstr_len]; omega), C, mc, _, _, rfl, cr, c8, _, _, rfl, ?_⟩
    have e8 : (if (8 : Int) < ((lstr l0).length : Nat) then (8 : Int) else ((lstr l0).length : Nat)) = (ww : Int) := by
      rw [lstr_len, lw0]
      split <;> omega
    rw [e8]
    refine ⟨_, rfl, lstr l, rfl, for_it (walk_enumS (z := lstr l)) (fun j σ H' => ∃ v1 v2, σ = [some (.ref a), some (.int i), some (.int ((al - lcount (l.take j) : Nat) : Int)), some (lineV l), some (.int ww), v1, v2] ∧ Same H H') ⟨none, none, ?_, Same.refl H⟩ (fun _ _ _ _ _ => trivial) ?_ ?_⟩
    · show _ = [some (V.ref a), some (.int i), some (.int ((al - 0 : Nat) : Int)), some (lineV l), some (.int ww), none, none]
      rfl
    · rintro j x σ H2 H3 hj ⟨v1, v2, rfl, s2⟩ ⟨T1, u, v, rfl, hT1, rfl, eu, ev⟩
      cases eu
      rw [lstr_size] at hj
      obtain ⟨sg, hsg⟩ : ∃ sg, l[j]? = some sg := ⟨l[j], by simp [hj]⟩
      have ev : ((lstr l).cps[j]?).map (fun c => V.str ⟨#[c]⟩) = some v := ev
      rw [lstr_get, hsg] at ev
      have ev2 : V.str sg.str = v := Option.some.inj ev
      subst ev2
      have ct := lcount_take hsg
      have cl := lcount_take_le l (j + 1)
      have s3 := Same.new' s2 (o := .tup [.int (j : Nat), .str sg.str]) hT1
      refine ⟨T1, _, rfl, SqT.of upd_same, rfl, _, _, rfl, _, _, rfl, rfl, ?_⟩
      refine ⟨_, rfl, _, rfl, rfl, _, rfl, ifF (dF (by intro z; injection z with z; omega)) ?_⟩
      refine ⟨_, rfl, _, _, rfl, rfl, _, rfl, ifF (by rw [show (!(Builtin.Str.occurrences (".rfRF" : Str) sg.str 0 (".rfRF" : Str).length 1).isEmpty) = true from inS_all sg] <;> rfl) ?_⟩
      refine ⟨_, rfl, _, _, rfl, rfl, _, rfl, if2 (fun hc => ?_) (fun hc => ?_)⟩
      · have ht : sg.tur = true := (in_rf sg).symm.trans hc
        rw [ht] at ct
        simp only [if_true] at ct
        refine ⟨_, rfl, rfl, _, rfl, ifF (dF (by intro z; injection z with z; omega)) ?_⟩
        refine ⟨_, rfl, _, _, rfl, rfl, some (.int (j : Nat)), some (.str sg.str), ?_, s3⟩
        have e : ((al - lcount (l.take j) : Nat) : Int) - 1 = ((al - lcount (l.take (j + 1)) : Nat) : Int) := by omega
        rw [← e] <;> rfl
      · have ht : sg.tur = false := (in_rf sg).symm.trans hc
        rw [ht] at ct
        have e : lcount (l.take (j + 1)) = lcount (l.take j) := by simpa using ct
        rw [e]
        exact ⟨_, _, rfl, s3⟩
    · rintro σ H2 ⟨v1, v2, rfl, s2⟩
      refine ⟨_, rfl, lstr l, rfl, sz2 (by rw [lstr_len]; omega), _, rfl, _, _, rfl, rfl, _, rfl, ifF (dF (by rw [lstr_len, lw]; omega)) ?_⟩
      exact q H2 s2
theorem ok_check {f C : Addr} {fd : FuncData} (F : Fun K "check_rows" "check_rows" s_check_rows f fd) (T : TxtC K mg C) (g_fault_in_row : GF P w K mg base "fault_in_row" 1 (sp_fault K)) (g_tiles_with : GF P w K mg base "tiles_with" 1 (sp_tiles K)) : FnOk P w K mg base CX0 2 f fd ["rows"] (sp_check K) := by
  refine F.ok sc_check_rows (fun vs H Q E h => ?_) (fun cdv A outer s H vs Q E hr h => ?_)
  · obtain ⟨a, ww, g, rfl, _⟩ := h
    rfl
  · obtain ⟨a, ww, g, rfl, hS, G, q⟩ := h
    obtain ⟨mc, cr, ⟨u8, c8⟩, ⟨u10, c10⟩⟩ := T.rd
    have hgm := G.hm
    have htu := G.tu
    have hwm := G.wm
    refine ⟨_, (pss_cons (ps_if (pt_not (pt_truth (pv 0) (by intro _; rfl)))
      (pss_one ps_never)
      pss_nil)
    (pss_cons (ps_set (i := 1) sc_check_rows.nd rfl (Or.inl rfl) (ClX.pe_cval (pe_gr T.g_Room)))
    (pss_one (ps_for PassesOwn.never rfl (pi_enumT (by rfl) T.b_enumerate (pa_cons (pv 0) pa_nil)) (pg_tup rfl (pgs_cons (pg_name (i := 2) sc_check_rows.nd rfl (Or.inl rfl)) (pgs_cons (pg_name (i := 3) sc_check_rows.nd rfl (Or.inl rfl)) pgs_nil)))
      (pss_cons (ps_set (i := 4) sc_check_rows.nd rfl (Or.inl rfl) (pe_c g_fault_in_row (hr.mono (by decide)) passL (pa_cons (pv 0) (pa_cons (pv 2) (pa_cons (pv 1) pa_nil)))))
      (pss_cons (ps_if (pt_cmpR op_notN (pv 4) pe_non (nomark _))
        (pss_one ps_never)
        pss_nil)
      (pss_one (ps_set (i := 1) sc_check_rows.nd rfl (Or.inl rfl) (pe_op op_sub (pv 1) (pe_callB call_len_seq (by rfl) T.b_len PySem.boot_len (pa_cons (pe_c g_tiles_with (hr.mono (by decide)) passL (pa_cons (pe_lst (pa_cons (pv 3) pa_nil)) (pa_cons (pe_gs T.v_TURNING) pa_nil))) pa_nil))))))))))), ?_⟩
    refine ⟨_, rfl, true, .inr (.inl ⟨_, hS, ?_⟩), ?_⟩
    · cases g with
      | nil => exact absurd G.h0 (by simp)
      | cons x r => rfl
    refine ifF rfl ?_
    refine ⟨C, mc, _, _, rfl, cr, c10, ?_⟩
    refine ⟨_, rfl, a, _, rfl, hS, for_it (walk_enumT (xs := g.map lineV)) (fun i σ H' => ∃ v1 v2 v3, σ = [some (.ref a), some (.int ((10 - gcount (g.take i) : Nat) : Int)), v1, v2, v3] ∧ Same H H') ⟨none, none, none, rfl, Same.refl H⟩ (fun i σ H' _ ⟨_, _, _, _, s2⟩ => sameT s2 hS) ?_ ?_⟩
    · rintro i x σ H2 H3 hi ⟨v1, v2, v3, rfl, s2⟩ ⟨T1, u, v, rfl, hT1, rfl, eu, ev⟩
      cases eu
      rw [List.length_map] at hi
      obtain ⟨l, hl⟩ : ∃ l, g[i]? = some l := ⟨g[i], by simp [hi]⟩
      have ev : (g.map lineV)[i]? = some v := ev
      rw [List.getElem?_map, hl] at ev
      have ev2 : lineV l = v := Option.some.inj ev
      subst ev2
      have ct := gcount_take hl
      have cl := gcount_take_le g (i + 1)
      have lw := G.ln l (List.mem_of_getElem? hl)
      have s3 := Same.new' s2 (o := .tup [.int (i : Nat), lineV l]) hT1
      refine ⟨T1, _, rfl, SqT.of upd_same, rfl, _, _, rfl, _, _, rfl, rfl, ?_⟩
      refine ⟨_, rfl, _, rfl, _, rfl, a, i, 10 - gcount (g.take i), ww, g, l, rfl, sameT s3 hS, G, hl, by omega, fun H4 s4 => ?_⟩
      have s5 := s3.trans s4
      refine ⟨_, rfl, rfl, _, rfl, ifF (by simp) ?_⟩
      have hl1 : ∀ x ∈ [l], x.length ≤ 100 := fun x hx => by
        have e : x = l := by simpa using hx
        rw [e]
        omega
      refine ⟨_, rfl, _, rfl, by show 1 ≤ sizeLine; decide, fun p hp => ?_⟩
      have s6 := Same.new' s5 (o := .lst [lineV l]) hp
      refine ⟨p, "rf", [l], Sg.tur, rfl, .inl (SqL.of upd_same), by simp, hl1, inS_rf, fun p2 ws H5 hp2 s7 e7 pr => ?_⟩
      have hlen : ws.length = lcount l := by rw [pr.len, tiles_one]
      refine ⟨p2, ws, rfl, .inl (SqL.of e7), _, _, rfl, rfl, some (.int (i : Nat)), some (lineV l), some .non, ?_, s6.trans s7⟩
      have e : ((10 - gcount (g.take i) : Nat) : Int) - (ws.length : Nat) = ((10 - gcount (g.take (i + 1)) : Nat) : Int) := by omega
      rw [← e] <;> rfl
    · rintro σ H2 ⟨v1, v2, v3, rfl, s2⟩
      exact q H2 s2
end
end My
/-! an own class by signs: len, [], ~, bool, ==, !=; C( *xs) -/
namespace My
open PySem PySem.Spec PyProof.Rows L2
section
variable {X : Cx} {k : Nat} {f C : Addr} {sp : Sp} {E : XK} {pins : List (Addr × Obj)} {σ : L2.St} {H : Hp} {s : Shared} {Q : VK} {us : List Value} {vs : List V}
/-- a def's run one unit further in -/
theorem run_in1 (F : FnR X.prog X.w X.K X.mg X.base (L2.CX X.prog X.w) k f sp) (hr : Room (k + 1) X.A) (hx : Passes (L2.CX X.prog X.w) X E) (I : Inv X pins σ H s) (r : Vals vs us) (h : sp vs H Q E) :
    wpAny (model X.prog X.w) X.A.in1 (call (.ref f) us) (EP X pins σ Q) X.xe s :=
  wpAny_call (codeAny_mono (F X.A.in1 X.stack s H us vs Q E hr.in1 I.env0.in1 r h) fun r s' hq => by
    cases r with
    | error e => exact hx pins σ H s e s' I hq
    | ok fl =>
      cases fl with
      | ret u => exact I.after hq
      | next => exact hq.elim
      | brk => exact hq.elim
      | cont => exact hq.elim)
theorem run_in2 (F : FnR X.prog X.w X.K X.mg X.base (L2.CX X.prog X.w) k f sp) (hr : Room (k + 2) X.A) (hx : Passes (L2.CX X.prog X.w) X E) (I : Inv X pins σ H s) (r : Vals vs us) (h : sp vs H Q E) :
    wpAny (model X.prog X.w) X.A.in1.in1 (call (.ref f) us) (EP X pins σ Q) X.xe s :=
  wpAny_call (codeAny_mono (F X.A.in1.in1 X.stack s H us vs Q E hr.in1.in1 I.env0.in1.in1 r h) fun r s' hq => by
    cases r with
    | error e => exact hx pins σ H s e s' I hq
    | ok fl =>
      cases fl with
      | ret u => exact I.after hq
      | next => exact hq.elim
      | brk => exact hq.elim
      | cont => exact hq.elim)
/-- a method of the class at C, by its name, at f -/
structure MOf (K : PySem.W.Frag) (C : Addr) (m : Str) (f : Addr) : Prop where
  at_ : PySem.W.findIn K (.ref C) m = some (some (.ref f))
  fn : PySem.W.isFn K (.ref f) = true
theorem inst_at {a dx : Addr} {fs : List (Str × V)} (I : Inv X pins σ H s) (e : H a = some (.ins C dx fs)) : ∃ od, PySem.W.InstAt s.heap a (PySem.W.instObj C dx) C (some od) := by
  obtain ⟨mA, O, _⟩ := ins_get I.hok e
  obtain ⟨od, J, _⟩ := O.look
  exact ⟨od, J⟩
theorem rR (a : Addr) : RelV (.ref a) (.ref a) := rfl
/-- len(o) -/
theorem call_lenO (m : MOf X.K C "__len__" f) (F : FnR X.prog X.w X.K X.mg X.base (L2.CX X.prog X.w) k f sp) (hr : Room (k + 1) X.A) : CallR X (.builtin "len") (fun xs H Q => ∃ (a dx : Addr) (fs : List (Str × V)), xs = [.ref a] ∧ H a = some (.ins C dx fs) ∧
    sp [.ref a] H (fun v H' => ∃ n : Int, v = .int n ∧ 0 ≤ n ∧ n < 2 ^ 63 ∧ Q (.int n) H') E0) := by
  intro pins s σ H xs us Q I r h
  obtain ⟨a, dx, fs, rfl, ea, q⟩ := h
  obtain rfl := Vals.ref1 r
  obtain ⟨od, J⟩ := inst_at I ea
  obtain ⟨mm, hF⟩ := I.fr
  refine PySem.W.len_K hF I.ok.mod.kin J m.at_ m.fn (wpAny_mono (run_in1 F hr passL I (.cons (rR a) .nil) q) (fun u s' z => ?_) fun _ _ e => e)
  obtain ⟨v, H', I', rv, n, rfl, n0, n1, q'⟩ := z
  obtain ⟨t, rfl⟩ := rv
  exact ⟨⟨n0, n1⟩, .int n, H', I'.tok _, ⟨_, rfl⟩, q'⟩
/-- ~o -/
theorem un_invO (m : MOf X.K C "__invert__" f) (F : FnR X.prog X.w X.K X.mg X.base (L2.CX X.prog X.w) k f sp) (hr : Room k X.A) : UnR X (unaryOp .Invert) (fun x H Q => ∃ (a dx : Addr) (fs : List (Str × V)), x = .ref a ∧ H a = some (.ins C dx fs) ∧ sp [.ref a] H Q E0) := by
  intro pins s σ H x v Q I r h
  obtain ⟨a, dx, fs, rfl, ea, q⟩ := h
  obtain rfl : v = Value.ref a := r
  obtain ⟨od, J⟩ := inst_at I ea
  obtain ⟨mm, hF⟩ := I.fr
  exact PySem.W.ksp_inv hF I.ok.mod.kin J m.at_ m.fn (wpAny_call (run_fnR (E := E0) F hr passL I (.cons (rR a) .nil) q))
/-- o[e] -/
def tGetO (C : Addr) (sp : Sp) (E : XK) : R2 := fun x y H Q => ∃ (a dx : Addr) (fs : List (Str × V)), x = .ref a ∧ H a = some (.ins C dx fs) ∧ sp [.ref a, y] H Q E
theorem pe_getO {a b : Expr} {ta tb : TE} {pos : Pos} (m : MOf X.K C "__getitem__" f) (hn : PySem.W.fnIn X.K f = true) (F : FnR X.prog X.w X.K X.mg X.base (L2.CX X.prog X.w) k f sp) (hr : Room (k + 1) X.A) (hx : Passes (L2.CX X.prog X.w) X E) (ha : PE X a ta) (hb : PE X b tb)
    (hs : ∀ o i, subscripted b true o i = runValue (.builtin "lifetime.subscript" ⟨[o, i], []⟩) := by intro _ _; rfl) : PE X (.Subscript a b pos) (tOp (tGetO C sp E) ta tb) := by
  refine ⟨fun pins s σ H Q I h => ?_⟩
  refine Subscript_ (binT ha hb I h fun v u s2 x y H2 I2 rx ry q => ?_)
  obtain ⟨z, dx, fs, rfl, ea, q⟩ := q
  obtain rfl : v = Value.ref z := rx
  obtain ⟨od, J⟩ := inst_at I2 ea
  obtain ⟨mm, hF⟩ := I2.fr
  exact PySem.W.sub_K hF I2.ok.mod.kin J m.at_ hn m.fn (run_in1 F hr hx I2 (.cons (rR z) (.cons ry .nil)) q) (hs _ _)
/-- o == y, y of the class too, or a list -/
def rEqO (K : PySem.W.Frag) (C : Addr) (sp : Sp) (neg : Bool) : R2 := fun x y H Q => ∃ (a b dx : Addr) (fs : List (Str × V)), x = .ref a ∧ y = .ref b ∧ H a = some (.ins C dx fs) ∧
  ((∃ dy gs, H b = some (.ins C dy gs)) ∨ (neg = false ∧ (∃ ys, H b = some (.lst ys)) ∧ PySem.W.notFirst K C (.type "list") = true)) ∧ sp [.ref a, .ref b] H (fun v H' => ∃ c, v = .bl c ∧ Q (.bl (c != neg)) H') E0
theorem op_eqO (m : MOf X.K C "__eq__" f) (F : FnR X.prog X.w X.K X.mg X.base (L2.CX X.prog X.w) k f sp) (hr : Room k X.A) : OpR X (compareOp .Eq) (rEqO X.K C sp false) := by
  intro pins s σ H x y v u Q I rx ry h
  obtain ⟨a, b, dx, fs, rfl, rfl, ea, eb, q⟩ := h
  cases rx
  cases ry
  obtain ⟨od, J⟩ := inst_at I ea
  obtain ⟨mm, hF⟩ := I.fr
  have fin : ∀ tb, PySem.W.Looks (model X.prog X.w) s.heap (typeOf (.ref b)) tb → PySem.W.notFirst X.K C tb = true → wpAny (model X.prog X.w) X.A (compareOp .Eq (.ref a) (.ref b)) (EP X pins σ Q) X.xe s := fun tb L hn => by
    show wpAny _ _ (richCompare .Eq (.ref a) (.ref b)) _ _ _
    refine PySem.W.cmp_K (op := .Eq) (tb := tb) hr.units0 hF I.ok.mod.kin J L hn m.at_ m.fn (wpAny_mono (wpAny_call (run_fnR (E := E0) F hr passL I (.cons (rR a) (.cons (rR b) .nil)) q)) (fun w s' z => ?_) fun _ _ e => e)
    obtain ⟨v, H', I', rv, c, rfl, q'⟩ := z
    cases rv
    exact ⟨.bl c, H', I', rfl, by cases c <;> exact q'⟩
  rcases eb with ⟨dy, gs, eb⟩ | ⟨_, ⟨ys, eb⟩, hn⟩
  · obtain ⟨od', J'⟩ := inst_at I eb
    exact fin (.ref C) J'.type (by simp [PySem.W.notFirst])
  · obtain ⟨_, its, n, _, e⟩ := (show ObjOk X.prog X.w H s.heap b (.lst ys) from I.hok b _ eb)
    exact fin (.type "list") (fun A Q E s' k q => wpAny_typeOf_ref (k _ _ e) q) hn
theorem ns_some_of {K : PySem.W.Frag} {h : Heap} {N : Addr} {mg : Str → Option Value} {n : Str} {v : Value} (X : K.In h) (G : h.Ns N mg) (e : PySem.W.nsIn K N n = some (some v)) : mg n = some v := by
  obtain ⟨o, es, ep, ho, hd, _, hf⟩ := G
  unfold PySem.W.nsIn at e
  split at e
  · rename_i c d es' n' sl q
    have z := X _ _ q
    rw [ho] at z
    cases z
    cases hd
    split at e
    · rename_i en he
      cases e
      rw [← hf]
      unfold nsFind findBy
      rw [← Array.find?_toList, he]
      rfl
    · split at e <;> cases e
  · cases e
/-- o != y, both of the class -/
structure NeC (K : PySem.W.Frag) (C f : Addr) : Prop where
  ex : ∃ (nm q : Str) (N : Addr) (bs : List Value) (hdct : Bool) (sn : List Str) (sub : List Value) (ab : Bool) (col : Option Bool) (dd : Option Addr) (k0 k1 k2 k3 k5 : Option Value) (newId : String),
    K.lookup C = some (excClassObj nm q C N bs [.type "object"] hdct sn sub ab col dd k0 k1 k2 k3 k5 newId) ∧ PySem.W.nsOkIn K N = true ∧ PySem.W.nsIn K N "__eq__" = some (some (.ref f)) ∧ PySem.W.nsIn K N "__ne__" = some none
  ty : PySem.W.typeIn K (.ref f) = some (.type "function")
theorem op_neO (n : NeC X.K C f) (F : FnR X.prog X.w X.K X.mg X.base (L2.CX X.prog X.w) k f sp) (hr : Room (k + 1) X.A) : OpR X (compareOp .NotEq) (rEqO X.K C sp true) := by
  intro pins s σ H x y v u Q I rx ry h
  obtain ⟨a, b, dx, fs, rfl, rfl, ea, eb, q⟩ := h
  cases rx
  cases ry
  rcases eb with ⟨dy, gs, eb⟩ | ⟨e, _⟩
  · obtain ⟨od, J⟩ := inst_at I ea
    obtain ⟨od', J'⟩ := inst_at I eb
    have hox : s.heap.get? a = some (PySem.W.instObj C dx) := J.at_
    have hoy : s.heap.get? b = some (PySem.W.instObj C dy) := J'.at_
    obtain ⟨hp, g, d, t, os⟩ := s
    have X2 : hp.OwnEqNoNe a C f "object" [.type "object"] := by
      obtain ⟨nm, q', N, bs, hdct, sn, sub, ab, col, dd, k0, k1, k2, k3, k5, newId, hC, ok, he, hne⟩ := n.ex
      have Kh : X.K.In hp := I.kIn
      have hN : hp.Ns N (hp.nsMap N) := .of_isNs (PySem.W.isNs_of_in Kh ok)
      obtain ⟨of, hof, hoc⟩ : ∃ of, X.K.lookup f = some of ∧ of.cls = .type "function" := by
        have z : (X.K.lookup f).map (·.cls) = some (.type "function") := n.ty
        cases q : X.K.lookup f with
        | none => rw [q] at z; cases z
        | some of => rw [q] at z; exact ⟨of, rfl, Option.some.inj z⟩
      refine ⟨_, of, nm, q', N, bs, hdct, sn, sub, ab, col, dd, k0, k1, k2, k3, k5, newId, hp.nsMap N, _, hox, rfl, Kh _ _ hC, hN, ns_some_of Kh hN he, Kh _ _ hof, hoc, PySem.F.cmp_object.mro, PySem.F.cmp_object.eq.lookup, PySem.W.ns_none_of Kh hN hne⟩
    have hu : X.A.units + 1 < cLine := hu_of hr
    refine compareOp_ne_ownEq PySem.F.cmp_object X2 hoy rfl hu (wpAny_mono (run_in1 (E := E0) F hr passL I (.cons (rR a) (.cons (rR b) .nil)) q) (fun w s' z => ?_) fun _ _ e => e)
    obtain ⟨v, H', I', rv, c, rfl, q'⟩ := z
    cases rv
    exact ⟨c, rfl, .bl (!c), H', I', rfl, by cases c <;> exact q'⟩
  · cases e
/-- bool(o) -/
theorem call_bool_at {prog : Program} {w : World} {A : Around} {E : Value → Shared → Prop} {s : Shared} {x : Value} {Q : Value → Shared → Prop}
    (h : wpAny (model prog w) A.in1.in1 (truthy x) (fun b s' => Q (.bool b) s') E s) : wpAny (model prog w) A (call (.type "bool") [x]) Q E s := by
  have ft := F.called_bool
  obtain ⟨c, tl, hmro⟩ := ft.mro
  have hmade := ft.made
  have hsub := ft.sub
  refine wpAny_call (codeAny_of_tree ?_)
  show wpAny _ _ (callAny (.type "bool") _) _ _ _
  refine wpAny_pure ⟨Code.quiet_builtin _ (by decide +kernel), codeAny_builtin F.entry_type_call ?_⟩
  rw [Around.under_plain (weight_type_call_type "bool" [x] []) (units_type_call_type "bool" [x] [])]
  have h1 := ft.notType
  have h2 := ft.canCreate
  have hct := F.typeCall_bool_1 x
  repeat (any_goals (first | assumption | wp_step))
  have g : wpAny (model prog w) A.in1.in1 (Builtin.«bool.__new__» ⟨[.type "bool", x], []⟩) (fun fin s' => match fin with | .done f => wants (fun obj s₁ => s₁.TypeIs obj "bool" ∧ Q obj s₁) E (.ok f) s' | .again c' => c'.quiet = true ∧ codeAny (model prog w) A.in1 c' (wants (fun obj s₁ => s₁.TypeIs obj "bool" ∧ Q obj s₁) E) s') (fun e s' => wants (fun obj s₁ => s₁.TypeIs obj "bool" ∧ Q obj s₁) E (.error e) s') s := by
    have f1 := F.conv_sub_bool
    have h' : wpAny (model prog w) A.in1.in1 (truthy x) (fun b s' => wants (fun obj s₁ => s₁.TypeIs obj "bool" ∧ Q obj s₁) E (.ok (.ret (.bool b))) s') (fun e s' => wants (fun obj s₁ => s₁.TypeIs obj "bool" ∧ Q obj s₁) E (.error e) s') s :=
      wpAny_mono h (fun b s' q => ⟨rfl, q⟩) fun _ _ e => e
    obtain ⟨hp, g, d, tk, os⟩ := s
    repeat (any_goals (first | assumption | exact wpAny_bind (wpAny_mono h' (fun b s' q => wpAny_pure q) fun _ _ e => e) | wp_step))
  refine codeAny_mono (codeAny_call_builtin ft.plain F.entry_bool_new (wpAny_of_eq (F.newCall_bool_1 x) g)) fun r s₁ hr => ?_
  cases r with
  | error e => exact hr
  | ok fl =>
    cases fl with
    | ret obj =>
      obtain ⟨hT, hq⟩ := hr
      have hli := ft.init.lookup
      have hbi := ft.init.bind obj
      repeat (any_goals (first | assumption | wp_step))
      refine codeAny_mono (codeAny_call_builtin ft.init.plain F.entry_object_init (ft.init.check _ _ _ _ _ _ _ _ hT (F.args_object_init_2 obj x) (object_init_meets (rest := [x]) ft.init.lookup ft.made F.newNe_bool prog w A.in1 (wants (fun r s₂ => r = .none ∧ Q obj s₂) E) s₁ ⟨hT, rfl, hq⟩))) fun r₂ s₂ hr₂ => ?_
      cases r₂ with
      | error e => exact hr₂
      | ok fl₂ =>
        cases fl₂ with
        | ret r =>
          obtain ⟨rfl, hq⟩ := hr₂
          repeat (any_goals (first | assumption | wp_step))
        | _ => exact hr₂.elim
    | _ => exact hr.elim
theorem call_boolO (m : MOf X.K C "__bool__" f) (F : FnR X.prog X.w X.K X.mg X.base (L2.CX X.prog X.w) k f sp) (hr : Room (k + 2) X.A) : CallR X (.type "bool") (fun xs H Q => ∃ (a dx : Addr) (fs : List (Str × V)), xs = [.ref a] ∧ H a = some (.ins C dx fs) ∧
    sp [.ref a] H (fun v H' => ∃ b, v = .bl b ∧ Q (.bl b) H') E0) := by
  intro pins s σ H xs us Q I r h
  obtain ⟨a, dx, fs, rfl, ea, q⟩ := h
  obtain rfl := Vals.ref1 r
  obtain ⟨od, J⟩ := inst_at I ea
  obtain ⟨mm, hF⟩ := I.fr
  refine call_bool_at (PySem.W.truthy_K hF I.ok.mod.kin J m.at_ m.fn (wpAny_mono (run_in2 F hr passL I (.cons (rR a) .nil) q) (fun u s' z => ?_) fun _ _ e => e))
  obtain ⟨v, H', I', rv, b, rfl, q'⟩ := z
  cases rv
  exact ⟨.bl b, H', I', rfl, q'⟩
/-! ### C( *xs) -/
def tMakeS (K : PySem.W.Frag) (C : Addr) (sp : Sp) (E : XK) (te : TE) : TE := fun σ H Q => te σ H fun y H1 => ∃ a xs, y = V.ref a ∧ (SqT K H1 a xs ∨ SqL K H1 a xs) ∧ ∀ x dx, H1 x = Option.none → H1 dx = Option.none → dx ≠ x →
  sp (V.ref x :: xs) (upd (upd H1 dx (.own x)) x (.ins C dx [])) (fun v H2 => v = .non ∧ Q (.ref x) H2) E
theorem pe_makeS {x : Str} {e : Expr} {te : TE} {p pos sp_ : Pos} (M : Mk X.K C f) (F : FnR X.prog X.w X.K X.mg X.base (L2.CX X.prog X.w) k f sp) (hr : Room (k + 1) X.A) (hm : X.mg x = some (.ref C)) (hx : Passes (L2.CX X.prog X.w) X E) (he : PE X e te) (hg : Gl X x := by rfl) (hd : (x == ("__debug__" : Str)) = false := by decide)
    (hst : starEach [.Starred e sp_] X.env = [(true, eval e X.env)] := by rfl) : PE X (.Call (.Name x p) [.Starred e sp_] [] pos) (tMakeS X.K C sp E te) := by
  refine ⟨fun pins s σ H Q I h => ?_⟩
  refine wpAny_Call_Name_kw (ld_glob I hg hm ?_ hd)
  refine PySem.W.callWith_S (h₀ := X.base) I.ok.mod.kin M.kp (thn (he.run pins s σ H _ I h) fun v s1 ⟨y, H1, I1, ry, a, xs, ey, hxs, q⟩ => ?_) hst
  subst ey
  obtain rfl : v = Value.ref a := ry
  exact StX.star_any I1 hxs fun us s2 I2 rv => ⟨I2.kIn, StX.run_makeR M F hr hx I2 rv q⟩
/-- the class in a local name -/
theorem pe_makeSL {i : Nat} {x : Str} {e : Expr} {te : TE} {p pos sp_ : Pos} (M : Mk X.K C f) (F : FnR X.prog X.w X.K X.mg X.base (L2.CX X.prog X.w) k f sp) (hr : Room (k + 1) X.A) (hx : Passes (L2.CX X.prog X.w) X E) (he : PE X e te) (hN : X.N[i]? = some x := by rfl) (hv : Vis X.env.scope x := by first | exact Or.inl rfl | exact Or.inr (Or.inl rfl) | exact Or.inr (Or.inr rfl))
    (hdb : (x == ("__debug__" : Str)) = false := by decide) (hcd : (x == ("__classdict__" : Str)) = false := by decide)
    (hst : starEach [.Starred e sp_] X.env = [(true, eval e X.env)] := by rfl) : PE X (.Call (.Name x p) [.Starred e sp_] [] pos) (fun σ H Q => σ[i]? = some (some (.ref C)) ∧ tMakeS X.K C sp E te σ H Q) := by
  refine ⟨fun pins s σ H Q I h => ?_⟩
  obtain ⟨hs, h⟩ := h
  refine wpAny_Call_Name_kw (thn ((pe_var (pos := p) hN hv hdb hcd).run pins s σ H (fun v H1 => v = .ref C ∧ H1 = H) I ⟨.ref C, hs, rfl, rfl⟩) fun u s1 ⟨v, H1, I1, r1, q1⟩ => ?_)
  obtain ⟨rfl, rfl⟩ := q1
  cases r1
  refine PySem.W.callWith_S (h₀ := X.base) I.ok.mod.kin M.kp (thn (he.run pins s1 σ _ _ I1 h) fun v s2 ⟨y, H1, I1, ry, a, xs, ey, hxs, q⟩ => ?_) hst
  subst ey
  obtain rfl : v = Value.ref a := ry
  exact StX.star_any I1 hxs fun us s2 I2 rv => ⟨I2.kIn, StX.run_makeR M F hr hx I2 rv q⟩
/-! ### properties -/
structure PR (P : Program) (w : World) (K : PySem.W.Frag) (mg : Str → Option Value) (base : Heap) (C : Addr) (f : Str) (k : Nat) (sp : Sp) : Prop where
  ex : ∃ (p g : Addr) (fd : FuncData), PropOf K C f p g ∧ FnOk P w K mg base CX0 k g fd ["self"] sp ∧ Binds K fd ["self"] []
def tPr (C : Addr) (sp : Sp) (ta : TE) : TE := fun σ H Q => ta σ H fun x H1 => ∃ a dx fs, x = .ref a ∧ H1 a = some (.ins C dx fs) ∧ sp [.ref a] H1 Q E0
theorem pe_pr {e : Expr} {f : Str} {pos : Pos} {ta : TE} (he : PE X e ta) (c : Cls X.K C) (G : PR X.prog X.w X.K X.mg X.base C f k sp) (hr : Room (k + 1) X.A) (hab : attributeBase e f X.env (eval e X.env) = eval e X.env := by rfl) : PE X (.Attribute e f pos) (tPr C sp ta) := by
  obtain ⟨p, g, fd, hp, F, hb⟩ := G.ex
  exact pe_prop he c hp F hr hb .nil pass0 hab
end
end My
/-! the rows' text, cut again -/
namespace My
open PySem PySem.Spec PyProof.Rows L2 TL
def gt : List (List Sg) → List Nat
  | [] => []
  | [l] => l.map Sg.cp
  | l :: m :: r => l.map Sg.cp ++ 10 :: gt (m :: r)
def gtext (g : List (List Sg)) : Str := ⟨(gt g).toArray⟩
theorem cp_ne (s : Sg) : s.cp ≠ 10 := by cases s <;> decide
theorem pre10 {c : Nat} {r : List Nat} (h : c ≠ 10) : pre [10] (c :: r) = false := by
  show ((c :: r).take 1 == [10]) = false
  simp [h]
theorem pre10y {r : List Nat} : pre [10] (10 :: r) = true := by
  show ((10 :: r).take 1 == [10]) = true
  simp
theorem spl_row : ∀ (l : List Sg) (acc rest : List Nat), spl [10] 0 acc (l.map Sg.cp ++ rest) = spl [10] 0 (acc ++ l.map Sg.cp) rest
  | [], acc, rest => by simp
  | s :: l, acc, rest => by
    rw [List.map_cons, List.cons_append, spl_miss (pre10 (cp_ne s)), spl_row l]
    simp
theorem spl_gt : ∀ (l : List Sg) (r : List (List Sg)) (acc : List Nat), spl [10] 0 acc (gt (l :: r)) = (acc ++ l.map Sg.cp) :: r.map (fun m => m.map Sg.cp)
  | l, [], acc => by
    show spl [10] 0 acc (l.map Sg.cp) = _
    have h := spl_row l acc []
    rw [List.append_nil] at h
    rw [h, spl_nil] <;> rfl
  | l, m :: r, acc => by
    show spl [10] 0 acc (l.map Sg.cp ++ 10 :: gt (m :: r)) = _
    rw [spl_row, spl_hit pre10y]
    show (acc ++ l.map Sg.cp) :: spl [10] 0 [] (gt (m :: r)) = _
    rw [spl_gt m r [], List.nil_append, List.map_cons]
theorem gt_join : ∀ g : List (List Sg), (Str.join "\n" (g.map lstr)) = gtext g
  | [] => rfl
  | [l] => rfl
  | l :: m :: r => by
    have ih := gt_join (m :: r)
    show lstr l ++ ("\n" : Str) ++ Str.join "\n" ((m :: r).map lstr) = _
    rw [ih]
    show (⟨(l.map Sg.cp).toArray ++ ("\n" : Str).cps ++ (gt (m :: r)).toArray⟩ : Str) = ⟨(l.map Sg.cp ++ 10 :: gt (m :: r)).toArray⟩
    have e : ("\n" : Str).cps = #[10] := by decide +kernel
    rw [e]
    simp
theorem join_g (g : List (List Sg)) : Txt.join "\n" (g.map lstr) = gtext g := by
  show Builtin.Str.glued "\n" (g.map lstr) = _
  rw [StrLaws.glued_eq_join, gt_join]
theorem str_of_toList {x y : Str} (h : x.cps.toList = y.cps.toList) : x = y := by
  obtain ⟨a⟩ := x
  obtain ⟨b⟩ := y
  have : a = b := by
    have h2 : a.toList = b.toList := h
    exact Array.toList_inj.mp h2
  rw [this]
theorem map_tl_inj : ∀ {xs ys : List Str}, xs.map tl = ys.map tl → xs = ys
  | [], [], _ => rfl
  | [], _ :: _, h => by simp at h
  | _ :: _, [], h => by simp at h
  | x :: xs, y :: ys, h => by
    simp only [List.map_cons, List.cons.injEq] at h
    rw [str_of_toList h.1, map_tl_inj h.2]
theorem nl_kind (x : Str) : ¬ Builtin.Str.strKind x < Builtin.Str.strKind ("\n" : Str) := by
  have e : Builtin.Str.strKind ("\n" : Str) = 1 := by decide +kernel
  rw [e]
  intro h
  unfold Builtin.Str.strKind at h
  split at h
  · omega
  · split at h <;> omega
theorem split_g {g : List (List Sg)} (h : g ≠ []) : Txt.split (gtext g) "\n" = g.map lstr := by
  refine map_tl_inj ?_
  have e : tl ("\n" : Str) = [10] := by decide +kernel
  have hn : tl ("\n" : Str) ≠ [] := by rw [e]; simp
  rw [split_spl _ _ hn (nl_kind _), e]
  have eg : tl (gtext g) = gt g := by
    show (gt g).toArray.toList = gt g
    simp
  rw [eg]
  cases g with
  | nil => exact absurd rfl h
  | cons l r =>
    rw [spl_gt, List.nil_append]
    simp [lstr_toList]
theorem gt_len : ∀ (g : List (List Sg)) (w : Nat), (∀ l ∈ g, l.length ≤ w) → (gt g).length ≤ g.length * (w + 1)
  | [], w, _ => by simp [gt]
  | [l], w, h => by
    have := h l (by simp)
    show (l.map Sg.cp).length ≤ 1 * (w + 1)
    rw [List.length_map]
    omega
  | l :: m :: r, w, h => by
    have h1 := h l (by simp)
    have ih := gt_len (m :: r) w (fun x hx => h x (List.mem_cons_of_mem _ hx))
    show (l.map Sg.cp ++ 10 :: gt (m :: r)).length ≤ (r.length + 1 + 1) * (w + 1)
    rw [List.length_append, List.length_map, List.length_cons, Nat.succ_mul]
    have e : (m :: r).length = r.length + 1 := rfl
    rw [e] at ih
    omega
theorem gtext_len (g : List (List Sg)) : (gtext g).length = (gt g).length := by
  show ((gt g).toArray).size = _
  simp
theorem lines_sum (g : List (List Sg)) (w : Nat) (h : ∀ l ∈ g, l.length ≤ w) : ((g.map lstr).map (·.length)).sum ≤ g.length * w := by
  induction g with
  | nil => simp
  | cons l r ih =>
    have h1 := h l (by simp)
    have h2 := ih (fun x hx => h x (List.mem_cons_of_mem _ hx))
    simp only [List.map_cons, List.sum_cons, List.length_cons, Nat.succ_mul]
    rw [lstr_len]
    omega
theorem lines_str (g : List (List Sg)) : g.map lineV = (g.map lstr).map V.str := by
  rw [List.map_map] <;> rfl
theorem str_ext {x y : Str} (h : x.cps.toList = y.cps.toList) : x = y := str_of_toList h
theorem app_toList (x y : Str) : (x ++ y).cps.toList = x.cps.toList ++ y.cps.toList := by
  obtain ⟨a⟩ := x
  obtain ⟨b⟩ := y
  show (a ++ b).toList = _
  simp
theorem join_signs : ∀ l : List Sg, Txt.join "" (l.map Sg.str) = lstr l := fun l => by
  show Builtin.Str.glued "" (l.map Sg.str) = _
  rw [StrLaws.glued_eq_join]
  refine str_ext ?_
  rw [lstr_toList]
  have e0 : ("" : Str).cps.toList = [] := by decide +kernel
  induction l with
  | nil => decide +kernel
  | cons s r ih =>
    cases r with
    | nil => rfl
    | cons s2 r2 =>
      show (s.str ++ ("" : Str) ++ Str.join "" ((s2 :: r2).map Sg.str)).cps.toList = _
      rw [app_toList, app_toList, ih, e0]
      rfl
theorem signs_sum (l : List Sg) : ((l.map Sg.str).map (·.length)).sum = l.length := by
  induction l with
  | nil => rfl
  | cons s r ih =>
    simp only [List.map_cons, List.sum_cons, ih, List.length_cons]
    have e : s.str.length = 1 := rfl
    omega
end My
namespace My
open PySem PySem.Spec PyProof.Rows L2
def gw (g : List (List Sg)) : Nat := (g.getD 0 []).length
theorem Grid.gw {m t w : Nat} {g : List (List Sg)} (G : Grid m t g w) : My.gw g = w := by
  cases g with
  | nil => exact absurd G.h0 (by simp)
  | cons l r => exact G.ln l (by simp)
def rfs (t pl : Addr) : List (Str × V) := putF "_places" (.ref pl) (putF "_rows" (.ref t) [])
theorem rp_ : ¬ (("_rows" : Str) = "_places") := by decide +kernel
theorem rfs_rows (t pl : Addr) : (rfs t pl).lookup ("_rows" : Str) = some (.ref t) := by
  unfold rfs
  rw [lookup_putF, if_neg rp_, lookup_putF, if_pos rfl]
theorem rfs_places (t pl : Addr) : (rfs t pl).lookup ("_places" : Str) = some (.ref pl) := by
  unfold rfs
  rw [lookup_putF, if_pos rfl]
/-- a room at x, its rows g -/
def RoomAt (C : Addr) (H : Hp) (x : Addr) (g : List (List Sg)) : Prop :=
  ∃ (dx t pl : Addr) (ws : List V), H x = some (.ins C dx (rfs t pl)) ∧ H t = some (.tup (g.map lineV)) ∧ H pl = some (.lst ws) ∧ PrsAt H ws (places g.length (gw g))
theorem RoomAt.same {C : Addr} {H H' : Hp} {x : Addr} {g : List (List Sg)} (r : RoomAt C H x g) (s : Same H H') : RoomAt C H' x g :=
  let ⟨dx, t, pl, ws, h1, h2, h3, h4⟩ := r
  ⟨dx, t, pl, ws, s _ _ h1, s _ _ h2, s _ _ h3, h4.tx (Tx.of s)⟩
theorem RoomAt.ins {C : Addr} {H : Hp} {x : Addr} {g : List (List Sg)} (r : RoomAt C H x g) : ∃ dx fs, H x = some (.ins C dx fs) := let ⟨dx, t, pl, ws, h1, _⟩ := r; ⟨dx, _, h1⟩
/-- the class Room, as far as its rows, its making go -/
structure RoomT (K : PySem.W.Frag) (mg : Str → Option Value) (C fI : Addr) : Prop extends TxtC K mg C where
  cl : Cls K C
  nR : NoAttr K C "_rows"
  nP : NoAttr K C "_places"
  mkR : Mk K C fI
def sp_init (C : Addr) : Sp := fun vs H Q _ => ∃ (x t dx w : Nat) (g : List (List Sg)), vs = [.ref x, .ref t] ∧ H x = some (.ins C dx []) ∧ H t = some (.tup (g.map lineV)) ∧ Grid 8 10 g w ∧ ∀ H', Kp x H H' → RoomAt C H' x g → Q .non H'
/-- Room( *rows) -/
def sp_star (C : Addr) : Sp := fun vs H Q E => ∃ ws rest, vs = ws ++ rest ∧ ws.length = (["self"] : List Str).length ∧ rest.length ≤ sizeLine ∧ ∀ p, H p = Option.none → sp_init C (ws ++ [V.ref p]) (upd H p (.tup rest)) Q E
def sp_parse (C : Addr) : Sp := fun vs H Q _ => ∃ (w : Nat) (g : List (List Sg)), vs = [.ref C, .str (gtext g)] ∧ Grid 8 10 g w ∧ ∀ x H', H x = none → Same H H' → RoomAt C H' x g → Q (.ref x) H'
abbrev s_Room___init__ : Stmt := (inClass (top 32) 2)
abbrev N_Room___init__ : List Str := ["self", "rows"]
theorem sc_Room___init__ : FnScope N_Room___init__ ["self", "rows"] (defScope s_Room___init__) := ⟨rfl, rfl, rfl, by decide +kernel, rfl, by decide +kernel, by decide +kernel⟩

abbrev s_Room_parse : Stmt := (inClass (top 32) 3)
abbrev N_Room_parse : List Str := ["cls", "text", "rows"]
theorem sc_Room_parse : FnScope N_Room_parse ["cls", "text"] (defScope s_Room_parse) := ⟨rfl, rfl, rfl, by decide +kernel, rfl, by decide +kernel, by decide +kernel⟩

section
variable {P : Program} {w : World} {K : PySem.W.Frag} {mg : Str → Option Value} {base : Heap}
theorem putF1 (v : V) : (putF "_rows" v []).length = 1 := rfl
theorem ok_init {f C fI : Addr} {fd : FuncData} (F : Fun K "__init__" "Room.__init__" s_Room___init__ f fd) (T : RoomT K mg C fI) (g_check_rows : GF P w K mg base "check_rows" 2 (sp_check K)) (g_port_places : GF P w K mg base "port_places" 1 sp_places) :
    FnR P w K mg base (L2.CX P w) 3 f (sp_star C) := by
  obtain ⟨oc, od, kV, doc, pm, an, cdv, ct, osl, rfl, lk, hcd⟩ := F.ex
  refine StX.fn_star (ps := ["self"]) (pv := "rows") (sp := sp_init C) lk hcd sc_Room___init__ StX.cxUp (StX.bind_star1 (B := fun us => bindArgs _ ⟨us, []⟩) (fun _ => rfl) fun _ _ _ => rfl) (fun A outer s H vs Q E hr h => ?_)
  obtain ⟨x, t, dx, ww, g, rfl, hx, ht, G, q⟩ := h
  have nxt : t ≠ x := fun z => by rw [z, hx] at ht; cases ht
  obtain ⟨l0, hl0⟩ : ∃ l0, g[0]? = some l0 := ⟨g[0]'(G.h0), by simp [G.h0]⟩
  have lw0 := G.ln l0 (List.mem_of_getElem? hl0)
  have hm0 : (g.map lineV)[0]? = some (lineV l0) := by rw [List.getElem?_map, hl0] <;> rfl
  have hgm := G.hm
  have hwm := G.wm
  refine ⟨_, (pss_cons (ps_expr (pe_c g_check_rows (hr.mono (by decide)) passL (pa_cons (pv 1) pa_nil)))
    (pss_cons (ps_fld (pv 0) (pv 1) rfl)
    (pss_one (ps_fld (pv 0) (pe_c g_port_places (hr.mono (by decide)) passL (pa_cons (pe_callB call_len_seq (by rfl) T.b_len PySem.boot_len (pa_cons (pv 1) pa_nil)) (pa_cons (pe_callB call_len_str (by rfl) T.b_len PySem.boot_len (pa_cons (pe_ix ix_tup (pv 1) pe_int (fun _ _ => rfl)) pa_nil)) pa_nil))) rfl)))), ?_⟩
  refine ⟨_, rfl, t, ww, g, rfl, SqT.of ht, G, fun H1 s1 => ?_⟩
  have hx1 := s1 _ _ hx
  have ht1 := s1 _ _ ht
  refine ⟨_, rfl, _, rfl, x, C, dx, _, rfl, hx1, T.cl, T.nR, (by show 0 < 1000; decide), ?_⟩
  have ht2 : upd H1 x (.ins C dx (putF "_rows" (.ref t) [])) t = some (.tup (g.map lineV)) := by rw [upd_ne nxt]; exact ht1
  refine ⟨_, rfl, t, _, rfl, .inr (SqT.of ht2), _, rfl, t, _, _, _, rfl, rfl, SqT.of ht2, atI_nat hm0, lstr l0, rfl, sz2 (by rw [lstr_len]; omega), ?_⟩
  refine ⟨g.length, ww, ?_, by omega, by omega, fun pl ws H3 hpl s3 e3 pr => ?_⟩
  · rw [List.length_map, lstr_len, lw0]
  refine ⟨_, rfl, x, C, dx, _, rfl, s3 _ _ upd_same, T.cl, T.nP, (by show 1 < 1000; decide), ?_⟩
  have nplx : pl ≠ x := fun z => by rw [z, upd_same] at hpl; cases hpl
  refine q _ ?_ ⟨dx, t, pl, ws, upd_same, ?_, ?_, ?_⟩
  · exact ((Kp.of s1).upd.trans (Kp.of s3)).upd
  · rw [upd_ne nxt]
    exact s3 _ _ ht2
  · rw [upd_ne nplx]
    exact e3
  · rw [G.gw]
    refine pr.tx fun a xs ha => ?_
    have nax : a ≠ x := fun z => by rw [z, s3 _ _ upd_same] at ha; cases ha
    rw [upd_ne nax]
    exact ha
/-- what Room( *rows) makes, told of its caller's heap -/
theorem made {C : Addr} {H : Hp} {Q : VK} {E : XK} {ww : Nat} {g : List (List Sg)} (G : Grid 8 10 g ww) (q : ∀ x H', H x = none → Same H H' → RoomAt C H' x g → Q (.ref x) H') (x dx : Addr) (hx : H x = none) (hdx : H dx = none) (hne : dx ≠ x) :
    sp_star C (V.ref x :: g.map lineV) (upd (upd H dx (.own x)) x (.ins C dx [])) (fun v H2 => v = .non ∧ Q (.ref x) H2) E := by
  refine ⟨[.ref x], g.map lineV, rfl, rfl, sz2 (by rw [List.length_map]; have := G.hm; omega), fun p hp => ?_⟩
  have npx : p ≠ x := fun z => by rw [z, upd_same] at hp; cases hp
  have hp2 : upd H dx (.own x) p = none := by rw [upd_ne npx] at hp; exact hp
  refine ⟨x, p, dx, ww, g, rfl, by rw [upd_ne npx.symm, upd_same], upd_same, G, fun H' k r => ⟨rfl, ?_⟩⟩
  refine q x H' hx (fun b o e => ?_) r
  have nbx : b ≠ x := ne_of_none e hx
  refine k b o nbx ?_
  have s0 := Same.new (H := H) (o := .own x) hdx
  have nbp : b ≠ p := ne_of_none (s0 _ _ e) hp2
  rw [upd_ne nbp, upd_ne nbx]
  exact s0 _ _ e
theorem ok_parse {f C fI : Addr} {fd : FuncData} (F : Fun K "parse" "Room.parse" s_Room_parse f fd) (T : RoomT K mg C fI) (g_init : FnR P w K mg base (L2.CX P w) 3 fI (sp_star C)) : FnOk P w K mg base (L2.CX P w) 5 f fd ["cls", "text"] (sp_parse C) := by
  refine F.okX sc_Room_parse (fun vs H Q E h => ?_) (fun cdv A outer s H vs Q E hr h => ?_)
  · obtain ⟨ww, g, rfl, _⟩ := h
    rfl
  · obtain ⟨ww, g, rfl, G, q⟩ := h
    have hgm := G.hm
    have hwm := G.wm
    have hl9 : (gt g).length ≤ 8 * (8 + 1) := Nat.le_trans (gt_len g 8 (fun l hl => by rw [G.ln l hl]; exact G.wm)) (Nat.mul_le_mul_right _ hgm)
    have hgn : g ≠ [] := fun z => by rw [z] at G; exact absurd G.h0 (by simp)
    refine ⟨_, (pss_cons (ps_if (pt_not (pt_val (pe_callB call_isi (by rfl) T.b_isinstance (by decide +kernel) (pa_cons (pv 1) (pa_cons (pe_bltn (v := .ty "str") (u := .type "str") (by rfl) T.b_str (by decide +kernel) rfl) pa_nil)))))
      (pss_one ps_never)
      pss_nil)
    (pss_cons (ps_set (i := 2) sc_Room_parse.nd rfl (Or.inl rfl) (pe_split (pv 1) pe_str))
    (pss_one (ps_ret (pe_makeSL (i := 0) T.mkR g_init (hr.mono (by decide)) passL (pv 2)))))), ?_⟩
    refine ⟨_, rfl, _, _, _, _, true, rfl, .ty "str", .base (.str _), kit_ty (by decide +kernel), _, rfl, ?_⟩
    refine ifF rfl ?_
    refine ⟨_, rfl, ⟨_, rfl⟩, _, _, rfl, rfl, by decide +kernel, sz2 (by rw [gtext_len]; omega), fun p hp => ?_⟩
    rw [split_g hgn]
    refine ⟨rfl, _, rfl, p, g.map lineV, rfl, .inr (SqL.of (by rw [upd_same, lines_str])), fun x dx hx hdx hne => made G (fun x H' hx' s' r => ?_) x dx hx hdx hne⟩
    have s1 := Same.new (o := .lst ((g.map lstr).map V.str)) hp
    exact q x H' (s1.free hx') (s1.trans s') r
end
end My
/-! data as a whole: rows, pairs, their equality -/
namespace My
open PySem PySem.Spec PyProof.Rows L2
/-- a value of this depth at most -/
structure Sh (n : Nat) (d : PyData) : Prop where
  lay : d.canLay0 = true
  dep : d.depth ≤ n
theorem Sh.mono {n m : Nat} {d : PyData} (h : Sh n d) (le : n ≤ m) : Sh m d := ⟨h.lay, Nat.le_trans h.dep le⟩
theorem Sh.shaped {n : Nat} {d : PyData} (h : Sh n d) (le : n ≤ 64) : SeqAt.shaped d = true := by
  unfold SeqAt.shaped
  rw [h.lay, decide_eq_true (Nat.le_trans h.dep le)] <;> rfl
theorem sh_int (i : Int) : Sh 0 (.int i) := ⟨by simp only [PyData.canLay0], by simp only [PyData.depth]; omega⟩
theorem sh_bool (b : Bool) : Sh 0 (.bool b) := ⟨by simp only [PyData.canLay0], by simp only [PyData.depth]; omega⟩
theorem sh_none : Sh 0 .none := ⟨by simp only [PyData.canLay0], by simp only [PyData.depth]; omega⟩
theorem sh_all {n : Nat} : ∀ {ds : List PyData}, (∀ d ∈ ds, Sh n d) → PyData.canLayAll0 ds = true ∧ PyData.depthAll ds ≤ n
  | [], _ => ⟨by simp only [PyData.canLayAll0], by simp only [PyData.depthAll]; omega⟩
  | d :: ds, h => by
    have h1 := h d (by simp)
    have h2 := sh_all (ds := ds) (fun x hx => h x (List.mem_cons_of_mem _ hx))
    refine ⟨?_, ?_⟩
    · simp only [PyData.canLayAll0, h1.lay, h2.1, Bool.and_self]
    · have a := h1.dep
      have b := h2.2
      simp only [PyData.depthAll]
      omega
theorem sh_list {n : Nat} {ds : List PyData} (h : ∀ d ∈ ds, Sh n d) : Sh (n + 1) (.list ds) := by
  have h2 := sh_all h
  exact ⟨by simp only [PyData.canLay0]; exact h2.1, by simp only [PyData.depth]; omega⟩
theorem sh_tup {n : Nat} {ds : List PyData} (h : ∀ d ∈ ds, Sh n d) : Sh (n + 1) (.tuple ds) := by
  have h2 := sh_all h
  exact ⟨by simp only [PyData.canLay0]; exact h2.1, by simp only [PyData.depth]; omega⟩
theorem strOk_of {x : Str} (h : ∀ c ∈ x.cps.toList, c < 128) : PyData.strOk x = true := by
  unfold PyData.strOk
  rw [← Array.all_toList]
  refine List.all_eq_true.mpr fun c hc => ?_
  have := h c hc
  simp
  omega
theorem sh_str {x : Str} (h : ∀ c ∈ x.cps.toList, c < 128) : Sh 0 (.str x) := ⟨by simp only [PyData.canLay0]; exact strOk_of h, by simp only [PyData.depth]; omega⟩
theorem cp_small (s : Sg) : s.cp < 128 := by cases s <;> decide
theorem sh_line (l : List Sg) : Sh 0 (.str (lstr l)) := sh_str fun c hc => by
  rw [lstr_toList] at hc
  obtain ⟨s, _, rfl⟩ := List.mem_map.mp hc
  exact cp_small s
theorem gt_small : ∀ (g : List (List Sg)) (c : Nat), c ∈ gt g → c < 128
  | [], c, h => by simp [gt] at h
  | [l], c, h => by
    have h : c ∈ l.map Sg.cp := h
    obtain ⟨s, _, rfl⟩ := List.mem_map.mp h
    exact cp_small s
  | l :: m :: r, c, h => by
    have h : c ∈ l.map Sg.cp ++ 10 :: gt (m :: r) := h
    rcases List.mem_append.mp h with h | h
    · obtain ⟨s, _, rfl⟩ := List.mem_map.mp h
      exact cp_small s
    · rcases List.mem_cons.mp h with h | h
      · omega
      · exact gt_small (m :: r) c h
theorem sh_text (g : List (List Sg)) : Sh 0 (.str (gtext g)) := sh_str fun c hc => gt_small g c (by
  have e : (gtext g).cps.toList = gt g := by
    show (gt g).toArray.toList = gt g
    simp
  rw [e] at hc
  exact hc)
def dLine (l : List Sg) : PyData := .str (lstr l)
def dPair (p : Int × Int) : PyData := .tuple [.int p.1, .int p.2]
def dRowsT (g : List (List Sg)) : PyData := .tuple (g.map dLine)
def dRowsL (g : List (List Sg)) : PyData := .list (g.map dLine)
def dPairs (ps : List (Int × Int)) : PyData := .list (ps.map dPair)
theorem sh_pair (p : Int × Int) : Sh 1 (dPair p) := sh_tup fun d hd => by
  have h : d = .int p.1 ∨ d = .int p.2 := by simpa using hd
  rcases h with rfl | rfl <;> exact sh_int _
theorem sh_map {α : Type} {n : Nat} {f : α → PyData} {xs : List α} (h : ∀ x, Sh n (f x)) : ∀ d ∈ xs.map f, Sh n d := fun d hd => by
  obtain ⟨x, _, rfl⟩ := List.mem_map.mp hd
  exact h x
theorem sh_rowsT (g : List (List Sg)) : Sh 1 (dRowsT g) := sh_tup (sh_map sh_line)
theorem sh_rowsL (g : List (List Sg)) : Sh 1 (dRowsL g) := sh_list (sh_map sh_line)
theorem sh_pairs (ps : List (Int × Int)) : Sh 2 (dPairs ps) := sh_list (sh_map sh_pair)
theorem eqvAll_map {α : Type} [DecidableEq α] {f : α → PyData} (hf : ∀ x y, PyData.eqv (f x) (f y) = decide (x = y)) : ∀ xs ys : List α, PyData.eqvAll (xs.map f) (ys.map f) = decide (xs = ys)
  | [], [] => by simp [PyData.eqvAll]
  | [], _ :: _ => by simp [PyData.eqvAll]
  | _ :: _, [] => by simp [PyData.eqvAll]
  | x :: xs, y :: ys => by
    rw [List.map_cons, List.map_cons, PyData.eqvAll, hf, eqvAll_map hf xs ys]
    by_cases h1 : x = y <;> by_cases h2 : xs = ys <;> simp [h1, h2]
theorem eqv_line (l m : List Sg) : PyData.eqv (dLine l) (dLine m) = decide (l = m) := by
  show PyData.eqv (.str (lstr l)) (.str (lstr m)) = _
  rw [PyData.eqv]
  by_cases h : l = m
  · rw [h]; simp
  · have : lstr l ≠ lstr m := fun z => h (lstr_inj z)
    simp [h, this]
theorem eqv_pair (p q : Int × Int) : PyData.eqv (dPair p) (dPair q) = decide (p = q) := by
  show PyData.eqv (.tuple [.int p.1, .int p.2]) (.tuple [.int q.1, .int q.2]) = _
  obtain ⟨a, b⟩ := p
  obtain ⟨c, d⟩ := q
  simp only [PyData.eqv, PyData.eqvAll, Bool.and_true]
  by_cases h1 : a = c <;> by_cases h2 : b = d <;> simp [h1, h2]
theorem eqv_rowsT (g h : List (List Sg)) : PyData.eqv (dRowsT g) (dRowsT h) = decide (g = h) := by
  show PyData.eqv (.tuple (g.map dLine)) (.tuple (h.map dLine)) = _
  rw [PyData.eqv, eqvAll_map eqv_line]
theorem eqv_rowsL (g h : List (List Sg)) : PyData.eqv (dRowsL g) (dRowsL h) = decide (g = h) := by
  show PyData.eqv (.list (g.map dLine)) (.list (h.map dLine)) = _
  rw [PyData.eqv, eqvAll_map eqv_line]
theorem eqv_pairs (g h : List (Int × Int)) : PyData.eqv (dPairs g) (dPairs h) = decide (g = h) := by
  show PyData.eqv (.list (g.map dPair)) (.list (h.map dPair)) = _
  rw [PyData.eqv, eqvAll_map eqv_pair]
theorem dp_lines {K : PySem.W.Frag} {H : Hp} : ∀ g : List (List Sg), DpAll K H (g.map lineV) (g.map dLine)
  | [] => .nil
  | l :: r => .cons (.str _) (dp_lines r)
theorem dp_rowsT {K : PySem.W.Frag} {H : Hp} {a : Addr} {g : List (List Sg)} (h : SqT K H a (g.map lineV)) : Dp K H (.ref a) (dRowsT g) := .tup h (dp_lines g)
theorem dp_rowsL {K : PySem.W.Frag} {H : Hp} {a : Addr} {g : List (List Sg)} (h : SqL K H a (g.map lineV)) : Dp K H (.ref a) (dRowsL g) := .lst h (dp_lines g)
theorem dp_pair {K : PySem.W.Frag} {H : Hp} {v : V} {p : Int × Int} (h : PrAt H v p) : Dp K H v (dPair p) := by
  obtain ⟨a, rfl, h⟩ := h
  exact .tup (SqT.of h) (.cons (.int _) (.cons (.int _) .nil))
theorem dp_prs {K : PySem.W.Frag} {H : Hp} : ∀ {vs : List V} {ps : List (Int × Int)}, PrsAt H vs ps → DpAll K H vs (ps.map dPair)
  | _, _, .nil => .nil
  | _, _, .cons r t => .cons (dp_pair r) (dp_prs t)
theorem dp_pairs {K : PySem.W.Frag} {H : Hp} {a : Addr} {vs : List V} {ps : List (Int × Int)} (h : SqL K H a vs) (r : PrsAt H vs ps) : Dp K H (.ref a) (dPairs ps) := .lst h (dp_prs r)
/-- all mirrors turned -/
def flipG (g : List (List Sg)) : List (List Sg) := g.map fun l => l.map Sg.turn
theorem flip_flip (g : List (List Sg)) : flipG (flipG g) = g := by
  unfold flipG
  rw [List.map_map]
  have e : ((fun l => l.map Sg.turn) ∘ fun l : List Sg => l.map Sg.turn) = id := by
    funext l
    show (l.map Sg.turn).map Sg.turn = l
    rw [List.map_map]
    have e2 : Sg.turn ∘ Sg.turn = id := by funext s; exact Sg.turn_turn s
    rw [e2, List.map_id]
  rw [e, List.map_id]
theorem lcount_flip (l : List Sg) : lcount (l.map Sg.turn) = lcount l := by
  unfold lcount
  rw [List.filter_map, List.length_map]
  have e : Sg.tur ∘ Sg.turn = Sg.tur := by funext s; exact Sg.tur_turn s
  rw [e]
theorem gcount_flip (g : List (List Sg)) : gcount (flipG g) = gcount g := by
  unfold gcount flipG
  rw [List.map_map]
  have e : (lcount ∘ fun l : List Sg => l.map Sg.turn) = lcount := by funext l; exact lcount_flip l
  rw [e]
theorem Grid.flip {m t w : Nat} {g : List (List Sg)} (G : Grid m t g w) : Grid m t (flipG g) w := by
  refine ⟨?_, ?_, G.w0, G.wm, fun l hl => ?_, by rw [gcount_flip]; exact G.tu⟩
  · unfold flipG; rw [List.length_map]; exact G.h0
  · unfold flipG; rw [List.length_map]; exact G.hm
  · obtain ⟨m, hm, rfl⟩ := List.mem_map.mp hl
    rw [List.length_map]
    exact G.ln m hm
end My
namespace My
open PySem PySem.Spec PyProof.Rows L2
def sp_rows (C : Addr) : Sp := fun vs H Q _ => ∃ (x : Addr) (g : List (List Sg)), vs = [.ref x] ∧ RoomAt C H x g ∧ ∀ t, H t = some (.tup (g.map lineV)) → Q (.ref t) H
def sp_text (C : Addr) : Sp := fun vs H Q _ => ∃ (x w : Addr) (g : List (List Sg)), vs = [.ref x] ∧ RoomAt C H x g ∧ Grid 8 10 g w ∧ Q (.str (gtext g)) H
def sp_size (C : Addr) : Sp := fun vs H Q _ => ∃ (x w : Addr) (g : List (List Sg)), vs = [.ref x] ∧ RoomAt C H x g ∧ Grid 8 10 g w ∧ ∀ p, H p = none → Q (.ref p) (upd H p (.tup [.int g.length, .int w]))
def sp_turning (C : Addr) : Sp := fun vs H Q _ => ∃ (x w : Addr) (g : List (List Sg)), vs = [.ref x] ∧ RoomAt C H x g ∧ Grid 8 10 g w ∧ ∀ p ws H', H p = none → Same H H' → H' p = some (.lst ws) → PrsAt H' ws (tiles Sg.tur g) → Q (.ref p) H'
def sp_len (C : Addr) : Sp := fun vs H Q _ => ∃ (x w : Addr) (g : List (List Sg)), vs = [.ref x] ∧ RoomAt C H x g ∧ Grid 8 10 g w ∧ Q (.int ((2 * (g.length + w) : Nat) : Int)) H
def sp_bool (C : Addr) : Sp := fun vs H Q _ => ∃ (x w : Addr) (g : List (List Sg)), vs = [.ref x] ∧ RoomAt C H x g ∧ Grid 8 10 g w ∧ ∀ H', Same H H' → Q (.bl (!(tiles Sg.tur g).isEmpty)) H'
def sp_eq (C : Addr) : Sp := fun vs H Q _ => ∃ (x y : Addr) (g : List (List Sg)), vs = [.ref x, .ref y] ∧ RoomAt C H x g ∧ ((∃ h, RoomAt C H y h ∧ Q (.bl (decide (g = h))) H) ∨ (∃ ys, H y = some (.lst ys)) ∧ Q (.bl false) H)
def sp_invert (C : Addr) : Sp := fun vs H Q _ => ∃ (x w : Addr) (g : List (List Sg)), vs = [.ref x] ∧ RoomAt C H x g ∧ Grid 8 10 g w ∧ ∀ y H', H y = none → Same H H' → RoomAt C H' y (flipG g) → Q (.ref y) H'
/-- the class Room, as far as isinstance goes -/
structure RoomI (K : PySem.W.Frag) (C : Addr) : Prop where
  ha : PySem.W.findIn K (.ref C) "__class__" = some (some (.builtin "object.__class__"))
  hn : PySem.W.specialIn K (.builtin "object.__class__") "__get__" = some (some (.builtin "getset_descriptor.__get__"))
  htk : PySem.W.takesIn K (.builtin "object.__class__") = some true
  hm : PySem.W.mroIn K C (.type "object") = some true
  kO : PySem.W.kitOne K (.ref C) (.ref C) = some true
  kL : PySem.W.kitOne K (.type "list") (.ref C) = some false
abbrev s_Room_rows : Stmt := (inClass (top 32) 4)
abbrev N_Room_rows : List Str := ["self"]
theorem sc_Room_rows : FnScope N_Room_rows ["self"] (defScope s_Room_rows) := ⟨rfl, rfl, rfl, by decide +kernel, rfl, by decide +kernel, by decide +kernel⟩

abbrev s_Room_text : Stmt := (inClass (top 32) 5)
abbrev N_Room_text : List Str := ["self"]
theorem sc_Room_text : FnScope N_Room_text ["self"] (defScope s_Room_text) := ⟨rfl, rfl, rfl, by decide +kernel, rfl, by decide +kernel, by decide +kernel⟩

abbrev s_Room_size : Stmt := (inClass (top 32) 6)
abbrev N_Room_size : List Str := ["self"]
theorem sc_Room_size : FnScope N_Room_size ["self"] (defScope s_Room_size) := ⟨rfl, rfl, rfl, by decide +kernel, rfl, by decide +kernel, by decide +kernel⟩

abbrev s_Room_turning : Stmt := (inClass (top 32) 7)
abbrev N_Room_turning : List Str := ["self"]
theorem sc_Room_turning : FnScope N_Room_turning ["self"] (defScope s_Room_turning) := ⟨rfl, rfl, rfl, by decide +kernel, rfl, by decide +kernel, by decide +kernel⟩

abbrev s_Room___len__ : Stmt := (inClass (top 32) 9)
abbrev N_Room___len__ : List Str := ["self"]
theorem sc_Room___len__ : FnScope N_Room___len__ ["self"] (defScope s_Room___len__) := ⟨rfl, rfl, rfl, by decide +kernel, rfl, by decide +kernel, by decide +kernel⟩

abbrev s_Room___bool__ : Stmt := (inClass (top 32) 12)
abbrev N_Room___bool__ : List Str := ["self"]
theorem sc_Room___bool__ : FnScope N_Room___bool__ ["self"] (defScope s_Room___bool__) := ⟨rfl, rfl, rfl, by decide +kernel, rfl, by decide +kernel, by decide +kernel⟩

abbrev s_Room___eq__ : Stmt := (inClass (top 32) 13)
abbrev N_Room___eq__ : List Str := ["self", "other"]
theorem sc_Room___eq__ : FnScope N_Room___eq__ ["self", "other"] (defScope s_Room___eq__) := ⟨rfl, rfl, rfl, by decide +kernel, rfl, by decide +kernel, by decide +kernel⟩

abbrev s_Room___invert__ : Stmt := (inClass (top 32) 14)
abbrev N_Room___invert__ : List Str := ["self", "rows", "row", "sign"]
theorem sc_Room___invert__ : FnScope N_Room___invert__ ["self"] (defScope s_Room___invert__) := ⟨rfl, rfl, rfl, by decide +kernel, rfl, by decide +kernel, by decide +kernel⟩

section
variable {P : Program} {w : World} {K : PySem.W.Frag} {mg : Str → Option Value} {base : Heap}
theorem ok_rows {f C fI : Addr} {fd : FuncData} (F : Fun K "rows" "Room.rows" s_Room_rows f fd) (T : RoomT K mg C fI) : FnOk P w K mg base CX0 1 f fd ["self"] (sp_rows C) := by
  refine F.ok sc_Room_rows (fun vs H Q E h => ?_) (fun cdv A outer s H vs Q E hr h => ?_)
  · obtain ⟨x, g, rfl, _⟩ := h
    rfl
  · obtain ⟨x, g, rfl, ⟨dx, t, pl, ws, h1, h2, h3, h4⟩, q⟩ := h
    refine ⟨_, (pss_one (ps_ret (pe_fld (pv 0) rfl))), ?_⟩
    exact ⟨_, rfl, x, C, dx, _, _, rfl, h1, T.cl, T.nR, rfs_rows _ _, q t h2⟩
theorem ok_text {f C fI : Addr} {fd : FuncData} (F : Fun K "text" "Room.text" s_Room_text f fd) (T : RoomT K mg C fI) : FnOk P w K mg base CX0 1 f fd ["self"] (sp_text C) := by
  refine F.ok sc_Room_text (fun vs H Q E h => ?_) (fun cdv A outer s H vs Q E hr h => ?_)
  · obtain ⟨x, ww, g, rfl, _⟩ := h
    rfl
  · obtain ⟨x, ww, g, rfl, ⟨dx, t, pl, ws, h1, h2, h3, h4⟩, G, q⟩ := h
    have hgm := G.hm
    have hs := lines_sum g 8 (fun l hl => by rw [G.ln l hl]; exact G.wm)
    refine ⟨_, (pss_one (ps_ret (pe_join pe_str (pe_fld (pv 0) rfl)))), ?_⟩
    refine ⟨⟨_, rfl⟩, _, rfl, x, C, dx, _, _, rfl, h1, T.cl, T.nR, rfs_rows _ _, _, t, g.map lstr, rfl, rfl, .inr (SqT.of (by rw [← lines_str]; exact h2)), ?_, ?_⟩
    · have e1 : ("\n" : Str).length = 1 := by decide +kernel
      rw [List.length_map, e1]
      omega
    · rw [join_g]
      exact q
theorem ok_size {f C fI : Addr} {fd : FuncData} (F : Fun K "size" "Room.size" s_Room_size f fd) (T : RoomT K mg C fI) : FnOk P w K mg base CX0 1 f fd ["self"] (sp_size C) := by
  refine F.ok sc_Room_size (fun vs H Q E h => ?_) (fun cdv A outer s H vs Q E hr h => ?_)
  · obtain ⟨x, ww, g, rfl, _⟩ := h
    rfl
  · obtain ⟨x, ww, g, rfl, ⟨dx, t, pl, ws, h1, h2, h3, h4⟩, G, q⟩ := h
    have hwm := G.wm
    obtain ⟨l0, hl0⟩ : ∃ l0, g[0]? = some l0 := ⟨g[0]'(G.h0), by simp [G.h0]⟩
    have lw0 := G.ln l0 (List.mem_of_getElem? hl0)
    have hm0 : (g.map lineV)[0]? = some (lineV l0) := by rw [List.getElem?_map, hl0] <;> rfl
    refine ⟨_, (pss_one (ps_ret (pe_tup (pa_cons (pe_callB call_len_seq (by rfl) T.b_len PySem.boot_len (pa_cons (pe_fld (pv 0) rfl) pa_nil)) (pa_cons (pe_callB call_len_str (by rfl) T.b_len PySem.boot_len (pa_cons (pe_ix ix_tup (pe_fld (pv 0) rfl) pe_int (fun _ _ => rfl)) pa_nil)) pa_nil))))), ?_⟩
    refine ⟨_, rfl, x, C, dx, _, _, rfl, h1, T.cl, T.nR, rfs_rows _ _, t, _, rfl, .inr (SqT.of h2), ?_⟩
    refine ⟨_, rfl, x, C, dx, _, _, rfl, h1, T.cl, T.nR, rfs_rows _ _, t, _, _, _, rfl, rfl, SqT.of h2, atI_nat hm0, lstr l0, rfl, sz2 (by rw [lstr_len]; omega), by show 2 ≤ sizeLine; decide, fun p hp => ?_⟩
    rw [List.length_map, lstr_len, lw0]
    exact q p hp
theorem ok_turning {f C fI : Addr} {fd : FuncData} (F : Fun K "turning" "Room.turning" s_Room_turning f fd) (T : RoomT K mg C fI) (g_tiles_with : GF P w K mg base "tiles_with" 1 (sp_tiles K)) : FnOk P w K mg base (L2.CX P w) 2 f fd ["self"] (sp_turning C) := by
  refine F.okX sc_Room_turning (fun vs H Q E h => ?_) (fun cdv A outer s H vs Q E hr h => ?_)
  · obtain ⟨x, ww, g, rfl, _⟩ := h
    rfl
  · obtain ⟨x, ww, g, rfl, ⟨dx, t, pl, ws, h1, h2, h3, h4⟩, G, q⟩ := h
    have hwm := G.wm
    have hgm := G.hm
    refine ⟨_, (pss_one (ps_ret (pe_c g_tiles_with (hr.mono (by decide)) passL (pa_cons (pe_fld (pv 0) rfl) (pa_cons (pe_gs T.v_TURNING) pa_nil))))), ?_⟩
    exact ⟨_, rfl, x, C, dx, _, _, rfl, h1, T.cl, T.nR, rfs_rows _ _, t, _, g, Sg.tur, rfl, .inr (SqT.of h2), by omega, (fun l hl => by rw [G.ln l hl]; omega), inS_rf, q⟩
theorem ok_len {f C fI : Addr} {fd : FuncData} (F : Fun K "__len__" "Room.__len__" s_Room___len__ f fd) (T : RoomT K mg C fI) : FnOk P w K mg base CX0 1 f fd ["self"] (sp_len C) := by
  refine F.ok sc_Room___len__ (fun vs H Q E h => ?_) (fun cdv A outer s H vs Q E hr h => ?_)
  · obtain ⟨x, ww, g, rfl, _⟩ := h
    rfl
  · obtain ⟨x, ww, g, rfl, ⟨dx, t, pl, ws, h1, h2, h3, h4⟩, G, q⟩ := h
    refine ⟨_, (pss_one (ps_ret (pe_callB call_len_seq (by rfl) T.b_len PySem.boot_len (pa_cons (pe_fld (pv 0) rfl) pa_nil)))), ?_⟩
    refine ⟨_, rfl, x, C, dx, _, _, rfl, h1, T.cl, T.nP, rfs_places _ _, pl, _, rfl, .inl (SqL.of h3), ?_⟩
    rw [h4.len, places_len, G.gw]
    exact q
theorem ok_bool {f C fI : Addr} {fd : FuncData} (F : Fun K "__bool__" "Room.__bool__" s_Room___bool__ f fd) (T : RoomT K mg C fI) (g_tiles_with : GF P w K mg base "tiles_with" 1 (sp_tiles K)) : FnOk P w K mg base (L2.CX P w) 2 f fd ["self"] (sp_bool C) := by
  refine F.okX sc_Room___bool__ (fun vs H Q E h => ?_) (fun cdv A outer s H vs Q E hr h => ?_)
  · obtain ⟨x, ww, g, rfl, _⟩ := h
    rfl
  · obtain ⟨x, ww, g, rfl, ⟨dx, t, pl, ws, h1, h2, h3, h4⟩, G, q⟩ := h
    have hwm := G.wm
    have hgm := G.hm
    refine ⟨_, (pss_one (ps_ret (pe_callTy call_boolL (by rfl) T.b_bool (by decide +kernel) (pa_cons (pe_c g_tiles_with (hr.mono (by decide)) passL (pa_cons (pe_fld (pv 0) rfl) (pa_cons (pe_gs T.v_TURNING) pa_nil))) pa_nil)))), ?_⟩
    refine ⟨_, rfl, x, C, dx, _, _, rfl, h1, T.cl, T.nR, rfs_rows _ _, t, _, g, Sg.tur, rfl, .inr (SqT.of h2), by omega, (fun l hl => by rw [G.ln l hl]; omega), inS_rf, fun p ws H' hp s' e' pr => ?_⟩
    refine ⟨p, ws, rfl, SqL.of e', ?_⟩
    have e : ws.isEmpty = (tiles Sg.tur g).isEmpty := by
      have := pr.len
      cases ws <;> cases h : tiles Sg.tur g <;> simp_all
    rw [e]
    exact q H' s'
theorem ok_eq {f C fI : Addr} {fd : FuncData} (F : Fun K "__eq__" "Room.__eq__" s_Room___eq__ f fd) (T : RoomT K mg C fI) (R : RoomI K C) : FnOk P w K mg base CX0 1 f fd ["self", "other"] (sp_eq C) := by
  refine F.ok sc_Room___eq__ (fun vs H Q E h => ?_) (fun cdv A outer s H vs Q E hr h => ?_)
  · obtain ⟨x, y, g, rfl, _⟩ := h
    rfl
  · obtain ⟨x, y, g, rfl, ⟨dx, t, pl, ws, h1, h2, h3, h4⟩, q⟩ := h
    refine ⟨_, (pss_one (ps_ret (pe_and (pe_callB call_isi (by rfl) T.b_isinstance (by decide +kernel) (pa_cons (pv 1) (pa_cons (pe_gr T.g_Room) pa_nil))) (pe_one (pe_cmpR (op_eqD hr.units) (pe_fld (pv 0) rfl) (pe_fld (pv 1) rfl) (nomark _)))))), ?_⟩
    rcases q with ⟨h, ⟨dy, t', pl', ws', y1, y2, y3, y4⟩, q⟩ | ⟨⟨ys, hy⟩, q⟩
    · refine ⟨_, rfl, _, _, _, _, true, rfl, .own C, .base (.ins y1 T.cl R.ha R.hn R.htk R.hm), R.kO, true, rfl, ?_⟩
      refine ifT rfl ?_
      refine ⟨_, rfl, x, C, dx, _, _, rfl, h1, T.cl, T.nR, rfs_rows _ _, _, rfl, y, C, dy, _, _, rfl, y1, T.cl, T.nR, rfs_rows _ _, dRowsT g, dRowsT h, dp_rowsT (SqT.of h2), dp_rowsT (SqT.of y2), (sh_rowsT g).shaped (by omega), (sh_rowsT h).shaped (by omega), ?_⟩
      rw [eqv_rowsT]
      exact q
    · refine ⟨_, rfl, _, _, _, _, false, rfl, .own C, .base (.lst hy), R.kL, false, rfl, ?_⟩
      exact ifF rfl q
end
end My
namespace My
open PySem PySem.Spec PyProof.Rows L2
section
variable {P : Program} {w : World} {K : PySem.W.Frag} {mg : Str → Option Value} {base : Heap}
theorem ok_invert {f C fI : Addr} {fd : FuncData} (F : Fun K "__invert__" "Room.__invert__" s_Room___invert__ f fd) (T : RoomT K mg C fI) (g_turned : GF P w K mg base "turned" 1 sp_turned) (g_init : FnR P w K mg base (L2.CX P w) 3 fI (sp_star C)) : FnOk P w K mg base (L2.CX P w) 5 f fd ["self"] (sp_invert C) := by
  refine F.okX sc_Room___invert__ (fun vs H Q E h => ?_) (fun cdv A outer s H vs Q E hr h => ?_)
  · obtain ⟨x, ww, g, rfl, _⟩ := h
    rfl
  · obtain ⟨x, ww, g, rfl, ⟨dx, t, pl, ws, h1, h2, h3, h4⟩, G, q⟩ := h
    refine ⟨_, (pss_cons (ps_setLcG (i := 1) (own := [("row", 2)]) (g := gName 2)  rfl sc_Room___invert__.nd rfl rfl (sw_true rfl rfl rfl (by decide +kernel)) (pi_tup (pe_fld (pv 0) rfl)) (blkOk_by (N := N_Room___invert__) (sc := defScope s_Room___invert__) (by decide +kernel)) (fun _ _ _ _ _ => (pg_name (i := 2) sc_Room___invert__.nd rfl (Or.inl rfl))) (fun _ _ _ _ _ => pts_nil) (fun _ _ _ _ _ => (pe_join pe_str (pe_lcG (own := [("sign", 3)]) (g := gName 3)  rfl sc_Room___invert__.nd (pi_str (pv 2)) (blkOk_by (N := N_Room___invert__) (sc := lcSc (asgV ((defBody s_Room___invert__).getD 0 (.Pass ⟨0, 0, 0, 0⟩)))) (by decide +kernel)) (fun _ _ _ _ _ => (pg_name (i := 3) sc_Room___invert__.nd rfl (Or.inl rfl))) (fun _ _ _ _ _ => pts_nil) (fun _ _ _ _ _ => (pe_c g_turned (hr.mono (by decide)) passL (pa_cons (pv 3) pa_nil)))))))
    (pss_one (ps_ret (pe_makeS T.mkR g_init (hr.mono (by decide)) T.g_Room passL (pv 1))))), ?_⟩
    refine ⟨_, rfl, x, C, dx, _, _, rfl, h1, T.cl, T.nR, rfs_rows _ _, t, rfl, ⟨_, SqT.of h2⟩, fun D hD => it_gen (walk_tup (xs := g.map lineV)) (fun i H' => H D = none ∧ Same H H' ∧ H' D = some (.lst ((flipG (g.take i)).map lineV))) ⟨hD, Same.new hD, upd_same⟩ (fun i H' _ m => SqT.of (m.2.1 _ _ h2)) ?_ ?_⟩
    · rintro i v H2 H3 hi ⟨_, s2, e2⟩ ⟨rfl, hv⟩
      rw [List.length_map] at hi
      obtain ⟨l, hl⟩ : ∃ l, g[i]? = some l := ⟨g[i], by simp [hi]⟩
      rw [List.getElem?_map, hl] at hv
      obtain rfl : lineV l = v := Option.some.inj hv
      have lw := G.ln l (List.mem_of_getElem? hl)
      have hwm := G.wm
      have hgm := G.hm
      refine ⟨rfl, ⟨_, rfl⟩, _, rfl, lstr l, rfl, fun D2 hD2 => it_gen (walk_str (z := lstr l)) (fun j H' => H3 D2 = none ∧ Same H3 H' ∧ H' D2 = some (.lst ((((l.take j).map Sg.turn).map Sg.str).map V.str))) ⟨hD2, Same.new hD2, upd_same⟩ (fun _ _ _ _ => trivial) ?_ ?_⟩
      · rintro j v H4 H5 hj ⟨_, s4, e4⟩ ⟨rfl, c, hc, rfl⟩
        rw [lstr_size] at hj
        obtain ⟨sg, hsg⟩ : ∃ sg, l[j]? = some sg := ⟨l[j], by simp [hj]⟩
        rw [lstr_get, hsg] at hc
        obtain rfl : sg.cp = c := Option.some.inj hc
        refine ⟨rfl, _, rfl, sg, rfl, _, e4, sz3 ?_, hD2, Same.mut s4 hD2, ?_⟩
        · simp only [List.length_map, List.length_take]
          omega
        · rw [upd_same, List.take_succ_eq_append_getElem hj, (List.getElem?_eq_some_iff.mp hsg).2]
          simp only [List.map_append, List.map_cons, List.map_nil]
      · rintro H4 ⟨_, s4, e4⟩
        rw [lstr_size, List.take_length] at e4
        refine ⟨"", D2, (l.map Sg.turn).map Sg.str, rfl, rfl, .inl (SqL.of e4), ?_, _, s4 _ _ e2, sz3 ?_, hD, ?_, ?_⟩
        · have e0 : ("" : Str).length = 0 := by decide +kernel
          rw [signs_sum, e0, List.length_map]
          omega
        · unfold flipG
          simp only [List.length_map, List.length_take]
          omega
        · exact Same.mut (s2.trans s4) hD
        · rw [upd_same, join_signs, List.take_succ_eq_append_getElem hi, (List.getElem?_eq_some_iff.mp hl).2]
          unfold flipG
          simp only [List.map_append, List.map_cons, List.map_nil]
          rfl
    · rintro H2 ⟨_, s2, e2⟩
      rw [List.length_map, List.take_length] at e2
      exact ⟨_, rfl, D, _, rfl, .inr (SqL.of e2), fun y dy hy hdy hne => made G.flip (fun y H' hy' s' r => q y H' (s2.free hy') (s2.trans s') r) y dy hy hdy hne⟩
end
end My
namespace My
open PySem PySem.Spec PyProof.Rows L2
/-- an own error class under ValueError, at C, by its name -/
structure ErrC (K : PySem.W.Frag) (mg : Str → Option Value) (x : Str) (C : Addr) : Prop where
  g : mg x = some (.ref C)
  x : PySem.W.excIn K C [.type "ValueError", .type "Exception", .type "BaseException", .type "object"] "ValueError.__new__" = true
  k : PySem.W.keepIn K (.ref C) = true
  b : PySem.W.subIn K (.ref C) (.type "BaseException") = some true
  t : PySem.W.typeIn K (.ref C) = some (.type "type")
/-- values that may stand for a number -/
inductive PV (H : Hp) : V → Prop where
  | non : PV H .non
  | bl (b : Bool) : PV H (.bl b)
  | int (i : Int) : PV H (.int i)
  | str (z : Str) : PV H (.str z)
  | tup {a : Addr} {xs : List V} (h : H a = some (.tup xs)) : PV H (.ref a)
  | lst {a : Addr} {xs : List V} (h : H a = some (.lst xs)) : PV H (.ref a)
theorem PV.same {H H' : Hp} {v : V} (p : PV H v) (s : Same H H') : PV H' v := by
  cases p with
  | non => exact .non
  | bl b => exact .bl b
  | int i => exact .int i
  | str z => exact .str z
  | tup h => exact .tup (s _ _ h)
  | lst h => exact .lst (s _ _ h)
def isNum (v : V) (lo hi : Int) : Bool := match v with
  | .int i => decide (lo ≤ i) && decide (i ≤ hi)
  | _ => false
def sp_isnum : Sp := fun vs H Q _ => ∃ (v : V) (lo hi : Int), vs = [v, .int lo, .int hi] ∧ PV H v ∧ Q (.bl (isNum v lo hi)) H
abbrev s_is_number : Stmt := (top 26)
abbrev N_is_number : List Str := ["value", "lowest", "highest"]
theorem sc_is_number : FnScope N_is_number ["value", "lowest", "highest"] (defScope s_is_number) := ⟨rfl, rfl, rfl, by decide +kernel, rfl, by decide +kernel, by decide +kernel⟩

section
variable {P : Program} {w : World} {K : PySem.W.Frag} {mg : Str → Option Value} {base : Heap}
theorem ok_isnum {f : Addr} {fd : FuncData} (F : Fun K "is_number" "is_number" s_is_number f fd) (T : Txt mg) : FnOk P w K mg base CX0 1 f fd ["value", "lowest", "highest"] sp_isnum := by
  refine F.ok sc_is_number (fun vs H Q E h => ?_) (fun cdv A outer s H vs Q E hr h => ?_)
  · obtain ⟨v, lo, hi, rfl, _⟩ := h
    rfl
  · obtain ⟨v, lo, hi, rfl, pv1, q⟩ := h
    refine ⟨_, (pss_cons (ps_if (PW.pt (pw_or (pt_val (pe_callB call_isi (by rfl) T.b_isinstance (by decide +kernel) (pa_cons (pv 0) (pa_cons (pe_bltn (v := .ty "bool") (u := .type "bool") (by rfl) T.b_bool (by decide +kernel) rfl) pa_nil)))) (pw_or1 (pt_not (pt_val (pe_callB call_isi (by rfl) T.b_isinstance (by decide +kernel) (pa_cons (pv 0) (pa_cons (pe_bltn (v := .ty "int") (u := .type "int") (by rfl) T.b_int (by decide +kernel) rfl) pa_nil))))))))
      (pss_one (ps_ret pe_bl))
      pss_nil)
    (pss_one (ps_ret (pe_chain op_le op_le (pv 1) (pv 0) (pv 2))))), ?_⟩
    cases pv1 with
    | non =>
      refine ⟨_, rfl, _, _, _, _, false, rfl, .ty "bool", .base .non, kit_ty (by decide +kernel), _, rfl, ifF rfl ?_⟩
      exact ⟨_, rfl, _, _, _, _, false, rfl, .ty "int", .base .non, kit_ty (by decide +kernel), _, rfl, ifT rfl q⟩
    | bl b => exact ⟨_, rfl, _, _, _, _, true, rfl, .ty "bool", .base (.bl b), kit_ty (by decide +kernel), _, rfl, ifT rfl q⟩
    | str z =>
      refine ⟨_, rfl, _, _, _, _, false, rfl, .ty "bool", .base (.str z), kit_ty (by decide +kernel), _, rfl, ifF rfl ?_⟩
      exact ⟨_, rfl, _, _, _, _, false, rfl, .ty "int", .base (.str z), kit_ty (by decide +kernel), _, rfl, ifT rfl q⟩
    | tup h =>
      refine ⟨_, rfl, _, _, _, _, false, rfl, .ty "bool", .base (.tup h), kit_ty (by decide +kernel), _, rfl, ifF rfl ?_⟩
      exact ⟨_, rfl, _, _, _, _, false, rfl, .ty "int", .base (.tup h), kit_ty (by decide +kernel), _, rfl, ifT rfl q⟩
    | lst h =>
      refine ⟨_, rfl, _, _, _, _, false, rfl, .ty "bool", .base (.lst h), kit_ty (by decide +kernel), _, rfl, ifF rfl ?_⟩
      exact ⟨_, rfl, _, _, _, _, false, rfl, .ty "int", .base (.lst h), kit_ty (by decide +kernel), _, rfl, ifT rfl q⟩
    | int i =>
      refine ⟨_, rfl, _, _, _, _, false, rfl, .ty "bool", .base (.int i), kit_ty (by decide +kernel), _, rfl, ifF rfl ?_⟩
      refine ⟨_, rfl, _, _, _, _, true, rfl, .ty "int", .base (.int i), kit_ty (by decide +kernel), _, rfl, ifF rfl ?_⟩
      refine ⟨_, rfl, _, rfl, _, _, rfl, rfl, _, rfl, if2 (fun hc => ?_) (fun hc => ?_)⟩
      · refine ⟨_, rfl, _, _, rfl, rfl, ?_⟩
        have e : isNum (.int i) lo hi = decide (i ≤ hi) := by
          show (decide (lo ≤ i) && decide (i ≤ hi)) = _
          rw [hc] <;> rfl
        rw [e] at q
        exact q
      · have e : isNum (.int i) lo hi = false := by
          show (decide (lo ≤ i) && decide (i ≤ hi)) = _
          rw [hc] <;> rfl
        rw [e] at q
        exact q
end
/-- an index of a room: a tuple of two such values, or another thing -/
inductive AtV (H : Hp) : V → Option (V × V) → Prop where
  | two {a : Addr} {u v : V} (h : H a = some (.tup [u, v])) (hu : PV H u) (hv : PV H v) : AtV H (.ref a) (some (u, v))
  | tup {a : Addr} {xs : List V} (h : H a = some (.tup xs)) (hl : xs.length ≠ 2) (hs : xs.length ≤ 100) : AtV H (.ref a) none
  | lst {a : Addr} {xs : List V} (h : H a = some (.lst xs)) : AtV H (.ref a) none
  | non : AtV H .non none
  | int (i : Int) : AtV H (.int i) none
  | str (z : Str) : AtV H (.str z) none
def okAt (h w : Nat) : Option (V × V) → Bool
  | some (u, v) => isNum u 0 ((h : Int) - 1) && isNum v 0 ((w : Int) - 1)
  | none => false
def sp_tile (C U : Addr) : Sp := fun vs H Q E => ∃ (x : Addr) (at_ : V) (w : Nat) (g : List (List Sg)) (o : Option (V × V)), vs = [.ref x, at_] ∧ RoomAt C H x g ∧ Grid 8 10 g w ∧ AtV H at_ o ∧
  (okAt g.length w o = true → ∀ H', Same H H' → Q .non H') ∧ (okAt g.length w o = false → ∀ H', Same H H' → E (.ref U) none H')
abbrev s_check_tile : Stmt := (top 28)
abbrev N_check_tile : List Str := ["room", "at", "height", "width"]
theorem sc_check_tile : FnScope N_check_tile ["room", "at"] (defScope s_check_tile) := ⟨rfl, rfl, rfl, by decide +kernel, rfl, by decide +kernel, by decide +kernel⟩

section
variable {P : Program} {w : World} {K : PySem.W.Frag} {mg : Str → Option Value} {base : Heap}
theorem ok_tile {f C fI U0 : Addr} {fd : FuncData} (F : Fun K "check_tile" "check_tile" s_check_tile f fd) (T : RoomT K mg C fI) (U : ErrC K mg "UnknownTile" U0) (g_is_number : GF P w K mg base "is_number" 1 sp_isnum) (p_size : PR P w K mg base C "size" 1 (sp_size C)) :
    FnOk P w K mg base (L2.CX P w) 3 f fd ["room", "at"] (sp_tile C U0) := by
  refine F.okX sc_check_tile (fun vs H Q E h => ?_) (fun cdv A outer s H vs Q E hr h => ?_)
  · obtain ⟨x, at_, ww, g, o, rfl, _⟩ := h
    rfl
  · obtain ⟨x, at_, ww, g, o, rfl, R, G, hat, q1, q2⟩ := h
    refine ⟨_, (pss_cons (ps_asg (pe_pr (pv 0) T.cl p_size (hr.mono (by decide))) (pg_tup rfl (pgs_cons (pg_name (i := 2) sc_check_tile.nd rfl (Or.inl rfl)) (pgs_cons (pg_name (i := 3) sc_check_tile.nd rfl (Or.inl rfl)) pgs_nil))))
    (pss_cons (ps_if (PW.pt (pw_or (pt_not (pt_val (pe_callB call_isi (by rfl) T.b_isinstance (by decide +kernel) (pa_cons (pv 1) (pa_cons (pe_bltn (v := .ty "tuple") (u := .type "tuple") (by rfl) T.b_tuple (by decide +kernel) rfl) pa_nil))))) (pw_or1 (pt_cmpR op_ne (pe_callB call_len_seq (by rfl) T.b_len PySem.boot_len (pa_cons (pv 1) pa_nil)) pe_int (nomark _)))))
      (pss_one (ps_raise rfl (takes_of rfl rfl rfl rfl) (pmk_own PySem.F.excBase_ValueError U.x U.g U.k (raises_own U.b U.t) rfl)))
      pss_nil)
    (pss_one (ps_if (PW.pt (pw_or (pt_not (pt_val (pe_c g_is_number (hr.mono (by decide)) passL (pa_cons (pe_ix ix_tup (pv 1) pe_int (fun _ _ => rfl)) (pa_cons pe_int (pa_cons (pe_op op_sub (pv 2) pe_int) pa_nil)))))) (pw_or1 (pt_not (pt_val (pe_c g_is_number (hr.mono (by decide)) passL (pa_cons (pe_ix ix_tup (pv 1) pe_int (fun _ _ => rfl)) (pa_cons pe_int (pa_cons (pe_op op_sub (pv 3) pe_int) pa_nil)))))))))
      (pss_one (ps_raise rfl (takes_of rfl rfl rfl rfl) (pmk_own PySem.F.excBase_ValueError U.x U.g U.k (raises_own U.b U.t) rfl)))
      pss_nil)))), ?_⟩
    obtain ⟨dx, fs, hx⟩ := R.ins
    refine ⟨_, rfl, x, dx, fs, rfl, hx, x, ww, g, rfl, R, G, fun p hp => ?_⟩
    have s1 := Same.new (o := .tup [.int g.length, .int ww]) hp
    refine ⟨p, _, rfl, SqT.of upd_same, rfl, _, _, rfl, _, _, rfl, rfl, ?_⟩
    cases hat with
    | non => exact ⟨_, rfl, _, _, _, _, false, rfl, .ty "tuple", .base .non, kit_ty (by decide +kernel), _, rfl, ifT rfl (q2 rfl _ s1)⟩
    | int i => exact ⟨_, rfl, _, _, _, _, false, rfl, .ty "tuple", .base (.int i), kit_ty (by decide +kernel), _, rfl, ifT rfl (q2 rfl _ s1)⟩
    | str z => exact ⟨_, rfl, _, _, _, _, false, rfl, .ty "tuple", .base (.str z), kit_ty (by decide +kernel), _, rfl, ifT rfl (q2 rfl _ s1)⟩
    | lst h => exact ⟨_, rfl, _, _, _, _, false, rfl, .ty "tuple", .base (.lst (s1 _ _ h)), kit_ty (by decide +kernel), _, rfl, ifT rfl (q2 rfl _ s1)⟩
    | @tup a xs h hl hs =>
      refine ⟨_, rfl, _, _, _, _, true, rfl, .ty "tuple", .base (.tup (s1 _ _ h)), kit_ty (by decide +kernel), _, rfl, ifF rfl ?_⟩
      refine ⟨_, rfl, a, xs, rfl, .inr (SqT.of (s1 _ _ h)), rfl, _, rfl, ?_⟩
      refine ifT ?_ (q2 rfl _ s1)
      rw [dF (by intro z; injection z with z; omega)] <;> rfl
    | @two a u v h hu hv =>
      have h1 := s1 _ _ h
      refine ⟨_, rfl, _, _, _, _, true, rfl, .ty "tuple", .base (.tup h1), kit_ty (by decide +kernel), _, rfl, ifF rfl ?_⟩
      refine ⟨_, rfl, a, _, rfl, .inr (SqT.of h1), rfl, _, rfl, ifF (by simp) ?_⟩
      refine ⟨_, rfl, a, _, _, _, rfl, rfl, SqT.of h1, at_0, _, rfl, _, _, rfl, rfl, u, _, _, rfl, hu.same s1, _, rfl, if2 (fun hc => ?_) (fun hc => ?_)⟩
      · refine q2 ?_ _ s1
        show (isNum u 0 ((g.length : Int) - 1) && isNum v 0 ((ww : Int) - 1)) = false
        have hc : (!isNum u 0 ((g.length : Int) - 1)) = true := hc
        cases hn : isNum u 0 ((g.length : Int) - 1) with
        | true => rw [hn] at hc; cases hc
        | false => rfl
      · have hc : (!isNum u 0 ((g.length : Int) - 1)) = false := hc
        have hn : isNum u 0 ((g.length : Int) - 1) = true := by
          cases hn : isNum u 0 ((g.length : Int) - 1) with
          | true => rfl
          | false => rw [hn] at hc; cases hc
        refine ⟨_, rfl, a, _, _, _, rfl, rfl, SqT.of h1, at_1, _, rfl, _, _, rfl, rfl, v, _, _, rfl, hv.same s1, _, rfl, if2 (fun hd => ?_) (fun hd => ?_)⟩
        · refine q2 ?_ _ s1
          show (isNum u 0 ((g.length : Int) - 1) && isNum v 0 ((ww : Int) - 1)) = false
          have hd : (!isNum v 0 ((ww : Int) - 1)) = true := hd
          rw [hn]
          cases hm : isNum v 0 ((ww : Int) - 1) with
          | true => rw [hm] at hd; cases hd
          | false => rfl
        · refine q1 ?_ _ s1
          show (isNum u 0 ((g.length : Int) - 1) && isNum v 0 ((ww : Int) - 1)) = true
          have hd : (!isNum v 0 ((ww : Int) - 1)) = false := hd
          rw [hn]
          cases hm : isNum v 0 ((ww : Int) - 1) with
          | true => rfl
          | false => rw [hm] at hd; cases hd
end
end My
namespace My
open PySem PySem.Spec PyProof.Rows L2
/-- room[at]: the sign, or UnknownTile -/
def sp_get (C U : Addr) : Sp := fun vs H Q E => ∃ (x : Addr) (at_ : V) (w : Nat) (g : List (List Sg)), vs = [.ref x, at_] ∧ RoomAt C H x g ∧ Grid 8 10 g w ∧
  ((∃ (a i j : Nat) (l : List Sg) (sg : Sg), at_ = .ref a ∧ H a = some (.tup [.int i, .int j]) ∧ g[i]? = some l ∧ l[j]? = some sg ∧ ∀ H', Same H H' → Q (.str sg.str) H') ∨
   (∃ o, AtV H at_ o ∧ okAt g.length w o = false ∧ ∀ H', Same H H' → E (.ref U) none H'))
abbrev s_Room___getitem__ : Stmt := (inClass (top 32) 10)
abbrev N_Room___getitem__ : List Str := ["self", "at", "row", "column"]
theorem sc_Room___getitem__ : FnScope N_Room___getitem__ ["self", "at"] (defScope s_Room___getitem__) := ⟨rfl, rfl, rfl, by decide +kernel, rfl, by decide +kernel, by decide +kernel⟩

section
variable {P : Program} {w : World} {K : PySem.W.Frag} {mg : Str → Option Value} {base : Heap}
theorem isNum_nat {i n : Nat} (h : i < n) : isNum (.int i) 0 ((n : Int) - 1) = true := by
  show (decide ((0 : Int) ≤ (i : Int)) && decide ((i : Int) ≤ (n : Int) - 1)) = true
  rw [decide_eq_true (by omega), decide_eq_true (by omega)]
  rfl
theorem ok_get {f C fI U0 : Addr} {fd : FuncData} (F : Fun K "__getitem__" "Room.__getitem__" s_Room___getitem__ f fd) (T : RoomT K mg C fI) (g_check_tile : GF P w K mg base "check_tile" 3 (sp_tile C U0)) :
    FnOk P w K mg base (L2.CX P w) 4 f fd ["self", "at"] (sp_get C U0) := by
  refine F.okX sc_Room___getitem__ (fun vs H Q E h => ?_) (fun cdv A outer s H vs Q E hr h => ?_)
  · obtain ⟨x, at_, ww, g, rfl, _⟩ := h
    rfl
  · obtain ⟨x, at_, ww, g, rfl, R, G, h⟩ := h
    refine ⟨_, (pss_cons (ps_expr (pe_c g_check_tile (hr.mono (by decide)) (passes_call (takes_of rfl rfl rfl rfl) (fun _ _ _ _ h => h)) (pa_cons (pv 0) (pa_cons (pv 1) pa_nil))))
    (pss_cons (ps_asg (pv 1) (pg_tup rfl (pgs_cons (pg_name (i := 2) sc_Room___getitem__.nd rfl (Or.inl rfl)) (pgs_cons (pg_name (i := 3) sc_Room___getitem__.nd rfl (Or.inl rfl)) pgs_nil))))
    (pss_one (ps_ret (pe_ix ix_str (pe_ix ix_tup (pe_fld (pv 0) rfl) (pv 2) (fun _ _ => rfl)) (pv 3) (fun _ _ => rfl)))))), ?_⟩
    rcases h with ⟨a, i, j, l, sg, rfl, ha, hl, hsg, q⟩ | ⟨o, hat, hno, q⟩
    · have il : i < g.length := (List.getElem?_eq_some_iff.mp hl).1
      have lw := G.ln l (List.mem_of_getElem? hl)
      have jl : j < ww := by rw [← lw]; exact (List.getElem?_eq_some_iff.mp hsg).1
      have ok : okAt g.length ww (some (.int i, .int j)) = true := by
        show (isNum (.int i) 0 ((g.length : Int) - 1) && isNum (.int j) 0 ((ww : Int) - 1)) = true
        rw [isNum_nat il, isNum_nat jl] <;> rfl
      refine ⟨_, rfl, _, rfl, x, _, ww, g, _, rfl, R, G, .two ha (.int i) (.int j), fun _ H1 s1 => ?_, fun z => absurd (ok.symm.trans z) (by decide)⟩
      obtain ⟨dx, t, pl, ws, h1, h2, h3, h4⟩ := R.same s1
      have hm0 : (g.map lineV)[i]? = some (lineV l) := by rw [List.getElem?_map, hl] <;> rfl
      have hc : (lstr l).cps.toList[j]? = some sg.cp := by rw [lstr_toList, List.getElem?_map, hsg] <;> rfl
      have hwm := G.wm
      refine ⟨_, rfl, a, _, rfl, SqT.of (s1 _ _ ha), rfl, _, _, rfl, _, _, rfl, rfl, ?_⟩
      refine ⟨_, rfl, x, C, dx, _, _, rfl, h1, T.cl, T.nR, rfs_rows _ _, _, rfl, t, _, _, _, rfl, rfl, SqT.of h2, atI_nat hm0, _, rfl, _, _, _, rfl, rfl, sz2 (by rw [lstr_len]; omega), ?_, q _ s1⟩
      exact atI_nat hc
    · exact ⟨_, rfl, _, rfl, x, _, ww, g, o, rfl, R, G, hat, fun z => absurd (hno.symm.trans z) (by decide), fun _ H1 s1 => q _ s1⟩
end
end My
/-! caught errors; a lambda's call within a try; list.count; what is never reached -/
namespace My
open PySem PySem.Spec PyProof.Rows L2
section
variable {X : Cx}
/-- never reached -/
theorem pe_no {e : Expr} : PE X e (fun _ _ _ => False) := ⟨fun _ _ _ _ _ _ h => h.elim⟩
theorem ps_no {st : Stmt} : PS X st (fun _ _ _ => False) := ⟨fun _ _ _ _ _ _ h => h.elim⟩
/-- isinstance(e, c), the error's class read off -/
def rIsX (K : PySem.W.Frag) (cls : Value) (d : Option Addr) (a : Addr) : List V → Hp → VK → Prop := fun xs H Q =>
  ∃ D, cls = .ref D ∧ d = none ∧ ExcC K D ∧ rIsE K D a xs H Q
theorem call_isX {a : Addr} {oe : Obj} {pn : List (Addr × Obj)} {cls : Value} {d : Option Addr} (hz : Zc cls d oe) (hf : ∃ vs, oe.data = .fields vs) : CallR (X.suite a ((a, oe) :: pn)) (.builtin "isinstance") (rIsX X.K cls d a) := by
  intro pins s σ H xs us Q I r h
  obtain ⟨D, rfl, rfl, C, h⟩ := h
  exact call_isE C hz hf pins s σ H xs us Q I r h
/-- l.count(y), flat items -/
def rCount (K : PySem.W.Frag) : V → List V → Hp → VK → Prop := fun x xs H Q => ∃ (a : Addr) (ys : List V) (y : V), x = V.ref a ∧ xs = [y] ∧ SqL K H a ys ∧ flatV y = true ∧ ys.all flatV = true ∧ Q (.int (ys.countP (fun z => eqV z y) : Nat)) H
theorem countP_eqU {y : V} : ∀ {ys : List V} {us : List Value}, Vals ys us → ys.all flatV = true → us.countP (eqU y) = ys.countP (fun z => eqV z y)
  | _, _, .nil, _ => rfl
  | z :: ys, u :: us, .cons r t, f => by
    have f' : flatV z = true ∧ ys.all flatV = true := by simpa using f
    rw [List.countP_cons, List.countP_cons, eqU_of r f'.1, countP_eqU t f'.2]
theorem mt_countL : MtR X "list.count" (rCount X.K) := by
  intro pins s σ H x xs v us Q I rx rxs h
  obtain ⟨a, ys, y, rfl, rfl, hs, fy, fys, q⟩ := h
  cases rx
  cases rxs with
  | cons ry rt =>
    rename_i uy ut
    cases rt
    obtain ⟨its, rv, ⟨⟨cls, dd, data, sl⟩, n, ho, hc, hdn, hd⟩, hlen⟩ := I.list hs
    simp only at hc hd
    subst hc hd
    have m := SeqAt.list_countAt a its.toArray n dd sl uy (eqU y)
    refine call_meets PySem.F.slot_list_count ⟨_, ho, rfl⟩ PySem.F.entry_list_count (PySem.F.args_list_count_2 _ _) m ⟨ho, fun w hw => mem_eqAt ry fy rv fys w (by simpa using hw), ?_⟩
    have e : its.toArray.toList.countP (eqU y) = ys.countP (fun z => eqV z y) := countP_eqU rv fys
    rw [e]
    exact ⟨.int _, H, I.tok _, ⟨_, rfl⟩, q⟩
/-- rules that name the kept part by itself (for an except suite, whose reading may not name its context) -/
theorem mt_countK {K : PySem.W.Frag} (hK : X.K = K) : MtR X "list.count" (rCount K) := by subst hK; exact mt_countL
theorem mt_indexK {K : PySem.W.Frag} (hK : X.K = K) : MtR X "list.index" (rIndex K) := by subst hK; exact mt_index
theorem ix_listK {K : PySem.W.Frag} (hK : X.K = K) : IxR X (rIxL K) := by subst hK; exact ix_list
theorem pe_bmK {K : PySem.W.Frag} {o e : Expr} {es : List Expr} {to : TE} {t : TA} {name : Str} {apos cpos : Pos} {T id : String} {r : V → List V → Hp → VK → Prop} (hK : X.K = K) (pa : PlainAttrs T) (slot : Slot T name id) (hty : typeOf (.builtin id) = pure (.type "method_descriptor")) (hm : MtR X id r) (ho : PE X o to) (ha : PA X (e :: es) t)
    (hbase : attributeBase o name X.env (eval o X.env) = eval o X.env := by rfl)
    (hfew : ((backTo cpos (starEach (e :: es) X.env)).all (fun x => !x.1) && (backToKw cpos (keywordEach [] X.env)).all (fun x => x.1.isSome) && decide ((e :: es).length + ([] : List Keyword).length + (if ([] : List Keyword).isEmpty then 0 else 1) < 30)) = true := by rfl)
    (hline : (apos.endLine == cpos.line) = true := by rfl) (hs : starEach (e :: es) X.env = (false, eval e X.env) :: starEach es X.env := by rfl) (hplain : (backTo cpos (starEach es X.env)).any (·.1) = false := by rfl) : PE X (.Call (.Attribute o name apos) (e :: es) [] cpos) (tBM K T r to t) := by
  subst hK
  exact pe_bm pa slot hty hm ho ha hbase hfew hline hs hplain
/-- the frame has its slots when an exception comes -/
theorem takes_len {W : WX} (t : Takes X W) : Takes X (fun cls d σ H => σ.length = X.N.length → W cls d σ H) := fun u s' x => by
  obtain ⟨a, B, sI, pins, σ, H, cls, d, h1, I, h2, h3, h4, h5, h6, h7, w⟩ := x
  exact t u s' ⟨a, B, sI, pins, σ, H, cls, d, h1, I, h2, h3, h4, h5, h6, h7, w I.len⟩
theorem five {α : Type} {l : List α} (h : l.length = 5) : ∃ a b c d e, l = [a, b, c, d, e] := by
  match l, h with
  | [a, b, c, d, e], _ => exact ⟨a, b, c, d, e, rfl⟩
/-- a(), within a try -/
theorem ps_act {Z : Cx} {a q : Str} {f c' : Addr} {W : WX} {tl : XK → Hp → VK → Prop} {p1 p2 p3 : Pos}
    (act : ∀ (E : XK), (∀ cls d σ' H', E cls d H' → σ'.length = Z.N.length → W cls d σ' H') → PE Z (.Call (.Name a p1) [] [] p2) (fun σZ HZ Q => σZ[0]? = some (some (.ref f)) ∧ HZ c' = some (LamX.CodeO c' q) ∧ tl E HZ Q)) :
    PS Z (.Expr (.Call (.Name a p1) [] [] p2) p3) (fun D σ H => ∃ E : XK, (∀ cls d σ' H', E cls d H' → σ'.length = Z.N.length → W cls d σ' H') ∧ σ[0]? = some (some (.ref f)) ∧ H c' = some (LamX.CodeO c' q) ∧ tl E H (fun _ H' => D.nx σ H')) := by
  refine ⟨fun pins s σ H D I h => ?_⟩
  obtain ⟨E, hW, h1, h2, h3⟩ := h
  exact (ps_expr (pos := p3) (act E hW)).run pins s σ H D I ⟨h1, h2, h3⟩
end
end My
namespace My
open PySem PySem.Spec PyProof.Rows L2
def errNames : List Str := ["InvalidRoom", "UnknownPort", "UnknownTile", "InvalidNumber", "OtherRoom", "TooMany", "Contradiction", "NotTurning", "InvalidName", "UnknownName", "InvalidOperation"]
def errKinds : List Str := ["room", "port", "tile", "number", "other", "many", "contradiction", "turning", "name", "unknown", "operation"]
/-- the program's error classes: MirrorError at m, the others by c -/
structure ErrAll (K : PySem.W.Frag) (mg : Str → Option Value) (m : Addr) (c : Nat → Addr) : Prop where
  gm : mg "MirrorError" = some (.ref m)
  g : ∀ i, i < 11 → mg (errNames.getD i "") = some (.ref (c i))
  k : ∀ i j, i < 11 → j < 11 → PySem.W.kitOne K (.ref (c i)) (.ref (c j)) = some (decide (i = j))
  v : ∀ i, i < 11 → PySem.W.kitOne K (.ref (c i)) (.type "ValueError") = some true
  x : ∀ i, i < 11 → PySem.W.exmOne K (.ref (c i)) (.ref m) = some true
  e : ∀ i, i < 11 → ExcC K (c i)
  bi : mg "isinstance" = none
  bv : mg "ValueError" = none
def kindsV (i : Nat) : List V := (List.range 11).map fun j => V.bl (decide (i = j))
theorem kinds_flat (i : Nat) : (kindsV i).all flatV = true := by
  unfold kindsV
  rw [List.all_eq_true]
  intro x hx
  obtain ⟨j, _, rfl⟩ := List.mem_map.mp hx
  rfl
theorem kinds_count : ∀ i, i < 11 → (kindsV i).countP (fun z => eqV z (.bl true)) = 1 := by decide +kernel
theorem kinds_at {i : Nat} (h : i < 11) (m : Nat) (z : V) (e : (kindsV i)[m]? = some z) : z = V.bl (decide (i = m)) := by
  unfold kindsV at e
  rw [List.getElem?_map] at e
  cases q : (List.range 11)[m]? with
  | none => rw [q] at e; cases e
  | some r =>
    rw [q] at e
    have : r = m := by
      obtain ⟨h1, h2⟩ := List.getElem?_eq_some_iff.mp q
      rw [List.getElem_range] at h2
      exact h2.symm
    subst this
    exact (Option.some.inj e).symm
theorem kinds_me {i : Nat} (h : i < 11) : (kindsV i)[i]? = some (V.bl true) := by
  unfold kindsV
  rw [List.getElem?_map, List.getElem?_range h] <;> simp
theorem kind_at : ∀ i, i < 11 → (errKinds.map V.str)[i]? = some (.str (errKinds.getD i "")) := by
  intro i h
  rw [List.getElem?_map, List.getD_eq_getElem?_getD]
  have : i < errKinds.length := h
  rw [List.getElem?_eq_getElem this]
  rfl
theorem kind_room : ∀ i, i < 11 → 0 < i → ("room" : Str) ≠ errKinds.getD i "" := by decide +kernel
theorem kind_op : ∀ i, i < 10 → ("operation" : Str) ≠ errKinds.getD i "" := by decide +kernel
/-- what the error that a call raises is told as -/
def TErr (c : Nat → Addr) : (XK → Hp → VK → Prop) → Hp → VK → Prop := fun tl H Q =>
  tl (fun cls d H' => ∃ i, 0 < i ∧ i < 10 ∧ cls = .ref (c i) ∧ d = none ∧ ∀ p H'', H' p = none → Same H' H'' → H'' p = some (.tup [.str (errKinds.getD i ""), .int 0]) → Q (.ref p) H'') H (fun _ H' => Q .non H')
abbrev s_l_error_of : Stmt := (top 42)
abbrev N_l_error_of : List Str := ["_law_call", "e", "_law_kinds", "_law_names", "_law_name"]
theorem sc_l_error_of : FnScope N_l_error_of ["_law_call"] (defScope s_l_error_of) := ⟨rfl, rfl, rfl, by decide +kernel, rfl, by decide +kernel, by decide +kernel⟩

theorem gives_error_of {X : Cx} {m : Addr} {c : Nat → Addr} (EA : ErrAll X.K X.mg m c) (g : Addr) (cdg : Value) (q : Str) :
    LamX.GivesTo X N_l_error_of "_law_error_of" (defScope s_l_error_of) g cdg (defBody s_l_error_of) "_law_call" q (TErr c) := by
  intro f c' s H Q tl act hc h
  refine ⟨_, pss_cons (ps_try_as (X := (cxOf C8.CX0 X.prog X.w X.K X.mg X.base N_l_error_of "_law_error_of" (defScope s_l_error_of) g cdg X.A X.stack s H C8.E0).nox) (c := .ref m) (i := 1)
    (tb := fun W D σ H => ∃ E : XK, (∀ cls d σ' H', E cls d H' → σ'.length = 5 → W cls d σ' H') ∧ σ[0]? = some (some (.ref f)) ∧ H c' = some (LamX.CodeO c' q) ∧ tl E H (fun _ H' => D.nx σ H'))
    rfl rfl sc_l_error_of.nd rfl rfl ⟨by rfl, by decide, .inl EA.gm⟩ LamX.takes0 (fun W pn xe tk _ => pss_one (ps_act fun E hW => act _ pn xe E _ _ (takes_len tk) hW))
    (fun a oe cls d pn hz hf => (pss_cons (ps_set (i := 2) sc_l_error_of.nd rfl (Or.inl rfl) (pe_lst (pa_cons (pe_callB (call_isX hz hf) (by rfl) EA.bi (by decide +kernel) (pa_cons (pv 1) (pa_cons (pe_gr (EA.g 0 (by decide))) pa_nil))) (pa_cons (pe_callB (call_isX hz hf) (by rfl) EA.bi (by decide +kernel) (pa_cons (pv 1) (pa_cons (pe_gr (EA.g 1 (by decide))) pa_nil))) (pa_cons (pe_callB (call_isX hz hf) (by rfl) EA.bi (by decide +kernel) (pa_cons (pv 1) (pa_cons (pe_gr (EA.g 2 (by decide))) pa_nil))) pa_nil)))))
    (pss_cons (ps_set (i := 2) sc_l_error_of.nd rfl (Or.inl rfl) (pe_op op_cat (pv 2) (pe_lst (pa_cons (pe_callB (call_isX hz hf) (by rfl) EA.bi (by decide +kernel) (pa_cons (pv 1) (pa_cons (pe_gr (EA.g 3 (by decide))) pa_nil))) (pa_cons (pe_callB (call_isX hz hf) (by rfl) EA.bi (by decide +kernel) (pa_cons (pv 1) (pa_cons (pe_gr (EA.g 4 (by decide))) pa_nil))) (pa_cons (pe_callB (call_isX hz hf) (by rfl) EA.bi (by decide +kernel) (pa_cons (pv 1) (pa_cons (pe_gr (EA.g 5 (by decide))) pa_nil))) pa_nil))))))
    (pss_cons (ps_set (i := 2) sc_l_error_of.nd rfl (Or.inl rfl) (pe_op op_cat (pv 2) (pe_lst (pa_cons (pe_callB (call_isX hz hf) (by rfl) EA.bi (by decide +kernel) (pa_cons (pv 1) (pa_cons (pe_gr (EA.g 6 (by decide))) pa_nil))) (pa_cons (pe_callB (call_isX hz hf) (by rfl) EA.bi (by decide +kernel) (pa_cons (pv 1) (pa_cons (pe_gr (EA.g 7 (by decide))) pa_nil))) (pa_cons (pe_callB (call_isX hz hf) (by rfl) EA.bi (by decide +kernel) (pa_cons (pv 1) (pa_cons (pe_gr (EA.g 8 (by decide))) pa_nil))) pa_nil))))))
    (pss_cons (ps_set (i := 2) sc_l_error_of.nd rfl (Or.inl rfl) (pe_op op_cat (pv 2) (pe_lst (pa_cons (pe_callB (call_isX hz hf) (by rfl) EA.bi (by decide +kernel) (pa_cons (pv 1) (pa_cons (pe_gr (EA.g 9 (by decide))) pa_nil))) (pa_cons (pe_callB (call_isX hz hf) (by rfl) EA.bi (by decide +kernel) (pa_cons (pv 1) (pa_cons (pe_gr (EA.g 10 (by decide))) pa_nil))) pa_nil)))))
    (pss_cons (ps_if (PW.pt (pw_or (pt_cmpR op_ne (pe_bmK (K := X.K) rfl PySem.F.plainAttrs_list PySem.F.slot_list_count PySem.F.type_list_count (mt_countK rfl) (pv 2) (pa_cons pe_bl pa_nil)) pe_int (nomark _)) (pw_or1 (pt_not (pt_val (pe_callB (call_isX hz hf) (by rfl) EA.bi (by decide +kernel) (pa_cons (pv 1) (pa_cons (pe_bltn (v := .ty "ValueError") (u := .type "ValueError") (by rfl) EA.bv (by decide +kernel) rfl) pa_nil))))))))
      (pss_one (ps_ret (pe_tup (pa_cons pe_str (pa_cons pe_int pa_nil)))))
      pss_nil)
    (pss_cons (ps_set (i := 3) sc_l_error_of.nd rfl (Or.inl rfl) (pe_lst (pa_cons pe_str (pa_cons pe_str (pa_cons pe_str (pa_cons pe_str (pa_cons pe_str (pa_cons pe_str (pa_cons pe_str (pa_cons pe_str (pa_cons pe_str (pa_cons pe_str pa_nil))))))))))))
    (pss_cons (ps_set (i := 4) sc_l_error_of.nd rfl (Or.inl rfl) (pe_ix (ix_listK (K := X.K) rfl) (pe_op op_cat (pv 3) (pe_lst (pa_cons pe_str pa_nil))) (pe_bmK (K := X.K) rfl PySem.F.plainAttrs_list PySem.F.slot_list_index PySem.F.type_list_index (mt_indexK rfl) (pv 2) (pa_cons pe_bl pa_nil)) (fun _ _ => rfl)))
    (pss_cons (ps_if (pt_cmpR op_eq (pv 4) pe_str (nomark _))
      (pss_one (ps_ret (pe_tup (pa_cons (pv 4) (pa_cons (pe_tup (pa_cons pe_no (pa_cons pe_no pa_nil))) pa_nil)))))
      pss_nil)
    (pss_one (ps_ret (pe_tup (pa_cons (pv 4) (pa_cons (pe_ifExp (pt_cmpR op_eq (pv 4) pe_str (nomark _)) pe_no pe_int) pa_nil))))))))))))))) (pss_one (ps_ret pe_non)), ?_⟩
  refine ⟨fun cls d H' => ∃ i, 0 < i ∧ i < 10 ∧ cls = .ref (c i) ∧ d = none ∧ ∀ p H'', H' p = none → Same H' H'' → H'' p = some (.tup [.str (errKinds.getD i ""), .int 0]) → Q (.ref p) H'', ?_, rfl, hc, h⟩
  rintro cls d σ' H' ⟨i, i0, i1, rfl, rfl, q⟩ hl
  obtain ⟨v0, v1, v2, v3, v4, rfl⟩ := five hl
  have i2 : i < 11 := by omega
  refine ⟨true, EA.x i i2, fun _ a na => ?_, fun z => nomatch z⟩
  have isE : ∀ j, j < 11 → ∀ (H2 : Hp) (Q2 : VK), Q2 (.bl (decide (i = j))) H2 → rIsX X.K (.ref (c i)) none a [.ref a, .ref (c j)] H2 Q2 := fun j hj H2 Q2 q2 =>
    ⟨c i, rfl, rfl, EA.e i i2, .ref (c j), .ref (c j), _, rfl, fun u r => r, EA.k i j i2 hj, q2⟩
  refine ⟨_, rfl, isE 0 (by decide) _ _ ?_⟩
  refine ⟨_, rfl, isE 1 (by decide) _ _ ?_⟩
  refine ⟨_, rfl, isE 2 (by decide) _ _ ?_⟩
  refine ⟨by show 3 ≤ sizeLine; decide, fun p1 hp1 => ?_⟩
  have s1 := Same.new (o := .lst [.bl (decide (i = 0)), .bl (decide (i = 1)), .bl (decide (i = 2))]) hp1
  have e1 : upd H' p1 (.lst [.bl (decide (i = 0)), .bl (decide (i = 1)), .bl (decide (i = 2))]) p1 = some (.lst [.bl (decide (i = 0)), .bl (decide (i = 1)), .bl (decide (i = 2))]) := upd_same
  generalize upd H' p1 (.lst [.bl (decide (i = 0)), .bl (decide (i = 1)), .bl (decide (i = 2))]) = H1 at s1 e1 ⊢
  refine ⟨_, rfl, ?_⟩
  refine ⟨_, rfl, isE 3 (by decide) _ _ ?_⟩
  refine ⟨_, rfl, isE 4 (by decide) _ _ ?_⟩
  refine ⟨_, rfl, isE 5 (by decide) _ _ ?_⟩
  refine ⟨by show 3 ≤ sizeLine; decide, fun q2 hq2 => ?_⟩
  refine ⟨p1, q2, _, _, rfl, rfl, Same.new hq2 _ _ e1, upd_same, sz2 (by show 6 ≤ 100000; decide), fun p2 hp2 => ?_⟩
  have s2 := Same.new' (Same.new' s1 (o := .lst [.bl (decide (i = 3)), .bl (decide (i = 4)), .bl (decide (i = 5))]) hq2) (o := .lst ([.bl (decide (i = 0)), .bl (decide (i = 1)), .bl (decide (i = 2))] ++ [.bl (decide (i = 3)), .bl (decide (i = 4)), .bl (decide (i = 5))])) hp2
  have e2 : upd (upd H1 q2 (.lst [.bl (decide (i = 3)), .bl (decide (i = 4)), .bl (decide (i = 5))])) p2 (.lst ([.bl (decide (i = 0)), .bl (decide (i = 1)), .bl (decide (i = 2))] ++ [.bl (decide (i = 3)), .bl (decide (i = 4)), .bl (decide (i = 5))])) p2 = some (.lst [.bl (decide (i = 0)), .bl (decide (i = 1)), .bl (decide (i = 2)), .bl (decide (i = 3)), .bl (decide (i = 4)), .bl (decide (i = 5))]) := upd_same
  generalize upd (upd H1 q2 (.lst [.bl (decide (i = 3)), .bl (decide (i = 4)), .bl (decide (i = 5))])) p2 (.lst ([.bl (decide (i = 0)), .bl (decide (i = 1)), .bl (decide (i = 2))] ++ [.bl (decide (i = 3)), .bl (decide (i = 4)), .bl (decide (i = 5))])) = H2 at s2 e2 ⊢
  refine ⟨_, rfl, ?_⟩
  refine ⟨_, rfl, isE 6 (by decide) _ _ ?_⟩
  refine ⟨_, rfl, isE 7 (by decide) _ _ ?_⟩
  refine ⟨_, rfl, isE 8 (by decide) _ _ ?_⟩
  refine ⟨by show 3 ≤ sizeLine; decide, fun q3 hq3 => ?_⟩
  refine ⟨p2, q3, _, _, rfl, rfl, Same.new hq3 _ _ e2, upd_same, sz2 (by show 9 ≤ 100000; decide), fun p3 hp3 => ?_⟩
  have s3 := Same.new' (Same.new' s2 (o := .lst [.bl (decide (i = 6)), .bl (decide (i = 7)), .bl (decide (i = 8))]) hq3) (o := .lst ([.bl (decide (i = 0)), .bl (decide (i = 1)), .bl (decide (i = 2)), .bl (decide (i = 3)), .bl (decide (i = 4)), .bl (decide (i = 5))] ++ [.bl (decide (i = 6)), .bl (decide (i = 7)), .bl (decide (i = 8))])) hp3
  have e3 : upd (upd H2 q3 (.lst [.bl (decide (i = 6)), .bl (decide (i = 7)), .bl (decide (i = 8))])) p3 (.lst ([.bl (decide (i = 0)), .bl (decide (i = 1)), .bl (decide (i = 2)), .bl (decide (i = 3)), .bl (decide (i = 4)), .bl (decide (i = 5))] ++ [.bl (decide (i = 6)), .bl (decide (i = 7)), .bl (decide (i = 8))])) p3 = some (.lst [.bl (decide (i = 0)), .bl (decide (i = 1)), .bl (decide (i = 2)), .bl (decide (i = 3)), .bl (decide (i = 4)), .bl (decide (i = 5)), .bl (decide (i = 6)), .bl (decide (i = 7)), .bl (decide (i = 8))]) := upd_same
  generalize upd (upd H2 q3 (.lst [.bl (decide (i = 6)), .bl (decide (i = 7)), .bl (decide (i = 8))])) p3 (.lst ([.bl (decide (i = 0)), .bl (decide (i = 1)), .bl (decide (i = 2)), .bl (decide (i = 3)), .bl (decide (i = 4)), .bl (decide (i = 5))] ++ [.bl (decide (i = 6)), .bl (decide (i = 7)), .bl (decide (i = 8))])) = H3 at s3 e3 ⊢
  refine ⟨_, rfl, ?_⟩
  refine ⟨_, rfl, isE 9 (by decide) _ _ ?_⟩
  refine ⟨_, rfl, isE 10 (by decide) _ _ ?_⟩
  refine ⟨by show 2 ≤ sizeLine; decide, fun q4 hq4 => ?_⟩
  refine ⟨p3, q4, _, _, rfl, rfl, Same.new hq4 _ _ e3, upd_same, sz2 (by show 11 ≤ 100000; decide), fun p4 hp4 => ?_⟩
  have s4 := Same.new' (Same.new' s3 (o := .lst [.bl (decide (i = 9)), .bl (decide (i = 10))]) hq4) (o := .lst ([.bl (decide (i = 0)), .bl (decide (i = 1)), .bl (decide (i = 2)), .bl (decide (i = 3)), .bl (decide (i = 4)), .bl (decide (i = 5)), .bl (decide (i = 6)), .bl (decide (i = 7)), .bl (decide (i = 8))] ++ [.bl (decide (i = 9)), .bl (decide (i = 10))])) hp4
  have e4 : upd (upd H3 q4 (.lst [.bl (decide (i = 9)), .bl (decide (i = 10))])) p4 (.lst ([.bl (decide (i = 0)), .bl (decide (i = 1)), .bl (decide (i = 2)), .bl (decide (i = 3)), .bl (decide (i = 4)), .bl (decide (i = 5)), .bl (decide (i = 6)), .bl (decide (i = 7)), .bl (decide (i = 8))] ++ [.bl (decide (i = 9)), .bl (decide (i = 10))])) p4 = some (.lst [.bl (decide (i = 0)), .bl (decide (i = 1)), .bl (decide (i = 2)), .bl (decide (i = 3)), .bl (decide (i = 4)), .bl (decide (i = 5)), .bl (decide (i = 6)), .bl (decide (i = 7)), .bl (decide (i = 8)), .bl (decide (i = 9)), .bl (decide (i = 10))]) := upd_same
  generalize upd (upd H3 q4 (.lst [.bl (decide (i = 9)), .bl (decide (i = 10))])) p4 (.lst ([.bl (decide (i = 0)), .bl (decide (i = 1)), .bl (decide (i = 2)), .bl (decide (i = 3)), .bl (decide (i = 4)), .bl (decide (i = 5)), .bl (decide (i = 6)), .bl (decide (i = 7)), .bl (decide (i = 8))] ++ [.bl (decide (i = 9)), .bl (decide (i = 10))])) = H4 at s4 e4 ⊢
  have e5 : H4 p4 = some (.lst (kindsV i)) := e4
  have k1 := kinds_count i i2
  refine ⟨_, rfl, .inl ⟨rfl, _, SqL.of e5⟩, p4, kindsV i, .bl true, rfl, rfl, SqL.of e5, rfl, kinds_flat i, ?_⟩
  rw [k1]
  refine ⟨rfl, _, rfl, ifF rfl ?_⟩
  refine ⟨_, rfl, c i, rfl, rfl, EA.e i i2, .ty "ValueError", .type "ValueError", true, rfl, fun u r => r, EA.v i i2, true, rfl, ifF rfl ?_⟩
  refine ⟨by show 10 ≤ sizeLine; decide, fun p5 hp5 => ?_⟩
  have s5 := Same.new' s4 (o := .lst [.str "room", .str "port", .str "tile", .str "number", .str "other", .str "many", .str "contradiction", .str "turning", .str "name", .str "unknown"]) hp5
  have e6 := Same.new (o := .lst [.str "room", .str "port", .str "tile", .str "number", .str "other", .str "many", .str "contradiction", .str "turning", .str "name", .str "unknown"]) hp5 _ _ e5
  have n6 : upd H4 p5 (.lst [.str "room", .str "port", .str "tile", .str "number", .str "other", .str "many", .str "contradiction", .str "turning", .str "name", .str "unknown"]) p5 = some (.lst [.str "room", .str "port", .str "tile", .str "number", .str "other", .str "many", .str "contradiction", .str "turning", .str "name", .str "unknown"]) := upd_same
  generalize upd H4 p5 (.lst [.str "room", .str "port", .str "tile", .str "number", .str "other", .str "many", .str "contradiction", .str "turning", .str "name", .str "unknown"]) = H5 at s5 e6 n6 ⊢
  refine ⟨_, rfl, by show 1 ≤ sizeLine; decide, fun q6 hq6 => ?_⟩
  refine ⟨p5, q6, _, _, rfl, rfl, Same.new hq6 _ _ n6, upd_same, sz2 (by show 11 ≤ 100000; decide), fun p6 hp6 => ?_⟩
  have s6 := Same.new' (Same.new' s5 (o := .lst [.str "operation"]) hq6) (o := .lst ([.str "room", .str "port", .str "tile", .str "number", .str "other", .str "many", .str "contradiction", .str "turning", .str "name", .str "unknown"] ++ [.str "operation"])) hp6
  have e7 := Same.new (o := .lst ([.str "room", .str "port", .str "tile", .str "number", .str "other", .str "many", .str "contradiction", .str "turning", .str "name", .str "unknown"] ++ [.str "operation"])) hp6 _ _ (Same.new (o := .lst [.str "operation"]) hq6 _ _ e6)
  have n7 : upd (upd H5 q6 (.lst [.str "operation"])) p6 (.lst ([.str "room", .str "port", .str "tile", .str "number", .str "other", .str "many", .str "contradiction", .str "turning", .str "name", .str "unknown"] ++ [.str "operation"])) p6 = some (.lst (errKinds.map V.str)) := upd_same
  generalize upd (upd H5 q6 (.lst [.str "operation"])) p6 (.lst ([.str "room", .str "port", .str "tile", .str "number", .str "other", .str "many", .str "contradiction", .str "turning", .str "name", .str "unknown"] ++ [.str "operation"])) = H6 at s6 e7 n7 ⊢
  refine ⟨_, rfl, .inl ⟨rfl, _, SqL.of e7⟩, p4, kindsV i, .bl true, i, .bl true, rfl, rfl, SqL.of e7, rfl, kinds_flat i, kinds_me i2, rfl, fun m z hm hz => ?_, ?_⟩
  · rw [kinds_at i2 m z hz, decide_eq_false (by omega)] <;> rfl
  refine ⟨p6, _, _, _, rfl, rfl, SqL.of n7, atI_nat (kind_at i i2), ?_⟩
  refine ⟨_, rfl, rfl, _, rfl, ?_⟩
  refine ifF (dF (by intro z; injection z with z; exact kind_room i i2 i0 z.symm)) ?_
  refine ⟨_, rfl, _, rfl, rfl, _, rfl, ifF (dF (by intro z; injection z with z; exact kind_op i i1 z.symm)) ?_⟩
  refine ⟨by show 2 ≤ sizeLine; decide, fun p7 hp7 => ?_⟩
  exact q p7 _ (s6.free hp7) (Same.new' s6 hp7) upd_same
end My
/-! [e for x in l] where e wants a token to be out -/
namespace My
open PySem PySem.Spec PyProof.Rows L2
theorem carry {α : Type} {M : Model} {A : Around} {m : Sem α} {E : Value → Shared → Prop} {s : Shared} {P R : α → Shared → Prop} (ht : 1 ≤ s.toks) (hm : wpAny M A m P (fun _ _ => False) s) (hR : ∀ a u, 1 ≤ u.toks → P a u → R a u) : wpAny M A m R E s :=
  wpAny_mono (PySem.wpAny_toks_of ht hm) (fun a u p => hR a u p.1 p.2) fun _ _ p => p.2.elim
theorem carryE {α : Type} {M : Model} {A : Around} {m : Sem α} {E : Value → Shared → Prop} {s : Shared} {P R : α → Shared → Prop} (ht : 1 ≤ s.toks) (hm : wpAny M A m P E s) (hR : ∀ a u, 1 ≤ u.toks → P a u → R a u) : wpAny M A m R E s :=
  wpAny_mono (PySem.wpAny_toks_of ht hm) (fun a u p => hR a u p.1 p.2) fun _ _ p => p.2
section
variable {X : Cx}
theorem pet_lc {elt tg iter : Expr} {scope : Scope} {own : List (Str × Nat)} {pos : Pos} {wi : TI} {g : TG} {te : TE} (calm : X.calm = true) (nd : X.N.Nodup) (pi : PI X tg iter wi) (bk : BlkOk X.N X.env.scope scope own)
    (pg : ∀ (u : Shared) (G : Hp) (C : Addr) (cl : List (Str × Addr)) (fp : List Addr), PG (X.blk u G scope (compEnvC scope cl C X.env) fp) tg g) (pe : ∀ (u : Shared) (G : Hp) (C : Addr) (cl : List (Str × Addr)) (fp : List Addr), PET (X.blk u G scope (compEnvC scope cl C X.env) fp) elt te)
    (fs : ∀ x, foldedSetIterable iter X.env x = pure x := by intro _; rfl) : PET X (.ListComp elt [⟨tg, iter, [], 0⟩] scope pos) (tLc wi g tYes te (own.map (·.2))) := by
  intro pins s σ H Q ht J h
  rw [eval_ListComp]
  have caps : ∀ y ∈ scope.names, y.2 = .free → ∃ c, X.env.cells.lookup y.1 = some c := fun y hy e => J.ok.has _ (bk.free y hy e)
  refine wpAny_comprehension_free (use := none) rfl fs (closure_ok caps) bk.kind (fun y hy e => by rw [bk.uniq y hy, e]) (carryE ht (pi.run pins s σ H _ J h) fun xv sA tA hA => carryE tA hA fun itv sB tB hB => ?_)
  obtain ⟨it, fp, tn, W0, HB, rfl, JB, T, stB, fB, q⟩ := hB
  refine wpAny_newObj_type (newEnv_comp ?_) (by show 0 ≤ sizeLine; decide)
  generalize eD : sB.heap.objs.size = D
  obtain ⟨W, ⟨m0, w0⟩, turn⟩ := q D (JB.hok.fresh (Nat.le_of_eq eD))
  have hC : ({ sB with heap := sB.heap.push { cls := .type "list", data := .seq ([] : List Value).toArray } } : Shared).heap = sB.heap.push { cls := .type "list", data := .seq ([] : List Value).toArray } := rfl
  have tC : 1 ≤ ({ sB with heap := sB.heap.push { cls := .type "list", data := .seq ([] : List Value).toArray } } : Shared).toks := tB
  have JC : Inv X pins σ (upd HB D (.lst [])) ({ sB with heap := sB.heap.push { cls := .type "list", data := .seq ([] : List Value).toArray } } : Shared) := by
    refine JB.laid (t' := sB.toks) (fun b o e => Heap.get?_push_of_some _ e) (Nat.le_of_eq eD) ⟨Nat.zero_le _, [], 0, .nil, ?_⟩
    subst eD
    exact Heap.get?_push_size _ rfl
  generalize ({ sB with heap := sB.heap.push { cls := .type "list", data := .seq ([] : List Value).toArray } } : Shared) = sC at hC tC JC ⊢
  have keepC : ∀ b o, sB.heap.get? b = some o → sC.heap.get? b = some o := fun b o e => by rw [hC]; exact Heap.get?_push_of_some _ e
  have fC : ∀ b ∈ fp, FpOk X pins (upd HB D (.lst [])) b ∧ b < sC.heap.objs.size := fun b hb => by
    obtain ⟨o, e, _⟩ := T.obj _ _ stB b hb
    have lt := Heap.lt_size e
    refine ⟨⟨?_, (fB b hb).2⟩, by rw [hC, Heap.size_push]; exact Nat.lt_succ_of_lt lt⟩
    rw [upd_ne (by rw [← eD]; exact Nat.ne_of_lt lt)]
    exact (fB b hb).1
  have stC : tn 0 sC.heap := T.keep _ _ _ stB fun b _ o e => keepC b o e
  have JD := block_start JC bk nd fC
  have tD : 1 ≤ ({ sC with heap := pushCells (sC.heap.push { cls := .type "dict", data := .dict #[] }) scope.names } : Shared).toks := tC
  have stD : tn 0 ({ sC with heap := pushCells (sC.heap.push { cls := .type "dict", data := .dict #[] }) scope.names } : Shared).heap := T.keep _ _ _ stC fun b _ o e => pushCells_keeps _ _ _ _ (Heap.get?_push_of_some _ e)
  have rg := pg sC (upd HB D (.lst [])) sC.heap.objs.size (cellsFrom (sC.heap.objs.size + 1) scope.names (cloFrom X.env.cells scope.names [])) fp
  have re := pe sC (upd HB D (.lst [])) sC.heap.objs.size (cellsFrom (sC.heap.objs.size + 1) scope.names (cloFrom X.env.cells scope.names [])) fp
  have freeC : ∀ b ∈ fp, (upd HB D (.lst [])) b = none := fun b hb => (fC b hb).1.1
  have eL : (compEnvC scope (cellsFrom (sC.heap.objs.size + 1) scope.names (cloFrom X.env.cells scope.names [])) sC.heap.objs.size X.env).locals = sC.heap.objs.size := rfl
  show codeAny _ _ (.compStart (.ListComp elt [⟨tg, iter, [], 0⟩] scope pos) 0 (.ref it) (.ref D) (compEnvC scope (cellsFrom (sC.heap.objs.size + 1) scope.names (cloFrom X.env.cells scope.names [])) sC.heap.objs.size X.env)) _ ({ sC with heap := pushCells (sC.heap.push { cls := .type "dict", data := .dict #[] }) scope.names } : Shared)
  generalize compEnvC scope (cellsFrom (sC.heap.objs.size + 1) scope.names (cloFrom X.env.cells scope.names [])) sC.heap.objs.size X.env = ce at JD rg re eL ⊢
  generalize upd HB D (.lst []) = HC at JC JD rg re w0 freeC fC
  generalize ({ sC with heap := pushCells (sC.heap.push { cls := .type "dict", data := .dict #[] }) scope.names } : Shared) = sD at JD tD stD ⊢
  have fpo : ∀ {τ : L2.St} {G : Hp} {u : Shared}, Inv (X.blk sC HC scope ce fp) [] τ G u → (∀ b ∈ fp, G b = none) → ∀ b ∈ fp, FpOk (X.blk sC HC scope ce fp) [] G b := fun {τ G u} K n b hb =>
    ⟨n b hb, (K.ok.exf b hb).1, K.ok.exfs b hb, .inl hb, fun x c e => (K.ok.exf b hb).2 x c e, fun p hp => absurd (show p ∈ ([] : List (Addr × Obj)) ++ [] from hp) (by simp)⟩
  have loop : codeAny (model X.prog X.w) X.A (.compLoop (.ListComp elt [⟨tg, iter, [], 0⟩] scope pos) 0 (.ref it) (.ref D) ce) (compPost (model X.prog X.w) X.A X.xe none (EP X pins σ Q) (.ref D) sC.heap.objs.size) sD := by
    refine compLoop_any (fun n u => 1 ≤ u.toks ∧ ∃ i G, Inv (X.blk sC HC scope ce fp) [] (wipe σ (own.map (·.2))) G u ∧ tn i u.heap ∧ (∀ b ∈ fp, G b = none) ∧ W i n G) ?_ m0 ⟨tD, 0, HC, JD, stD, freeC, w0⟩
    rintro n s5 ⟨t5, i, G5, J5, st5, n5, w5⟩
    rcases turn i n G5 w5 with ⟨stop, done⟩ | ⟨go, Nx, hNx, step⟩
    · refine carry t5 (T.done (X.blk sC HC scope ce fp) rfl rfl rfl calm i [] s5 _ G5 (fun _ _ => False) J5 (fpo J5 n5) st5 stop) fun r s6 _ ⟨hr, J6⟩ => ?_
      subst hr
      have back : Inv X pins σ G5 s6 := JC.call' (ch := fp) J6.os J6.base J6.hok J6.bare fun b hb => ⟨(fC b hb).1.2.2.2.1, (fC b hb).1.2.1, (fC b hb).1.2.2.2.2.1, (fC b hb).1.2.2.2.2.2⟩
      have nC : G5 sC.heap.objs.size = none := by rw [← eL]; exact J6.free
      obtain ⟨m, hn, _⟩ := J6.loc
      have hn : s6.heap.Ns ce.locals m := hn
      rw [eL] at hn
      obtain ⟨f0, f1, f2, f3, f4, f5⟩ := JC.fpOk (Nat.le_refl _) nC
      exact ⟨m, hn, fun h'' sb => ⟨.ref D, G5, back.turned (t' := s6.toks) (fun b o hb e => (sb.2 b hb).trans e) f0 f1 f3 f4 f5, rfl, done⟩⟩
    · refine carry t5 (T.item (X.blk sC HC scope ce fp) rfl rfl rfl calm i [] s5 _ G5 (fun _ _ => False) J5 (fpo J5 n5) st5 go) fun r s6 t6 ⟨v, hr, h6⟩ => ?_
      subst hr
      refine carry t6 h6 fun _ s7 t7 ⟨x, G7, J7, r7, y7, st7, n7⟩ => ?_
      refine carry t7 (rg.run _ s7 _ G7 x v _ (J7.pinned (fpo J7 n7) (T.obj _ _ st7)) r7 (step x G7 y7)) fun _ s8 t8 ⟨τ, G8, J8, hw, q8⟩ => ?_
      refine wpAny_tests_nil ?_
      rw [if_pos rfl]
      have q8 : te τ G8 fun y H4 => ∃ acc, H4 D = some (.lst acc) ∧ acc.length < sizeLine ∧ Nx (upd H4 D (.lst (acc ++ [y]))) := by simpa [tYes] using q8
      refine carry t8 (re _ s8 τ G8 _ t8 J8 q8) fun z s9 t9 ⟨y, G9, J9, r9, acc, hD, hz, nx⟩ => ?_
      refine carry (P := fun _ u => Inv (X.blk sC HC scope ce fp) ([] ++ pinsAt fp s7.heap) τ (upd G9 D (.lst (acc ++ [y]))) u) t9 (app_ok (X := X.blk sC HC scope ce fp) J9 hD hz r9 fun s10 J10 => J10) fun _ s10 t10 J10 => ?_
      obtain ⟨m', hm, w'⟩ := hNx _ nx
      have pin : ∀ b ∈ fp, ∀ o, s7.heap.get? b = some o → s10.heap.get? b = some o ∧ (upd G9 D (.lst (acc ++ [y]))) b = none := fun b hb o e =>
        let k := J10.pin (b, o) (List.mem_append_right _ (List.mem_append_right _ (mem_pinsAt hb e)))
        ⟨k.1, k.2.1⟩
      refine ⟨m', hm, t10, i + 1, _, (J10.unpinned (pins := [])).weak (by rw [← hw, wipe_length]) (fun j a e => ?_), T.keep _ _ _ st7 fun b hb o e => (pin b hb o e).1, fun b hb => ?_, w'⟩
      · rw [← hw] at e
        exact (wipe_some e).1
      · obtain ⟨o, e, _⟩ := T.obj _ _ st7 b hb
        exact (pin b hb o e).2
  exact codeAny_compStart_list loop (T.self X.A 0 _ _ _ stD loop)
end
end My
/-! one sign for another -/
namespace My
open PySem PySem.Spec PyProof.Rows L2
def sub1 (c d : Nat) (k : Nat) : Nat := if k = c then d else k
theorem sub1_free (c d : Nat) : ∀ l : List Nat, c ∉ l → l.map (sub1 c d) = l
  | [], _ => rfl
  | k :: r, h => by
    have e : sub1 c d k = k := if_neg fun z => h (by rw [z]; exact List.mem_cons_self)
    rw [List.map_cons, e, sub1_free c d r fun m => h (List.mem_cons_of_mem _ m)]
theorem sub1_parts (c d : Nat) : ∀ l : List Str, (∀ p ∈ l, c ∉ p.cps.toList) → (Str.join ⟨#[c]⟩ l).cps.toList.map (sub1 c d) = (Str.join ⟨#[d]⟩ l).cps.toList
  | [], _ => rfl
  | [p], h => sub1_free c d _ (h p List.mem_cons_self)
  | p :: q :: r, h => by
    have e1 : (Str.join ⟨#[c]⟩ (p :: q :: r)).cps.toList = p.cps.toList ++ [c] ++ (Str.join ⟨#[c]⟩ (q :: r)).cps.toList := by
      show (p ++ ⟨#[c]⟩ ++ Str.join ⟨#[c]⟩ (q :: r)).cps.toList = _
      simp only [Str.cps_append, Array.toList_append]
    have e2 : (Str.join ⟨#[d]⟩ (p :: q :: r)).cps.toList = p.cps.toList ++ [d] ++ (Str.join ⟨#[d]⟩ (q :: r)).cps.toList := by
      show (p ++ ⟨#[d]⟩ ++ Str.join ⟨#[d]⟩ (q :: r)).cps.toList = _
      simp only [Str.cps_append, Array.toList_append]
    have e3 : [c].map (sub1 c d) = [d] := by simp [sub1]
    rw [e1, e2, List.map_append, List.map_append, e3, sub1_free c d _ (h p List.mem_cons_self), sub1_parts c d (q :: r) fun a m => h a (List.mem_cons_of_mem _ m)]
theorem replace_sub1 (x : Str) (c d : Nat) : (Txt.replace x ⟨#[c]⟩ ⟨#[d]⟩).cps.toList = x.cps.toList.map (sub1 c d) := by
  rw [StrLaws.replace_one, ← sub1_parts c d _ (StrLaws.split_free x c), StrLaws.join_split]
theorem replace_len1 (x : Str) (c d : Nat) : (Txt.replace x ⟨#[c]⟩ ⟨#[d]⟩).length = x.length := by
  have h := congrArg List.length (replace_sub1 x c d)
  simp only [List.length_map, Array.length_toList] at h
  exact h
theorem rep_rx (x : Str) : (Txt.replace x "r" "x").length = x.length := replace_len1 x 114 120
theorem rep_fr (x : Str) : (Txt.replace x "f" "r").length = x.length := replace_len1 x 102 114
theorem rep_room {n : Nat} {z : Str} (h : n ≤ 100) (hz : z.length = 1) : n + (n + 1) * z.length ≤ 16777216 := by
  rw [hz]
  omega
/-- r for f and f for r -/
theorem replace_turn (l : List Sg) : Txt.replace (Txt.replace (Txt.replace (lstr l) "r" "x") "f" "r") "x" "f" = lstr (l.map Sg.turn) := by
  have h : (Txt.replace (Txt.replace (Txt.replace (lstr l) ⟨#[114]⟩ ⟨#[120]⟩) ⟨#[102]⟩ ⟨#[114]⟩) ⟨#[120]⟩ ⟨#[102]⟩).cps.toList = (lstr (l.map Sg.turn)).cps.toList := by
    rw [replace_sub1, replace_sub1, replace_sub1, lstr_toList, lstr_toList]
    simp only [List.map_map]
    refine List.map_congr_left fun s _ => ?_
    cases s <;> decide
  have e1 : ("r" : Str) = ⟨#[114]⟩ := by decide +kernel
  have e2 : ("x" : Str) = ⟨#[120]⟩ := by decide +kernel
  have e3 : ("f" : Str) = ⟨#[102]⟩ := by decide +kernel
  rw [e1, e2, e3]
  have ha := Array.toList_inj.mp h
  exact congrArg Str.mk ha
end My
namespace My
open PySem PySem.Spec PyProof.Rows L2
def sp_lturned (K : PySem.W.Frag) : Sp := fun vs H Q _ => ∃ (a : Addr) (g : List (List Sg)), vs = [.ref a] ∧ SqL K H a (g.map lineV) ∧ g.length ≤ 8 ∧ (∀ l ∈ g, l.length ≤ 8) ∧ ∀ p H', H p = none → Same H H' → H' p = some (.lst ((flipG g).map lineV)) → Q (.ref p) H'
abbrev s_l_turned : Stmt := (top 41)
abbrev N_l_turned : List Str := ["_law_lines_here", "_law_line"]
theorem sc_l_turned : FnScope N_l_turned ["_law_lines_here"] (defScope s_l_turned) := ⟨rfl, rfl, rfl, by decide +kernel, rfl, by decide +kernel, by decide +kernel⟩

section
variable {P : Program} {w : World} {K : PySem.W.Frag} {mg : Str → Option Value} {base : Heap}
theorem ok_lturned {f : Addr} {fd : FuncData} (F : Fun K "_law_turned" "_law_turned" s_l_turned f fd) : FnOk P w K mg base CX0 1 f fd ["_law_lines_here"] (sp_lturned K) := by
  obtain ⟨oc, od, kV, doc, pm, an, cdv, ct, osl, rfl, lk, hcd⟩ := F.ex
  refine fn_ofT (N := N_l_turned) (ps := ["_law_lines_here"]) lk hcd sc_l_turned (by decide +kernel) (by decide) (fun vs H Q E h => ?_) (fun A outer s H vs Q E hr h => ?_)
  · obtain ⟨a, g, rfl, _⟩ := h
    rfl
  · obtain ⟨a, g, rfl, hS, hg, hw, q⟩ := h
    refine ⟨_, CwR.psst_one (CwR.pst_ret (pet_lc (own := [("_law_line", 1)]) (g := gName 1)  rfl sc_l_turned.nd (pi_list (pv 0)) (blkOk_by (N := N_l_turned) (sc := defScope s_l_turned) (by decide +kernel)) (fun _ _ _ _ _ => (pg_name (i := 1) sc_l_turned.nd rfl (Or.inl rfl)))  (fun _ _ _ _ _ => (CwR.pet_replT (CwR.pet_replT (CwR.pet_replT (CwR.PET.of (pv 1)))))))), ?_⟩
    refine ⟨_, rfl, a, rfl, ⟨_, hS⟩, fun D hD => it_gen (walk_list (xs := g.map lineV)) (fun i H' => H D = none ∧ Same H H' ∧ H' D = some (.lst ((flipG (g.take i)).map lineV))) ⟨hD, Same.new hD, upd_same⟩ (fun i H' _ m => m.2.1.seq hS) ?_ ?_⟩
    · rintro i v H2 H3 hi ⟨_, s2, e2⟩ ⟨rfl, hv⟩
      rw [List.length_map] at hi
      obtain ⟨l, hl⟩ : ∃ l, g[i]? = some l := ⟨g[i], by simp [hi]⟩
      rw [List.getElem?_map, hl] at hv
      obtain rfl : lineV l = v := Option.some.inj hv
      have lw := hw l (List.mem_of_getElem? hl)
      have z1 : (lstr l).length ≤ 100 := by rw [lstr_len]; omega
      refine ⟨rfl, _, rfl, lstr l, rfl, rep_room z1 (by decide +kernel), _, rfl, rep_room (by rw [rep_rx]; exact z1) (by decide +kernel), _, rfl, rep_room (by rw [rep_fr, rep_rx]; exact z1) (by decide +kernel), _, e2, sz3 ?_, hD, Same.mut s2 hD, ?_⟩
      · unfold flipG
        simp only [List.length_map, List.length_take]
        omega
      · rw [upd_same, replace_turn, List.take_succ_eq_append_getElem hi, (List.getElem?_eq_some_iff.mp hl).2]
        unfold flipG
        simp only [List.map_append, List.map_cons, List.map_nil]
        rfl
    · rintro H2 ⟨_, s2, e2⟩
      rw [List.length_map, List.take_length] at e2
      exact q D H2 hD s2 e2
end
end My
namespace My
open PySem PySem.Spec PyProof.Rows L2
/-- Room.parse, as the law calls it -/
structure ParseM (P : Program) (w : World) (K : PySem.W.Frag) (mg : Str → Option Value) (base : Heap) (C : Addr) : Prop where
  ex : ∃ (mc : Value) (p g : Addr), ClX.CRead K C mc ∧ ClX.CMet K C mc "parse" p g ∧ FnR P w K mg base (L2.CX P w) 5 g (sp_parse C)
def sp_lroom (K : PySem.W.Frag) (C : Addr) : Sp := fun vs H Q _ => ∃ (a w : Nat) (g : List (List Sg)), vs = [.ref a] ∧ SqL K H a (g.map lineV) ∧ Grid 8 10 g w ∧ ∀ x H', H x = none → Same H H' → RoomAt C H' x g → Q (.ref x) H'
def sp_spots (K : PySem.W.Frag) : Sp := fun vs H Q _ => ∃ (a w : Nat) (g : List (List Sg)) (z : Str) (f : Sg → Bool), vs = [.ref a, .str z] ∧ SqL K H a (g.map lineV) ∧ Grid 8 10 g w ∧ (∀ s, inS z s = f s) ∧
  ∀ p ws H', H p = none → Same H H' → H' p = some (.lst ws) → PrsAt H' ws (tiles f g) → Q (.ref p) H'
abbrev s_l_room : Stmt := (top 37)
abbrev N_l_room : List Str := ["_law_lines_here"]
theorem sc_l_room : FnScope N_l_room ["_law_lines_here"] (defScope s_l_room) := ⟨rfl, rfl, rfl, by decide +kernel, rfl, by decide +kernel, by decide +kernel⟩

abbrev s_l_spots : Stmt := (top 38)
abbrev N_l_spots : List Str := ["_law_lines_here", "_law_signs", "_law_found", "_law_row", "_law_k"]
theorem sc_l_spots : FnScope N_l_spots ["_law_lines_here", "_law_signs"] (defScope s_l_spots) := ⟨rfl, rfl, rfl, by decide +kernel, rfl, by decide +kernel, by decide +kernel⟩

section
variable {P : Program} {w : World} {K : PySem.W.Frag} {mg : Str → Option Value} {base : Heap}
theorem ok_lroom {f C fI : Addr} {fd : FuncData} (F : Fun K "_law_room" "_law_room" s_l_room f fd) (T : RoomT K mg C fI) (PM : ParseM P w K mg base C) : FnOk P w K mg base (L2.CX P w) 6 f fd ["_law_lines_here"] (sp_lroom K C) := by
  refine F.okX sc_l_room (fun vs H Q E h => ?_) (fun cdv A outer s H vs Q E hr h => ?_)
  · obtain ⟨a, ww, g, rfl, _⟩ := h
    rfl
  · obtain ⟨a, ww, g, rfl, hS, G, q⟩ := h
    obtain ⟨mc, p, fp, cr, cm, cF⟩ := PM.ex
    refine ⟨_, (pss_one (ps_ret (ClX.pe_cmeth (pe_gr T.g_Room) cr cm cF (hr.mono (by decide)) passL (pa_cons (pe_join pe_str (pv 0)) pa_nil)))), ?_⟩
    have hgm := G.hm
    have hgn : g ≠ [] := fun z => by rw [z] at G; exact absurd G.h0 (by simp)
    have hs := lines_sum g 8 (fun l hl => by rw [G.ln l hl]; exact G.wm)
    refine ⟨rfl, ⟨_, rfl⟩, _, rfl, _, a, g.map lstr, rfl, rfl, .inl (by rw [← lines_str]; exact hS), ?_, ?_⟩
    · have e1 : ("\n" : Str).length = 1 := by decide +kernel
      rw [List.length_map, e1]
      omega
    · rw [join_g]
      exact ⟨ww, g, rfl, G, q⟩
theorem ok_spots {f : Addr} {fd : FuncData} (F : Fun K "_law_spots" "_law_spots" s_l_spots f fd) (T : Txt mg) : FnOk P w K mg base CX0 1 f fd ["_law_lines_here", "_law_signs"] (sp_spots K) := by
  refine F.ok sc_l_spots (fun vs H Q E h => ?_) (fun cdv A outer s H vs Q E hr h => ?_)
  · obtain ⟨a, ww, g, z, fz, rfl, _⟩ := h
    rfl
  · obtain ⟨a, ww, g, z, fz, rfl, hS, G, hz, q⟩ := h
    refine ⟨_, (pss_cons (ps_set (i := 2) sc_l_spots.nd rfl (Or.inl rfl) (pe_lst pa_nil))
    (pss_cons (ps_for PassesOwn.never rfl (pi_range1 (by rfl) T.b_range (pa_cons (pe_callB call_len_seq (by rfl) T.b_len PySem.boot_len (pa_cons (pv 0) pa_nil)) pa_nil)) (pg_name (i := 3) sc_l_spots.nd rfl (Or.inr rfl))
      (pss_one (ps_set (i := 2) sc_l_spots.nd rfl (Or.inl rfl) (pe_op op_cat (pv 2) (pe_lcG (own := [("_law_k", 4)]) (g := gName 4)  rfl sc_l_spots.nd (pi_range1 (by rfl) T.b_range (pa_cons (pe_callB call_len_str (by rfl) T.b_len PySem.boot_len (pa_cons (pe_ix ix_list (pv 0) pe_int (fun _ _ => rfl)) pa_nil)) pa_nil)) (blkOk_by (N := N_l_spots) (sc := defScope s_l_spots) (by decide +kernel)) (fun _ _ _ _ _ => (pg_name (i := 4) sc_l_spots.nd rfl (Or.inl rfl))) (fun _ _ _ _ _ => pts_one (pt_cmpR op_in_str (pe_ix ix_str (pe_ix ix_list (pv 0) (pv 3) (fun _ _ => rfl)) (pv 4) (fun _ _ => rfl)) (pv 1) (by rfl))) (fun _ _ _ _ _ => (pe_tup (pa_cons (pv 3) (pa_cons (pv 4) pa_nil)))))))))
    (pss_one (ps_ret (pv 2))))), ?_⟩
    have hwm := G.wm
    have hgm := G.hm
    have hl8 : ∀ l ∈ g, l.length ≤ 8 := fun l hl => by rw [G.ln l hl]; exact hwm
    obtain ⟨l0, hl0⟩ : ∃ l0, g[0]? = some l0 := ⟨g[0]'(G.h0), by simp [G.h0]⟩
    have lw0 := G.ln l0 (List.mem_of_getElem? hl0)
    have hm0 : (g.map lineV)[0]? = some (lineV l0) := by rw [List.getElem?_map, hl0] <;> rfl
    have e0 : ((lstr l0).length : Int) = (ww : Int) := by rw [lstr_len, lw0]
    have ew : ((ww : Int)).toNat = ww := by omega
    have eg : (((g.map lineV).length : Nat) : Int).toNat = g.length := by rw [List.length_map]; omega
    refine ⟨Nat.zero_le _, fun p0 hp0 => ?_⟩
    have s0 := Same.new (o := .lst []) hp0
    refine ⟨_, rfl, a, _, rfl, .inl (s0.seq hS), _, rfl, by rw [List.length_map]; omega, by rw [List.length_map]; omega, for_range (lo := 0) (n := (((g.map lineV).length : Nat) : Int).toNat) (fun i σ H' => ∃ (pf : Addr) (ws : List V) (v3 v4 : Option V), σ = [some (.ref a), some (.str z), some (.ref pf), v3, v4] ∧ Same H H' ∧ H pf = none ∧ H' pf = some (.lst ws) ∧ PrsAt H' ws (tilesTo fz g i)) ⟨p0, [], none, none, rfl, s0, hp0, upd_same, .nil⟩ ?_ ?_⟩
    · rintro i σ H1 hi ⟨pf, ws, v3, v4, rfl, s1, n1, e1, p1⟩
      rw [eg] at hi
      obtain ⟨l, hl⟩ : ∃ l, g[i]? = some l := ⟨g[i], by simp [hi]⟩
      have hli : (g.map lineV)[i]? = some (lineV l) := by rw [List.getElem?_map, hl] <;> rfl
      have lw := G.ln l (List.mem_of_getElem? hl)
      have egl : g.getD i [] = l := by rw [List.getD_eq_getElem?_getD, hl] <;> rfl
      refine ⟨_, rfl, _, rfl, a, _, _, _, rfl, rfl, s1.seq hS, atI_nat hm0, _, rfl, sz2 (by rw [lstr_len]; omega), _, rfl, by rw [e0]; omega, by rw [e0]; omega, fun D hD => ?_⟩
      rw [e0, ew]
      refine it_gen walk_range (fun j H' => Mkg H1 D (rowTiles fz g i j) H') (mkg0 hD) (fun _ _ _ _ => trivial) ?_ fun H2 m2 => ?_
      · rintro j x H2 H3 hj m ⟨rfl, rfl⟩
        obtain ⟨sg, hsg⟩ : ∃ sg, l[j]? = some sg := ⟨l[j]'(by omega), by simp [lw, hj]⟩
        have hc : (lstr l).cps.toList[j]? = some sg.cp := by rw [lstr_toList, List.getElem?_map, hsg] <;> rfl
        have hh : hit fz g i j = fz sg := by
          unfold hit
          rw [egl, hsg] <;> rfl
        refine ⟨rfl, _, rfl, _, rfl, a, _, _, _, rfl, rfl, (s1.trans m.1).seq hS, by rw [Int.zero_add]; exact atI_nat hli, _, rfl, _, _, _, rfl, rfl, sz2 (by rw [lstr_len]; omega), by rw [Int.zero_add]; exact atI_nat hc, _, rfl, _, _, rfl, rfl, _, rfl, if2 (fun hy => ?_) (fun hy => ?_)⟩
        · have hy : hit fz g i j = true := hh.trans ((hz sg).symm.trans hy)
          refine ⟨_, rfl, _, rfl, by show 2 ≤ sizeLine; decide, fun p hp => ?_⟩
          have m3 := m.new (o := .tup [.int (0 + (i : Int)), .int (0 + (j : Int))]) hp
          obtain ⟨us, eu, el⟩ := m3.len
          have hlen := rowTiles_len fz g i j
          refine ⟨us, eu, sz3 (by rw [el]; omega), ?_⟩
          have m4 := m3.add eu (v := .ref p) (p := ((i : Int), (j : Int))) ⟨p, rfl, by rw [upd_same, Int.zero_add, Int.zero_add]⟩
          rw [← rowTiles_yes hy] at m4
          exact m4
        · have hy : hit fz g i j = false := hh.trans ((hz sg).symm.trans hy)
          show Mkg H1 D (rowTiles fz g i (j + 1)) _
          rw [rowTiles_no hy]
          exact m
      · obtain ⟨s2, d2, us, e2, p2⟩ := m2
        have k1 := tilesTo_len fz g 8 hl8 i
        have k2 := rowTiles_len fz g i ww
        have k3 : i * 8 ≤ 8 * 8 := Nat.mul_le_mul_right _ (by omega)
        refine ⟨pf, D, ws, us, rfl, rfl, s2 _ _ e1, e2, sz2 (by rw [p1.len, p2.len]; omega), fun pn hpn => ?_⟩
        have s3 := Same.new' s2 (o := .lst (ws ++ us)) hpn
        refine ⟨pn, ws ++ us, _, _, rfl, s1.trans s3, s1.free (s2.free hpn), upd_same, ?_⟩
        rw [tilesTo_succ, egl, lw]
        exact Paired.app (p1.tx (Tx.of s3)) (p2.tx (Tx.new hpn))
    · rintro σ H1 ⟨pf, ws, v3, v4, rfl, s1, n1, e1, p1⟩
      rw [eg] at p1
      exact ⟨_, rfl, q pf ws H1 n1 s1 e1 p1⟩
end
end My
namespace My
open PySem PySem.Spec PyProof.Rows L2
/-- a tuple of ints; a list of them -/
def TiAt (H : Hp) (v : V) (l : List Int) : Prop := ∃ a, v = .ref a ∧ H a = some (.tup (l.map V.int))
def TisAt (H : Hp) (vs : List V) (ls : List (List Int)) : Prop := Paired (TiAt H) vs ls
theorem TiAt.tx {H H' : Hp} {v : V} {l : List Int} (x : TiAt H v l) (t : Tx H H') : TiAt H' v l := let ⟨a, e, h⟩ := x; ⟨a, e, t _ _ h⟩
theorem TisAt.tx {H H' : Hp} {vs : List V} {ls : List (List Int)} (x : TisAt H vs ls) (t : Tx H H') : TisAt H' vs ls := Paired.mapP x fun _ _ y => y.tx t
theorem TisAt.len {H : Hp} {vs : List V} {ls : List (List Int)} (x : TisAt H vs ls) : vs.length = ls.length := Paired.length x
/-- a list at D in the making, of tuples of ints -/
def Mki (H : Hp) (D : Addr) (ps : List (List Int)) (H' : Hp) : Prop := Same H H' ∧ H D = none ∧ ∃ ws, H' D = some (.lst ws) ∧ TisAt H' ws ps
theorem mki0 {H : Hp} {D : Addr} (hD : H D = none) : Mki H D [] (upd H D (.lst [])) := ⟨Same.new hD, hD, [], upd_same, .nil⟩
/-- one more tuple -/
theorem Mki.step {H H' : Hp} {D : Addr} {ps : List (List Int)} {p : Addr} {l : List Int} (m : Mki H D ps H') (hp : H' p = none) (hl : ps.length < 100000) :
    ∃ acc, upd H' p (.tup (l.map V.int)) D = some (.lst acc) ∧ acc.length < sizeLine ∧ Mki H D (ps ++ [l]) (upd (upd H' p (.tup (l.map V.int))) D (.lst (acc ++ [.ref p]))) := by
  obtain ⟨s, d, ws, e, q⟩ := m
  have e2 : upd H' p (.tup (l.map V.int)) D = some (.lst ws) := by rw [upd_ne (ne_of_none e hp)]; exact e
  refine ⟨ws, e2, sz3 (by rw [q.len]; exact hl), Same.mut (Same.new' s hp) d, d, _, upd_same, ?_⟩
  exact Paired.app ((q.tx (Tx.new hp)).tx (Tx.lst e2)) (.cons ⟨p, rfl, by rw [upd_ne (ne_of_none e hp).symm, upd_same]⟩ .nil)
def eUp (k : Nat) : List Int := [-1, k, 1, 0]
def eRt (w k : Nat) : List Int := [k, w, 0, -1]
def eDn (h k : Nat) : List Int := [h, k, -1, 0]
def eLf (k : Nat) : List Int := [k, -1, 0, 1]
def lfx (f : Nat → List Int) (n : Nat) : List (List Int) := (List.range n).map f
theorem lfx_succ (f : Nat → List Int) (n : Nat) : lfx f (n + 1) = lfx f n ++ [f n] := by
  unfold lfx
  rw [List.range_succ, List.map_append] <;> rfl
theorem lfx_len (f : Nat → List Int) (n : Nat) : (lfx f n).length = n := by
  unfold lfx
  rw [List.length_map, List.length_range]
def edges (h w : Nat) : List (List Int) := lfx eUp w ++ lfx (eRt w) h ++ lfx (eDn h) w ++ lfx eLf h
def sp_edges (K : PySem.W.Frag) : Sp := fun vs H Q _ => ∃ (a w : Nat) (g : List (List Sg)), vs = [.ref a] ∧ SqL K H a (g.map lineV) ∧ Grid 8 10 g w ∧
  ∀ p ws H', H p = none → Same H H' → H' p = some (.lst ws) → TisAt H' ws (edges g.length w) → Q (.ref p) H'
abbrev s_l_edges : Stmt := (top 40)
abbrev N_l_edges : List Str := ["_law_lines_here", "_law_height", "_law_width", "_law_found", "_law_k"]
theorem sc_l_edges : FnScope N_l_edges ["_law_lines_here"] (defScope s_l_edges) := ⟨rfl, rfl, rfl, by decide +kernel, rfl, by decide +kernel, by decide +kernel⟩

section
variable {P : Program} {w : World} {K : PySem.W.Frag} {mg : Str → Option Value} {base : Heap}
theorem ok_edges {f : Addr} {fd : FuncData} (F : Fun K "_law_edges" "_law_edges" s_l_edges f fd) (T : Txt mg) : FnOk P w K mg base CX0 1 f fd ["_law_lines_here"] (sp_edges K) := by
  refine F.ok sc_l_edges (fun vs H Q E h => ?_) (fun cdv A outer s H vs Q E hr h => ?_)
  · obtain ⟨a, ww, g, rfl, _⟩ := h
    rfl
  · obtain ⟨a, ww, g, rfl, hS, G, q⟩ := h
    refine ⟨_, (pss_cons (ps_asg (pe_tup (pa_cons (pe_callB call_len_seq (by rfl) T.b_len PySem.boot_len (pa_cons (pv 0) pa_nil)) (pa_cons (pe_callB call_len_str (by rfl) T.b_len PySem.boot_len (pa_cons (pe_ix ix_list (pv 0) pe_int (fun _ _ => rfl)) pa_nil)) pa_nil))) (pg_tup rfl (pgs_cons (pg_name (i := 1) sc_l_edges.nd rfl (Or.inr rfl)) (pgs_cons (pg_name (i := 2) sc_l_edges.nd rfl (Or.inr rfl)) pgs_nil))))
    (pss_cons (ps_set (i := 3) sc_l_edges.nd rfl (Or.inl rfl) (pe_op op_cat (pe_lcG (own := [("_law_k", 4)]) (g := gName 4)  rfl sc_l_edges.nd (pi_range1 (by rfl) T.b_range (pa_cons (pv 2) pa_nil)) (blkOk_by (N := N_l_edges) (sc := defScope s_l_edges) (by decide +kernel)) (fun _ _ _ _ _ => (pg_name (i := 4) sc_l_edges.nd rfl (Or.inl rfl))) (fun _ _ _ _ _ => pts_nil) (fun _ _ _ _ _ => (pe_tup (pa_cons (pe_op op_sub pe_int pe_int) (pa_cons (pv 4) (pa_cons pe_int (pa_cons pe_int pa_nil))))))) (pe_lcG (own := [("_law_k", 4)]) (g := gName 4)  rfl sc_l_edges.nd (pi_range1 (by rfl) T.b_range (pa_cons (pv 1) pa_nil)) (blkOk_by (N := N_l_edges) (sc := defScope s_l_edges) (by decide +kernel)) (fun _ _ _ _ _ => (pg_name (i := 4) sc_l_edges.nd rfl (Or.inl rfl))) (fun _ _ _ _ _ => pts_nil) (fun _ _ _ _ _ => (pe_tup (pa_cons (pv 4) (pa_cons (pv 2) (pa_cons pe_int (pa_cons (pe_op op_sub pe_int pe_int) pa_nil)))))))))
    (pss_one (ps_ret (pe_op op_cat (pe_op op_cat (pv 3) (pe_lcG (own := [("_law_k", 4)]) (g := gName 4)  rfl sc_l_edges.nd (pi_range1 (by rfl) T.b_range (pa_cons (pv 2) pa_nil)) (blkOk_by (N := N_l_edges) (sc := defScope s_l_edges) (by decide +kernel)) (fun _ _ _ _ _ => (pg_name (i := 4) sc_l_edges.nd rfl (Or.inl rfl))) (fun _ _ _ _ _ => pts_nil) (fun _ _ _ _ _ => (pe_tup (pa_cons (pv 1) (pa_cons (pv 4) (pa_cons (pe_op op_sub pe_int pe_int) (pa_cons pe_int pa_nil)))))))) (pe_lcG (own := [("_law_k", 4)]) (g := gName 4)  rfl sc_l_edges.nd (pi_range1 (by rfl) T.b_range (pa_cons (pv 1) pa_nil)) (blkOk_by (N := N_l_edges) (sc := defScope s_l_edges) (by decide +kernel)) (fun _ _ _ _ _ => (pg_name (i := 4) sc_l_edges.nd rfl (Or.inl rfl))) (fun _ _ _ _ _ => pts_nil) (fun _ _ _ _ _ => (pe_tup (pa_cons (pv 4) (pa_cons (pe_op op_sub pe_int pe_int) (pa_cons pe_int (pa_cons pe_int pa_nil)))))))))))), ?_⟩
    have hgm := G.hm
    have hwm := G.wm
    obtain ⟨l0, hl0⟩ : ∃ l0, g[0]? = some l0 := ⟨g[0]'(G.h0), by simp [G.h0]⟩
    have lw0 := G.ln l0 (List.mem_of_getElem? hl0)
    have hm0 : (g.map lineV)[0]? = some (lineV l0) := by rw [List.getElem?_map, hl0] <;> rfl
    have e0 : (((lstr l0).length : Nat) : Int) = (ww : Int) := by rw [lstr_len, lw0]
    have eh0 : (((g.map lineV).length : Nat) : Int) = (g.length : Int) := by rw [List.length_map]
    have eh : ((g.length : Int)).toNat = g.length := by omega
    have ew : ((ww : Int)).toNat = ww := by omega
    refine ⟨_, rfl, a, _, rfl, .inl hS, _, rfl, a, _, _, _, rfl, rfl, hS, atI_nat hm0, _, rfl, sz2 (by rw [lstr_len]; omega), by show 2 ≤ sizeLine; decide, fun p0 hp0 => ?_⟩
    rw [e0, eh0]
    have s0 := Same.new (o := .tup [.int g.length, .int ww]) hp0
    refine ⟨p0, _, rfl, SqT.of upd_same, rfl, _, _, rfl, _, _, rfl, rfl, ?_⟩
    generalize upd H p0 (.tup [.int g.length, .int ww]) = H0 at s0 ⊢
    refine ⟨_, rfl, _, rfl, by omega, by omega, fun D1 hD1 => it_gen walk_range (fun i H' => Mki H0 D1 (lfx eUp i) H') (mki0 hD1) (fun _ _ _ _ => trivial) ?_ fun H1 m1 => ?_⟩
    · rintro i x G0 G1 hi m ⟨rfl, rfl⟩
      refine ⟨rfl, _, _, rfl, rfl, _, rfl, by show 4 ≤ sizeLine; decide, fun p hp => ?_⟩
      have el : ([0 - 1, 0 + (i : Int), 1, 0] : List Int) = eUp i := by unfold eUp; simp
      have hs := m.step (l := [0 - 1, 0 + (i : Int), 1, 0]) hp (by rw [lfx_len]; omega)
      rw [el, ← lfx_succ] at hs
      obtain ⟨acc, h1, h2, h3⟩ := hs
      rw [← el] at h1 h3
      exact ⟨acc, h1, h2, h3⟩
    rw [ew] at m1
    obtain ⟨s1, d1, ws1, e1, p1⟩ := m1
    refine ⟨_, rfl, _, rfl, by omega, by omega, fun D2 hD2 => it_gen walk_range (fun i H' => Mki H1 D2 (lfx (eRt ww) i) H') (mki0 hD2) (fun _ _ _ _ => trivial) ?_ fun H2 m2 => ?_⟩
    · rintro i x G0 G1 hi m ⟨rfl, rfl⟩
      refine ⟨rfl, _, rfl, _, rfl, _, _, rfl, rfl, by show 4 ≤ sizeLine; decide, fun p hp => ?_⟩
      have el : ([0 + (i : Int), (ww : Int), 0, 0 - 1] : List Int) = (eRt ww) i := by unfold eRt; simp
      have hs := m.step (l := [0 + (i : Int), (ww : Int), 0, 0 - 1]) hp (by rw [lfx_len]; omega)
      rw [el, ← lfx_succ] at hs
      obtain ⟨acc, h1, h2, h3⟩ := hs
      rw [← el] at h1 h3
      exact ⟨acc, h1, h2, h3⟩
    rw [eh] at m2
    obtain ⟨s2, d2, ws2, e2, p2⟩ := m2
    have l1 := p1.len
    have l2 := p2.len
    rw [lfx_len] at l1 l2
    refine ⟨D1, D2, ws1, ws2, rfl, rfl, s2 _ _ e1, e2, sz2 (by omega), fun r1 hr1 => ?_⟩
    have n1 := Same.new (o := .lst (ws1 ++ ws2)) hr1
    have a1 : upd H2 r1 (.lst (ws1 ++ ws2)) r1 = some (.lst (ws1 ++ ws2)) := upd_same
    have q1 : TisAt (upd H2 r1 (.lst (ws1 ++ ws2))) (ws1 ++ ws2) (lfx eUp ww ++ lfx (eRt ww) g.length) := Paired.app ((p1.tx (Tx.of s2)).tx (Tx.of n1)) (p2.tx (Tx.of n1))
    have c1 := ((s0.trans s1).trans s2).trans n1
    generalize upd H2 r1 (.lst (ws1 ++ ws2)) = H3 at n1 a1 q1 c1 ⊢
    refine ⟨_, rfl, _, rfl, _, rfl, by omega, by omega, fun D3 hD3 => it_gen walk_range (fun i H' => Mki H3 D3 (lfx (eDn g.length) i) H') (mki0 hD3) (fun _ _ _ _ => trivial) ?_ fun H4 m3 => ?_⟩
    · rintro i x G0 G1 hi m ⟨rfl, rfl⟩
      refine ⟨rfl, _, rfl, _, rfl, _, _, rfl, rfl, by show 4 ≤ sizeLine; decide, fun p hp => ?_⟩
      have el : ([(g.length : Int), 0 + (i : Int), 0 - 1, 0] : List Int) = (eDn g.length) i := by unfold eDn; simp
      have hs := m.step (l := [(g.length : Int), 0 + (i : Int), 0 - 1, 0]) hp (by rw [lfx_len]; omega)
      rw [el, ← lfx_succ] at hs
      obtain ⟨acc, h1, h2, h3⟩ := hs
      rw [← el] at h1 h3
      exact ⟨acc, h1, h2, h3⟩
    rw [ew] at m3
    obtain ⟨s3, d3, ws3, e3, p3⟩ := m3
    have l3 := p3.len
    rw [lfx_len] at l3
    refine ⟨r1, D3, _, ws3, rfl, rfl, s3 _ _ a1, e3, sz2 (by rw [List.length_append]; omega), fun r2 hr2 => ?_⟩
    have n2 := Same.new (o := .lst (ws1 ++ ws2 ++ ws3)) hr2
    have a2 : upd H4 r2 (.lst (ws1 ++ ws2 ++ ws3)) r2 = some (.lst (ws1 ++ ws2 ++ ws3)) := upd_same
    have q2 : TisAt (upd H4 r2 (.lst (ws1 ++ ws2 ++ ws3))) (ws1 ++ ws2 ++ ws3) (lfx eUp ww ++ lfx (eRt ww) g.length ++ lfx (eDn g.length) ww) := Paired.app ((q1.tx (Tx.of s3)).tx (Tx.of n2)) (p3.tx (Tx.of n2))
    have c2 := (c1.trans s3).trans n2
    generalize upd H4 r2 (.lst (ws1 ++ ws2 ++ ws3)) = H5 at n2 a2 q2 c2 ⊢
    refine ⟨_, rfl, _, rfl, by omega, by omega, fun D4 hD4 => it_gen walk_range (fun i H' => Mki H5 D4 (lfx eLf i) H') (mki0 hD4) (fun _ _ _ _ => trivial) ?_ fun H6 m4 => ?_⟩
    · rintro i x G0 G1 hi m ⟨rfl, rfl⟩
      refine ⟨rfl, _, rfl, _, _, rfl, rfl, by show 4 ≤ sizeLine; decide, fun p hp => ?_⟩
      have el : ([0 + (i : Int), 0 - 1, 0, 1] : List Int) = eLf i := by unfold eLf; simp
      have hs := m.step (l := [0 + (i : Int), 0 - 1, 0, 1]) hp (by rw [lfx_len]; omega)
      rw [el, ← lfx_succ] at hs
      obtain ⟨acc, h1, h2, h3⟩ := hs
      rw [← el] at h1 h3
      exact ⟨acc, h1, h2, h3⟩
    rw [eh] at m4
    obtain ⟨s4, d4, ws4, e4, p4⟩ := m4
    have l4 := p4.len
    rw [lfx_len] at l4
    refine ⟨r2, D4, _, ws4, rfl, rfl, s4 _ _ a2, e4, sz2 (by rw [List.length_append, List.length_append]; omega), fun r3 hr3 => ?_⟩
    have n3 := Same.new (o := .lst (ws1 ++ ws2 ++ ws3 ++ ws4)) hr3
    refine q r3 _ _ ((c2.trans s4).free hr3) ((c2.trans s4).trans n3) upd_same ?_
    exact Paired.app ((q2.tx (Tx.of s4)).tx (Tx.of n3)) (p4.tx (Tx.of n3))
end
end My
namespace My
open PySem PySem.Spec PyProof.Rows L2
/-- data, of a depth, at a value -/
inductive Dt where
  | non
  | bl (b : Bool)
  | int (i : Int)
  | str (z : Str)
  | tup (l : List Dt)
  | lst (l : List Dt)
inductive DtAt (H : Hp) : Nat → V → Dt → Prop where
  | non {n : Nat} : DtAt H n .non .non
  | bl {n : Nat} (b : Bool) : DtAt H n (.bl b) (.bl b)
  | int {n : Nat} (i : Int) : DtAt H n (.int i) (.int i)
  | str {n : Nat} (z : Str) : DtAt H n (.str z) (.str z)
  | tup {n : Nat} {a : Addr} {xs : List V} {ds : List Dt} (h : H a = some (.tup xs)) (hl : xs.length = ds.length) (hs : xs.length ≤ 10000) (p : ∀ (i : Nat) (x : V) (d : Dt), xs[i]? = some x → ds[i]? = some d → DtAt H n x d) : DtAt H (n + 1) (.ref a) (.tup ds)
  | lst {n : Nat} {a : Addr} {xs : List V} {ds : List Dt} (h : H a = some (.lst xs)) (hl : xs.length = ds.length) (hs : xs.length ≤ 10000) (p : ∀ (i : Nat) (x : V) (d : Dt), xs[i]? = some x → ds[i]? = some d → DtAt H n x d) : DtAt H (n + 1) (.ref a) (.lst ds)
theorem DtAt.same {H H' : Hp} (s : Same H H') {n : Nat} {v : V} {d : Dt} (x : DtAt H n v d) : DtAt H' n v d := by
  induction x with
  | non => exact .non
  | bl b => exact .bl b
  | int i => exact .int i
  | str z => exact .str z
  | tup h hl hs p ih => exact .tup (s _ _ h) hl hs ih
  | lst h hl hs p ih => exact .lst (s _ _ h) hl hs ih
theorem DtAt.up {H : Hp} {n : Nat} {v : V} {d : Dt} (x : DtAt H n v d) : ∀ {m : Nat}, n ≤ m → DtAt H m v d := by
  induction x with
  | non => intro m _; exact .non
  | bl b => intro m _; exact .bl b
  | int i => intro m _; exact .int i
  | str z => intro m _; exact .str z
  | tup h hl hs p ih =>
    intro m hm
    obtain ⟨k, rfl⟩ : ∃ k, m = k + 1 := ⟨m - 1, by omega⟩
    exact .tup h hl hs fun i x d e1 e2 => ih i x d e1 e2 (by omega)
  | lst h hl hs p ih =>
    intro m hm
    obtain ⟨k, rfl⟩ : ∃ k, m = k + 1 := ⟨m - 1, by omega⟩
    exact .lst h hl hs fun i x d e1 e2 => ih i x d e1 e2 (by omega)
/-- the same data twice -/
def sp_same (n : Nat) : Sp := fun vs H Q _ => ∃ (x y : V) (d : Dt), vs = [x, y] ∧ DtAt H n x d ∧ DtAt H n y d ∧ ∀ H', Same H H' → Q (.bl true) H'
abbrev s_l_equal : Stmt := (top 39)
abbrev N_l_equal : List Str := ["_law_actual", "_law_expected", "_law_k"]
theorem sc_l_equal : FnScope N_l_equal ["_law_actual", "_law_expected"] (defScope s_l_equal) := ⟨rfl, rfl, rfl, by decide +kernel, rfl, by decide +kernel, by decide +kernel⟩

section
variable {P : Program} {w : World} {K : PySem.W.Frag} {mg : Str → Option Value} {base : Heap}
theorem rIx_of {a : Addr} {xs : List V} {i : Int} {z : V} {H : Hp} {Q : VK} (hS : SqL K H a xs ∨ SqT K H a xs) (hi : atI xs i = some z) (q : Q z H) : rIx K (.ref a) (.int i) H Q := by
  rcases hS with h | h
  · exact .inl ⟨a, xs, i, z, rfl, rfl, h, hi, q⟩
  · exact .inr (.inl ⟨a, xs, i, z, rfl, rfl, h, hi, q⟩)
theorem same_step {f : Addr} {fd : FuncData} (F : Fun K "_law_equal" "_law_equal" s_l_equal f fd) (T : Txt mg) {k n : Nat} {sp0 : Sp} (g_l_equal : GF P w K mg base "_law_equal" k sp0) (hsp : ∀ m, n = m + 1 → ∀ vs H Q E, sp_same m vs H Q E → sp0 vs H Q E) :
    FnOk P w K mg base CX0 (k + 1) f fd ["_law_actual", "_law_expected"] (sp_same n) := by
  refine F.ok sc_l_equal (fun vs H Q E h => ?_) (fun cdv A outer s H vs Q E hr h => ?_)
  · obtain ⟨x, y, d, rfl, _⟩ := h
    rfl
  · obtain ⟨x, y, d, rfl, hx, hy, q⟩ := h
    refine ⟨_, (pss_cons (ps_if (pt_cmpR op_isN (pv 1) pe_non (nomark _))
      (pss_one (ps_ret (pe_cmpR op_isN (pv 0) pe_non (nomark _))))
      pss_nil)
    (pss_cons (ps_if (pt_val (pe_callB call_isi (by rfl) T.b_isinstance (by decide +kernel) (pa_cons (pv 1) (pa_cons (pe_bltn (v := .ty "bool") (u := .type "bool") (by rfl) T.b_bool (by decide +kernel) rfl) pa_nil))))
      (pss_one (ps_ret (pe_and (pe_callB call_isi (by rfl) T.b_isinstance (by decide +kernel) (pa_cons (pv 0) (pa_cons (pe_bltn (v := .ty "bool") (u := .type "bool") (by rfl) T.b_bool (by decide +kernel) rfl) pa_nil))) (pe_one (pe_cmpR op_eq (pv 0) (pv 1) (nomark _))))))
      pss_nil)
    (pss_cons (ps_if (pt_val (pe_callB call_isi (by rfl) T.b_isinstance (by decide +kernel) (pa_cons (pv 1) (pa_cons (pe_bltn (v := .ty "int") (u := .type "int") (by rfl) T.b_int (by decide +kernel) rfl) pa_nil))))
      (pss_one (ps_ret (pe_and (pe_callB call_isi (by rfl) T.b_isinstance (by decide +kernel) (pa_cons (pv 0) (pa_cons (pe_bltn (v := .ty "int") (u := .type "int") (by rfl) T.b_int (by decide +kernel) rfl) pa_nil))) (pe_and (pe_not (pe_callB call_isi (by rfl) T.b_isinstance (by decide +kernel) (pa_cons (pv 0) (pa_cons (pe_bltn (v := .ty "bool") (u := .type "bool") (by rfl) T.b_bool (by decide +kernel) rfl) pa_nil)))) (pe_one (pe_cmpR op_eq (pv 0) (pv 1) (nomark _)))))))
      pss_nil)
    (pss_cons (ps_if (pt_val (pe_callB call_isi (by rfl) T.b_isinstance (by decide +kernel) (pa_cons (pv 1) (pa_cons (pe_bltn (v := .ty "str") (u := .type "str") (by rfl) T.b_str (by decide +kernel) rfl) pa_nil))))
      (pss_one (ps_ret (pe_and (pe_callB call_isi (by rfl) T.b_isinstance (by decide +kernel) (pa_cons (pv 0) (pa_cons (pe_bltn (v := .ty "str") (u := .type "str") (by rfl) T.b_str (by decide +kernel) rfl) pa_nil))) (pe_one (pe_cmpR op_eq (pv 0) (pv 1) (nomark _))))))
      pss_nil)
    (pss_cons (ps_if (pt_cmpR op_ne (pe_callB call_isi (by rfl) T.b_isinstance (by decide +kernel) (pa_cons (pv 1) (pa_cons (pe_bltn (v := .ty "tuple") (u := .type "tuple") (by rfl) T.b_tuple (by decide +kernel) rfl) pa_nil))) (pe_callB call_isi (by rfl) T.b_isinstance (by decide +kernel) (pa_cons (pv 0) (pa_cons (pe_bltn (v := .ty "tuple") (u := .type "tuple") (by rfl) T.b_tuple (by decide +kernel) rfl) pa_nil))) (nomark _))
      (pss_one (ps_ret pe_bl))
      pss_nil)
    (pss_cons (ps_if (pt_cmpR op_ne (pe_callB call_isi (by rfl) T.b_isinstance (by decide +kernel) (pa_cons (pv 1) (pa_cons (pe_bltn (v := .ty "list") (u := .type "list") (by rfl) T.b_list (by decide +kernel) rfl) pa_nil))) (pe_callB call_isi (by rfl) T.b_isinstance (by decide +kernel) (pa_cons (pv 0) (pa_cons (pe_bltn (v := .ty "list") (u := .type "list") (by rfl) T.b_list (by decide +kernel) rfl) pa_nil))) (nomark _))
      (pss_one (ps_ret pe_bl))
      pss_nil)
    (pss_cons (ps_if (pt_cmpR op_ne (pe_callB call_len_seq (by rfl) T.b_len PySem.boot_len (pa_cons (pv 0) pa_nil)) (pe_callB call_len_seq (by rfl) T.b_len PySem.boot_len (pa_cons (pv 1) pa_nil)) (nomark _))
      (pss_one (ps_ret pe_bl))
      pss_nil)
    (pss_one (ps_ret (pe_callB (cr_all rfl) (by rfl) T.b_all (by decide +kernel) (pa_cons (pe_lcG (own := [("_law_k", 2)]) (g := gName 2)  rfl sc_l_equal.nd (pi_range1 (by rfl) T.b_range (pa_cons (pe_callB call_len_seq (by rfl) T.b_len PySem.boot_len (pa_cons (pv 1) pa_nil)) pa_nil)) (blkOk_by (N := N_l_equal) (sc := defScope s_l_equal) (by decide +kernel)) (fun _ _ _ _ _ => (pg_name (i := 2) sc_l_equal.nd rfl (Or.inl rfl))) (fun _ _ _ _ _ => pts_nil) (fun _ _ _ _ _ => (pe_c g_l_equal (hr.mono (Nat.le_refl _)) passL (pa_cons (pe_ix ix_seq (pv 0) (pv 2) (fun _ _ => rfl)) (pa_cons (pe_ix ix_seq (pv 1) (pv 2) (fun _ _ => rfl)) pa_nil))))) pa_nil))))))))))), ?_⟩
    have r0 := Same.refl H
    cases hx with
    | non =>
      cases hy
      refine ⟨_, rfl, rfl, _, rfl, ifT (dT rfl) ⟨_, rfl, rfl, ?_⟩⟩
      show Q (.bl (decide (V.non = V.non))) H
      rw [dT rfl]
      exact q H r0
    | bl b =>
      cases hy
      refine ⟨_, rfl, rfl, _, rfl, ifF (dF (by intro z; cases z)) ?_⟩
      refine ⟨_, rfl, _, _, _, _, true, rfl, .ty "bool", .base (.bl b), kit_ty (by decide +kernel), _, rfl, ifT rfl ?_⟩
      refine ⟨_, rfl, _, _, _, _, true, rfl, .ty "bool", .base (.bl b), kit_ty (by decide +kernel), _, rfl, ifT rfl ⟨_, rfl, _, rfl, rfl, ?_⟩⟩
      show Q (.bl (decide (V.bl b = V.bl b))) H
      rw [dT rfl]
      exact q H r0
    | int i =>
      cases hy
      refine ⟨_, rfl, rfl, _, rfl, ifF (dF (by intro z; cases z)) ?_⟩
      refine ⟨_, rfl, _, _, _, _, false, rfl, .ty "bool", .base (.int i), kit_ty (by decide +kernel), _, rfl, ifF rfl ?_⟩
      refine ⟨_, rfl, _, _, _, _, true, rfl, .ty "int", .base (.int i), kit_ty (by decide +kernel), _, rfl, ifT rfl ?_⟩
      refine ⟨_, rfl, _, _, _, _, true, rfl, .ty "int", .base (.int i), kit_ty (by decide +kernel), _, rfl, ifT rfl ?_⟩
      refine ⟨_, rfl, _, _, _, _, false, rfl, .ty "bool", .base (.int i), kit_ty (by decide +kernel), _, rfl, _, rfl, ifT rfl ⟨_, rfl, _, rfl, rfl, ?_⟩⟩
      show Q (.bl (decide (V.int i = V.int i))) H
      rw [dT rfl]
      exact q H r0
    | str z =>
      cases hy
      refine ⟨_, rfl, rfl, _, rfl, ifF (dF (by intro z; cases z)) ?_⟩
      refine ⟨_, rfl, _, _, _, _, false, rfl, .ty "bool", .base (.str z), kit_ty (by decide +kernel), _, rfl, ifF rfl ?_⟩
      refine ⟨_, rfl, _, _, _, _, false, rfl, .ty "int", .base (.str z), kit_ty (by decide +kernel), _, rfl, ifF rfl ?_⟩
      refine ⟨_, rfl, _, _, _, _, true, rfl, .ty "str", .base (.str z), kit_ty (by decide +kernel), _, rfl, ifT rfl ?_⟩
      refine ⟨_, rfl, _, _, _, _, true, rfl, .ty "str", .base (.str z), kit_ty (by decide +kernel), _, rfl, ifT rfl ⟨_, rfl, _, rfl, rfl, ?_⟩⟩
      show Q (.bl (decide (V.str z = V.str z))) H
      rw [dT rfl]
      exact q H r0
    | @tup m a xs ds hX lX zX pX =>
      cases hy with
      | @tup _ b ys _ hY lY zY pY =>
      have hsp := hsp m rfl
      have SX : SqL K H a xs ∨ SqT K H a xs := .inr (SqT.of hX)
      have SY : SqL K H b ys ∨ SqT K H b ys := .inr (SqT.of hY)
      refine ⟨_, rfl, rfl, _, rfl, ifF (dF (by intro z; cases z)) ?_⟩
      refine ⟨_, rfl, _, _, _, _, false, rfl, .ty "bool", .base (.tup hY), kit_ty (by decide +kernel), _, rfl, ifF rfl ?_⟩
      refine ⟨_, rfl, _, _, _, _, false, rfl, .ty "int", .base (.tup hY), kit_ty (by decide +kernel), _, rfl, ifF rfl ?_⟩
      refine ⟨_, rfl, _, _, _, _, false, rfl, .ty "str", .base (.tup hY), kit_ty (by decide +kernel), _, rfl, ifF rfl ?_⟩
      refine ⟨_, rfl, _, _, _, _, true, rfl, .ty "tuple", .base (.tup hY), kit_ty (by decide +kernel), _, rfl, _, _, _, _, true, rfl, .ty "tuple", .base (.tup hX), kit_ty (by decide +kernel), rfl, _, rfl, ifF rfl ?_⟩
      refine ⟨_, rfl, _, _, _, _, false, rfl, .ty "list", .base (.tup hY), kit_ty (by decide +kernel), _, rfl, _, _, _, _, false, rfl, .ty "list", .base (.tup hX), kit_ty (by decide +kernel), rfl, _, rfl, ifF rfl ?_⟩
      refine ⟨_, rfl, a, _, rfl, SX, _, rfl, b, _, rfl, SY, rfl, _, rfl, ifF (by rw [lX, lY, dT rfl] <;> rfl) ?_⟩
      have eY : ((ys.length : Nat) : Int).toNat = ys.length := by omega
      refine ⟨_, rfl, b, _, rfl, SY, _, rfl, by omega, by omega, fun D hD => ?_⟩
      rw [eY]
      refine it_gen walk_range (fun i H' => H D = none ∧ Same H H' ∧ H' D = some (.lst ((List.replicate i true).map V.bl))) ⟨hD, Same.new hD, upd_same⟩ (fun _ _ _ _ => trivial) ?_ fun H1 m1 => ?_
      · rintro i v G0 G1 hi ⟨_, s1, e1⟩ ⟨rfl, rfl⟩
        have hi2 : i < xs.length := by omega
        have hi3 : i < ds.length := by omega
        refine ⟨rfl, _, rfl, _, rfl, rIx_of (seqA s1 SX) (by rw [Int.zero_add]; exact atI_nat (List.getElem?_eq_getElem hi2)) ⟨_, rfl, _, rfl, rIx_of (seqA s1 SY) (by rw [Int.zero_add]; exact atI_nat (List.getElem?_eq_getElem hi)) ?_⟩⟩
        refine hsp _ _ _ _ ⟨_, _, ds[i], rfl, (pX i _ _ (List.getElem?_eq_getElem hi2) (List.getElem?_eq_getElem hi3)).same s1, (pY i _ _ (List.getElem?_eq_getElem hi) (List.getElem?_eq_getElem hi3)).same s1, fun H' s2 => ?_⟩
        refine ⟨_, s2 _ _ e1, sz3 (by rw [List.length_map, List.length_replicate]; omega), hD, Same.mut (s1.trans s2) hD, ?_⟩
        rw [upd_same, List.replicate_succ', List.map_append] <;> rfl
      · obtain ⟨_, s1, e1⟩ := m1
        refine ⟨D, _, rfl, SqL.of e1, ?_⟩
        have ea : (List.replicate ys.length true).all id = true := by rw [List.all_replicate] <;> simp
        rw [ea]
        exact q H1 s1
    | @lst m a xs ds hX lX zX pX =>
      cases hy with
      | @lst _ b ys _ hY lY zY pY =>
      have hsp := hsp m rfl
      have SX : SqL K H a xs ∨ SqT K H a xs := .inl (SqL.of hX)
      have SY : SqL K H b ys ∨ SqT K H b ys := .inl (SqL.of hY)
      refine ⟨_, rfl, rfl, _, rfl, ifF (dF (by intro z; cases z)) ?_⟩
      refine ⟨_, rfl, _, _, _, _, false, rfl, .ty "bool", .base (.lst hY), kit_ty (by decide +kernel), _, rfl, ifF rfl ?_⟩
      refine ⟨_, rfl, _, _, _, _, false, rfl, .ty "int", .base (.lst hY), kit_ty (by decide +kernel), _, rfl, ifF rfl ?_⟩
      refine ⟨_, rfl, _, _, _, _, false, rfl, .ty "str", .base (.lst hY), kit_ty (by decide +kernel), _, rfl, ifF rfl ?_⟩
      refine ⟨_, rfl, _, _, _, _, false, rfl, .ty "tuple", .base (.lst hY), kit_ty (by decide +kernel), _, rfl, _, _, _, _, false, rfl, .ty "tuple", .base (.lst hX), kit_ty (by decide +kernel), rfl, _, rfl, ifF rfl ?_⟩
      refine ⟨_, rfl, _, _, _, _, true, rfl, .ty "list", .base (.lst hY), kit_ty (by decide +kernel), _, rfl, _, _, _, _, true, rfl, .ty "list", .base (.lst hX), kit_ty (by decide +kernel), rfl, _, rfl, ifF rfl ?_⟩
      refine ⟨_, rfl, a, _, rfl, SX, _, rfl, b, _, rfl, SY, rfl, _, rfl, ifF (by rw [lX, lY, dT rfl] <;> rfl) ?_⟩
      have eY : ((ys.length : Nat) : Int).toNat = ys.length := by omega
      refine ⟨_, rfl, b, _, rfl, SY, _, rfl, by omega, by omega, fun D hD => ?_⟩
      rw [eY]
      refine it_gen walk_range (fun i H' => H D = none ∧ Same H H' ∧ H' D = some (.lst ((List.replicate i true).map V.bl))) ⟨hD, Same.new hD, upd_same⟩ (fun _ _ _ _ => trivial) ?_ fun H1 m1 => ?_
      · rintro i v G0 G1 hi ⟨_, s1, e1⟩ ⟨rfl, rfl⟩
        have hi2 : i < xs.length := by omega
        have hi3 : i < ds.length := by omega
        refine ⟨rfl, _, rfl, _, rfl, rIx_of (seqA s1 SX) (by rw [Int.zero_add]; exact atI_nat (List.getElem?_eq_getElem hi2)) ⟨_, rfl, _, rfl, rIx_of (seqA s1 SY) (by rw [Int.zero_add]; exact atI_nat (List.getElem?_eq_getElem hi)) ?_⟩⟩
        refine hsp _ _ _ _ ⟨_, _, ds[i], rfl, (pX i _ _ (List.getElem?_eq_getElem hi2) (List.getElem?_eq_getElem hi3)).same s1, (pY i _ _ (List.getElem?_eq_getElem hi) (List.getElem?_eq_getElem hi3)).same s1, fun H' s2 => ?_⟩
        refine ⟨_, s2 _ _ e1, sz3 (by rw [List.length_map, List.length_replicate]; omega), hD, Same.mut (s1.trans s2) hD, ?_⟩
        rw [upd_same, List.replicate_succ', List.map_append] <;> rfl
      · obtain ⟨_, s1, e1⟩ := m1
        refine ⟨D, _, rfl, SqL.of e1, ?_⟩
        have ea : (List.replicate ys.length true).all id = true := by rw [List.all_replicate] <;> simp
        rw [ea]
        exact q H1 s1
theorem ok_same {f : Addr} {fd : FuncData} (F : Fun K "_law_equal" "_law_equal" s_l_equal f fd) (T : Txt mg) (hm : mg "_law_equal" = some (.ref f)) (hb : Binds K fd ["_law_actual", "_law_expected"] []) :
    ∀ n, FnOk P w K mg base CX0 (n + 1) f fd ["_law_actual", "_law_expected"] (sp_same n)
  | 0 => same_step (k := 0) (sp0 := fun _ _ _ _ => False) F T ⟨f, hm, F.kp, fun _ _ _ _ _ _ _ _ _ _ _ h => h.elim⟩ fun m e => nomatch e
  | n + 1 => same_step (k := n + 1) F T (gf_of F hm hb (ok_same F T hm hb n)) fun m e => by cases e; exact fun _ _ _ _ h => h
end
end My
namespace My
open PySem PySem.Spec PyProof.Rows L2
/-- a property whose getter may call what lets errors out -/
structure PRX (P : Program) (w : World) (K : PySem.W.Frag) (mg : Str → Option Value) (base : Heap) (C : Addr) (f : Str) (k : Nat) (sp : Sp) : Prop where
  ex : ∃ (p g : Addr) (fd : FuncData), PropOf K C f p g ∧ FnOk P w K mg base (L2.CX P w) k g fd ["self"] sp ∧ Binds K fd ["self"] []
section
variable {X : Cx} {k : Nat} {C : Addr} {sp : Sp}
theorem pe_prX {e : Expr} {f : Str} {pos : Pos} {ta : TE} (he : PE X e ta) (c : Cls X.K C) (G : PRX X.prog X.w X.K X.mg X.base C f k sp) (hr : Room (k + 1) X.A) (hab : attributeBase e f X.env (eval e X.env) = eval e X.env := by rfl) : PE X (.Attribute e f pos) (tPr C sp ta) := by
  obtain ⟨p, g, fd, hp, F, hb⟩ := G.ex
  exact pe_prop he c hp F hr hb .nil passL hab
end
theorem fun_of {K : PySem.W.Frag} {x q : Str} {st : Stmt} {f : Addr} {fd : FuncData} (F : FunD K x q (defArgs st) (defBody st) (defScope st) [] [] f fd) : Fun K x q st f fd := by
  obtain ⟨oc, od, dV, kV, doc, pm, an, cdv, ct, osl, e, lk, hcd, hD, hK⟩ := F.ex
  rcases hD with ⟨_, rfl⟩ | ⟨z, _⟩
  · exact ⟨⟨oc, od, kV, doc, pm, an, cdv, ct, osl, e, lk, hcd⟩, F.kp⟩
  · exact absurd rfl z
/-- a table, beside a list that changes -/
theorem tab_kp {H H' : Hp} {P a : Addr} {q : Str} (t : LamX.TabS H P q) (hP : P ≠ a) (hc : ∀ c, H a ≠ some (LamX.CodeO c q)) (k : ∀ b o, b ≠ a → H b = some o → H' b = some o) : LamX.TabS H' P q := by
  obtain ⟨ps, h1, h2, h3⟩ := t
  refine ⟨ps, k _ _ hP h1, h2, fun pos cv h => ?_⟩
  obtain ⟨c, e, h4⟩ := h3 pos cv h
  exact ⟨c, e, k _ _ (fun z => hc c (by rw [← z]; exact h4)) h4⟩
end My
namespace My
open PySem PySem.Spec PyProof.Rows L2
/-! data at values, in the forms that the law compares -/
theorem dtL {H : Hp} {n : Nat} {a : Addr} {xs : List V} {ds : List Dt} (h : H a = some (.lst xs)) (p : Paired (DtAt H n) xs ds) (hs : xs.length ≤ 10000) : DtAt H (n + 1) (.ref a) (.lst ds) :=
  .lst h (Paired.length p) hs fun i x d e1 e2 => by
    obtain ⟨y, e3, r⟩ := Paired.nth p e1
    rw [e2] at e3
    cases e3
    exact r
theorem dtT {H : Hp} {n : Nat} {a : Addr} {xs : List V} {ds : List Dt} (h : H a = some (.tup xs)) (p : Paired (DtAt H n) xs ds) (hs : xs.length ≤ 10000) : DtAt H (n + 1) (.ref a) (.tup ds) :=
  .tup h (Paired.length p) hs fun i x d e1 e2 => by
    obtain ⟨y, e3, r⟩ := Paired.nth p e1
    rw [e2] at e3
    cases e3
    exact r
def tLine (l : List Sg) : Dt := .str (lstr l)
def tPair (p : Int × Int) : Dt := .tup [.int p.1, .int p.2]
theorem dt_lines {H : Hp} {n : Nat} : ∀ g : List (List Sg), Paired (DtAt H n) (g.map lineV) (g.map tLine)
  | [] => .nil
  | l :: r => .cons (.str _) (dt_lines r)
theorem dt_pairs {H : Hp} {n : Nat} : ∀ {vs : List V} {ps : List (Int × Int)}, PrsAt H vs ps → Paired (DtAt H (n + 1)) vs (ps.map tPair)
  | _, _, .nil => .nil
  | _, _, .cons ⟨a, rfl, h⟩ t => .cons (dtT h (.cons (.int _) (.cons (.int _) .nil)) (by show 2 ≤ 10000; omega)) (dt_pairs t)
/-- the source of numbers is no other list of the law's -/
theorem DOk.neL {H : Hp} {d p : Addr} {g : List (List Sg)} (x : DOk H d) (h : H p = Option.some (.lst (g.map lineV))) : p ≠ d := fun z => by
  obtain ⟨s, c, r, e, _⟩ := x
  rw [z, e] at h
  cases g with
  | nil => cases h
  | cons l r => cases h
theorem DOk.neP {H : Hp} {d p : Addr} {ws : List V} {ps : List (Int × Int)} (x : DOk H d) (h : H p = Option.some (.lst ws)) (r : PrsAt H ws ps) : p ≠ d := fun z => by
  obtain ⟨s, c, t, e, _⟩ := x
  rw [z, e] at h
  cases h
  cases r with
  | cons q _ =>
    obtain ⟨a, e, _⟩ := q
    cases e
theorem DOk.tx {H H' : Hp} {d : Addr} (x : DOk H d) (k : Kp d H H') : Tx H H' := Tx.kp k fun xs z => by
  obtain ⟨s, c, t, e, _⟩ := x
  rw [e] at z
  cases z
theorem RoomAt.kp {C : Addr} {H H' : Hp} {x d : Addr} {g : List (List Sg)} (r : RoomAt C H x g) (dk : DOk H d) (k : Kp d H H') : RoomAt C H' x g := by
  obtain ⟨dx, t, pl, ws, h1, h2, h3, h4⟩ := r
  have n1 : x ≠ d := fun z => by
    obtain ⟨s, c, q, e, _⟩ := dk
    rw [z, e] at h1
    cases h1
  have n2 : t ≠ d := fun z => by
    obtain ⟨s, c, q, e, _⟩ := dk
    rw [z, e] at h2
    cases h2
  exact ⟨dx, t, pl, ws, k _ _ n1 h1, k _ _ n2 h2, k _ _ (dk.neP h3 h4) h3, h4.tx (dk.tx k)⟩
theorem TabS.kp {H H' : Hp} {P d : Addr} {q : Str} (t : LamX.TabS H P q) (dk : DOk H d) (k : Kp d H H') : LamX.TabS H' P q := by
  obtain ⟨s, c, r, e, _⟩ := dk
  refine tab_kp t (fun z => ?_) (fun c' z => ?_) k
  · obtain ⟨ps, h, _⟩ := t
    rw [z, e] at h
    cases h
  · rw [e] at z
    cases z
/-- what stands while the law asks about a room: its lines at pl, the room at x, the source at d, the table at P0 -/
structure Here (C P0 : Addr) (q : Str) (d pl x : Addr) (g : List (List Sg)) (H : Hp) : Prop where
  lines : H pl = some (.lst (g.map lineV))
  room : RoomAt C H x g
  dok : DOk H d
  tab : LamX.TabS H P0 q
theorem Here.same {C P0 d pl x : Addr} {q : Str} {g : List (List Sg)} {H H' : Hp} (h : Here C P0 q d pl x g H) (s : Same H H') : Here C P0 q d pl x g H' :=
  ⟨s _ _ h.lines, h.room.same s, h.dok.same s, h.tab.ext s⟩
theorem Here.kp {C P0 d pl x : Addr} {q : Str} {g : List (List Sg)} {H H' : Hp} (h : Here C P0 q d pl x g H) (k : Kp d H H') (dk : DOk H' d) : Here C P0 q d pl x g H' :=
  ⟨k _ _ (h.dok.neL h.lines) h.lines, h.room.kp h.dok k, dk, TabS.kp h.tab h.dok k⟩
/-- a list of pairs beside the source -/
theorem prs_kp {H H' : Hp} {d p : Addr} {ws : List V} {ps : List (Int × Int)} (dk : DOk H d) (k : Kp d H H') (h : H p = some (.lst ws)) (r : PrsAt H ws ps) : H' p = some (.lst ws) ∧ PrsAt H' ws ps :=
  ⟨k _ _ (dk.neP h r) h, r.tx (dk.tx k)⟩
theorem tiles_lenG {f : Sg → Bool} {g : List (List Sg)} {w : Nat} (G : Grid 8 10 g w) : (tiles f g).length ≤ 64 := by
  have h := tilesTo_len f g 8 (fun l hl => by rw [G.ln l hl]; exact G.wm) g.length
  have h2 : g.length * 8 ≤ 8 * 8 := Nat.mul_le_mul_right _ G.hm
  unfold tiles
  omega
theorem edges_len (h w : Nat) : (edges h w).length = 2 * (h + w) := by
  unfold edges
  simp only [List.length_append, lfx_len]
  omega
theorem ne_nil_pairs (ps : List (Int × Int)) : (!PyData.eqv (dPairs ps) (dPairs [])) = !ps.isEmpty := by
  rw [eqv_pairs]
  cases ps <;> simp
/-- all but the tables stays -/
theorem RoomAt.extN {C : Addr} {H H' : Hp} {x : Addr} {g : List (List Sg)} (r : RoomAt C H x g) (e : LamX.ExtN H H') : RoomAt C H' x g := by
  obtain ⟨dx, t, pl, ws, h1, h2, h3, h4⟩ := r
  exact ⟨dx, t, pl, ws, e _ _ h1 (fun _ z => nomatch z), e _ _ h2 (fun _ z => nomatch z), e _ _ h3 (fun _ z => nomatch z), h4.tx fun a xs h => e _ _ h (fun _ z => nomatch z)⟩
theorem DOk.extN {H H' : Hp} {d : Addr} (x : DOk H d) (e : LamX.ExtN H H') : DOk H' d := let ⟨s, c, r, h, q⟩ := x; ⟨s, c, r, e _ _ h (fun _ z => nomatch z), q⟩
theorem Here.extN {C P0 d pl x : Addr} {q : Str} {g : List (List Sg)} {H H' : Hp} (h : Here C P0 q d pl x g H) (e : LamX.ExtN H H') (t : LamX.TabS H' P0 q) : Here C P0 q d pl x g H' :=
  ⟨e _ _ h.lines (fun _ z => nomatch z), h.room.extN e, h.dok.extN e, t⟩
def dTold (k : Str) : PyData := .tuple [.str k, .int 0]
theorem dp_told {K : PySem.W.Frag} {H : Hp} {p : Addr} {k : Str} (h : H p = Option.some (.tup [.str k, .int 0])) : Dp K H (.ref p) (dTold k) := .tup (SqT.of h) (.cons (.str _) (.cons (.int _) .nil))
theorem sh_told {k : Str} (h : ∀ c ∈ k.cps.toList, c < 128) : Sh 1 (dTold k) := sh_tup fun d hd => by
  have h' : d = .str k ∨ d = .int 0 := by simpa using hd
  rcases h' with rfl | rfl
  · exact sh_str h
  · exact sh_int _
theorem eqv_told (k : Str) : PyData.eqv (dTold k) (dTold k) = true := by
  unfold dTold
  simp [PyData.eqv, PyData.eqvAll]
/-- an index that no room of this size has -/
theorem bad_l {h w : Nat} {u v : V} (e : isNum u 0 ((h : Int) - 1) = false) : okAt h w (some (u, v)) = false := by
  show (isNum u 0 ((h : Int) - 1) && isNum v 0 ((w : Int) - 1)) = false
  rw [e] <;> rfl
theorem bad_r {h w : Nat} {u v : V} (e : isNum v 0 ((w : Int) - 1) = false) : okAt h w (some (u, v)) = false := by
  show (isNum u 0 ((h : Int) - 1) && isNum v 0 ((w : Int) - 1)) = false
  rw [e, Bool.and_false]
theorem isNum_lo {i hi : Int} (h : i < 0) : isNum (.int i) 0 hi = false := by
  show (decide ((0 : Int) ≤ i) && decide (i ≤ hi)) = false
  rw [decide_eq_false (by omega)] <;> rfl
theorem isNum_hi {i hi : Int} (h : hi < i) : isNum (.int i) 0 hi = false := by
  show (decide ((0 : Int) ≤ i) && decide (i ≤ hi)) = false
  rw [decide_eq_false (p := i ≤ hi) (by omega), Bool.and_false]
end My
namespace My
open PySem PySem.Spec PyProof.Rows L2
def sp_law (K : PySem.W.Frag) (P0 : Addr) : Sp := fun vs H Q _ => ∃ (a : Addr) (ns : List Int), vs = [.ref a] ∧ ns.length ≤ 63 ∧ SqL K H a (ns.map V.int) ∧ H P0 = some (.tbl #[]) ∧ ∀ H', Q (.bl true) H'
/-- what the law names -/
structure Kit (P : Program) (w : World) (K : PySem.W.Frag) (mg : Str → Option Value) (base : Heap) (C m : Addr) (c : Nat → Addr) : Prop where
  T : ∃ fI, RoomT K mg C fI
  R : RoomI K C
  EA : ErrAll K mg m c
  g_l_random : GF P w K mg base "_law_random" 1 (sp_random K)
  g_l_below : GF P w K mg base "_law_below" 1 sp_below
  g_l_lines : GF P w K mg base "_law_lines" 2 sp_lines
  g_l_room : GF P w K mg base "_law_room" 6 (sp_lroom K C)
  g_l_spots : GF P w K mg base "_law_spots" 1 (sp_spots K)
  g_l_equal : GF P w K mg base "_law_equal" 4 (sp_same 3)
  g_l_edges : GF P w K mg base "_law_edges" 1 (sp_edges K)
  g_l_turned : GF P w K mg base "_law_turned" 1 (sp_lturned K)
  p_rows : PR P w K mg base C "rows" 1 (sp_rows C)
  p_text : PR P w K mg base C "text" 1 (sp_text C)
  p_size : PR P w K mg base C "size" 1 (sp_size C)
  p_turning : PRX P w K mg base C "turning" 2 (sp_turning C)
  len : ∃ f, MOf K C "__len__" f ∧ FnR P w K mg base (L2.CX P w) 1 f (sp_len C)
  bool : ∃ f, MOf K C "__bool__" f ∧ FnR P w K mg base (L2.CX P w) 2 f (sp_bool C)
  eq : ∃ f, MOf K C "__eq__" f ∧ NeC K C f ∧ FnR P w K mg base (L2.CX P w) 1 f (sp_eq C)
  invert : ∃ f, MOf K C "__invert__" f ∧ FnR P w K mg base (L2.CX P w) 5 f (sp_invert C)
  getitem : ∃ f, MOf K C "__getitem__" f ∧ PySem.W.fnIn K f = true ∧ FnR P w K mg base (L2.CX P w) 4 f (sp_get C (c 2))
  nf : PySem.W.notFirst K C (.type "list") = true
abbrev s_law : Stmt := (top 43)
abbrev N_law : List Str := ["_law_script", "_law_d", "_law_step", "_law_lines_here", "_law_spots_here", "_law_text", "_law_found", "_law_row", "_law_column", "_law_other", "_law_wrong", "_law_first", "_law_room_here", "_law_second"]
theorem sc_law : FnScope N_law ["_law_script"] (defScope s_law) := ⟨rfl, rfl, rfl, by decide +kernel, rfl, by decide +kernel, by decide +kernel⟩

section
variable {P : Program} {w : World} {K : PySem.W.Frag} {mg : Str → Option Value} {base : Heap}
theorem ok_law {f fe C m c0 P0 : Addr} {c : Nat → Addr} {fd fde : FuncData} (F : Fun K "law" "law" s_law f fd) (EF : Fun K "_law_error_of" "_law_error_of" s_l_error_of fe fde) (hme : mg "_law_error_of" = some (.ref fe)) (hbe : Binds K fde ["_law_call"] []) (Z : Kit P w K mg base C m c)
    (hc0 : fd.code = .ref c0) (TB : LamX.TabB base mg c0 P0) : FnOk P w K mg base (L2.CX P w) 8 f fd ["_law_script"] (sp_law K P0) := by
  obtain ⟨⟨fI, T⟩, R, EA, g_l_random, g_l_below, g_l_lines, g_l_room, g_l_spots, g_l_equal, g_l_edges, g_l_turned, p_rows, p_text, p_size, p_turning, ⟨fl, m_len, f_len⟩, ⟨fb, m_bool, f_bool⟩, ⟨fq, m_eq, m_ne, f_eq⟩, ⟨fv, m_invert, f_invert⟩, ⟨fg, m_getitem, n_getitem, f_getitem⟩, nf⟩ := Z
  obtain ⟨oc, od, kV, doc, pm, an, cdv, ct, osl, rfl, lk, hcd⟩ := F.ex
  obtain ⟨oce, ode, kVe, doce, pme, ane, cde, cte, osle, rfl, lke, hce⟩ := EF.ex
  obtain rfl : cdv = .ref c0 := hc0
  have tt1 : ∀ p ∈ [(P0, ("law.<locals>.<lambda>" : Str))], p.1 = P0 → p.2 = ("law.<locals>.<lambda>" : Str) := fun p hp _ => by rw [List.mem_singleton.mp hp]
  refine fn_of lk hcd sc_law (fun vs H Q E h => ?_) (fun A outer s H vs Q E hr h => ?_)
  · obtain ⟨a, ns, rfl, _⟩ := h
    rfl
  · obtain ⟨a, ns, rfl, hn, hS, hP, q⟩ := h
    refine ⟨_, (pss_cons (ps_set (i := 1) sc_law.nd rfl (Or.inl rfl) (pe_c g_l_random (hr.mono (by decide)) passL (pa_cons (pv 0) (pa_cons pe_int pa_nil))))
    (pss_cons (ps_for (passes_of rfl) rfl (pi_range1 (by rfl) T.b_range (pa_cons pe_int pa_nil)) (pg_name (i := 2) sc_law.nd rfl (Or.inl rfl))
      (pss_cons (ps_set (i := 3) sc_law.nd rfl (Or.inl rfl) (pe_c g_l_lines (hr.mono (by decide)) passL (pa_cons (pv 1) (pa_cons pe_int (pa_cons pe_int pa_nil)))))
      (pss_cons (ps_asg (pe_tup (pa_cons (pe_c g_l_room (hr.mono (by decide)) passL (pa_cons (pv 3) pa_nil)) (pa_cons (pe_c g_l_spots (hr.mono (by decide)) passL (pa_cons (pv 3) (pa_cons pe_str pa_nil))) pa_nil))) (pg_tup rfl (pgs_cons (pg_name (i := 12) sc_law.nd rfl (Or.inr rfl)) (pgs_cons (pg_name (i := 4) sc_law.nd rfl (Or.inl rfl)) pgs_nil))))
      (pss_cons (ps_set (i := 5) sc_law.nd rfl (Or.inl rfl) (pe_join pe_str (pv 3)))
      (pss_cons (ps_if (pt_not (pt_val (pe_c g_l_equal (hr.mono (by decide)) passL (pa_cons (pe_lst (pa_cons (pe_pr (pv 12) T.cl p_rows (hr.mono (by decide))) (pa_cons (pe_pr (pv 12) T.cl p_text (hr.mono (by decide))) (pa_cons (pe_pr (pv 12) T.cl p_size (hr.mono (by decide))) pa_nil)))) (pa_cons (pe_lst (pa_cons (pe_callTy call_tuple_of (by rfl) T.b_tuple (by decide +kernel) (pa_cons (pv 3) pa_nil)) (pa_cons (pv 5) (pa_cons (pe_tup (pa_cons (pe_callB call_len_seq (by rfl) T.b_len PySem.boot_len (pa_cons (pv 3) pa_nil)) (pa_cons (pe_callB call_len_str (by rfl) T.b_len PySem.boot_len (pa_cons (pe_ix ix_list (pv 3) pe_int (fun _ _ => rfl)) pa_nil)) pa_nil))) pa_nil)))) pa_nil)))))
        (pss_one (ps_ret pe_bl))
        pss_nil)
      (pss_cons (ps_set (i := 6) sc_law.nd rfl (Or.inl rfl) (pe_prX (pv 12) T.cl p_turning (hr.mono (by decide))))
      (pss_cons (ps_if (pt_not (pt_val (pe_c g_l_equal (hr.mono (by decide)) passL (pa_cons (pe_lst (pa_cons (pv 6) (pa_cons (pe_callTy (call_boolO m_bool f_bool (hr.mono (by decide))) (by rfl) T.b_bool (by decide +kernel) (pa_cons (pv 12) pa_nil)) (pa_cons (pe_callB (call_lenO m_len f_len (hr.mono (by decide))) (by rfl) T.b_len PySem.boot_len (pa_cons (pv 12) pa_nil)) pa_nil)))) (pa_cons (pe_lst (pa_cons (pv 4) (pa_cons (pe_cmpR (op_neD hr.units) (pv 4) (pe_lst pa_nil) (nomark _)) (pa_cons (pe_callB call_len_seq (by rfl) T.b_len PySem.boot_len (pa_cons (pe_c g_l_edges (hr.mono (by decide)) passL (pa_cons (pv 3) pa_nil)) pa_nil)) pa_nil)))) pa_nil)))))
        (pss_one (ps_ret pe_bl))
        pss_nil)
      (pss_cons (ps_expr (pe_bm PySem.F.plainAttrs_list PySem.F.slot_list_append PySem.F.type_list_append mt_append (pv 6) (pa_cons pe_int pa_nil)))
      (pss_cons (ps_par (i := 7) (j := 8) (by rfl) sc_law.nd rfl rfl (by decide) rfl rfl (pa_cons (pe_c g_l_below (hr.mono (by decide)) passL (pa_cons (pv 1) (pa_cons (pe_callB call_len_seq (by rfl) T.b_len PySem.boot_len (pa_cons (pv 3) pa_nil)) pa_nil))) (pa_cons (pe_c g_l_below (hr.mono (by decide)) passL (pa_cons (pv 1) (pa_cons (pe_callB call_len_str (by rfl) T.b_len PySem.boot_len (pa_cons (pe_ix ix_list (pv 3) pe_int (fun _ _ => rfl)) pa_nil)) pa_nil))) pa_nil)) (by rfl))
      (pss_cons (ps_if (pt_not (pt_val (pe_c g_l_equal (hr.mono (by decide)) passL (pa_cons (pe_lst (pa_cons (pe_getO m_getitem n_getitem f_getitem (hr.mono (by decide)) passL (pv 12) (pe_tup (pa_cons (pv 7) (pa_cons (pv 8) pa_nil)))) (pa_cons (pe_prX (pv 12) T.cl p_turning (hr.mono (by decide))) pa_nil))) (pa_cons (pe_lst (pa_cons (pe_ix ix_str (pe_ix ix_list (pv 3) (pv 7) (fun _ _ => rfl)) (pv 8) (fun _ _ => rfl)) (pa_cons (pv 4) pa_nil))) pa_nil)))))
        (pss_one (ps_ret pe_bl))
        pss_nil)
      (pss_cons (ps_if (pt_not (pt_val (pe_c g_l_equal (hr.mono (by decide)) passL (pa_cons (pe_lst (pa_cons (pe_pr (pe_un (un_invO m_invert f_invert (hr.mono (by decide))) (pv 12)) T.cl p_rows (hr.mono (by decide))) (pa_cons (pe_cmpR (op_eqO m_eq f_eq (hr.mono (by decide))) (pe_un (un_invO m_invert f_invert (hr.mono (by decide))) (pe_un (un_invO m_invert f_invert (hr.mono (by decide))) (pv 12))) (pv 12) (nomark _)) pa_nil))) (pa_cons (pe_lst (pa_cons (pe_callTy call_tuple_of (by rfl) T.b_tuple (by decide +kernel) (pa_cons (pe_c g_l_turned (hr.mono (by decide)) passL (pa_cons (pv 3) pa_nil)) pa_nil)) (pa_cons pe_bl pa_nil))) pa_nil)))))
        (pss_one (ps_ret pe_bl))
        pss_nil)
      (pss_cons (ps_set (i := 9) sc_law.nd rfl (Or.inl rfl) (pe_c g_l_lines (hr.mono (by decide)) passL (pa_cons (pv 1) (pa_cons pe_int (pa_cons pe_int pa_nil)))))
      (pss_cons (ps_if (PW.pt (pw_or (pt_cmpR op_ne (pe_cmpR (op_eqO m_eq f_eq (hr.mono (by decide))) (pv 12) (pe_c g_l_room (hr.mono (by decide)) passL (pa_cons (pv 9) pa_nil)) (nomark _)) (pe_cmpR (op_eqD hr.units) (pv 3) (pv 9) (nomark _)) (nomark _)) (pw_or (pt_cmpR (op_eqO m_eq f_eq (hr.mono (by decide))) (pv 12) (pv 3) (nomark _)) (pw_or1 (pt_cmpR (op_neO m_ne f_eq (hr.mono (by decide))) (pv 12) (pe_c g_l_room (hr.mono (by decide)) passL (pa_cons (pv 3) pa_nil)) (nomark _))))))
        (pss_one (ps_ret pe_bl))
        pss_nil)
      (pss_cons (ps_set (i := 10) sc_law.nd rfl (Or.inl rfl) (pe_lst (pa_cons (pe_tup (pa_cons (pe_op op_sub pe_int pe_int) (pa_cons (pv 8) pa_nil))) (pa_cons (pe_tup (pa_cons (pe_callB call_len_seq (by rfl) T.b_len PySem.boot_len (pa_cons (pv 3) pa_nil)) (pa_cons (pv 8) pa_nil))) (pa_cons (pe_tup (pa_cons (pv 7) (pa_cons (pe_op op_sub pe_int pe_int) pa_nil))) (pa_cons (pe_tup (pa_cons (pv 7) (pa_cons (pe_callB call_len_str (by rfl) T.b_len PySem.boot_len (pa_cons (pe_ix ix_list (pv 3) pe_int (fun _ _ => rfl)) pa_nil)) pa_nil))) (pa_cons (pe_tup (pa_cons pe_non (pa_cons pe_int pa_nil))) (pa_cons (pe_tup (pa_cons pe_int (pa_cons pe_bl pa_nil))) pa_nil))))))))
      (pss_cons (ps_asg (pe_ix ix_list (pv 10) (pe_c g_l_below (hr.mono (by decide)) passL (pa_cons (pv 1) (pa_cons pe_int pa_nil))) (fun _ _ => rfl)) (pg_tup rfl (pgs_cons (pg_name (i := 11) sc_law.nd rfl (Or.inr rfl)) (pgs_cons (pg_name (i := 13) sc_law.nd rfl (Or.inr rfl)) pgs_nil))))
      (pss_one (ps_if (pt_cmpR (op_neD hr.units) (LamX.pe_lamcall (k := 5) (T := [(P0, ("law.<locals>.<lambda>" : Str))]) (TT := TErr c) (by rfl) hme EF.kp lke hce hbe sc_l_error_of (by rfl) (Or.inl rfl) (gives_error_of EA fe cde _) TB rfl (List.mem_singleton.mpr rfl) tt1 (hr.mono (by decide)) (LamX.lamS_by (sc := defScope s_law) (by decide +kernel)) (by rfl) (fun _ _ _ _ _ => by rfl) (fun A outer s H E f c2 hr2 => (pe_getO m_getitem n_getitem f_getitem (hr2.mono (by decide)) (passes_call (takes_of rfl rfl rfl rfl) (fun _ _ _ _ h => h)) (pv 12) (pe_tup (pa_cons (pv 11) (pa_cons (pv 13) pa_nil)))))) (pe_tup (pa_cons pe_str (pa_cons pe_int pa_nil))) (nomark _))
        (pss_one (ps_ret pe_bl))
        pss_nil)))))))))))))))))
    (pss_one (ps_ret (pe_c g_l_equal (hr.mono (by decide)) passL (pa_cons (pe_lst (pa_cons (ClX.pe_cval (pe_gr T.g_Room)) (pa_cons (ClX.pe_cval (pe_gr T.g_Room)) pa_nil))) (pa_cons (pe_lst (pa_cons pe_int (pa_cons pe_int pa_nil))) pa_nil))))))), ?_⟩
    refine ⟨_, rfl, a, ns, 2, rfl, hS, hn, by decide, by decide, fun d H1 hd s1 d1 => ?_⟩
    have t1 : LamX.TabS H1 P0 "law.<locals>.<lambda>" := (LamX.TabS.nil hP).ext s1
    refine ⟨_, rfl, by decide, by decide, for_range (lo := 0) (n := (3 : Int).toNat) (fun i σ H' => ∃ (v2 v3 v4 v5 v6 v7 v8 v9 v10 v11 v12 v13 : Option V), σ = [some (.ref a), some (.ref d), v2, v3, v4, v5, v6, v7, v8, v9, v10, v11, v12, v13] ∧ DOk H' d ∧ LamX.TabS H' P0 "law.<locals>.<lambda>")
      ⟨none, none, none, none, none, none, none, none, none, none, none, none, rfl, d1, t1⟩ ?_ ?_⟩
    · rintro i σ G0 hi ⟨v2, v3, v4, v5, v6, v7, v8, v9, v10, v11, v12, v13, rfl, d0, t0⟩
      refine ⟨_, rfl, d, 8, 10, rfl, d0, by decide, by decide, by decide, fun g ww pl G1 G hpl k1 d2 e1 => ?_⟩
      have t2 := TabS.kp t0 d0 k1
      have hgm := G.hm
      have hwm := G.wm
      refine ⟨_, rfl, pl, ww, g, rfl, SqL.of e1, G, fun x G2 hx s2 r2 => ?_⟩
      have hh2 : Here C P0 "law.<locals>.<lambda>" d pl x g G2 := ⟨s2 _ _ e1, r2, d2.same s2, t2.ext s2⟩
      refine ⟨_, rfl, pl, ww, g, _, Sg.tur, rfl, SqL.of hh2.lines, G, inS_rf, fun ps ws G3 hps s3 e3 pr3 => ?_⟩
      refine ⟨by show 2 ≤ sizeLine; decide, fun pt hpt => ?_⟩
      have s4 := Same.new' s3 (o := .tup [.ref x, .ref ps]) hpt
      have e4 := Same.new (o := .tup [.ref x, .ref ps]) hpt _ _ e3
      have pr4 := pr3.tx (Tx.new (o := .tup [.ref x, .ref ps]) hpt)
      refine ⟨pt, _, rfl, SqT.of upd_same, rfl, _, _, rfl, _, _, rfl, rfl, ?_⟩
      generalize upd G3 pt (.tup [.ref x, .ref ps]) = G4 at s4 e4 pr4 ⊢
      have hh4 := hh2.same s4
      obtain ⟨dx, fs, hx4⟩ := hh4.room.ins
      have hgn : g ≠ [] := fun z => by rw [z] at G; exact absurd G.h0 (by simp)
      have hsum := lines_sum g 8 (fun l hl => by rw [G.ln l hl]; exact G.wm)
      obtain ⟨l0, hl0⟩ : ∃ l0, g[0]? = some l0 := ⟨g[0]'(G.h0), by simp [G.h0]⟩
      have lw0 := G.ln l0 (List.mem_of_getElem? hl0)
      have hm0 : (g.map lineV)[0]? = some (lineV l0) := by rw [List.getElem?_map, hl0] <;> rfl
      have ew : (((lstr l0).length : Nat) : Int) = (ww : Int) := by rw [lstr_len, lw0]
      have eh : (((g.map lineV).length : Nat) : Int) = (g.length : Int) := by rw [List.length_map]
      refine ⟨⟨_, rfl⟩, _, rfl, _, pl, g.map lstr, rfl, rfl, .inl (by rw [← lines_str]; exact SqL.of hh4.lines), ?_, ?_⟩
      · have e1 : ("\n" : Str).length = 1 := by decide +kernel
        rw [List.length_map, e1]
        omega
      rw [join_g]
      refine ⟨_, rfl, x, dx, fs, rfl, hx4, x, g, rfl, hh4.room, fun t ht => ?_⟩
      refine ⟨_, rfl, x, dx, fs, rfl, hx4, x, ww, g, rfl, hh4.room, G, ?_⟩
      refine ⟨_, rfl, x, dx, fs, rfl, hx4, x, ww, g, rfl, hh4.room, G, fun a1 ha1 => ?_⟩
      refine ⟨by show 3 ≤ sizeLine; decide, fun a2 ha2 => ?_⟩
      have u1 := Same.new (o := .tup [.int g.length, .int ww]) ha1
      have u2 := Same.new (o := .lst [.ref t, .str (gtext g), .ref a1]) ha2
      have at4 := u2 _ _ (u1 _ _ ht)
      have a14 := u2 _ _ (upd_same (H := G4) (a := a1) (o := .tup [.int g.length, .int ww]))
      have a24 : upd (upd G4 a1 (.tup [.int g.length, .int ww])) a2 (.lst [.ref t, .str (gtext g), .ref a1]) a2 = some (.lst [.ref t, .str (gtext g), .ref a1]) := upd_same
      have s5 := u1.trans u2
      generalize upd (upd G4 a1 (.tup [.int g.length, .int ww])) a2 (.lst [.ref t, .str (gtext g), .ref a1]) = G5 at s5 at4 a14 a24 ⊢
      have hh5 := hh4.same s5
      refine ⟨_, rfl, pl, _, rfl, .inl ⟨SqL.of hh5.lines, fun b1 hb1 => ?_⟩⟩
      have u3 := Same.new (o := .tup (g.map lineV)) hb1
      refine ⟨_, rfl, _, rfl, pl, _, rfl, .inl (SqL.of (u3 _ _ hh5.lines)), _, rfl, pl, _, _, _, rfl, rfl, SqL.of (u3 _ _ hh5.lines), atI_nat hm0, _, rfl, sz2 (by rw [lstr_len]; omega), by show 2 ≤ sizeLine; decide, fun b2 hb2 => ?_⟩
      rw [ew, eh]
      have u4 := Same.new' u3 (o := .tup [.int g.length, .int ww]) hb2
      refine ⟨by show 3 ≤ sizeLine; decide, fun b3 hb3 => ?_⟩
      have w3 := Same.new (o := .lst [.ref b1, .str (gtext g), .ref b2]) hb3
      have u5 := u4.trans w3
      have b35 : upd (upd (upd G5 b1 (.tup (g.map lineV))) b2 (.tup [.int g.length, .int ww])) b3 (.lst [.ref b1, .str (gtext g), .ref b2]) b3 = some (.lst [.ref b1, .str (gtext g), .ref b2]) := upd_same
      have b25 := w3 _ _ (upd_same (H := upd G5 b1 (.tup (g.map lineV))) (a := b2) (o := .tup [.int g.length, .int ww]))
      have b15 := w3 _ _ (Same.new (o := .tup [.int g.length, .int ww]) hb2 _ _ (upd_same (H := G5) (a := b1) (o := .tup (g.map lineV))))
      generalize upd (upd (upd G5 b1 (.tup (g.map lineV))) b2 (.tup [.int g.length, .int ww])) b3 (.lst [.ref b1, .str (gtext g), .ref b2]) = G6 at u5 b35 b25 b15 ⊢
      have gl : (g.map lineV).length ≤ 10000 := by rw [List.length_map]; omega
      refine ⟨_, _, .lst [.tup (g.map tLine), .str (gtext g), .tup [.int g.length, .int ww]], rfl, dtL (u5 _ _ a24) (.cons (dtT (u5 _ _ at4) (dt_lines g) gl) (.cons (.str _) (.cons (dtT (u5 _ _ a14) (.cons (.int _) (.cons (.int _) .nil)) (by show 2 ≤ 10000; omega)) .nil))) (by show 3 ≤ 10000; omega),
        dtL b35 (.cons (dtT b15 (dt_lines g) gl) (.cons (.str _) (.cons (dtT b25 (.cons (.int _) (.cons (.int _) .nil)) (by show 2 ≤ 10000; omega)) .nil))) (by show 3 ≤ 10000; omega), fun G7 s7 => ⟨_, rfl, ifF rfl ?_⟩⟩
      have s47 : Same G4 G7 := (s5.trans u5).trans s7
      have hh7 := hh4.same s47
      have e7 := s47 _ _ e4
      have pr7 := pr4.tx (Tx.of s47)
      have hx7 := s47 _ _ hx4
      have hgl := tiles_lenG (f := Sg.tur) G
      have hg0 := G.h0
      have hw0 := G.w0
      refine ⟨_, rfl, x, dx, fs, rfl, hx7, x, ww, g, rfl, hh7.room, G, fun pf wf G8 hpf s8 e8 pr8 => ?_⟩
      refine ⟨_, rfl, _, rfl, x, dx, fs, rfl, s8 _ _ hx7, x, ww, g, rfl, hh7.room.same s8, G, fun G9 s9 => ⟨_, rfl, ?_⟩⟩
      have s89 := s8.trans s9
      refine ⟨_, rfl, x, dx, fs, rfl, s89 _ _ hx7, x, ww, g, rfl, hh7.room.same s89, G, _, rfl, by omega, by omega, ?_⟩
      refine ⟨by show 3 ≤ sizeLine; decide, fun c1 hc1 => ?_⟩
      have v1 := Same.new (o := .lst [.ref pf, .bl (!(tiles Sg.tur g).isEmpty), .int ((2 * (g.length + ww) : Nat) : Int)]) hc1
      have c11 : upd G9 c1 (.lst [.ref pf, .bl (!(tiles Sg.tur g).isEmpty), .int ((2 * (g.length + ww) : Nat) : Int)]) c1 = some (.lst [.ref pf, .bl (!(tiles Sg.tur g).isEmpty), .int ((2 * (g.length + ww) : Nat) : Int)]) := upd_same
      have e9 := (s9.trans v1) _ _ e8
      have pr9 := pr8.tx (Tx.of (s9.trans v1))
      have s810 := s89.trans v1
      generalize upd G9 c1 (.lst [.ref pf, .bl (!(tiles Sg.tur g).isEmpty), .int ((2 * (g.length + ww) : Nat) : Int)]) = G10 at v1 c11 e9 pr9 s810 ⊢
      refine ⟨_, rfl, _, rfl, Nat.zero_le _, fun c2 hc2 => ?_⟩
      have v2' := Same.new (o := .lst []) hc2
      refine ⟨dPairs (tiles Sg.tur g), dPairs [], dp_pairs (SqL.of (v2' _ _ (s810 _ _ e7))) (pr7.tx (Tx.of (s810.trans v2'))), dp_pairs (SqL.of upd_same) .nil, (sh_pairs _).shaped (by omega), (sh_pairs _).shaped (by omega), ?_⟩
      rw [ne_nil_pairs]
      have s811 := s810.trans v2'
      have w811 := v2'
      generalize upd G10 c2 (.lst []) = G11 at s811 w811 ⊢
      refine ⟨_, rfl, pl, ww, g, rfl, SqL.of (s811 _ _ hh7.lines), G, fun pe we G12 hpe s12 e12 ti => ?_⟩
      have hwe : we.length = 2 * (g.length + ww) := by rw [ti.len, edges_len]
      refine ⟨pe, _, rfl, .inl (SqL.of e12), by show 3 ≤ sizeLine; decide, fun c3 hc3 => ?_⟩
      rw [hwe]
      have v3' := Same.new (o := .lst [.ref ps, .bl (!(tiles Sg.tur g).isEmpty), .int ((2 * (g.length + ww) : Nat) : Int)]) hc3
      have c33 : upd G12 c3 (.lst [.ref ps, .bl (!(tiles Sg.tur g).isEmpty), .int ((2 * (g.length + ww) : Nat) : Int)]) c3 = some (.lst [.ref ps, .bl (!(tiles Sg.tur g).isEmpty), .int ((2 * (g.length + ww) : Nat) : Int)]) := upd_same
      have w13 := (w811.trans s12).trans v3'
      have s713 := s810.trans w13
      generalize upd G12 c3 (.lst [.ref ps, .bl (!(tiles Sg.tur g).isEmpty), .int ((2 * (g.length + ww) : Nat) : Int)]) = G13 at w13 s713 c33 ⊢
      refine ⟨_, _, .lst [.lst ((tiles Sg.tur g).map My.tPair), .bl (!(tiles Sg.tur g).isEmpty), .int ((2 * (g.length + ww) : Nat) : Int)], rfl,
        dtL (w13 _ _ c11) (.cons (dtL (w13 _ _ e9) (dt_pairs (pr9.tx (Tx.of w13))) (by rw [pr8.len]; omega)) (.cons (.bl _) (.cons (.int _) .nil))) (by show 3 ≤ 10000; omega),
        dtL c33 (.cons (dtL (s713 _ _ e7) (dt_pairs (pr7.tx (Tx.of s713))) (by rw [pr7.len]; omega)) (.cons (.bl _) (.cons (.int _) .nil))) (by show 3 ≤ 10000; omega), fun G14 s14 => ⟨_, rfl, ifF rfl ?_⟩⟩
      have s714 := s713.trans s14
      have e14 := (w13.trans s14) _ _ e9
      refine ⟨_, rfl, .inl ⟨rfl, _, SqL.of e14⟩, pf, _, _, rfl, rfl, e14, sz3 (by rw [pr8.len]; omega), ?_⟩
      have s715 : Same G7 (upd G14 pf (.lst (wf ++ [.int 0]))) := Same.mut s714 hpf
      generalize upd G14 pf (.lst (wf ++ [.int 0])) = G15 at s715 ⊢
      have hh15 := hh7.same s715
      have e15 := s715 _ _ e7
      have pr15 := pr7.tx (Tx.of s715)
      refine ⟨_, rfl, _, rfl, pl, _, rfl, .inl (SqL.of hh15.lines), d, _, rfl, hh15.dok, by rw [eh]; omega, by rw [eh]; omega, fun r G16 r0 r1 k16 d16 => ?_⟩
      rw [eh] at r1
      have hh16 := hh15.kp k16 d16
      obtain ⟨e16, pr16⟩ := prs_kp hh15.dok k16 e15 pr15
      refine ⟨_, rfl, _, rfl, pl, _, _, _, rfl, rfl, SqL.of hh16.lines, atI_nat hm0, _, rfl, sz2 (by rw [lstr_len]; omega), d, _, rfl, hh16.dok, by rw [ew]; omega, by rw [ew]; omega, fun cc G17 c0' c1' k17 d17 => ⟨_, _, rfl, ?_⟩⟩
      rw [ew] at c1'
      have hh17 := hh16.kp k17 d17
      obtain ⟨e17, pr17⟩ := prs_kp hh16.dok k17 e16 pr16
      obtain ⟨rn, rfl⟩ : ∃ n : Nat, r = n := ⟨r.toNat, by omega⟩
      obtain ⟨cn, rfl⟩ : ∃ n : Nat, cc = n := ⟨cc.toNat, by omega⟩
      have hrn : rn < g.length := by omega
      have hcn : cn < ww := by omega
      obtain ⟨l, hl⟩ : ∃ l, g[rn]? = some l := ⟨g[rn], by simp [hrn]⟩
      have lw := G.ln l (List.mem_of_getElem? hl)
      obtain ⟨sg, hsg⟩ : ∃ sg, l[cn]? = some sg := ⟨l[cn]'(by omega), by simp [lw, hcn]⟩
      have hli : (g.map lineV)[rn]? = some (lineV l) := by rw [List.getElem?_map, hl] <;> rfl
      have hci : (lstr l).cps.toList[cn]? = some sg.cp := by rw [lstr_toList, List.getElem?_map, hsg] <;> rfl
      obtain ⟨dx17, fs17, hx17⟩ := hh17.room.ins
      refine ⟨_, rfl, _, rfl, _, rfl, by show 2 ≤ sizeLine; decide, fun a3 ha3 => ?_⟩
      have x1 := Same.new (o := .tup [.int rn, .int cn]) ha3
      refine ⟨x, dx17, fs17, rfl, x1 _ _ hx17, x, _, ww, g, rfl, hh17.room.same x1, G, .inl ⟨a3, rn, cn, l, sg, rfl, upd_same, hl, hsg, fun G18 s18 => ?_⟩⟩
      have x2 := x1.trans s18
      refine ⟨_, rfl, x, dx17, fs17, rfl, x2 _ _ hx17, x, ww, g, rfl, hh17.room.same x2, G, fun pg wg G19 hpg s19 e19 pr19 => ?_⟩
      refine ⟨by show 2 ≤ sizeLine; decide, fun a4 ha4 => ?_⟩
      have y4 := Same.new (o := .lst [.str sg.str, .ref pg]) ha4
      have a44 : upd G19 a4 (.lst [.str sg.str, .ref pg]) a4 = some (.lst [.str sg.str, .ref pg]) := upd_same
      have e20 := y4 _ _ e19
      have pr20 := pr19.tx (Tx.of y4)
      have s20 := (x2.trans s19).trans y4
      generalize upd G19 a4 (.lst [.str sg.str, .ref pg]) = G20 at a44 e20 pr20 s20 ⊢
      refine ⟨_, rfl, _, rfl, pl, _, _, _, rfl, rfl, SqL.of (s20 _ _ hh17.lines), atI_nat hli, _, rfl, _, _, _, rfl, rfl, sz2 (by rw [lstr_len]; omega), atI_nat hci, ?_⟩
      refine ⟨_, rfl, by show 2 ≤ sizeLine; decide, fun a5 ha5 => ?_⟩
      have y5 := Same.new (o := .lst [.str ⟨#[sg.cp]⟩, .ref ps]) ha5
      have a55 : upd G20 a5 (.lst [.str ⟨#[sg.cp]⟩, .ref ps]) a5 = some (.lst [.str ⟨#[sg.cp]⟩, .ref ps]) := upd_same
      have s21 := s20.trans y5
      generalize upd G20 a5 (.lst [.str ⟨#[sg.cp]⟩, .ref ps]) = G21 at a55 y5 s21 ⊢
      refine ⟨_, _, .lst [.str sg.str, .lst ((tiles Sg.tur g).map My.tPair)], rfl, dtL (y5 _ _ a44) (.cons (.str _) (.cons (dtL (y5 _ _ e20) (dt_pairs (pr20.tx (Tx.of y5))) (by rw [pr20.len]; omega)) .nil)) (by show 2 ≤ 10000; omega),
        dtL a55 (.cons (.str _) (.cons (dtL (s21 _ _ e17) (dt_pairs (pr17.tx (Tx.of s21))) (by rw [pr17.len]; omega)) .nil)) (by show 2 ≤ 10000; omega), fun G22 s22 => ⟨_, rfl, ifF rfl ?_⟩⟩
      have s23 := s21.trans s22
      have hh22 := hh17.same s23
      have e22 := s23 _ _ e17
      have pr22 := pr17.tx (Tx.of s23)
      have hx22 := s23 _ _ hx17
      refine ⟨_, rfl, x, dx17, fs17, rfl, hx22, x, ww, g, rfl, hh22.room, G, fun y1 G23 hy1 s23 r23 => ?_⟩
      obtain ⟨dy1, fy1, ey1⟩ := r23.ins
      refine ⟨y1, dy1, fy1, rfl, ey1, y1, flipG g, rfl, r23, fun tf htf => ?_⟩
      refine ⟨_, rfl, x, dx17, fs17, rfl, s23 _ _ hx22, x, ww, g, rfl, hh22.room.same s23, G, fun y2 G24 hy2 s24 r24 => ?_⟩
      obtain ⟨dy2, fy2, ey2⟩ := r24.ins
      refine ⟨y2, dy2, fy2, rfl, ey2, y2, ww, flipG g, rfl, r24, G.flip, fun y3 G25 hy3 s25 r25 => ?_⟩
      obtain ⟨dy3, fy3, ey3⟩ := r25.ins
      have s225 := (s23.trans s24).trans s25
      refine ⟨_, rfl, y3, x, dy3, fy3, rfl, rfl, ey3, .inl ⟨dx17, fs17, s225 _ _ hx22⟩, y3, x, flipG (flipG g), rfl, r25, .inl ⟨g, hh22.room.same s225, _, rfl, ?_⟩⟩
      have eff : (decide (flipG (flipG g) = g) != false) = true := by rw [dT (flip_flip g)] <;> rfl
      rw [eff]
      refine ⟨by show 2 ≤ sizeLine; decide, fun a6 ha6 => ?_⟩
      have z6 := Same.new (o := .lst [.ref tf, .bl true]) ha6
      have a66 : upd G25 a6 (.lst [.ref tf, .bl true]) a6 = some (.lst [.ref tf, .bl true]) := upd_same
      have tf26 := z6 _ _ (s25 _ _ (s24 _ _ htf))
      have s226 := s225.trans z6
      generalize upd G25 a6 (.lst [.ref tf, .bl true]) = G26 at a66 tf26 s226 ⊢
      refine ⟨_, rfl, pl, g, rfl, SqL.of (s226 _ _ hh22.lines), hgm, fun l hl => by rw [G.ln l hl]; exact hwm, fun pq G27 hpq s27 e27 => ?_⟩
      refine ⟨pq, _, rfl, .inl ⟨SqL.of e27, fun b6 hb6 => ?_⟩⟩
      have z7 := Same.new (o := .tup ((flipG g).map lineV)) hb6
      have b66 : upd G27 b6 (.tup ((flipG g).map lineV)) b6 = some (.tup ((flipG g).map lineV)) := upd_same
      have s2628 := s27.trans z7
      generalize upd G27 b6 (.tup ((flipG g).map lineV)) = G28 at b66 s2628 ⊢
      refine ⟨by show 2 ≤ sizeLine; decide, fun b7 hb7 => ?_⟩
      have z8 := Same.new (o := .lst [.ref b6, .bl true]) hb7
      have b77 : upd G28 b7 (.lst [.ref b6, .bl true]) b7 = some (.lst [.ref b6, .bl true]) := upd_same
      have b68 := z8 _ _ b66
      have s2629 := s2628.trans z8
      generalize upd G28 b7 (.lst [.ref b6, .bl true]) = G29 at b77 b68 s2629 ⊢
      have gfl : ((flipG g).map lineV).length ≤ 10000 := by
        unfold flipG
        rw [List.length_map, List.length_map]
        omega
      refine ⟨_, _, .lst [.tup ((flipG g).map tLine), .bl true], rfl, dtL (s2629 _ _ a66) (.cons (dtT (s2629 _ _ tf26) (dt_lines _) gfl) (.cons (.bl _) .nil)) (by show 2 ≤ 10000; omega),
        dtL b77 (.cons (dtT b68 (dt_lines _) gfl) (.cons (.bl _) .nil)) (by show 2 ≤ 10000; omega), fun G30 s30 => ⟨_, rfl, ifF rfl ?_⟩⟩
      have s2230 := (s226.trans s2629).trans s30
      have hh30 := hh22.same s2230
      refine ⟨_, rfl, d, 2, 2, rfl, hh30.dok, by decide, by decide, by decide, fun g2 w2 pl2 G31 Gr2 hpl2 k31 d31 e31 => ?_⟩
      have hh31 := hh30.kp k31 d31
      obtain ⟨dx31, fs31, hx31⟩ := hh31.room.ins
      refine ⟨_, rfl, _, rfl, pl2, w2, g2, rfl, SqL.of e31, Gr2.mono (by decide) (by decide), fun x2 G32 hx2 s32 r32 => ?_⟩
      obtain ⟨dx2, fs2, ex2⟩ := r32.ins
      have hh32 := hh31.same s32
      refine ⟨x, x2, dx31, fs31, rfl, rfl, s32 _ _ hx31, .inl ⟨dx2, fs2, ex2⟩, x, x2, g, rfl, hh32.room, .inl ⟨g2, r32, _, rfl, ?_⟩⟩
      have gm2 := Gr2.hm
      refine ⟨_, rfl, _, rfl, dRowsL g, dRowsL g2, dp_rowsL (SqL.of hh32.lines), dp_rowsL (SqL.of (s32 _ _ e31)), (sh_rowsL _).shaped (by omega), (sh_rowsL _).shaped (by omega), rfl, _, rfl, ?_⟩
      have eq1 : (!decide (V.bl (decide (g = g2) != false) = V.bl (PyData.eqv (dRowsL g) (dRowsL g2)))) = false := by
        rw [eqv_rowsL]
        simp
      refine ifF eq1 ?_
      refine ⟨_, rfl, _, rfl, x, pl, dx31, fs31, rfl, rfl, s32 _ _ hx31, .inr ⟨rfl, ⟨_, hh32.lines⟩, nf⟩, x, pl, g, rfl, hh32.room, .inr ⟨⟨_, hh32.lines⟩, _, rfl, _, rfl, ifF rfl ?_⟩⟩
      refine ⟨_, rfl, _, rfl, pl, ww, g, rfl, SqL.of hh32.lines, G, fun x3 G33 hx3 s33 r33 => ?_⟩
      obtain ⟨dx3, fs3, ex3⟩ := r33.ins
      have hh33 := hh32.same s33
      refine ⟨x, x3, dx31, fs31, rfl, rfl, s33 _ _ (s32 _ _ hx31), .inl ⟨dx3, fs3, ex3⟩, x, x3, g, rfl, hh33.room, .inl ⟨g, r33, _, rfl, _, rfl, ?_⟩⟩
      refine ifF (by rw [dT rfl] <;> rfl) ?_
      have hx33 := s33 _ _ (s32 _ _ hx31)
      refine ⟨_, _, rfl, rfl, _, rfl, by show 2 ≤ sizeLine; decide, fun p1 hp1 => ?_⟩
      have w1 := Same.new (o := .tup [.int (0 - 1), .int cn]) hp1
      have f1 : upd G33 p1 (.tup [.int (0 - 1), .int cn]) p1 = some (.tup [.int (0 - 1), .int cn]) := upd_same
      generalize upd G33 p1 (.tup [.int (0 - 1), .int cn]) = K1 at w1 f1 ⊢
      refine ⟨_, rfl, pl, _, rfl, .inl (SqL.of (w1 _ _ hh33.lines)), _, rfl, by show 2 ≤ sizeLine; decide, fun p2 hp2 => ?_⟩
      rw [eh]
      have w2' := Same.new (o := .tup [.int g.length, .int cn]) hp2
      have f2 : upd K1 p2 (.tup [.int g.length, .int cn]) p2 = some (.tup [.int g.length, .int cn]) := upd_same
      generalize upd K1 p2 (.tup [.int g.length, .int cn]) = K2 at w2' f2 ⊢
      refine ⟨_, rfl, _, _, rfl, rfl, by show 2 ≤ sizeLine; decide, fun p3 hp3 => ?_⟩
      have w3 := Same.new (o := .tup [.int rn, .int (0 - 1)]) hp3
      have f3 : upd K2 p3 (.tup [.int rn, .int (0 - 1)]) p3 = some (.tup [.int rn, .int (0 - 1)]) := upd_same
      generalize upd K2 p3 (.tup [.int rn, .int (0 - 1)]) = K3 at w3 f3 ⊢
      have w13' := (w1.trans w2').trans w3
      refine ⟨_, rfl, _, rfl, pl, _, _, _, rfl, rfl, SqL.of (w13' _ _ hh33.lines), atI_nat hm0, _, rfl, sz2 (by rw [lstr_len]; omega), by show 2 ≤ sizeLine; decide, fun p4 hp4 => ?_⟩
      rw [ew]
      have w4 := Same.new (o := .tup [.int rn, .int ww]) hp4
      have f4 : upd K3 p4 (.tup [.int rn, .int ww]) p4 = some (.tup [.int rn, .int ww]) := upd_same
      generalize upd K3 p4 (.tup [.int rn, .int ww]) = K4 at w4 f4 ⊢
      refine ⟨by show 2 ≤ sizeLine; decide, fun p5 hp5 => ?_⟩
      have w5 := Same.new (o := .tup [.non, .int 0]) hp5
      have f5 : upd K4 p5 (.tup [.non, .int 0]) p5 = some (.tup [.non, .int 0]) := upd_same
      generalize upd K4 p5 (.tup [.non, .int 0]) = K5 at w5 f5 ⊢
      refine ⟨by show 2 ≤ sizeLine; decide, fun p6 hp6 => ?_⟩
      have w6 := Same.new (o := .tup [.int 0, .bl true]) hp6
      have f6 : upd K5 p6 (.tup [.int 0, .bl true]) p6 = some (.tup [.int 0, .bl true]) := upd_same
      generalize upd K5 p6 (.tup [.int 0, .bl true]) = K6 at w6 f6 ⊢
      refine ⟨by show 6 ≤ sizeLine; decide, fun pw hpw => ?_⟩
      have w7 := Same.new (o := .lst [.ref p1, .ref p2, .ref p3, .ref p4, .ref p5, .ref p6]) hpw
      have f7 : upd K6 pw (.lst [.ref p1, .ref p2, .ref p3, .ref p4, .ref p5, .ref p6]) pw = some (.lst [.ref p1, .ref p2, .ref p3, .ref p4, .ref p5, .ref p6]) := upd_same
      generalize upd K6 pw (.lst [.ref p1, .ref p2, .ref p3, .ref p4, .ref p5, .ref p6]) = K7 at w7 f7 ⊢
      have w67 := w6.trans w7
      have w57 := w5.trans w67
      have w47 := w4.trans w57
      have w37 := w3.trans w47
      have w27 := w2'.trans w37
      have w17 := w1.trans w27
      have f1 := w27 _ _ f1
      have f2 := w37 _ _ f2
      have f3 := w47 _ _ f3
      have f4 := w57 _ _ f4
      have f5 := w67 _ _ f5
      have f6 := w7 _ _ f6
      have hh7' := hh33.same w17
      have npw : pw ≠ d := fun z => by
        obtain ⟨s', c', r', e', _⟩ := hh7'.dok
        rw [z, e'] at f7
        cases f7
      refine ⟨_, rfl, _, rfl, d, _, rfl, hh7'.dok, by decide, by decide, fun r K8 r0' r1' k8 d8 => ?_⟩
      have hh8 := hh7'.kp k8 d8
      have ntx := hh7'.dok.tx k8
      have f7 := k8 _ _ npw f7
      have f1 := ntx _ _ f1
      have f2 := ntx _ _ f2
      have f3 := ntx _ _ f3
      have f4 := ntx _ _ f4
      have f5 := ntx _ _ f5
      have f6 := ntx _ _ f6
      have key : ∃ (p : Addr) (u v : V), atI [V.ref p1, .ref p2, .ref p3, .ref p4, .ref p5, .ref p6] r = some (.ref p) ∧ K8 p = some (.tup [u, v]) ∧ (∀ H, PV H u) ∧ (∀ H, PV H v) ∧ okAt g.length ww (some (u, v)) = false := by
        have hr6 : r = 0 ∨ r = 1 ∨ r = 2 ∨ r = 3 ∨ r = 4 ∨ r = 5 := by omega
        rcases hr6 with h | h | h | h | h | h <;> subst h
        · exact ⟨p1, _, _, rfl, f1, fun _ => .int _, fun _ => .int _, bad_l (isNum_lo (by omega))⟩
        · exact ⟨p2, _, _, rfl, f2, fun _ => .int _, fun _ => .int _, bad_l (isNum_hi (by omega))⟩
        · exact ⟨p3, _, _, rfl, f3, fun _ => .int _, fun _ => .int _, bad_r (isNum_lo (by omega))⟩
        · exact ⟨p4, _, _, rfl, f4, fun _ => .int _, fun _ => .int _, bad_r (isNum_hi (by omega))⟩
        · exact ⟨p5, _, _, rfl, f5, fun _ => .non, fun _ => .int _, bad_l rfl⟩
        · exact ⟨p6, _, _, rfl, f6, fun _ => .int _, fun _ => .bl _, bad_r rfl⟩
      obtain ⟨pz, u, v, hat, hpz, pu, pv', hbad⟩ := key
      refine ⟨pw, _, _, _, rfl, rfl, SqL.of f7, hat, pz, _, rfl, SqT.of hpz, rfl, _, _, rfl, _, _, rfl, rfl, ?_⟩
      refine ⟨fun p hp => by rw [List.mem_singleton.mp hp]; exact hh8.tab, fun K9 e9x t9 => ?_⟩
      have hh9 := hh8.extN e9x (t9 _ (List.mem_singleton.mpr rfl))
      obtain ⟨dx9, fs9, hx9⟩ := hh9.room.ins
      refine ⟨_, rfl, _, rfl, _, rfl, by show 2 ≤ sizeLine; decide, fun pa hpa => ?_⟩
      have wa := Same.new (o := .tup [u, v]) hpa
      refine ⟨x, dx9, fs9, rfl, wa _ _ hx9, x, _, ww, g, rfl, hh9.room.same wa, G, .inr ⟨some (u, v), .two upd_same (pu _) (pv' _), hbad, fun Ka sa => ⟨2, by decide, by decide, rfl, rfl, fun pe Kb hpe sb eb => ?_⟩⟩⟩
      refine ⟨by show 2 ≤ sizeLine; decide, fun pr hpr => ?_⟩
      have wr := Same.new (o := .tup [.str "tile", .int 0]) hpr
      have st : Sh 1 (dTold "tile") := sh_told (by decide +kernel)
      refine ⟨dTold "tile", dTold "tile", dp_told (wr _ _ eb), dp_told upd_same, st.shaped (by omega), st.shaped (by omega), _, rfl, ifF (by rw [eqv_told] <;> rfl) ?_⟩
      have hhe := hh9.same (((wa.trans sa).trans sb).trans wr)
      exact ⟨_, _, _, _, _, _, _, _, _, _, _, _, rfl, hhe.dok, hhe.tab⟩
    · rintro σ H' ⟨v2, v3, v4, v5, v6, v7, v8, v9, v10, v11, v12, v13, rfl, d0, t0⟩
      obtain ⟨mc, cr, ⟨u1, cv1⟩, ⟨u2, cv2⟩⟩ := T.rd
      refine ⟨C, mc, .int 8, u1, rfl, cr, cv1, C, mc, .int 10, u2, rfl, cr, cv2, by show 2 ≤ sizeLine; decide, fun a1 ha1 => ?_⟩
      refine ⟨by show 2 ≤ sizeLine; decide, fun b1 hb1 => ?_⟩
      have s1 := Same.new (o := .lst [.int 8, .int 10]) hb1
      refine ⟨_, _, .lst [.int 8, .int 10], rfl, dtL (s1 _ _ upd_same) (.cons (.int _) (.cons (.int _) .nil)) (by show 2 ≤ 10000; omega), dtL upd_same (.cons (.int _) (.cons (.int _) .nil)) (by show 2 ≤ 10000; omega), fun H2 s2 => q H2⟩
end
end My
/-! the top's run as one equation: the defs, getters and class methods too; what else is looked at -/
namespace My
open PySem PySem.Spec PyProof.Rows L2
def fnAt (K : PySem.W.Frag) (a : Addr) : He.FnW := match K.lookup a with
  | some o => (match o.data with
    | .func x => some (x.name, x.qualname, x.params, x.body, x.scope, x.globals, x.closure, x.builtins)
    | _ => none)
  | none => none
/-- a def: where its function stands, its two names, its statement -/
structure GetD where
  ad : PySem.W.Frag → Addr
  name : Str
  qual : Str
  st : Stmt
def GetD.val (d : GetD) : He.FnW := some (d.name, d.qual, defArgs d.st, .stmts (defBody d.st), defScope d.st, mainGlobals, [], builtinsNs)
def GetD.ok (K : PySem.W.Frag) (d : GetD) : Bool := PySem.W.keepIn K (.ref (d.ad K)) && (match K.lookup (d.ad K) with
  | some o => (match o.data with
    | .func x => PySem.W.codeIn K x.code d.qual && (match x.defaults with
      | .none => true
      | _ => false)
    | _ => false)
  | none => false)
theorem GetD.fn {K : PySem.W.Frag} {d : GetD} (e : fnAt K (d.ad K) = d.val) (c : d.ok K = true) : ∃ fd, Fun K d.name d.qual d.st (d.ad K) fd := by
  obtain ⟨kp, c⟩ := He.ba c
  unfold fnAt at e
  cases q : K.lookup (d.ad K) with
  | none => rw [q] at e; cases e
  | some o =>
    obtain ⟨oc, od, dt, sl⟩ := o
    rw [q] at e c
    cases dt with
    | func x =>
      obtain ⟨m1, m2, m3, m4, m5, m6, m7, m8, m9, m10, m11, m12, m13, m14, m15⟩ := x
      have e' : (some (m1, m2, m3, m4, m5, m6, m7, m15) : He.FnW) = some (d.name, d.qual, defArgs d.st, .stmts (defBody d.st), defScope d.st, mainGlobals, [], builtinsNs) := e
      simp only [Option.some.injEq, Prod.mk.injEq] at e'
      obtain ⟨rfl, rfl, rfl, rfl, rfl, rfl, rfl, rfl⟩ := e'
      obtain ⟨hc, hd⟩ := He.ba c
      have hd : m8 = .none := by
        dsimp only at hd
        cases m8 with
        | none => rfl
        | _ => cases hd
      subst hd
      exact ⟨_, ⟨oc, od, m9, m10, m11, m12, m13, m14, sl, rfl, q, hc⟩, kp⟩
    | _ => cases e
def asY (g : Addr → Option Obj) : Nat → List Addr
  | 0 => [mainGlobals, cStatics]
  | n + 1 => He.growD g (asY g n)
def frY (n : Nat) (g : Addr → Option Obj) : PySem.W.Frag := He.frT g (asY g n)
structure SaysY (gs : List GetD) (tf : List He.Defn) (ex : PySem.W.Frag → Bool) (h : Heap) (K : PySem.W.Frag) : Prop where
  fns : (gs.map fun d => fnAt K (d.ad K)) = gs.map GetD.val
  more : ex K = true
  hd : ∀ p ∈ tf, PySem.W.codeHdIn K (He.cT K p).1 (He.cT K p).2 = true
  out : ∀ p ∈ tf, K.lookup (He.cT K p).2 = none
  empty : ∀ p ∈ tf, h.get? (He.cT K p).2 = some { cls := .none, data := .fields #[] }
abbrev AlY : Type := List He.FnW × Bool
def obsY (n : Nat) (gs : List GetD) (tf : List He.Defn) (ex : PySem.W.Frag → Bool) (g : Addr → Option Obj) : AlY :=
  ((gs.map fun d => fnAt (frY n g) (d.ad (frY n g))), ex (frY n g) && He.tabsB g tf (frY n g))
theorem saysY_of {n : Nat} {gs : List GetD} {tf : List He.Defn} {ex : PySem.W.Frag → Bool} {h : Heap} (e : obsY n gs tf ex h.get? = (gs.map GetD.val, true)) : SaysY gs tf ex h (frY n h.get?) := by
  obtain ⟨x, y⟩ := He.ba (congrArg Prod.snd e)
  have tab : ∀ p ∈ tf, PySem.W.codeHdIn (frY n h.get?) (He.cT (frY n h.get?) p).1 (He.cT (frY n h.get?) p).2 = true ∧ ∃ o, h.get? (He.cT (frY n h.get?) p).2 = some o ∧ He.emptyTab o = true := fun p hp => by
    obtain ⟨u, v⟩ := He.ba (List.all_eq_true.mp y p hp)
    cases q : h.get? (He.cT (frY n h.get?) p).2 with
    | none => rw [q] at v; cases v
    | some o => rw [q] at v; exact ⟨u, o, rfl, v⟩
  refine ⟨congrArg Prod.fst e, x, fun p hp => (tab p hp).1, fun p hp => ?_, fun p hp => ?_⟩
  · obtain ⟨_, o, q, z⟩ := tab p hp
    exact He.frT_none q z
  · obtain ⟨_, o, q, z⟩ := tab p hp
    rw [q, He.emptyTab_eq z]
def hookY (n : Nat) (gs : List GetD) (tf : List He.Defn) (ex : PySem.W.Frag → Bool) : PySem.W.Hook where
  α := AlY
  obs := fun s => obsY n gs tf ex s.heap.get?
  val := fun _ => (gs.map GetD.val, true)
  says := fun _ h => ∃ K : PySem.W.Frag, K.In h ∧ SaysY gs tf ex h K
  of := fun _ _ e => ⟨_, He.frT_in, saysY_of e⟩
  keeps := fun _ _ _ ⟨K, hK, c⟩ k => ⟨K, PySem.W.Frag.In.keeps hK k, ⟨c.fns, c.more, c.hd, c.out, fun p hp => k _ _ (c.empty p hp)⟩⟩
def obY (n : Nat) (gs : List GetD) (tf : List He.Defn) (ex : PySem.W.Frag → Bool) (s : PySem.W.SharedT) : AlY := obsY n gs tf ex (HandSHeadRun.getT s)
theorem obY_eq (n : Nat) (gs : List GetD) (tf : List He.Defn) (ex : PySem.W.Frag → Bool) (s : PySem.W.SharedT) : obY n gs tf ex s = (hookY n gs tf ex).obs s.abs := by
  have e : HandSHeadRun.getT s = s.abs.heap.get? := funext fun a => HandSHeadRun.getT_eq s a
  show obsY n gs tf ex (HandSHeadRun.getT s) = obsY n gs tf ex s.abs.heap.get?
  rw [e]
theorem SaysY.fn {gs : List GetD} {tf : List He.Defn} {ex : PySem.W.Frag → Bool} {h : Heap} {K : PySem.W.Frag} (c : SaysY gs tf ex h K) (ok : ∀ d ∈ gs, d.ok K = true) (i : Nat) {d : GetD} (hi : gs[i]? = some d := by rfl) : ∃ fd, Fun K d.name d.qual d.st (d.ad K) fd := by
  have e : (gs.map fun d => fnAt K (d.ad K))[i]? = (gs.map GetD.val)[i]? := by rw [c.fns]
  rw [List.getElem?_map, List.getElem?_map, hi] at e
  exact GetD.fn (Option.some.inj e) (ok d (List.mem_of_getElem? hi))
/-! ### what else is looked at -/
def oo (a b : Option (Option Value)) : Bool := decide (a = b)
theorem oo_ok {a b : Option (Option Value)} (h : oo a b = true) : a = b := of_decide_eq_true h
def ob (a b : Option Bool) : Bool := decide (a = b)
theorem ob_ok {a b : Option Bool} (h : ob a b = true) : a = b := of_decide_eq_true h
def excB (K : PySem.W.Frag) (D : Addr) : Bool :=
  oo (PySem.W.findIn K (.ref D) "__getattribute__") (some (some (.builtin "BaseException.__getattribute__"))) && (oo (PySem.W.findIn K (.ref D) "__getattr__") (some none) && (ob (PySem.W.subIn K (.ref D) (.type "BaseException")) (some true) && (PySem.W.hasDictIn K D &&
    (oo (PySem.W.findIn K (.ref D) "__class__") (some (some (.builtin "object.__class__"))) && (oo (PySem.W.specialIn K (.builtin "object.__class__") "__get__") (some (some (.builtin "getset_descriptor.__get__"))) && (ob (PySem.W.takesIn K (.builtin "object.__class__")) (some true) && ob (PySem.W.mroIn K D (.type "object")) (some true)))))))
theorem excB_ok {K : PySem.W.Frag} {D : Addr} (h : excB K D = true) : ExcC K D := by
  obtain ⟨h1, h⟩ := He.ba h
  obtain ⟨h2, h⟩ := He.ba h
  obtain ⟨h3, h⟩ := He.ba h
  obtain ⟨h4, h⟩ := He.ba h
  obtain ⟨h5, h⟩ := He.ba h
  obtain ⟨h6, h⟩ := He.ba h
  obtain ⟨h7, h8⟩ := He.ba h
  exact ⟨oo_ok h1, oo_ok h2, ob_ok h3, h4, oo_ok h5, oo_ok h6, ob_ok h7, ob_ok h8⟩
/-- a property of C: its record, its getter -/
def getA (K : PySem.W.Frag) (C : Str) (f : Str) : Addr := match PySem.W.recIn K (He.ma K (He.ga K C) f) "property" with
  | some (.ref g :: _) => g
  | _ => 0
def propB (K : PySem.W.Frag) (C f : Str) : Bool := oo (PySem.W.findIn K (.ref (He.ga K C)) f) (some (some (.ref (He.ma K (He.ga K C) f)))) && (oo (PySem.W.specialIn K (.ref (He.ma K (He.ga K C) f)) "__get__") (some (some (.builtin "property.__get__"))) &&
  (ob (PySem.W.takesIn K (.ref (He.ma K (He.ga K C) f))) (some true) && (match PySem.W.recIn K (He.ma K (He.ga K C) f) "property" with
    | some (.ref _ :: _) => true
    | _ => false)))
theorem propB_ok {K : PySem.W.Frag} {C f : Str} (h : propB K C f = true) : PropOf K (He.ga K C) f (He.ma K (He.ga K C) f) (getA K C f) := by
  obtain ⟨h1, h⟩ := He.ba h
  obtain ⟨h2, h⟩ := He.ba h
  obtain ⟨h3, h4⟩ := He.ba h
  refine ⟨oo_ok h1, oo_ok h2, ob_ok h3, ?_⟩
  split at h4
  · rename_i g rest q
    refine ⟨rest, ?_⟩
    have e : getA K C f = g := by unfold getA; rw [q]
    rw [e, q]
  · cases h4
/-- a class method of C -/
def cmA (K : PySem.W.Frag) (C m : Str) : Addr := match PySem.W.recIn K (He.ma K (He.ga K C) m) "classmethod" with
  | some (.ref g :: _) => g
  | _ => 0
def cmB (K : PySem.W.Frag) (C m : Str) : Bool := (match PySem.W.findCls K (.ref (He.ga K C)) (.type "type") m with
    | some (.get (.builtin b) (.ref p) .none (.ref D)) => decide (b = "classmethod.__get__") && (decide (p = He.ma K (He.ga K C) m) && decide (D = He.ga K C))
    | _ => false) && ((match PySem.W.recIn K (He.ma K (He.ga K C) m) "classmethod" with
    | some (.ref _ :: _) => true
    | _ => false) && PySem.W.fnIn K (cmA K C m))
theorem cmB_ok {K : PySem.W.Frag} {C m : Str} (h : cmB K C m = true) : ClX.CMet K (He.ga K C) (.type "type") m (He.ma K (He.ga K C) m) (cmA K C m) := by
  obtain ⟨h1, h⟩ := He.ba h
  obtain ⟨h2, h3⟩ := He.ba h
  refine ⟨?_, ?_, h3⟩
  · split at h1
    · rename_i b p D q
      obtain ⟨x, y⟩ := He.ba h1
      obtain ⟨y, z⟩ := He.ba y
      rw [q, of_decide_eq_true x, of_decide_eq_true y, of_decide_eq_true z]
    · cases h1
  · split at h2
    · rename_i g rest q
      refine ⟨rest, ?_⟩
      have e : cmA K C m = g := by unfold cmA; rw [q]
      rw [e, q]
    · cases h2
def creadB (K : PySem.W.Frag) (C : Str) : Bool := PySem.W.readsIn K (He.ga K C) (.type "type") && oo (PySem.W.specialIn K (.ref (He.ga K C)) "__getattribute__") (some (some (.builtin "type.__getattribute__")))
theorem creadB_ok {K : PySem.W.Frag} {C : Str} (h : creadB K C = true) : ClX.CRead K (He.ga K C) (.type "type") := by
  obtain ⟨h1, h2⟩ := He.ba h
  exact ⟨h1, oo_ok h2⟩
def cintB (K : PySem.W.Frag) (C f : Str) (i : Int) : Bool := match PySem.W.findCls K (.ref (He.ga K C)) (.type "type") f with
  | some (.val (.int j _)) => decide (j = i)
  | _ => false
theorem cintB_ok {K : PySem.W.Frag} {C f : Str} {i : Int} (h : cintB K C f i = true) : ∃ u, ClX.CVal K (He.ga K C) (.type "type") f (.int i) u := by
  unfold cintB at h
  split at h
  · rename_i j t q
    have e := of_decide_eq_true h
    subst e
    exact ⟨_, q, ⟨t, rfl⟩⟩
  · cases h
/-- a plain class with its own == and no != -/
def neB (K : PySem.W.Frag) (C : Str) : Bool := match K.lookup (He.ga K C) with
  | some o => (match o.cls with
    | .type t => t == "type"
    | _ => false) && (match o.data with
    | .cls cd => decide (cd.mro = [.ref (He.ga K C), .type "object"]) && (!cd.hasDel && ((match o.slots.toList with
      | [_, _, _, _, some (.builtin _), _] => true
      | _ => false) && (PySem.W.nsOkIn K cd.ns && (oo (PySem.W.nsIn K cd.ns "__eq__") (some (some (.ref (He.ma K (He.ga K C) "__eq__")))) && oo (PySem.W.nsIn K cd.ns "__ne__") (some none)))))
    | _ => false)
  | none => false
theorem neB_ok {K : PySem.W.Frag} {C : Str} (h : neB K C = true) (ty : PySem.W.typeIn K (.ref (He.ma K (He.ga K C) "__eq__")) = some (.type "function")) : NeC K (He.ga K C) (He.ma K (He.ga K C) "__eq__") := by
  refine ⟨?_, ty⟩
  unfold neB at h
  cases q : K.lookup (He.ga K C) with
  | none => rw [q] at h; cases h
  | some o =>
    rw [q] at h
    obtain ⟨oc, od, dt, sl⟩ := o
    obtain ⟨h1, h2⟩ := He.ba h
    cases dt with
    | cls cd =>
      obtain ⟨c1, c2, c3, c4, c5, c6, c7, c8, c9, c10, c11⟩ := cd
      obtain ⟨a1, h2⟩ := He.ba h2
      obtain ⟨a2, h2⟩ := He.ba h2
      obtain ⟨a3, h2⟩ := He.ba h2
      obtain ⟨a4, h2⟩ := He.ba h2
      obtain ⟨a5, a6⟩ := He.ba h2
      have b1 : c3 = [.ref (He.ga K C), .type "object"] := of_decide_eq_true a1
      have b2 : c11 = false := by simpa using a2
      subst b1
      subst b2
      have hoc : oc = .type "type" := by
        clear h2 a1 a2 a3 a4 a5 a6
        cases oc with
        | type t =>
          have e : t = "type" := by simpa using h1
          rw [e]
        | _ => cases h1
      subst hoc
      dsimp only at a3
      split at a3
      · rename_i k0 k1 k2 k3 n k5 z
        have hs : sl = #[k0, k1, k2, k3, some (.builtin n), k5] := Array.toList_inj.mp z
        subst hs
        exact ⟨c1, c5, c4, c2, c6, c7, c8, c9, c10, od, k0, k1, k2, k3, k5, n, q.symm ▸ rfl, a4, oo_ok a5, oo_ok a6⟩
      · cases a3
    | _ => cases h2
end My
namespace My
open PySem PySem.Spec PyProof.Rows L2
def gs : List GetD := [
  ⟨fun K => He.ga K "turned", "turned", "turned", s_turned⟩,
  ⟨fun K => He.ga K "tiles_with", "tiles_with", "tiles_with", s_tiles_with⟩,
  ⟨fun K => He.ga K "port_places", "port_places", "port_places", s_port_places⟩,
  ⟨fun K => He.ga K "is_number", "is_number", "is_number", s_is_number⟩,
  ⟨fun K => He.ga K "check_tile", "check_tile", "check_tile", s_check_tile⟩,
  ⟨fun K => He.ga K "fault_in_row", "fault_in_row", "fault_in_row", s_fault_in_row⟩,
  ⟨fun K => He.ga K "check_rows", "check_rows", "check_rows", s_check_rows⟩,
  ⟨fun K => He.ma K (He.ga K "Room") "__init__", "__init__", "Room.__init__", s_Room___init__⟩,
  ⟨fun K => cmA K "Room" "parse", "parse", "Room.parse", s_Room_parse⟩,
  ⟨fun K => getA K "Room" "rows", "rows", "Room.rows", s_Room_rows⟩,
  ⟨fun K => getA K "Room" "text", "text", "Room.text", s_Room_text⟩,
  ⟨fun K => getA K "Room" "size", "size", "Room.size", s_Room_size⟩,
  ⟨fun K => getA K "Room" "turning", "turning", "Room.turning", s_Room_turning⟩,
  ⟨fun K => He.ma K (He.ga K "Room") "__len__", "__len__", "Room.__len__", s_Room___len__⟩,
  ⟨fun K => He.ma K (He.ga K "Room") "__bool__", "__bool__", "Room.__bool__", s_Room___bool__⟩,
  ⟨fun K => He.ma K (He.ga K "Room") "__eq__", "__eq__", "Room.__eq__", s_Room___eq__⟩,
  ⟨fun K => He.ma K (He.ga K "Room") "__invert__", "__invert__", "Room.__invert__", s_Room___invert__⟩,
  ⟨fun K => He.ma K (He.ga K "Room") "__getitem__", "__getitem__", "Room.__getitem__", s_Room___getitem__⟩,
  ⟨fun K => He.ga K "_law_random", "_law_random", "_law_random", s_l_random⟩,
  ⟨fun K => He.ga K "_law_below", "_law_below", "_law_below", s_l_below⟩,
  ⟨fun K => He.ga K "_law_lines", "_law_lines", "_law_lines", s_l_lines⟩,
  ⟨fun K => He.ga K "_law_room", "_law_room", "_law_room", s_l_room⟩,
  ⟨fun K => He.ga K "_law_spots", "_law_spots", "_law_spots", s_l_spots⟩,
  ⟨fun K => He.ga K "_law_equal", "_law_equal", "_law_equal", s_l_equal⟩,
  ⟨fun K => He.ga K "_law_edges", "_law_edges", "_law_edges", s_l_edges⟩,
  ⟨fun K => He.ga K "_law_turned", "_law_turned", "_law_turned", s_l_turned⟩,
  ⟨fun K => He.ga K "_law_error_of", "_law_error_of", "_law_error_of", s_l_error_of⟩,
  ⟨fun K => He.ga K "law", "law", "law", s_law⟩]
def fas : List He.Fa := [.str "SIGNS" ".rfRF", .str "TURNING" "rf", .str "RISING" "rR", .str "FALLING" "fF", .free "len", .free "range", .free "abs", .free "enumerate", .free "isinstance", .free "all", .free "tuple", .free "list", .free "min", .free "bool", .free "int", .free "str", .free "sum", .free "divmod", .free "sorted", .free "set", .free "ValueError", .glo "turned", .glo "tiles_with", .glo "port_places", .glo "is_number", .glo "check_tile", .glo "fault_in_row", .glo "check_rows", .glo "_law_random", .glo "_law_below", .glo "_law_lines", .glo "_law_room", .glo "_law_spots", .glo "_law_equal", .glo "_law_edges", .glo "_law_turned", .glo "_law_error_of", .glo "law", .glo "Room", .glo "MirrorError", .cls "Room", .noat "Room" "_rows", .noat "Room" "_places", .mkr "Room", .meth "Room" "__len__", .meth "Room" "__bool__", .meth "Room" "__eq__", .meth "Room" "__invert__", .meth "Room" "__getitem__", .exc "UnknownTile"]
def eA (K : PySem.W.Frag) (i : Nat) : Addr := He.ga K (errNames.getD i "")
def errB (K : PySem.W.Frag) : Bool := (List.range 11).all fun i => oo (PySem.W.nsIn K mainGlobals (errNames.getD i "")) (some (some (.ref (eA K i)))) && (ob (PySem.W.kitOne K (.ref (eA K i)) (.type "ValueError")) (some true) && (ob (PySem.W.exmOne K (.ref (eA K i)) (.ref (He.ga K "MirrorError"))) (some true) &&
  (excB K (eA K i) && (List.range 11).all fun j => ob (PySem.W.kitOne K (.ref (eA K i)) (.ref (eA K j))) (some (decide (i = j))))))
def roomB (K : PySem.W.Frag) : Bool := oo (PySem.W.findIn K (.ref (He.ga K "Room")) "__class__") (some (some (.builtin "object.__class__"))) && (oo (PySem.W.specialIn K (.builtin "object.__class__") "__get__") (some (some (.builtin "getset_descriptor.__get__"))) && (ob (PySem.W.takesIn K (.builtin "object.__class__")) (some true) &&
  (ob (PySem.W.mroIn K (He.ga K "Room") (.type "object")) (some true) && (ob (PySem.W.kitOne K (.ref (He.ga K "Room")) (.ref (He.ga K "Room"))) (some true) && (ob (PySem.W.kitOne K (.type "list") (.ref (He.ga K "Room"))) (some false) && (PySem.W.notFirst K (He.ga K "Room") (.type "list") &&
  (neB K "Room" && (propB K "Room" "rows" && (propB K "Room" "text" && (propB K "Room" "size" && (propB K "Room" "turning" && (cmB K "Room" "parse" && (creadB K "Room" && (cintB K "Room" "MAX_SIZE" 8 && (cintB K "Room" "MAX_TURNING" 10 && PySem.W.fnIn K (He.ma K (He.ga K "Room") "__getitem__"))))))))))))))))
def exB (K : PySem.W.Frag) : Bool := (fas.all fun f => f.ok K) && ((gs.all fun d => d.ok K) && (roomB K && errB K))
theorem errB_ok {K : PySem.W.Frag} {h : Heap} {mg : Str → Option Value} (X : K.In h) (G : h.Ns mainGlobals mg) (e : errB K = true) (hm : mg "MirrorError" = some (.ref (He.ga K "MirrorError"))) (h1 : mg "isinstance" = none) (h2 : mg "ValueError" = none) : ErrAll K mg (He.ga K "MirrorError") (eA K) := by
  have at_ : ∀ i, i < 11 → _ := fun i hi => List.all_eq_true.mp e i (List.mem_range.mpr hi)
  refine ⟨hm, fun i hi => ?_, fun i j hi hj => ?_, fun i hi => ?_, fun i hi => ?_, fun i hi => ?_, h1, h2⟩
  · obtain ⟨a, _⟩ := He.ba (at_ i hi)
    exact PySem.W.mg_of X G (oo_ok a)
  · obtain ⟨_, b⟩ := He.ba (at_ i hi)
    obtain ⟨_, b⟩ := He.ba b
    obtain ⟨_, b⟩ := He.ba b
    obtain ⟨_, b⟩ := He.ba b
    exact ob_ok (List.all_eq_true.mp b j (List.mem_range.mpr hj))
  · obtain ⟨_, b⟩ := He.ba (at_ i hi)
    obtain ⟨b, _⟩ := He.ba b
    exact ob_ok b
  · obtain ⟨_, b⟩ := He.ba (at_ i hi)
    obtain ⟨_, b⟩ := He.ba b
    obtain ⟨b, _⟩ := He.ba b
    exact ob_ok b
  · obtain ⟨_, b⟩ := He.ba (at_ i hi)
    obtain ⟨_, b⟩ := He.ba b
    obtain ⟨_, b⟩ := He.ba b
    obtain ⟨b, _⟩ := He.ba b
    exact excB_ok b
section
variable {P : Program} {w : World} {K : PySem.W.Frag} {mg : Str → Option Value} {base : Heap}
theorem fnr0 {k : Nat} {f : Addr} {fd : FuncData} {ps : List Str} {sp : Sp} (hb : Binds K fd ps []) (O : FnOk P w K mg base CX0 k f fd ps sp) : FnR P w K mg base (L2.CX P w) k f sp :=
  fnR_of0 (FnR.imp (O.raw hb .nil) fun vs H Q E h => by rw [List.append_nil]; exact h)
theorem fnrX {k : Nat} {f : Addr} {fd : FuncData} {ps : List Str} {sp : Sp} (hb : Binds K fd ps []) (O : FnOk P w K mg base (L2.CX P w) k f fd ps sp) : FnR P w K mg base (L2.CX P w) k f sp :=
  FnR.imp (O.raw hb .nil) fun vs H Q E h => by rw [List.append_nil]; exact h
theorem kit_of {h : Heap} (X : K.In h) (G : h.Ns mainGlobals mg) (c : SaysY gs [("law", none)] exB h K) : Kit P w K mg base (He.ga K "Room") (He.ga K "MirrorError") (eA K) := by
  obtain ⟨cf, m1⟩ := He.ba c.more
  obtain ⟨cg, m2⟩ := He.ba m1
  obtain ⟨cr, ce⟩ := He.ba m2
  have fk : ∀ (i : Nat) {f : He.Fa} (hi : fas[i]? = some f := by rfl), f.ok K = true := fun i f hi => List.all_eq_true.mp cf f (List.mem_of_getElem? hi)
  have ok : ∀ d ∈ gs, d.ok K = true := List.all_eq_true.mp cg
  obtain ⟨ha, cr1⟩ := He.ba cr
  obtain ⟨hn, cr2⟩ := He.ba cr1
  obtain ⟨htk, cr3⟩ := He.ba cr2
  obtain ⟨hmr, cr4⟩ := He.ba cr3
  obtain ⟨kO, cr5⟩ := He.ba cr4
  obtain ⟨kL, cr6⟩ := He.ba cr5
  obtain ⟨hnf, cr7⟩ := He.ba cr6
  obtain ⟨hne, cr8⟩ := He.ba cr7
  obtain ⟨pr0, cr9⟩ := He.ba cr8
  obtain ⟨pr1, cr10⟩ := He.ba cr9
  obtain ⟨pr2, cr11⟩ := He.ba cr10
  obtain ⟨pr3, cr12⟩ := He.ba cr11
  obtain ⟨hcm, cr13⟩ := He.ba cr12
  obtain ⟨hcr, cr14⟩ := He.ba cr13
  obtain ⟨hms, cr15⟩ := He.ba cr14
  obtain ⟨hmt, hfg⟩ := He.ba cr15
  have T0 : Txt mg := ⟨He.str_ok X G (fk 0), He.str_ok X G (fk 1), He.str_ok X G (fk 2), He.str_ok X G (fk 3), He.free_ok X G (fk 4), He.free_ok X G (fk 5), He.free_ok X G (fk 6), He.free_ok X G (fk 7), He.free_ok X G (fk 8), He.free_ok X G (fk 9), He.free_ok X G (fk 10), He.free_ok X G (fk 11), He.free_ok X G (fk 12), He.free_ok X G (fk 13), He.free_ok X G (fk 14), He.free_ok X G (fk 15), He.free_ok X G (fk 16), He.free_ok X G (fk 17), He.free_ok X G (fk 18), He.free_ok X G (fk 19)⟩
  have gR : mg "Room" = some (.ref (He.ga K "Room")) := He.glo_ok X G (fk 38)
  have T1 : TxtC K mg (He.ga K "Room") := ⟨T0, ⟨gR, _, creadB_ok hcr, cintB_ok hms, cintB_ok hmt⟩⟩
  have T : RoomT K mg (He.ga K "Room") (He.ma K (He.ga K "Room") "__init__") := ⟨T1, He.cls_ok (fk 40), He.noat_ok (fk 41), He.noat_ok (fk 42), He.mkr_ok (fk 43)⟩
  have R : RoomI K (He.ga K "Room") := ⟨oo_ok ha, oo_ok hn, ob_ok htk, ob_ok hmr, ob_ok kO, ob_ok kL⟩
  have EA : ErrAll K mg (He.ga K "MirrorError") (eA K) := errB_ok X G ce (He.glo_ok X G (fk 39)) (He.free_ok X G (fk 8)) (He.free_ok X G (fk 20))
  obtain ⟨u1, u2, u3, u4⟩ := He.exc_ok (fk 49)
  have U : ErrC K mg "UnknownTile" (eA K 2) := ⟨EA.g 2 (by decide), u1, u2, u3, u4⟩
  obtain ⟨d_turned, F_turned⟩ := c.fn ok 0
  have B_turned := F_turned.binds (ps := ["sign"]) (fun _ _ _ _ _ _ us hl => match us, hl with | [_], _ => rfl)
  obtain ⟨d_tiles_with, F_tiles_with⟩ := c.fn ok 1
  have B_tiles_with := F_tiles_with.binds (ps := ["rows", "signs"]) (fun _ _ _ _ _ _ us hl => match us, hl with | [_, _], _ => rfl)
  obtain ⟨d_port_places, F_port_places⟩ := c.fn ok 2
  have B_port_places := F_port_places.binds (ps := ["height", "width"]) (fun _ _ _ _ _ _ us hl => match us, hl with | [_, _], _ => rfl)
  obtain ⟨d_is_number, F_is_number⟩ := c.fn ok 3
  have B_is_number := F_is_number.binds (ps := ["value", "lowest", "highest"]) (fun _ _ _ _ _ _ us hl => match us, hl with | [_, _, _], _ => rfl)
  obtain ⟨d_check_tile, F_check_tile⟩ := c.fn ok 4
  have B_check_tile := F_check_tile.binds (ps := ["room", "at"]) (fun _ _ _ _ _ _ us hl => match us, hl with | [_, _], _ => rfl)
  obtain ⟨d_fault_in_row, F_fault_in_row⟩ := c.fn ok 5
  have B_fault_in_row := F_fault_in_row.binds (ps := ["rows", "number", "allowed"]) (fun _ _ _ _ _ _ us hl => match us, hl with | [_, _, _], _ => rfl)
  obtain ⟨d_check_rows, F_check_rows⟩ := c.fn ok 6
  have B_check_rows := F_check_rows.binds (ps := ["rows"]) (fun _ _ _ _ _ _ us hl => match us, hl with | [_], _ => rfl)
  obtain ⟨d_init, F_init⟩ := c.fn ok 7
  obtain ⟨d_parse, F_parse⟩ := c.fn ok 8
  have B_parse := F_parse.binds (ps := ["cls", "text"]) (fun _ _ _ _ _ _ us hl => match us, hl with | [_, _], _ => rfl)
  obtain ⟨d_rows, F_rows⟩ := c.fn ok 9
  have B_rows := F_rows.binds (ps := ["self"]) (fun _ _ _ _ _ _ us hl => match us, hl with | [_], _ => rfl)
  obtain ⟨d_text, F_text⟩ := c.fn ok 10
  have B_text := F_text.binds (ps := ["self"]) (fun _ _ _ _ _ _ us hl => match us, hl with | [_], _ => rfl)
  obtain ⟨d_size, F_size⟩ := c.fn ok 11
  have B_size := F_size.binds (ps := ["self"]) (fun _ _ _ _ _ _ us hl => match us, hl with | [_], _ => rfl)
  obtain ⟨d_turning, F_turning⟩ := c.fn ok 12
  have B_turning := F_turning.binds (ps := ["self"]) (fun _ _ _ _ _ _ us hl => match us, hl with | [_], _ => rfl)
  obtain ⟨d_len, F_len⟩ := c.fn ok 13
  have B_len := F_len.binds (ps := ["self"]) (fun _ _ _ _ _ _ us hl => match us, hl with | [_], _ => rfl)
  obtain ⟨d_bool, F_bool⟩ := c.fn ok 14
  have B_bool := F_bool.binds (ps := ["self"]) (fun _ _ _ _ _ _ us hl => match us, hl with | [_], _ => rfl)
  obtain ⟨d_eq, F_eq⟩ := c.fn ok 15
  have B_eq := F_eq.binds (ps := ["self", "other"]) (fun _ _ _ _ _ _ us hl => match us, hl with | [_, _], _ => rfl)
  obtain ⟨d_invert, F_invert⟩ := c.fn ok 16
  have B_invert := F_invert.binds (ps := ["self"]) (fun _ _ _ _ _ _ us hl => match us, hl with | [_], _ => rfl)
  obtain ⟨d_getitem, F_getitem⟩ := c.fn ok 17
  have B_getitem := F_getitem.binds (ps := ["self", "at"]) (fun _ _ _ _ _ _ us hl => match us, hl with | [_, _], _ => rfl)
  obtain ⟨d_l_random, F_l_random⟩ := c.fn ok 18
  have B_l_random := F_l_random.binds (ps := ["_law_script", "_law_salt"]) (fun _ _ _ _ _ _ us hl => match us, hl with | [_, _], _ => rfl)
  obtain ⟨d_l_below, F_l_below⟩ := c.fn ok 19
  have B_l_below := F_l_below.binds (ps := ["_law_d", "_law_limit"]) (fun _ _ _ _ _ _ us hl => match us, hl with | [_, _], _ => rfl)
  obtain ⟨d_l_lines, F_l_lines⟩ := c.fn ok 20
  have B_l_lines := F_l_lines.binds (ps := ["_law_d", "_law_most", "_law_turning"]) (fun _ _ _ _ _ _ us hl => match us, hl with | [_, _, _], _ => rfl)
  obtain ⟨d_l_room, F_l_room⟩ := c.fn ok 21
  have B_l_room := F_l_room.binds (ps := ["_law_lines_here"]) (fun _ _ _ _ _ _ us hl => match us, hl with | [_], _ => rfl)
  obtain ⟨d_l_spots, F_l_spots⟩ := c.fn ok 22
  have B_l_spots := F_l_spots.binds (ps := ["_law_lines_here", "_law_signs"]) (fun _ _ _ _ _ _ us hl => match us, hl with | [_, _], _ => rfl)
  obtain ⟨d_l_equal, F_l_equal⟩ := c.fn ok 23
  have B_l_equal := F_l_equal.binds (ps := ["_law_actual", "_law_expected"]) (fun _ _ _ _ _ _ us hl => match us, hl with | [_, _], _ => rfl)
  obtain ⟨d_l_edges, F_l_edges⟩ := c.fn ok 24
  have B_l_edges := F_l_edges.binds (ps := ["_law_lines_here"]) (fun _ _ _ _ _ _ us hl => match us, hl with | [_], _ => rfl)
  obtain ⟨d_l_turned, F_l_turned⟩ := c.fn ok 25
  have B_l_turned := F_l_turned.binds (ps := ["_law_lines_here"]) (fun _ _ _ _ _ _ us hl => match us, hl with | [_], _ => rfl)
  have G_turned : GF P w K mg base "turned" 1 sp_turned := gf_of F_turned (He.glo_ok X G (fk 21)) B_turned (ok_turned F_turned)
  have G_tiles : GF P w K mg base "tiles_with" 1 (sp_tiles K) := gf_of F_tiles_with (He.glo_ok X G (fk 22)) B_tiles_with (ok_tiles F_tiles_with T0)
  have G_places : GF P w K mg base "port_places" 1 sp_places := gf_of F_port_places (He.glo_ok X G (fk 23)) B_port_places (ok_places F_port_places T0)
  have G_isnum : GF P w K mg base "is_number" 1 sp_isnum := gf_of F_is_number (He.glo_ok X G (fk 24)) B_is_number (ok_isnum F_is_number T0)
  have G_fault : GF P w K mg base "fault_in_row" 1 (sp_fault K) := gf_of F_fault_in_row (He.glo_ok X G (fk 26)) B_fault_in_row (ok_fault F_fault_in_row T1)
  have G_check : GF P w K mg base "check_rows" 2 (sp_check K) := gf_of F_check_rows (He.glo_ok X G (fk 27)) B_check_rows (ok_check F_check_rows T1 G_fault G_tiles)
  have I : FnR P w K mg base (L2.CX P w) 3 (He.ma K (He.ga K "Room") "__init__") (sp_star (He.ga K "Room")) := ok_init F_init T G_check G_places
  have P_size : PR P w K mg base (He.ga K "Room") "size" 1 (sp_size (He.ga K "Room")) := ⟨_, _, _, propB_ok pr2, ok_size F_size T, B_size⟩
  have G_tile : GF P w K mg base "check_tile" 3 (sp_tile (He.ga K "Room") (eA K 2)) := gf_ofX F_check_tile (He.glo_ok X G (fk 25)) B_check_tile (ok_tile F_check_tile T U G_isnum P_size)
  have PM : ParseM P w K mg base (He.ga K "Room") := ⟨_, _, _, creadB_ok hcr, cmB_ok hcm, fnrX B_parse (ok_parse F_parse T I)⟩
  have G_below : GF P w K mg base "_law_below" 1 sp_below := gf_of F_l_below (He.glo_ok X G (fk 29)) B_l_below (ok_below F_l_below T0)
  have M_len := He.meth_ok (fk 44)
  have M_bool := He.meth_ok (fk 45)
  have M_eq := He.meth_ok (fk 46)
  have M_invert := He.meth_ok (fk 47)
  have M_getitem := He.meth_ok (fk 48)
  have tyq : PySem.W.typeIn K (.ref (He.ma K (He.ga K "Room") "__eq__")) = some (.type "function") := eq_of_beq M_eq.fn
  exact ⟨⟨_, T⟩, R, EA, gf_of F_l_random (He.glo_ok X G (fk 28)) B_l_random (ok_random F_l_random T0), G_below, gf_of F_l_lines (He.glo_ok X G (fk 30)) B_l_lines (ok_lines F_l_lines T0 G_below), gf_ofX F_l_room (He.glo_ok X G (fk 31)) B_l_room (ok_lroom F_l_room T PM), gf_of F_l_spots (He.glo_ok X G (fk 32)) B_l_spots (ok_spots F_l_spots T0),
    gf_of F_l_equal (He.glo_ok X G (fk 33)) B_l_equal (ok_same F_l_equal T0 (He.glo_ok X G (fk 33)) B_l_equal 3), gf_of F_l_edges (He.glo_ok X G (fk 34)) B_l_edges (ok_edges F_l_edges T0), gf_of F_l_turned (He.glo_ok X G (fk 35)) B_l_turned (ok_lturned F_l_turned),
    ⟨_, _, _, propB_ok pr0, ok_rows F_rows T, B_rows⟩, ⟨_, _, _, propB_ok pr1, ok_text F_text T, B_text⟩, P_size, ⟨_, _, _, propB_ok pr3, ok_turning F_turning T G_tiles, B_turning⟩,
    ⟨_, ⟨M_len.at_, M_len.fn⟩, fnr0 B_len (ok_len F_len T)⟩, ⟨_, ⟨M_bool.at_, M_bool.fn⟩, fnrX B_bool (ok_bool F_bool T G_tiles)⟩, ⟨_, ⟨M_eq.at_, M_eq.fn⟩, neB_ok hne tyq, fnr0 B_eq (ok_eq F_eq T R)⟩, ⟨_, ⟨M_invert.at_, M_invert.fn⟩, fnrX B_invert (ok_invert F_invert T G_turned I)⟩,
    ⟨_, ⟨M_getitem.at_, M_getitem.fn⟩, hfg, fnrX B_getitem (ok_get F_getitem T G_tile)⟩, hnf⟩
end
end My
namespace My
open PySem PySem.Spec PyProof.Rows L2
abbrev R : PySem.W.OpenRow := PySem.W.OpenLaw.row PySem.Challenge.rw_mirrorturns_k02_rooms_and_signs
def hk : PySem.W.Hook := hookY 6 gs [("law", none)] exB
def namesA : List Str := ["SIGNS", "TURNING", "RISING", "FALLING", "thrown", "turned", "tiles_with", "port_places", "step_inward", "run_beam", "MirrorError", "InvalidRoom", "UnknownPort", "UnknownTile", "InvalidNumber", "OtherRoom", "TooMany", "Contradiction"]
def namesB : List Str := ["NotTurning", "InvalidName", "UnknownName", "InvalidOperation", "is_number", "check_port", "check_tile", "fault_in_row", "check_rows", "Room", "_law_random", "_law_below", "_law_lines", "_law_room", "_law_spots", "_law_equal", "_law_edges", "_law_turned", "_law_error_of"]
theorem topRun (w : World) : HandSHeadRun.RunEq R (PySem.W.view R.prog [43]) hk (obY 6 gs [("law", none)] exB) 8000 (namesA ++ namesB) w := by
  intro os
  kernel_rfl
end My
namespace My
open PySem PySem.Spec PyProof.Rows L2
theorem lawAt {l : PySem.W.OpenLaw} {w : World} {mg : Str → Option Value} {fa : Addr} {h : Heap} {K : PySem.W.Frag} (X : K.In h) (c : SaysY gs [("law", none)] exB h K) (G : h.Ns mainGlobals mg) (hfa : mg "law" = some (.ref fa)) :
    LamX.LawAtS l w K (L2.CX l.prog w) 8 63 "_law_script" mg fa h := by
  obtain ⟨cf, m1⟩ := He.ba c.more
  obtain ⟨cg, m2⟩ := He.ba m1
  have fk : ∀ (i : Nat) {f : He.Fa} (hi : fas[i]? = some f := by rfl), f.ok K = true := fun i f hi => List.all_eq_true.mp cf f (List.mem_of_getElem? hi)
  have ok : ∀ d ∈ gs, d.ok K = true := List.all_eq_true.mp cg
  obtain ⟨fde, EF⟩ := c.fn ok 26
  obtain ⟨fd, F⟩ := c.fn ok 27
  have hL : mg "law" = some (.ref (He.ga K "law")) := He.glo_ok X G (fk 37)
  obtain rfl : fa = He.ga K "law" := by
    rw [hfa] at hL
    cases hL
    rfl
  obtain ⟨oc, od, kV, doc, pm, an, cdv, ct, osl, e, lk, hcd⟩ := F.ex
  obtain ⟨c0, rfl⟩ := He.codeIn_ref hcd
  have hc0 : fd.code = .ref c0 := by rw [e] <;> rfl
  have ec : He.codeOf K ("law", none) = c0 := He.codeOf_eq (p := ("law", none)) (c := c0) lk hc0
  have ep : He.cT K ("law", none) = (c0, He.tabOf K c0) := by
    unfold He.cT
    rw [ec]
  have mem : (("law", none) : He.Defn) ∈ [(("law", none) : He.Defn)] := List.mem_singleton.mpr rfl
  have one : ∀ {q : Addr × Addr → Prop}, q (c0, He.tabOf K c0) → ∀ p ∈ [(c0, He.tabOf K c0)], q p := fun {q} hq p hp => by rw [List.mem_singleton.mp hp]; exact hq
  have h1 := c.hd _ mem
  have h2 := c.out _ mem
  have h3 := c.empty _ mem
  rw [ep] at h1 h2 h3
  have be : Binds K fde ["_law_call"] [] := EF.binds fun _ _ _ _ _ _ us hl => match us, hl with | [_], _ => rfl
  refine ⟨fd, [(c0, He.tabOf K c0)], sp_law K (He.tabOf K c0), one h3, one h2, one (PySem.W.codeHd_of_K X h1), fun s u => ?_, fun H a ns hn _ hT hS => ?_, fun base Xb Gb TB => ?_⟩
  · rw [e]
    exact BindsTo.of_eq rfl
  · exact ⟨a, ns, rfl, hn, hS, hT (c0, He.tabOf K c0) (List.mem_singleton.mpr rfl), fun _ => rfl⟩
  · exact ok_law (F := F) EF (He.glo_ok X G (fk 36)) be (kit_of X G c) hc0 (TB _ (List.mem_singleton.mpr rfl))
end My
open PySem PySem.W PySem.Calls PyProof.Rows
theorem PySem.Challenge.cw_mirrorturns_k02_rooms_and_signs_holds : PySem.Challenge.rw_mirrorturns_k02_rooms_and_signs.Holds := by
  w_on; o_law
  refine HandSHeadRun.head_any (r := My.R) (q := view My.R.prog [43]) (H := My.hk) (ob := My.obY 6 My.gs [("law", none)] My.exB) (M := 8000) (loose := My.namesA ++ My.namesB) (d := HandSHeadRun.topDef My.R.prog 43) (kwd := []) (My.obY_eq 6 My.gs [("law", none)] My.exB)
    (by kernel_rfl) (fun s => by kernel_rfl) My.topRun (by kernel_rfl) (by kernel_rfl) (by kernel_rfl) (by rfl) (by first | assumption | decide +kernel) (by decide +kernel) ⟨rfl, rfl, rfl, rfl, rfl, by decide +kernel⟩ ?hw ?hc
  case hw => w_witness2
  case hc =>
    refine LamX.walk_ofTsE (l := PySem.Challenge.rw_mirrorturns_k02_rooms_and_signs) (n := 63) (k := 8) (x := "_law_script") (CX := fun w => L2.CX (PySem.Challenge.rw_mirrorturns_k02_rooms_and_signs).prog w) rfl (by decide) (by kernel_rfl) ⟨rfl, by decide, by decide⟩ ?F ?E
    case E =>
      intro w H s e s' z
      obtain ⟨_, _, _, _, _, _, _, _, _, _, _, _, z⟩ := z
      exact z
    case F =>
      intro w mg fa h Y G hmg0
      obtain ⟨K, KX, c⟩ := Y
      have hmg : mg ("law" : PySem.Str) = some (.ref fa) := by
        have e : (HandSHeadRun.topDef My.R.prog 43).name = ("law" : PySem.Str) := by kernel_rfl
        rw [← e]
        exact hmg0
      exact ⟨K, KX, My.lawAt KX c G hmg⟩
