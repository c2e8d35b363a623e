import PyProof.Rows.All
import Wide.All
import OpenK.AllK
import Wide.FinOn
import KE.KStateDown
import KE.GoesEnum
import KE.GoesMore
import HandS.ForMost
import HandS.ForExc
import HandS.Walk
import HandS.Wide
import HandS.IsInst
import HandS.ClsMeth
import HandS.Property
import HandS.Star
import HandS.Style
import HandS.StrMore
import HandS.Flow
import HandS.Codes
import HandS.Small
import HandS.Deep
import HandS.ExcIs
import HandS.Replace
import HandS.ReplaceLit
import HandS.ReplaceDef
import PyProof.StrLawsReplace
import PyProof.ListStr
import KE.KRevSl
import HandS.GenBody
import HandS.GenYield
import HandS.GenList
import HandS.GenCall
import HandS.Lambda
import HandS.EndTab
import HandS.Words
import HandS.WordsExc
import HandS.Defaults
import HandS.HeadHook2
import HandS.HeadHook3
import HandS.HeadHook4
import HandS.HeadWalk
import HandS.Nested
import HandS.OwnEq
import HandS.Dict
import HandS.WordsDict
import HandS.DeepEq
import HandS.DictTup
import HandS.Head0
import HandS.Head1
import HandS.Head2
import HandS.HeadEnd
import HandS.HeadHook1
import KE.KExcIs
import HandS.ExcField
import HandS.TupSets
import HandS.ExcInit
import HandS.ExcSuper
import HandS.FStr
import HandS.RaiseFrom
import HandS.ExcOwn
import HandS.ExcValue
import HandS.ExcInitHot
import HandS.SuiteRaise
import HandS.HotCalls
import HandS.ExcCtx
import KE.KExcRaise
import PyProof.Rows.TupIter
import PyProof.Rows.StrMul
import HandS.TryOnly
import HandS.More
import HandS.Strs
import PyProof.ForAppend
import KE.KExcSuper
import HandS.Conv
import HandS.DictComp
import HandS.Iter
import PySem.Challenge.RW_mirrorturns_k05_the_same_port_again
set_option Elab.async false
set_option linter.all false
set_option maxRecDepth 100000
set_option maxHeartbeats 4000000
namespace My
open PySem PySem.Spec PyProof.Rows L2
section
variable {P : Program} {w : World} {K : PySem.W.Frag} {mg : Str → Option Value} {base : Heap}
/-- a def of the module by its name, positional -/
structure GF (P : Program) (w : World) (K : PySem.W.Frag) (mg : Str → Option Value) (base : Heap) (x : Str) (k : Nat) (sp : Sp) : Prop where
  ex : ∃ f, mg x = some (.ref f) ∧ PySem.W.keepIn K (.ref f) = true ∧ FnR P w K mg base (L2.CX P w) k f sp
theorem fnR_of0 {k : Nat} {f : Addr} {sp : Sp} (F : FnR P w K mg base CX0 k f sp) : FnR P w K mg base (L2.CX P w) k f sp :=
  fun A outer s H us vs Q E hr e0 r hs => codeAny_mono (F A outer s H us vs Q E hr e0 r hs) fun r s' h => by
    cases r with
    | ok fl => cases fl <;> exact h
    | error e => exact False.elim h
theorem gf_of {x : Str} {st : Stmt} {f : Addr} {fd : FuncData} {ps : List Str} {k : Nat} {sp : Sp} (F : Fun K x x st f fd) (hm : mg x = some (.ref f)) (hb : Binds K fd ps []) (O : FnOk P w K mg base CX0 k f fd ps sp) : GF P w K mg base x k sp :=
  ⟨f, hm, F.kp, fnR_of0 (FnR.imp (O.raw hb .nil) fun vs H Q E h => by rw [List.append_nil]; exact h)⟩
theorem gf_ofX {x : Str} {st : Stmt} {f : Addr} {fd : FuncData} {ps : List Str} {k : Nat} {sp : Sp} (F : Fun K x x st f fd) (hm : mg x = some (.ref f)) (hb : Binds K fd ps []) (O : FnOk P w K mg base (L2.CX P w) k f fd ps sp) : GF P w K mg base x k sp :=
  ⟨f, hm, F.kp, FnR.imp (O.raw hb .nil) fun vs H Q E h => by rw [List.append_nil]; exact h⟩
end
def tCR (sp : Sp) (E : XK) (t : TA) : TE := fun σ H Q => t σ H fun vs H1 => sp vs H1 Q E
section
variable {X : Cx} {k : Nat} {sp : Sp} {E : XK} {x : Str} {e : Expr} {es : List Expr} {t : TA} {p pos : Pos}
theorem pe_c (G : GF X.prog X.w X.K X.mg X.base x k sp) (hr : Room k X.A) (hx : Passes (L2.CX X.prog X.w) X E) (ha : PA X (e :: es) t) (hg : Gl X x := by rfl) (hd : (x == ("__debug__" : Str)) = false := by decide)
    (he : starEach (e :: es) X.env = (false, eval e X.env) :: starEach es X.env := by rfl) (hpl : (backTo pos (starEach es X.env)).any (·.1) = false := by rfl) : PE X (.Call (.Name x p) (e :: es) [] pos) (tCR sp E t) := by
  obtain ⟨f, hm, hk, F⟩ := G.ex
  refine ⟨fun pins s σ H Q I h => ?_⟩
  refine wpAny_Call_Name_kw (ld_glob I hg hm ?_ hd)
  refine PySem.W.callWith_K (h₀ := X.base) I.ok.mod.kin hk (thn (ha.run pos pins s σ H _ I h) fun us s1 ⟨vs, H1, I1, r, q⟩ => ⟨I1.kIn, ?_⟩) he hpl
  exact wpAny_call (run_fnR F hr hx I1 r q)
/-- a text, an int of the module's own -/
theorem pe_gs {z : Str} (h : ∃ t, X.mg x = some (.str z t)) (hg : Gl X x := by rfl) (hd : (x == ("__debug__" : Str)) = false := by decide) : PE X (.Name x p) (tC (.str z)) := by
  obtain ⟨t, h⟩ := h
  exact pe_glob hg h ⟨t, rfl⟩ hd
theorem pe_gr {a : Addr} (h : X.mg x = some (.ref a)) (hg : Gl X x := by rfl) (hd : (x == ("__debug__" : Str)) = false := by decide) : PE X (.Name x p) (tC (.ref a)) := pe_glob (v := .ref a) hg h rfl hd
theorem pe_gi {z : Int} (h : ∃ t, X.mg x = some (.int z t)) (hg : Gl X x := by rfl) (hd : (x == ("__debug__" : Str)) = false := by decide) : PE X (.Name x p) (tC (.int z)) := by
  obtain ⟨t, h⟩ := h
  exact pe_glob hg h ⟨t, rfl⟩ hd
end
def asgV : Stmt → Expr
  | .Assign _ v _ => v
  | _ => .Constant .none 0 ⟨0, 0, 0, 0⟩
def lcSc : Expr → Scope
  | .ListComp _ _ sc _ => sc
  | _ => { kind := .function, names := [], isGenerator := false, isCoroutine := false }
/-- a walk's loop within a comprehension, whatever its turn is -/
theorem it_gen {J : It} {n : Nat} {G : Hp → Prop} {Y : Nat → Hp → V → Hp → Prop} (w : Walk J n G Y) {B : (Hp → Prop) → V → Hp → Prop} {Qd : Hp → Prop} {H1 : Hp} (Pv : Nat → Hp → Prop) (h0 : Pv 0 H1) (hG : ∀ i H, i ≤ n → Pv i H → G H)
    (hs : ∀ i x H H', i < n → Pv i H → Y i H x H' → B (Pv (i + 1)) x H') (hd : ∀ H, Pv n H → Qd H) :
    ∃ W : Nat → Nat → Hp → Prop, (∃ m, W 0 m H1) ∧ ∀ i m H, W i m H → (J.stop i H ∧ Qd H) ∨ (J.go i H ∧ ∃ Nx : Hp → Prop, (∀ H', Nx H' → ∃ m', m' < m ∧ W (i + 1) m' H') ∧ ∀ x H', J.yld i H x H' → B Nx x H') := by
  refine ⟨fun i m H => m = n - i ∧ i ≤ n ∧ Pv i H, ⟨n, by simp, Nat.zero_le _, h0⟩, ?_⟩
  rintro i m H ⟨rfl, hi, p⟩
  have q := hG i H hi p
  by_cases hlt : i < n
  · exact .inr ⟨w.goes i H hlt q, Pv (i + 1), fun H' p' => ⟨n - (i + 1), by omega, rfl, hlt, p'⟩, fun x H' y => hs i x H H' hlt p (w.yields i H x H' hlt q y)⟩
  · have e : i = n := by omega
    subst e
    exact .inl ⟨w.stops H q, hd H p⟩
section
variable {X : Cx}
abbrev Blk5 (α : Type) := Shared → Hp → Addr → List (Str × Addr) → List Addr → α
/-- comprehensions whose parts may name the block's context -/
theorem pe_lcG {elt tg iter : Expr} {ifs : List Expr} {scope : Scope} {own : List (Str × Nat)} {pos : Pos} {wi : TI} {g : TG} {tt : TT} {te : TE} {tt' : Blk5 TT} {te' : Blk5 TE} (hc : X.calm = true) (hN : X.N.Nodup) (hi : PI X tg iter wi) (ok : BlkOk X.N X.env.scope scope own)
    (hg : ∀ (s : Shared) (H : Hp) (C : Addr) (cl : List (Str × Addr)) (fp : List Addr), PG (X.blk s H scope (compEnvC scope cl C X.env) fp) tg g) (ht : ∀ (s : Shared) (H : Hp) (C : Addr) (cl : List (Str × Addr)) (fp : List Addr), PTs (X.blk s H scope (compEnvC scope cl C X.env) fp) ifs (tt' s H C cl fp))
    (he : ∀ (s : Shared) (H : Hp) (C : Addr) (cl : List (Str × Addr)) (fp : List Addr), PE (X.blk s H scope (compEnvC scope cl C X.env) fp) elt (te' s H C cl fp)) (hs : ∀ x, foldedSetIterable iter X.env x = pure x := by intro _; rfl)
    (htt : ∀ s H C cl fp, tt' s H C cl fp = tt := by intro _ _ _ _ _; first | (dsimp only [Cx.blk] <;> exact rfl) | exact rfl) (hte : ∀ s H C cl fp, te' s H C cl fp = te := by intro _ _ _ _ _; first | (dsimp only [Cx.blk] <;> exact rfl) | exact rfl) :
    PE X (.ListComp elt [⟨tg, iter, ifs, 0⟩] scope pos) (tLc wi g tt te (own.map (·.2))) :=
  pe_lc hc hN hi ok hg (fun s H C cl fp => htt s H C cl fp ▸ ht s H C cl fp) (fun s H C cl fp => hte s H C cl fp ▸ he s H C cl fp) hs
theorem ps_setLcG {i : Nat} {y : Str} {py : Pos} {elt tg iter : Expr} {ifs : List Expr} {scope : Scope} {own : List (Str × Nat)} {pos spos : Pos} {wi : TI} {g : TG} {tt : TT} {te : TE} {tt' : Blk5 TT} {te' : Blk5 TE} (hc : X.calm = true) (hN : X.N.Nodup) (hy : X.N[i]? = some y) (hyl : X.env.scope.names.lookup y = some .local)
    (hsw : swapsWith (.ListComp elt [⟨tg, iter, ifs, 0⟩] scope pos) (some (.Name y py)) spos.line X.env = pure true) (hi : PI X tg iter wi) (ok : BlkOk X.N X.env.scope scope own)
    (hg : ∀ (s : Shared) (H : Hp) (C : Addr) (cl : List (Str × Addr)) (fp : List Addr), PG (X.blk s H scope (compEnvC scope cl C X.env) fp) tg g) (ht : ∀ (s : Shared) (H : Hp) (C : Addr) (cl : List (Str × Addr)) (fp : List Addr), PTs (X.blk s H scope (compEnvC scope cl C X.env) fp) ifs (tt' s H C cl fp))
    (he : ∀ (s : Shared) (H : Hp) (C : Addr) (cl : List (Str × Addr)) (fp : List Addr), PE (X.blk s H scope (compEnvC scope cl C X.env) fp) elt (te' s H C cl fp)) (hs : ∀ x, foldedSetIterable iter X.env x = pure x := by intro _; rfl)
    (htt : ∀ s H C cl fp, tt' s H C cl fp = tt := by intro _ _ _ _ _; first | (dsimp only [Cx.blk] <;> exact rfl) | exact rfl) (hte : ∀ s H C cl fp, te' s H C cl fp = te := by intro _ _ _ _ _; first | (dsimp only [Cx.blk] <;> exact rfl) | exact rfl) :
    PS X (.Assign [.Name y py] (.ListComp elt [⟨tg, iter, ifs, 0⟩] scope pos) spos) (tAsg (tLc wi g tt te (own.map (·.2))) (gName i)) :=
  ps_setLc hc hN hy hyl hsw hi ok hg (fun s H C cl fp => htt s H C cl fp ▸ ht s H C cl fp) (fun s H C cl fp => hte s H C cl fp ▸ he s H C cl fp) hs
end
theorem ifT {c : Bool} {A B : Prop} (hc : c = true) (h : A) : if c = true then A else B := by
  rw [if_pos hc]
  exact h
theorem ifF {c : Bool} {A B : Prop} (hc : c = false) (h : B) : if c = true then A else B := by
  rw [if_neg (by rw [hc]; exact Bool.false_ne_true)]
  exact h
theorem if2 {c : Bool} {A B : Prop} (h1 : c = true → A) (h2 : c = false → B) : if c = true then A else B := by
  cases c with
  | true => exact ifT rfl (h1 rfl)
  | false => exact ifF rfl (h2 rfl)
theorem dT {p : Prop} [Decidable p] (h : p) : decide p = true := decide_eq_true h
theorem dF {p : Prop} [Decidable p] (h : ¬ p) : decide p = false := decide_eq_false h
theorem ltT {i j : Int} (h : i < j) : decide (i < j) = true := decide_eq_true h
theorem sz2 {n : Nat} (h : n ≤ 100000) : n ≤ sizeLine := Nat.le_trans h (by decide)
theorem sz3 {n : Nat} (h : n < 100000) : n < sizeLine := Nat.lt_of_lt_of_le h (by decide)
end My
/-! the mirror: signs, rows, rooms -/
namespace My
open PySem PySem.Spec PyProof.Rows L2
inductive Sg where
  | d | r | f | R | F
  deriving DecidableEq
namespace Sg
def cp : Sg → Nat
  | d => 46
  | r => 114
  | f => 102
  | R => 82
  | F => 70
def str (s : Sg) : Str := ⟨#[s.cp]⟩
def turn : Sg → Sg
  | r => f
  | f => r
  | s => s
def tur : Sg → Bool
  | r => true
  | f => true
  | _ => false
def thr : Sg → Int → Int → Int × Int
  | r, a, b => (-b, -a)
  | R, a, b => (-b, -a)
  | f, a, b => (b, a)
  | F, a, b => (b, a)
  | d, a, b => (a, b)
theorem turn_turn (s : Sg) : s.turn.turn = s := by cases s <;> rfl
theorem tur_turn (s : Sg) : s.turn.tur = s.tur := by cases s <;> rfl
theorem cp_inj {s t : Sg} (h : s.cp = t.cp) : s = t := by
  cases s <;> cases t <;> first | rfl | exact absurd h (by decide)
end Sg
/-- a row's text -/
def lstr (l : List Sg) : Str := ⟨(l.map Sg.cp).toArray⟩
def lineV (l : List Sg) : V := .str (lstr l)
theorem lstr_len (l : List Sg) : (lstr l).length = l.length := by
  show ((l.map Sg.cp).toArray).size = l.length
  simp
theorem lstr_app (l : List Sg) (s : Sg) : lstr l ++ s.str = lstr (l ++ [s]) := by
  show (⟨(l.map Sg.cp).toArray ++ #[s.cp]⟩ : Str) = ⟨((l ++ [s]).map Sg.cp).toArray⟩
  simp
theorem cps_inj : ∀ {l m : List Sg}, l.map Sg.cp = m.map Sg.cp → l = m
  | [], [], _ => rfl
  | [], _ :: _, h => by simp at h
  | _ :: _, [], h => by simp at h
  | a :: l, b :: m, h => by
    simp only [List.map_cons, List.cons.injEq] at h
    rw [Sg.cp_inj h.1, cps_inj h.2]
theorem lstr_inj {l m : List Sg} (h : lstr l = lstr m) : l = m := by
  have e : (l.map Sg.cp).toArray = (m.map Sg.cp).toArray := congrArg Str.cps h
  exact cps_inj (by simpa using e)
theorem lstr_get (l : List Sg) (i : Nat) : (lstr l).cps[i]? = l[i]?.map Sg.cp := by
  show ((l.map Sg.cp).toArray)[i]? = _
  simp
theorem lstr_toList (l : List Sg) : (lstr l).cps.toList = l.map Sg.cp := by
  show ((l.map Sg.cp).toArray).toList = _
  simp
/-- how many mirrors of a row turn -/
def lcount (l : List Sg) : Nat := (l.filter Sg.tur).length
def gcount (g : List (List Sg)) : Nat := (g.map lcount).sum
theorem lcount_app (l : List Sg) (s : Sg) : lcount (l ++ [s]) = lcount l + if s.tur then 1 else 0 := by
  unfold lcount
  rw [List.filter_append, List.length_append]
  cases h : s.tur <;> simp [h]
theorem gcount_app (g : List (List Sg)) (l : List Sg) : gcount (g ++ [l]) = gcount g + lcount l := by
  unfold gcount
  simp
/-- rows that make a room, at most m by m, at most t mirrors that turn -/
structure Grid (m t : Nat) (g : List (List Sg)) (w : Nat) : Prop where
  h0 : 0 < g.length
  hm : g.length ≤ m
  w0 : 0 < w
  wm : w ≤ m
  ln : ∀ l ∈ g, l.length = w
  tu : gcount g ≤ t
theorem Grid.mono {m t m' t' : Nat} {g : List (List Sg)} {w : Nat} (x : Grid m t g w) (h1 : m ≤ m') (h2 : t ≤ t') : Grid m' t' g w :=
  ⟨x.h0, Nat.le_trans x.hm h1, x.w0, Nat.le_trans x.wm h1, x.ln, Nat.le_trans x.tu h2⟩
/-- all but a as it was -/
def Kp (a : Addr) (H H' : Hp) : Prop := ∀ b o, b ≠ a → H b = some o → H' b = some o
theorem Kp.refl {a : Addr} (H : Hp) : Kp a H H := fun _ _ _ h => h
theorem Kp.of {a : Addr} {H H' : Hp} (s : Same H H') : Kp a H H' := fun b o _ h => s b o h
theorem Kp.trans {a : Addr} {H H1 H2 : Hp} (x : Kp a H H1) (y : Kp a H1 H2) : Kp a H H2 := fun b o n h => y b o n (x b o n h)
theorem Kp.upd {a : Addr} {H H1 : Hp} {o : HO} (x : Kp a H H1) : Kp a H (upd H1 a o) := fun b u n h => by rw [upd_ne n]; exact x b u n h
theorem Kp.mut {a p : Addr} {H H1 : Hp} {o : HO} (x : Kp a H H1) (h : H p = none) : Kp a H (L2.upd H1 p o) := fun b u n e => by rw [upd_ne (ne_of_none e h)]; exact x b u n e
theorem Kp.free {a p : Addr} {H H' : Hp} (x : Kp a H H') (n : p ≠ a) (h : H' p = none) : H p = none := by
  cases q : H p with
  | none => rfl
  | some o => rw [x p o n q] at h; cases h
/-- a part that does not know a stands as it stood -/
theorem Kp.same {a : Addr} {F H H' : Hp} (x : Kp a H H') (s : Same F H) (n : F a = none) : Same F H' := fun b o h => x b o (ne_of_none h n) (s b o h)
theorem Same.new {H : Hp} {p : Addr} {o : HO} (h : H p = none) : Same H (upd H p o) := fun b u e => by rw [upd_ne (ne_of_none e h)]; exact e
theorem Same.new' {F H : Hp} {p : Addr} {o : HO} (s : Same F H) (h : H p = none) : Same F (upd H p o) := s.trans (Same.new h)
theorem Same.mut {F H : Hp} {p : Addr} {o : HO} (s : Same F H) (h : F p = none) : Same F (upd H p o) := fun b u e => by rw [upd_ne (ne_of_none e h)]; exact s b u e
/-- what tuples stood stand -/
def Tx (H H' : Hp) : Prop := ∀ a xs, H a = some (.tup xs) → H' a = some (.tup xs)
theorem Tx.refl (H : Hp) : Tx H H := fun _ _ h => h
theorem Tx.of {H H' : Hp} (s : Same H H') : Tx H H' := fun a xs h => s a _ h
theorem Tx.trans {H H1 H2 : Hp} (x : Tx H H1) (y : Tx H1 H2) : Tx H H2 := fun a xs h => y a xs (x a xs h)
theorem Tx.new {H : Hp} {p : Addr} {o : HO} (h : H p = none) : Tx H (upd H p o) := Tx.of (Same.new h)
theorem Tx.lst {H : Hp} {p : Addr} {o : HO} {ys : List V} (h : H p = some (.lst ys)) : Tx H (upd H p o) := fun a xs e => by rw [upd_ne (ne_of e h (by intro z; cases z))]; exact e
theorem Tx.kp {a : Addr} {H H' : Hp} (k : Kp a H H') (h : ∀ xs, H a ≠ some (.tup xs)) : Tx H H' := fun b xs e => k b _ (fun z => h xs (by rw [← z]; exact e)) e
/-- a pair of ints, a list of them -/
def PrAt (H : Hp) (v : V) (p : Int × Int) : Prop := ∃ a, v = .ref a ∧ H a = some (.tup [.int p.1, .int p.2])
def PrsAt (H : Hp) (vs : List V) (ps : List (Int × Int)) : Prop := Paired (PrAt H) vs ps
theorem PrAt.tx {H H' : Hp} {v : V} {p : Int × Int} (x : PrAt H v p) (t : Tx H H') : PrAt H' v p := let ⟨a, e, h⟩ := x; ⟨a, e, t _ _ h⟩
theorem PrsAt.tx {H H' : Hp} {vs : List V} {ps : List (Int × Int)} (x : PrsAt H vs ps) (t : Tx H H') : PrsAt H' vs ps := Paired.mapP x fun _ _ y => y.tx t
theorem Paired.app {α β : Type} {F : α → β → Prop} : ∀ {a c : List α} {b d : List β}, Paired F a b → Paired F c d → Paired F (a ++ c) (b ++ d)
  | _, _, _, _, .nil, y => y
  | _, _, _, _, .cons r x, y => .cons r (Paired.app x y)
theorem Paired.nth {α β : Type} {F : α → β → Prop} : ∀ {a : List α} {b : List β} {i : Nat} {x : α}, Paired F a b → a[i]? = some x → ∃ y, b[i]? = some y ∧ F x y
  | _, _, _, _, .nil, e => by simp at e
  | _, _, 0, _, .cons r _, e => by simp at e; subst e; exact ⟨_, rfl, r⟩
  | _, _, i + 1, x, .cons _ t, e => by
    obtain ⟨y, h1, h2⟩ := Paired.nth (i := i) (x := x) t (by simpa using e)
    exact ⟨y, by simpa using h1, h2⟩
theorem Paired.nth2 {α β : Type} {F : α → β → Prop} : ∀ {a : List α} {b : List β} {i : Nat} {y : β}, Paired F a b → b[i]? = some y → ∃ x, a[i]? = some x ∧ F x y
  | _, _, _, _, .nil, e => by simp at e
  | _, _, 0, _, .cons r _, e => by simp at e; subst e; exact ⟨_, rfl, r⟩
  | _, _, i + 1, x, .cons _ t, e => by
    obtain ⟨y, h1, h2⟩ := Paired.nth2 (i := i) (y := x) t (by simpa using e)
    exact ⟨y, by simpa using h1, h2⟩
theorem PrsAt.snoc {H : Hp} {vs : List V} {ps : List (Int × Int)} {v : V} {p : Int × Int} (x : PrsAt H vs ps) (y : PrAt H v p) : PrsAt H (vs ++ [v]) (ps ++ [p]) := Paired.app x (.cons y .nil)
theorem PrsAt.len {H : Hp} {vs : List V} {ps : List (Int × Int)} (x : PrsAt H vs ps) : vs.length = ps.length := Paired.length x
/-- the tiles of a row, of a room, that have a sign -/
def hit (f : Sg → Bool) (g : List (List Sg)) (r c : Nat) : Bool := ((g.getD r [])[c]?.map f).getD false
def rowTiles (f : Sg → Bool) (g : List (List Sg)) (r n : Nat) : List (Int × Int) := ((List.range n).filter (hit f g r)).map fun (c : Nat) => ((r : Int), (c : Int))
def tilesTo (f : Sg → Bool) (g : List (List Sg)) (i : Nat) : List (Int × Int) := (List.range i).flatMap fun r => rowTiles f g r (g.getD r []).length
def tiles (f : Sg → Bool) (g : List (List Sg)) : List (Int × Int) := tilesTo f g g.length
theorem rowTiles_yes {f : Sg → Bool} {g : List (List Sg)} {r n : Nat} (h : hit f g r n = true) : rowTiles f g r (n + 1) = rowTiles f g r n ++ [((r : Int), (n : Int))] := by
  unfold rowTiles
  rw [List.range_succ, List.filter_append, List.map_append]
  simp [h]
theorem rowTiles_no {f : Sg → Bool} {g : List (List Sg)} {r n : Nat} (h : hit f g r n = false) : rowTiles f g r (n + 1) = rowTiles f g r n := by
  unfold rowTiles
  rw [List.range_succ, List.filter_append, List.map_append]
  simp [h]
theorem rowTiles_len (f : Sg → Bool) (g : List (List Sg)) (r n : Nat) : (rowTiles f g r n).length ≤ n := by
  unfold rowTiles
  rw [List.length_map]
  have h := List.length_filter_le (hit f g r) (List.range n)
  rw [List.length_range] at h
  exact h
theorem tilesTo_succ (f : Sg → Bool) (g : List (List Sg)) (i : Nat) : tilesTo f g (i + 1) = tilesTo f g i ++ rowTiles f g i (g.getD i []).length := by
  unfold tilesTo
  rw [List.range_succ, List.flatMap_append]
  simp
theorem tilesTo_len (f : Sg → Bool) (g : List (List Sg)) (w : Nat) (hw : ∀ l ∈ g, l.length ≤ w) : ∀ i, (tilesTo f g i).length ≤ i * w
  | 0 => by simp [tilesTo]
  | i + 1 => by
    rw [tilesTo_succ, List.length_append, Nat.succ_mul]
    have h1 := tilesTo_len f g w hw i
    have h2 := rowTiles_len f g i (g.getD i []).length
    have h3 : (g.getD i []).length ≤ w := by
      rw [List.getD_eq_getElem?_getD]
      cases e : g[i]? with
      | none => simp
      | some l => exact hw l (List.mem_of_getElem? e)
    omega
theorem rowTiles_count (f : Sg → Bool) (g : List (List Sg)) (r : Nat) : ∀ n, n ≤ (g.getD r []).length → (rowTiles f g r n).length = (((g.getD r []).take n).filter f).length
  | 0, _ => by simp [rowTiles]
  | n + 1, h => by
    have ih := rowTiles_count f g r n (by omega)
    have e : (g.getD r []).take (n + 1) = (g.getD r []).take n ++ [(g.getD r [])[n]'(by omega)] := by rw [List.take_succ_eq_append_getElem]
    rw [e, List.filter_append, List.length_append, ← ih]
    have hh : hit f g r n = f ((g.getD r [])[n]'(by omega)) := by
      unfold hit
      rw [List.getElem?_eq_getElem (by omega)] <;> rfl
    cases hf : f ((g.getD r [])[n]'(by omega)) with
    | true =>
      rw [rowTiles_yes (hh.trans hf), List.length_append, List.filter_cons_of_pos (by exact hf)] <;> rfl
    | false =>
      rw [rowTiles_no (hh.trans hf), List.filter_cons_of_neg (by rw [hf]; exact Bool.false_ne_true)] <;> rfl
theorem tiles_one (l : List Sg) : (tiles Sg.tur [l]).length = lcount l := by
  show (tilesTo Sg.tur [l] 1).length = lcount l
  rw [tilesTo_succ]
  show ((tilesTo Sg.tur [l] 0) ++ rowTiles Sg.tur [l] 0 l.length).length = lcount l
  have e0 : tilesTo Sg.tur [l] 0 = [] := rfl
  rw [e0, List.nil_append, rowTiles_count _ _ _ _ (show l.length ≤ ([l].getD 0 []).length from Nat.le_refl _)]
  show ((l.take l.length).filter Sg.tur).length = lcount l
  rw [List.take_length] <;> rfl
theorem lcount_le_gcount {g : List (List Sg)} {l : List Sg} (h : l ∈ g) : lcount l ≤ gcount g := by
  unfold gcount
  induction g with
  | nil => exact absurd h (by simp)
  | cons a r ih =>
    rw [List.map_cons, List.sum_cons]
    rcases List.mem_cons.mp h with e | e
    · rw [e]; omega
    · have := ih e; omega
theorem gcount_take {g : List (List Sg)} {i : Nat} {l : List Sg} (h : g[i]? = some l) : gcount (g.take (i + 1)) = gcount (g.take i) + lcount l := by
  have hi := (List.getElem?_eq_some_iff.mp h).1
  have e : g.take (i + 1) = g.take i ++ [l] := by
    rw [List.take_succ_eq_append_getElem hi, (List.getElem?_eq_some_iff.mp h).2]
  rw [e, gcount_app]
theorem gcount_take_le (g : List (List Sg)) (i : Nat) : gcount (g.take i) ≤ gcount g := by
  unfold gcount
  have e : (g.map lcount).sum = ((g.take i).map lcount).sum + ((g.drop i).map lcount).sum := by
    rw [← List.sum_append, ← List.map_append, List.take_append_drop]
  omega
theorem lcount_take {l : List Sg} {j : Nat} {s : Sg} (h : l[j]? = some s) : lcount (l.take (j + 1)) = lcount (l.take j) + if s.tur then 1 else 0 := by
  have hi := (List.getElem?_eq_some_iff.mp h).1
  have e : l.take (j + 1) = l.take j ++ [s] := by
    rw [List.take_succ_eq_append_getElem hi, (List.getElem?_eq_some_iff.mp h).2]
  rw [e, lcount_app]
theorem lcount_take_le (l : List Sg) (j : Nat) : lcount (l.take j) ≤ lcount l := by
  unfold lcount
  have e : (l.filter Sg.tur).length = ((l.take j).filter Sg.tur).length + ((l.drop j).filter Sg.tur).length := by
    rw [← List.length_append, ← List.filter_append, List.take_append_drop]
  omega
/-- the places of the ports -/
def pUp (c : Nat) : Int × Int := (-1, (c : Int))
def pRt (w r : Nat) : Int × Int := ((r : Int), (w : Int))
def pDn (h c : Nat) : Int × Int := ((h : Int), (c : Int))
def pLf (r : Nat) : Int × Int := ((r : Int), -1)
def pfx (f : Nat → Int × Int) (n : Nat) : List (Int × Int) := (List.range n).map f
theorem pfx_succ (f : Nat → Int × Int) (n : Nat) : pfx f (n + 1) = pfx f n ++ [f n] := by
  unfold pfx
  rw [List.range_succ, List.map_append] <;> rfl
theorem pfx_len (f : Nat → Int × Int) (n : Nat) : (pfx f n).length = n := by
  unfold pfx
  rw [List.length_map, List.length_range]
def places (h w : Nat) : List (Int × Int) := pfx pUp w ++ pfx (pRt w) h ++ pfx (pDn h) w ++ pfx pLf h
theorem places_len (h w : Nat) : (places h w).length = 2 * (h + w) := by
  unfold places
  simp only [List.length_append, pfx_len]
  omega
/-- the source of numbers at a -/
def DOk (H : Hp) (a : Addr) : Prop := ∃ (s c : Int) (rest : List Int), H a = some (.lst (.int s :: .int c :: rest.map V.int)) ∧ 0 ≤ s ∧ s < 2147483647 ∧ 0 ≤ c ∧ (∀ x ∈ rest, 0 < x) ∧ rest.length ≤ 63
theorem DOk.same {H H' : Hp} {a : Addr} (x : DOk H a) (s : Same H H') : DOk H' a := let ⟨y, c, r, h, q⟩ := x; ⟨y, c, r, s _ _ h, q⟩
theorem DOk.upd {H : Hp} {a p : Addr} {o : HO} (x : DOk H a) (n : a ≠ p) : DOk (L2.upd H p o) a := let ⟨y, c, r, h, q⟩ := x; ⟨y, c, r, by rw [upd_ne n]; exact h, q⟩
theorem DOk.ne {H : Hp} {a p : Addr} (x : DOk H a) (h : H p = none) : a ≠ p := let ⟨y, c, r, e, q⟩ := x; ne_of_none e h
theorem DOk.some {H : Hp} {a : Addr} (x : DOk H a) : ∃ xs, H a = some (.lst xs) := let ⟨y, c, r, h, q⟩ := x; ⟨_, h⟩
end My
/-! enumerate of a tuple, of a text -/
namespace My
open PySem PySem.Spec PyProof.Rows L2
set_option maxHeartbeats 1000000 in
theorem meets_enum_one {v : Value} {o : Obj} {H : Heap → Prop} (B : Begins v o H) :
    Meets (Builtin.«enumerate.__new__» ⟨[.type "enumerate", v], []⟩) (fun _ R s => H s.heap ∧
      R (.ok (.ret (.ref (s.heap.push o).objs.size))) { s with heap := (s.heap.push o).push { cls := .type "enumerate", data := .fields #[.none, .bool false, .ref s.heap.objs.size, rawInt 0, .none, .none] } }) :=
  .of_wp fun prog w A R s h => by
    obtain ⟨hp, g, d, tk, os⟩ := s; obtain ⟨h1, h⟩ := h
    have hsub := sub_enumerate
    have q1 : ∀ {A' : Around} {E : Value → Shared → Prop} {Q : Value → Shared → Prop}, Q (.ref hp.objs.size) ⟨hp.push o, g, d, tk, os⟩ → wpAny (model prog w) A' (pyIter v) Q E ⟨hp, g, d, tk, os⟩ :=
      fun q => B.iter prog w _ _ ⟨hp, g, d, tk, os⟩ _ h1 q
    wp_walk using q1
    refine wpAny_stack_any fun st => wpAny_pure ?_
    split
    · rename_i c _ _ _ _ _
      cases (c == Value.type "enumerate")
      · wp_walk using q1
        exact ⟨_, rfl, h⟩
      · wp_walk using q1
        exact ⟨_, rfl, h⟩
    · wp_walk using q1
      exact ⟨_, rfl, h⟩
theorem call_enum_one {prog : Program} {w : World} {A : Around} {E : Value → Shared → Prop} {s : Shared} {v : Value} {o : Obj} {H : Heap → Prop} {Q : Value → Shared → Prop} (B : Begins v o H) (h1 : H s.heap)
    (h : ∀ h', IsEnum h' (s.heap.objs.size + 1) s.heap.objs.size 0 .none → h'.get? s.heap.objs.size = some o → h'.objs.size = s.heap.objs.size + 2 →
      (∀ b o, s.heap.get? b = some o → h'.get? b = some o) → Q (.ref (s.heap.objs.size + 1)) { s with heap := h' }) :
    wpAny (model prog w) A (call (.type "enumerate") [v]) Q E s := by
  refine callType_new F.called_enumerate (by decide) (F.typeCall_enumerate_1 _) (F.newCall_enumerate_1 _) (fun obj => F.args_object_init_2 obj _) F.entry_enumerate_new
    (meets_enum_one B) ⟨h1, ?_⟩
  have hz : (s.heap.push o).objs.size = s.heap.objs.size + 1 := Heap.size_push ..
  show _ ∧ _
  rw [hz]
  have he : IsEnum ((s.heap.push o).push { cls := .type "enumerate", data := .fields #[.none, .bool false, .ref s.heap.objs.size, rawInt 0, .none, .none] }) (s.heap.objs.size + 1) s.heap.objs.size 0 .none := by
    have := Heap.get?_push_size (s.heap.push o) (o := { cls := .type "enumerate", data := .fields #[.none, .bool false, .ref s.heap.objs.size, rawInt 0, .none, .none] }) rfl
    rw [hz] at this; exact this
  refine ⟨⟨_, he, rfl⟩, h _ he (Heap.get?_push_of_some _ (Heap.get?_push_size _ B.free)) (by rw [Heap.size_push, hz]) fun b o y => Heap.get?_push_of_some _ (Heap.get?_push_of_some _ y)⟩
/-- the tuple at a, each item in a new pair -/
def IteT (K : PySem.W.Frag) (a : Addr) : It :=
  ⟨fun i H => ∃ (xs : List V) (x : V), SqT K H a xs ∧ xs[i]? = some x, fun i H v H' => ∃ T x, v = .ref T ∧ H T = none ∧ H' = upd H T (.tup [.int (i : Nat), x]) ∧ ∀ xs, SqT K H a xs → xs[i]? = some x, fun i H => ∃ xs : List V, SqT K H a xs ∧ xs.length ≤ i⟩
/-- a text's signs, each in a new pair -/
def IteS (z : Str) : It :=
  ⟨fun i _ => i < z.cps.size, fun i H v H' => ∃ T c, v = .ref T ∧ H T = none ∧ z.cps[i]? = some c ∧ H' = upd H T (.tup [.int (i : Nat), .str ⟨#[c]⟩]), fun i _ => z.cps.size ≤ i⟩
theorem turn_enumD {X : Cx} {J : It} {elts : List Expr} {kk : Nat} {tpos : Pos} {e it : Addr} {fp : List Addr} {n i : Nat} {P : Nat → Value → Prop} {St : Nat → Heap → Prop} {tn : Nat → Heap → Prop} {pins : List (Addr × Obj)} {s : Shared} {σ : L2.St} {H : Hp} {E : Value → Shared → Prop} {old : Value}
    (D : Draws X.prog X.w X.A.in1 it fp n P St) (I : Inv X pins σ H s) (hf : ∀ b ∈ [e, it], FpOk X pins H b) (he : IsEnum s.heap e it ((i : Nat) : Int) old) (hst : St i s.heap) (hi : i < n) (hne : e ≠ it) (hef : e ∉ fp)
    (hP : ∀ v, P i v → ∃ x, RelV x v ∧ ∀ T, H T = none → J.yld i H (.ref T) (upd H T (.tup [.int (i : Nat), x])))
    (htn : ∀ h' old, IsEnum h' e it ((i + 1 : Nat) : Int) old → St (i + 1) h' → tn (i + 1) h') :
    wpAny (model X.prog X.w) X.A (pyNext (.ref e)) (fun r s1 => ∃ u, r = some u ∧
      wpAny (model X.prog X.w) X.A (letOwnedTupleGo (.Tuple elts kk tpos) (.ref e) u) (fun _ s2 => ∃ x H', Inv X pins σ H' s2 ∧ RelV x u ∧ J.yld i H x H' ∧ tn (i + 1) s2.heap ∧ ∀ b ∈ [e, it], H' b = none) E s1) E s := by
  have hel : e < s.heap.objs.size := Heap.lt_size he
  obtain ⟨oi, hoi⟩ := D.live i _ hst
  have hil : it < s.heap.objs.size := Heap.lt_size hoi
  refine wpAny_pyNext_enum_itemD D he hst hi hne hef fun v h' tk hv ho hst' hT hsz hk => ?_
  obtain ⟨x, rx, hy⟩ := hP v hv
  refine ⟨_, rfl, wpAny_letOwnedTupleGo_enum (s := { s with heap := h', toks := tk + 1 }) ho fun h'' he' sb => ?_⟩
  have hT2 : h''.get? s.heap.objs.size = some { cls := .type "tuple", data := .seq #[.int i tk, v] } := (sb.2 _ (Nat.ne_of_gt hel)).trans hT
  have new : ObjOk X.prog X.w (upd H s.heap.objs.size (.tup [.int (i : Nat), x])) h'' s.heap.objs.size (.tup [.int (i : Nat), x]) :=
    ⟨by show 2 ≤ sizeLine; decide, [.int i tk, v], .cons ⟨_, rfl⟩ (.cons rx .nil), ⟨_, hT2, rfl, _, rfl⟩⟩
  have I1 : Inv X pins σ (upd H s.heap.objs.size (.tup [.int (i : Nat), x])) { s with heap := h'', toks := tk + 1 } :=
    I.turnedNew (ch := [e, it]) (fun b ob hb q => (sb.2 b (fun z => hb (by simp [z]))).trans (hk b ob (fun z => hb (by simp [z])) (fun z => hb (by simp [z])) q)) hf (Nat.le_refl _) new
  refine ⟨.ref s.heap.objs.size, _, I1, rfl, hy _ (I.hok.fresh (Nat.le_refl _)), htn h'' v ?_ ?_, fun b hb => ?_⟩
  · have e1 : ((i + 1 : Nat) : Int) = (i : Int) + 1 := by omega
    rw [e1]; exact he'
  · exact D.frame _ _ _ hst' fun b hb o q => (sb.2 b fun z => hef (z ▸ hb)).trans q
  · have hb' : b < s.heap.objs.size := by
      have e' : b = e ∨ b = it := by simpa using hb
      rcases e' with z | z
      · rw [z]; exact hel
      · rw [z]; exact hil
    rw [upd_ne (Nat.ne_of_lt hb')]
    exact (hf b hb).1
theorem turn_enumT {P : Program} {w : World} {K : PySem.W.Frag} {elts : List Expr} {kk : Nat} {tpos : Pos} (a e it : Addr) :
    Turn P w K (.Tuple elts kk tpos) (IteT K a) [e, it] e (fun i h => (∃ old, IsEnum h e it ((i : Nat) : Int) old) ∧ h.IsTupleIter it a i ∧ e ≠ it) where
  mem := by simp
  obj := fun i h st b hb => by
    obtain ⟨⟨old, he⟩, ⟨o, ho, hc, hd⟩, _⟩ := st
    have e' : b = e ∨ b = it := by simpa using hb
    rcases e' with z | z
    · rw [z]; exact ⟨_, he, fun v q => nomatch q⟩
    · rw [z]; exact ⟨o, ho, fun v q => by rw [hd] at q; cases q⟩
  keep := fun i h h' st k => let ⟨⟨old, he⟩, hi, hne⟩ := st; ⟨⟨old, k e (by simp) _ he⟩, hi.at fun o q => k it (by simp) o q, hne⟩
  item := by
    intro X hP hw hK hc i pins s σ H E I hf st hg
    subst hP hw hK
    obtain ⟨⟨old, he⟩, hit, hne⟩ := st
    obtain ⟨xs, x, hq, hx⟩ := hg
    obtain ⟨its, rv, p, hz⟩ := I.tuple hq
    have pt : s.heap.IsTuple a its.toArray := p
    have hai : a ≠ it := fun z => by
      obtain ⟨o, ho, hoc, hod⟩ := hit
      obtain ⟨o2, ho2, hc2, n2, hd2⟩ := pt
      rw [z, ho] at ho2
      cases ho2
      rw [hod] at hd2
      cases hd2
    have hae : a ≠ e := fun z => by
      obtain ⟨o2, ho2, hc2, n2, hd2⟩ := pt
      have he2 : s.heap.get? e = some _ := he
      rw [z] at ho2
      rw [ho2] at he2
      cases he2
      cases hd2
    have hlt : i < its.toArray.size := by
      have := (List.getElem?_eq_some_iff.mp hx).1
      have l := rv.length
      simp; omega
    refine turn_enumD (J := IteT X.K a) (tn := fun i h => (∃ old, IsEnum h e it ((i : Nat) : Int) old) ∧ h.IsTupleIter it a i ∧ e ≠ it) (Draws.tuple (A := X.A.in1) (I.ok.hd hc) it a hai its.toArray) I hf he ⟨hit, pt⟩ hlt hne (by simp [hne, Ne.symm hae]) (fun v hv => ?_) (fun h' old' h1 h2 => ⟨⟨old', h1⟩, h2.1, hne⟩)
    obtain ⟨u, hu, ru⟩ := rv.get hx
    have ev : v = u := by
      have : its[i]? = some v := by simpa using hv
      rw [hu] at this
      exact (Option.some.inj this).symm
    rw [ev]
    exact ⟨x, ru, fun T hT => ⟨T, x, rfl, hT, rfl, fun ys hy => by rw [I.tuple_inj hy hq]; exact hx⟩⟩
  done := by
    intro X hP hw hK hc i pins s σ H E I hf st hg
    subst hP hw hK
    obtain ⟨⟨old, he⟩, hit, hne⟩ := st
    obtain ⟨xs, hq, hx⟩ := hg
    obtain ⟨its, rv, p, hz⟩ := I.tuple hq
    have pt : s.heap.IsTuple a its.toArray := p
    obtain ⟨f0, f1, f2, f3, f4, f5⟩ := hf it (by simp)
    have hl := rv.length
    have hai : a ≠ it := fun z => by
      obtain ⟨o, ho, hoc, hod⟩ := hit
      obtain ⟨o2, ho2, hc2, n2, hd2⟩ := pt
      rw [z, ho] at ho2
      cases ho2
      rw [hod] at hd2
      cases hd2
    have D2 : Draws X.prog X.w X.A.in1 it [it, a] i (fun _ _ => False) (fun j h => h.IsTupleIter it a j ∧ h.IsTuple a its.toArray ∧ i ≤ j) := {
      live := fun _ _ st => let ⟨o, ho, _⟩ := st.1; ⟨o, ho⟩
      frame := fun _ _ _ st hk => ⟨st.1.at fun o e => hk it (by simp) o e, st.2.1.at fun o e => hk a (by simp) o e, st.2.2⟩
      item := fun j s Q E hj st _ => absurd st.2.2 (by omega)
      done := fun s Q E st hE => wpAny_nextOf_tuple_end (I.ok.hd hc) st.1 st.2.1 (by simp; omega) hE }
    refine wpAny_pyNext_enum_endD D2 he ⟨hit, pt, Nat.le_refl _⟩ fun h' eb => ⟨rfl, I.turned (t' := s.toks) (fun b o hb q => eb b o hb q) f0 f1 f3 f4 f5⟩
  self := fun A i s Q E st h => let ⟨⟨_, he⟩, _⟩ := st; wpAny_pyIter_enum he h
theorem turn_enumS {P : Program} {w : World} {K : PySem.W.Frag} {elts : List Expr} {kk : Nat} {tpos : Pos} (z : Str) (t : Tok) (e it : Addr) :
    Turn P w K (.Tuple elts kk tpos) (IteS z) [e, it] e (fun i h => (∃ old, IsEnum h e it ((i : Nat) : Int) old) ∧ h.IsStrIter it (strIterType z) z t i ∧ e ≠ it) where
  mem := by simp
  obj := fun i h st b hb => by
    obtain ⟨⟨old, he⟩, ⟨o, ho, hc, hd⟩, _⟩ := st
    have e' : b = e ∨ b = it := by simpa using hb
    rcases e' with z | z
    · rw [z]; exact ⟨_, he, fun v q => nomatch q⟩
    · rw [z]; exact ⟨o, ho, fun v q => by rw [hd] at q; cases q⟩
  keep := fun i h h' st k => let ⟨⟨old, he⟩, ⟨o, ho, r⟩, hne⟩ := st; ⟨⟨old, k e (by simp) _ he⟩, ⟨o, k it (by simp) o ho, r⟩, hne⟩
  item := by
    intro X hP hw hK hc i pins s σ H E I hf st hg
    subst hP hw hK
    obtain ⟨⟨old, he⟩, hit, hne⟩ := st
    refine turn_enumD (J := IteS z) (tn := fun i h => (∃ old, IsEnum h e it ((i : Nat) : Int) old) ∧ h.IsStrIter it (strIterType z) z t i ∧ e ≠ it) (Draws.text (A := X.A.in1) (I.ok.hd hc) it z t) I hf he hit hg hne (by simp [hne]) (fun v hv => ?_) (fun h' old' h1 h2 => ⟨⟨old', h1⟩, h2, hne⟩)
    obtain ⟨c, u, hc1, rfl⟩ := hv
    exact ⟨.str ⟨#[c]⟩, ⟨u, rfl⟩, fun T hT => ⟨T, c, rfl, hT, hc1, rfl⟩⟩
  done := by
    intro X hP hw hK hc i pins s σ H E I hf st hg
    subst hP hw hK
    obtain ⟨⟨old, he⟩, hit, hne⟩ := st
    obtain ⟨f0, f1, f2, f3, f4, f5⟩ := hf it (by simp)
    have hg' : z.cps.size ≤ i := hg
    have D2 : Draws X.prog X.w X.A.in1 it [it] i (fun _ _ => False) (fun j h => h.IsStrIter it (strIterType z) z t j ∧ i ≤ j) := {
      live := fun _ _ st => let ⟨o, ho, _⟩ := st.1; ⟨o, ho⟩
      frame := fun _ _ _ st hk => let ⟨⟨o, ho, r⟩, q⟩ := st; ⟨⟨o, hk it (by simp) o ho, r⟩, q⟩
      item := fun j s Q E hj st _ => absurd st.2 (by omega)
      done := fun s Q E st hE => by
        have st1 := st.1
        unfold strIterType at st1
        cases ha : z.cps.all (· < 128) with
        | true =>
          rw [ha] at st1
          exact wpAny_nextOf_ascii_end (I.ok.hd hc) st1 (by simp; omega) hE
        | false =>
          rw [ha] at st1
          exact wpAny_nextOf_wide_end (I.ok.hd hc) st1 (by simp; omega) hE }
    refine wpAny_pyNext_enum_endD D2 he ⟨hit, Nat.le_refl _⟩ fun h' eb => ⟨rfl, I.turned (t' := s.toks) (fun b o hb q => eb b o hb q) f0 f1 f3 f4 f5⟩
  self := fun A i s Q E st h => let ⟨⟨_, he⟩, _⟩ := st; wpAny_pyIter_enum he h
def iEnumT (K : PySem.W.Frag) (ta : TA) : TI := fun σ H R => ta σ H fun vs H1 => ∃ a xs, vs = [.ref a] ∧ SqT K H1 a xs ∧ R (IteT K a) H1
def iEnumS (ta : TA) : TI := fun σ H R => ta σ H fun vs H1 => ∃ z, vs = [.str z] ∧ R (IteS z) H1
def iEnumA (K : PySem.W.Frag) (ta : TA) : TI := fun σ H R => ta σ H fun vs H1 => ∃ a, vs = [.ref a] ∧ ((∃ xs, SqL K H1 a xs ∧ R (Ite K a) H1) ∨ (∃ xs, SqT K H1 a xs ∧ R (IteT K a) H1))
section
variable {X : Cx} {e : Expr} {ta : TA} {p pos tpos : Pos} {elts : List Expr} {kk : Nat}
theorem fp_two {pins : List (Addr × Obj)} {σ : L2.St} {H : Hp} {s : Shared} {h' : Heap} (I : Inv X pins σ H s) (J : Inv X pins σ H { s with heap := h' }) (hsz : h'.objs.size = s.heap.objs.size + 2) : ∀ b ∈ [s.heap.objs.size + 1, s.heap.objs.size], FpOk X pins H b := fun b hb => by
  have e' : b = s.heap.objs.size + 1 ∨ b = s.heap.objs.size := by simpa using hb
  have hle : s.heap.objs.size ≤ b := by
    rcases e' with z | z
    · rw [z]; exact Nat.le_add_right _ _
    · rw [z]; exact Nat.le_refl _
  exact I.fpOk hle (I.hok.fresh hle)
theorem pi_enumT (hg : Gl X "enumerate") (hm : X.mg "enumerate" = none) (ha : PA X [e] ta) (hs : starEach [e] X.env = [(false, eval e X.env)] := by rfl) :
    PI X (.Tuple elts kk tpos) (.Call (.Name "enumerate" p) [e] [] pos) (iEnumT X.K ta) := by
  refine ⟨fun pins s σ H R I h => ?_⟩
  refine Call_ (ld_blt I hg hm boot_enumerate (PyProof.Rows.callWith_type1 (thn (ha.run pos pins s σ H _ I h) fun us s1 ⟨vs, H1, I1, r1, q1⟩ => ?_) hs rfl))
  obtain ⟨a, xs, ex, hq, q⟩ := q1
  subst ex
  cases r1 with
  | cons r rr =>
    cases rr
    cases r
    obtain ⟨its, rv, p', hz⟩ := I1.tuple hq
    refine call_enum_one (begins_tuple a its.toArray) p' fun h' he hit hsz hk => wpAny_pyIter_enum he ?_
    have I2 : Inv X pins σ H1 { s1 with heap := h' } := I1.kept (t' := s1.toks) hk
    exact ⟨s1.heap.objs.size + 1, [s1.heap.objs.size + 1, s1.heap.objs.size], _, _, H1, rfl, I2, turn_enumT a (s1.heap.objs.size + 1) s1.heap.objs.size, ⟨⟨.none, he⟩, ⟨_, hit, rfl, rfl⟩, Nat.succ_ne_self _⟩, fp_two I1 I2 hsz, q⟩
theorem pi_enumS (hg : Gl X "enumerate") (hm : X.mg "enumerate" = none) (ha : PA X [e] ta) (hs : starEach [e] X.env = [(false, eval e X.env)] := by rfl) :
    PI X (.Tuple elts kk tpos) (.Call (.Name "enumerate" p) [e] [] pos) (iEnumS ta) := by
  refine ⟨fun pins s σ H R I h => ?_⟩
  refine Call_ (ld_blt I hg hm boot_enumerate (PyProof.Rows.callWith_type1 (thn (ha.run pos pins s σ H _ I h) fun us s1 ⟨vs, H1, I1, r1, q1⟩ => ?_) hs rfl))
  obtain ⟨z, ex, q⟩ := q1
  subst ex
  cases r1 with
  | cons r rr =>
    cases rr
    obtain ⟨t, rfl⟩ := r
    refine call_enum_one (begins_text z t) trivial fun h' he hit hsz hk => wpAny_pyIter_enum he ?_
    have I2 : Inv X pins σ H1 { s1 with heap := h' } := I1.kept (t' := s1.toks) hk
    exact ⟨s1.heap.objs.size + 1, [s1.heap.objs.size + 1, s1.heap.objs.size], _, _, H1, rfl, I2, turn_enumS z t (s1.heap.objs.size + 1) s1.heap.objs.size, ⟨⟨.none, he⟩, ⟨_, hit, rfl, rfl⟩, Nat.succ_ne_self _⟩, fp_two I1 I2 hsz, q⟩
theorem pi_enumA (hg : Gl X "enumerate") (hm : X.mg "enumerate" = none) (ha : PA X [e] ta) (hs : starEach [e] X.env = [(false, eval e X.env)] := by rfl) :
    PI X (.Tuple elts kk tpos) (.Call (.Name "enumerate" p) [e] [] pos) (iEnumA X.K ta) := by
  refine ⟨fun pins s σ H R I h => ?_⟩
  refine Call_ (ld_blt I hg hm boot_enumerate (PyProof.Rows.callWith_type1 (thn (ha.run pos pins s σ H _ I h) fun us s1 ⟨vs, H1, I1, r1, q1⟩ => ?_) hs rfl))
  obtain ⟨a, ex, q⟩ := q1
  subst ex
  cases r1 with
  | cons r rr =>
    cases rr
    cases r
    rcases q with ⟨xs, hq, q⟩ | ⟨xs, hq, q⟩
    · obtain ⟨its, rv, p', hz⟩ := I1.list hq
      refine call_enum_one (begins_list a its.toArray) p'.isList fun h' he hit hsz hk => wpAny_pyIter_enum he ?_
      have I2 : Inv X pins σ H1 { s1 with heap := h' } := I1.kept (t' := s1.toks) hk
      exact ⟨s1.heap.objs.size + 1, [s1.heap.objs.size + 1, s1.heap.objs.size], _, _, H1, rfl, I2, turn_enum a (s1.heap.objs.size + 1) s1.heap.objs.size, ⟨⟨.none, he⟩, ⟨_, hit, rfl, rfl⟩, Nat.succ_ne_self _⟩, fp_two I1 I2 hsz, q⟩
    · obtain ⟨its, rv, p', hz⟩ := I1.tuple hq
      refine call_enum_one (begins_tuple a its.toArray) p' fun h' he hit hsz hk => wpAny_pyIter_enum he ?_
      have I2 : Inv X pins σ H1 { s1 with heap := h' } := I1.kept (t' := s1.toks) hk
      exact ⟨s1.heap.objs.size + 1, [s1.heap.objs.size + 1, s1.heap.objs.size], _, _, H1, rfl, I2, turn_enumT a (s1.heap.objs.size + 1) s1.heap.objs.size, ⟨⟨.none, he⟩, ⟨_, hit, rfl, rfl⟩, Nat.succ_ne_self _⟩, fp_two I1 I2 hsz, q⟩
end
theorem walk_enumT {K : PySem.W.Frag} {a : Addr} {xs : List V} : Walk (IteT K a) xs.length (fun H => SqT K H a xs) (YPair (fun i => some (.int (i : Nat))) (fun i => xs[i]?)) := by
  refine ⟨fun i _ hi q => ⟨xs, xs[i], q, by simp [hi]⟩, fun _ q => ⟨xs, q, Nat.le_refl _⟩, fun i H v H' _ q y => ?_⟩
  obtain ⟨T, x, h1, h2, h3, h4⟩ := y
  exact ⟨T, .int (i : Nat), x, h1, h2, h3, rfl, h4 xs q⟩
theorem walk_enumS {z : Str} : Walk (IteS z) z.cps.size (fun _ => True) (YPair (fun i => some (.int (i : Nat))) (fun i => z.cps[i]?.map fun c => .str ⟨#[c]⟩)) := by
  refine ⟨fun i _ hi _ => hi, fun _ _ => Nat.le_refl _, fun i H v H' _ _ y => ?_⟩
  obtain ⟨T, c, h1, h2, h3, h4⟩ := y
  exact ⟨T, .int (i : Nat), .str ⟨#[c]⟩, h1, h2, h4, rfl, by simp [h3]⟩
end My
/-! an own class by signs: len, [], ~, bool, ==, !=; C( *xs) -/
namespace My
open PySem PySem.Spec PyProof.Rows L2
section
variable {X : Cx} {k : Nat} {f C : Addr} {sp : Sp} {E : XK} {pins : List (Addr × Obj)} {σ : L2.St} {H : Hp} {s : Shared} {Q : VK} {us : List Value} {vs : List V}
/-- a def's run one unit further in -/
theorem run_in1 (F : FnR X.prog X.w X.K X.mg X.base (L2.CX X.prog X.w) k f sp) (hr : Room (k + 1) X.A) (hx : Passes (L2.CX X.prog X.w) X E) (I : Inv X pins σ H s) (r : Vals vs us) (h : sp vs H Q E) :
    wpAny (model X.prog X.w) X.A.in1 (call (.ref f) us) (EP X pins σ Q) X.xe s :=
  wpAny_call (codeAny_mono (F X.A.in1 X.stack s H us vs Q E hr.in1 I.env0.in1 r h) fun r s' hq => by
    cases r with
    | error e => exact hx pins σ H s e s' I hq
    | ok fl =>
      cases fl with
      | ret u => exact I.after hq
      | next => exact hq.elim
      | brk => exact hq.elim
      | cont => exact hq.elim)
theorem run_in2 (F : FnR X.prog X.w X.K X.mg X.base (L2.CX X.prog X.w) k f sp) (hr : Room (k + 2) X.A) (hx : Passes (L2.CX X.prog X.w) X E) (I : Inv X pins σ H s) (r : Vals vs us) (h : sp vs H Q E) :
    wpAny (model X.prog X.w) X.A.in1.in1 (call (.ref f) us) (EP X pins σ Q) X.xe s :=
  wpAny_call (codeAny_mono (F X.A.in1.in1 X.stack s H us vs Q E hr.in1.in1 I.env0.in1.in1 r h) fun r s' hq => by
    cases r with
    | error e => exact hx pins σ H s e s' I hq
    | ok fl =>
      cases fl with
      | ret u => exact I.after hq
      | next => exact hq.elim
      | brk => exact hq.elim
      | cont => exact hq.elim)
/-- a method of the class at C, by its name, at f -/
structure MOf (K : PySem.W.Frag) (C : Addr) (m : Str) (f : Addr) : Prop where
  at_ : PySem.W.findIn K (.ref C) m = some (some (.ref f))
  fn : PySem.W.isFn K (.ref f) = true
theorem inst_at {a dx : Addr} {fs : List (Str × V)} (I : Inv X pins σ H s) (e : H a = some (.ins C dx fs)) : ∃ od, PySem.W.InstAt s.heap a (PySem.W.instObj C dx) C (some od) := by
  obtain ⟨mA, O, _⟩ := ins_get I.hok e
  obtain ⟨od, J, _⟩ := O.look
  exact ⟨od, J⟩
theorem rR (a : Addr) : RelV (.ref a) (.ref a) := rfl
/-- len(o) -/
theorem call_lenO (m : MOf X.K C "__len__" f) (F : FnR X.prog X.w X.K X.mg X.base (L2.CX X.prog X.w) k f sp) (hr : Room (k + 1) X.A) : CallR X (.builtin "len") (fun xs H Q => ∃ (a dx : Addr) (fs : List (Str × V)), xs = [.ref a] ∧ H a = some (.ins C dx fs) ∧
    sp [.ref a] H (fun v H' => ∃ n : Int, v = .int n ∧ 0 ≤ n ∧ n < 2 ^ 63 ∧ Q (.int n) H') E0) := by
  intro pins s σ H xs us Q I r h
  obtain ⟨a, dx, fs, rfl, ea, q⟩ := h
  obtain rfl := Vals.ref1 r
  obtain ⟨od, J⟩ := inst_at I ea
  obtain ⟨mm, hF⟩ := I.fr
  refine PySem.W.len_K hF I.ok.mod.kin J m.at_ m.fn (wpAny_mono (run_in1 F hr passL I (.cons (rR a) .nil) q) (fun u s' z => ?_) fun _ _ e => e)
  obtain ⟨v, H', I', rv, n, rfl, n0, n1, q'⟩ := z
  obtain ⟨t, rfl⟩ := rv
  exact ⟨⟨n0, n1⟩, .int n, H', I'.tok _, ⟨_, rfl⟩, q'⟩
/-- ~o -/
theorem un_invO (m : MOf X.K C "__invert__" f) (F : FnR X.prog X.w X.K X.mg X.base (L2.CX X.prog X.w) k f sp) (hr : Room k X.A) : UnR X (unaryOp .Invert) (fun x H Q => ∃ (a dx : Addr) (fs : List (Str × V)), x = .ref a ∧ H a = some (.ins C dx fs) ∧ sp [.ref a] H Q E0) := by
  intro pins s σ H x v Q I r h
  obtain ⟨a, dx, fs, rfl, ea, q⟩ := h
  obtain rfl : v = Value.ref a := r
  obtain ⟨od, J⟩ := inst_at I ea
  obtain ⟨mm, hF⟩ := I.fr
  exact PySem.W.ksp_inv hF I.ok.mod.kin J m.at_ m.fn (wpAny_call (run_fnR (E := E0) F hr passL I (.cons (rR a) .nil) q))
/-- o[e] -/
def tGetO (C : Addr) (sp : Sp) (E : XK) : R2 := fun x y H Q => ∃ (a dx : Addr) (fs : List (Str × V)), x = .ref a ∧ H a = some (.ins C dx fs) ∧ sp [.ref a, y] H Q E
theorem pe_getO {a b : Expr} {ta tb : TE} {pos : Pos} (m : MOf X.K C "__getitem__" f) (hn : PySem.W.fnIn X.K f = true) (F : FnR X.prog X.w X.K X.mg X.base (L2.CX X.prog X.w) k f sp) (hr : Room (k + 1) X.A) (hx : Passes (L2.CX X.prog X.w) X E) (ha : PE X a ta) (hb : PE X b tb)
    (hs : ∀ o i, subscripted b true o i = runValue (.builtin "lifetime.subscript" ⟨[o, i], []⟩) := by intro _ _; rfl) : PE X (.Subscript a b pos) (tOp (tGetO C sp E) ta tb) := by
  refine ⟨fun pins s σ H Q I h => ?_⟩
  refine Subscript_ (binT ha hb I h fun v u s2 x y H2 I2 rx ry q => ?_)
  obtain ⟨z, dx, fs, rfl, ea, q⟩ := q
  obtain rfl : v = Value.ref z := rx
  obtain ⟨od, J⟩ := inst_at I2 ea
  obtain ⟨mm, hF⟩ := I2.fr
  exact PySem.W.sub_K hF I2.ok.mod.kin J m.at_ hn m.fn (run_in1 F hr hx I2 (.cons (rR z) (.cons ry .nil)) q) (hs _ _)
/-- o == y, y of the class too, or a list -/
def rEqO (K : PySem.W.Frag) (C : Addr) (sp : Sp) (neg : Bool) : R2 := fun x y H Q => ∃ (a b dx : Addr) (fs : List (Str × V)), x = .ref a ∧ y = .ref b ∧ H a = some (.ins C dx fs) ∧
  ((∃ dy gs, H b = some (.ins C dy gs)) ∨ (neg = false ∧ (∃ ys, H b = some (.lst ys)) ∧ PySem.W.notFirst K C (.type "list") = true)) ∧ sp [.ref a, .ref b] H (fun v H' => ∃ c, v = .bl c ∧ Q (.bl (c != neg)) H') E0
theorem op_eqO (m : MOf X.K C "__eq__" f) (F : FnR X.prog X.w X.K X.mg X.base (L2.CX X.prog X.w) k f sp) (hr : Room k X.A) : OpR X (compareOp .Eq) (rEqO X.K C sp false) := by
  intro pins s σ H x y v u Q I rx ry h
  obtain ⟨a, b, dx, fs, rfl, rfl, ea, eb, q⟩ := h
  cases rx
  cases ry
  obtain ⟨od, J⟩ := inst_at I ea
  obtain ⟨mm, hF⟩ := I.fr
  have fin : ∀ tb, PySem.W.Looks (model X.prog X.w) s.heap (typeOf (.ref b)) tb → PySem.W.notFirst X.K C tb = true → wpAny (model X.prog X.w) X.A (compareOp .Eq (.ref a) (.ref b)) (EP X pins σ Q) X.xe s := fun tb L hn => by
    show wpAny _ _ (richCompare .Eq (.ref a) (.ref b)) _ _ _
    refine PySem.W.cmp_K (op := .Eq) (tb := tb) hr.units0 hF I.ok.mod.kin J L hn m.at_ m.fn (wpAny_mono (wpAny_call (run_fnR (E := E0) F hr passL I (.cons (rR a) (.cons (rR b) .nil)) q)) (fun w s' z => ?_) fun _ _ e => e)
    obtain ⟨v, H', I', rv, c, rfl, q'⟩ := z
    cases rv
    exact ⟨.bl c, H', I', rfl, by cases c <;> exact q'⟩
  rcases eb with ⟨dy, gs, eb⟩ | ⟨_, ⟨ys, eb⟩, hn⟩
  · obtain ⟨od', J'⟩ := inst_at I eb
    exact fin (.ref C) J'.type (by simp [PySem.W.notFirst])
  · obtain ⟨_, its, n, _, e⟩ := (show ObjOk X.prog X.w H s.heap b (.lst ys) from I.hok b _ eb)
    exact fin (.type "list") (fun A Q E s' k q => wpAny_typeOf_ref (k _ _ e) q) hn
theorem ns_some_of {K : PySem.W.Frag} {h : Heap} {N : Addr} {mg : Str → Option Value} {n : Str} {v : Value} (X : K.In h) (G : h.Ns N mg) (e : PySem.W.nsIn K N n = some (some v)) : mg n = some v := by
  obtain ⟨o, es, ep, ho, hd, _, hf⟩ := G
  unfold PySem.W.nsIn at e
  split at e
  · rename_i c d es' n' sl q
    have z := X _ _ q
    rw [ho] at z
    cases z
    cases hd
    split at e
    · rename_i en he
      cases e
      rw [← hf]
      unfold nsFind findBy
      rw [← Array.find?_toList, he]
      rfl
    · split at e <;> cases e
  · cases e
/-- o != y, both of the class -/
structure NeC (K : PySem.W.Frag) (C f : Addr) : Prop where
  ex : ∃ (nm q : Str) (N : Addr) (bs : List Value) (hdct : Bool) (sn : List Str) (sub : List Value) (ab : Bool) (col : Option Bool) (dd : Option Addr) (k0 k1 k2 k3 k5 : Option Value) (newId : String),
    K.lookup C = some (excClassObj nm q C N bs [.type "object"] hdct sn sub ab col dd k0 k1 k2 k3 k5 newId) ∧ PySem.W.nsOkIn K N = true ∧ PySem.W.nsIn K N "__eq__" = some (some (.ref f)) ∧ PySem.W.nsIn K N "__ne__" = some none
  ty : PySem.W.typeIn K (.ref f) = some (.type "function")
theorem op_neO (n : NeC X.K C f) (F : FnR X.prog X.w X.K X.mg X.base (L2.CX X.prog X.w) k f sp) (hr : Room (k + 1) X.A) : OpR X (compareOp .NotEq) (rEqO X.K C sp true) := by
  intro pins s σ H x y v u Q I rx ry h
  obtain ⟨a, b, dx, fs, rfl, rfl, ea, eb, q⟩ := h
  cases rx
  cases ry
  rcases eb with ⟨dy, gs, eb⟩ | ⟨e, _⟩
  · obtain ⟨od, J⟩ := inst_at I ea
    obtain ⟨od', J'⟩ := inst_at I eb
    have hox : s.heap.get? a = some (PySem.W.instObj C dx) := J.at_
    have hoy : s.heap.get? b = some (PySem.W.instObj C dy) := J'.at_
    obtain ⟨hp, g, d, t, os⟩ := s
    have X2 : hp.OwnEqNoNe a C f "object" [.type "object"] := by
      obtain ⟨nm, q', N, bs, hdct, sn, sub, ab, col, dd, k0, k1, k2, k3, k5, newId, hC, ok, he, hne⟩ := n.ex
      have Kh : X.K.In hp := I.kIn
      have hN : hp.Ns N (hp.nsMap N) := .of_isNs (PySem.W.isNs_of_in Kh ok)
      obtain ⟨of, hof, hoc⟩ : ∃ of, X.K.lookup f = some of ∧ of.cls = .type "function" := by
        have z : (X.K.lookup f).map (·.cls) = some (.type "function") := n.ty
        cases q : X.K.lookup f with
        | none => rw [q] at z; cases z
        | some of => rw [q] at z; exact ⟨of, rfl, Option.some.inj z⟩
      refine ⟨_, of, nm, q', N, bs, hdct, sn, sub, ab, col, dd, k0, k1, k2, k3, k5, newId, hp.nsMap N, _, hox, rfl, Kh _ _ hC, hN, ns_some_of Kh hN he, Kh _ _ hof, hoc, PySem.F.cmp_object.mro, PySem.F.cmp_object.eq.lookup, PySem.W.ns_none_of Kh hN hne⟩
    have hu : X.A.units + 1 < cLine := hu_of hr
    refine compareOp_ne_ownEq PySem.F.cmp_object X2 hoy rfl hu (wpAny_mono (run_in1 (E := E0) F hr passL I (.cons (rR a) (.cons (rR b) .nil)) q) (fun w s' z => ?_) fun _ _ e => e)
    obtain ⟨v, H', I', rv, c, rfl, q'⟩ := z
    cases rv
    exact ⟨c, rfl, .bl (!c), H', I', rfl, by cases c <;> exact q'⟩
  · cases e
/-- bool(o) -/
theorem call_bool_at {prog : Program} {w : World} {A : Around} {E : Value → Shared → Prop} {s : Shared} {x : Value} {Q : Value → Shared → Prop}
    (h : wpAny (model prog w) A.in1.in1 (truthy x) (fun b s' => Q (.bool b) s') E s) : wpAny (model prog w) A (call (.type "bool") [x]) Q E s := by
  have ft := F.called_bool
  obtain ⟨c, tl, hmro⟩ := ft.mro
  have hmade := ft.made
  have hsub := ft.sub
  refine wpAny_call (codeAny_of_tree ?_)
  show wpAny _ _ (callAny (.type "bool") _) _ _ _
  refine wpAny_pure ⟨Code.quiet_builtin _ (by decide +kernel), codeAny_builtin F.entry_type_call ?_⟩
  rw [Around.under_plain (weight_type_call_type "bool" [x] []) (units_type_call_type "bool" [x] [])]
  have h1 := ft.notType
  have h2 := ft.canCreate
  have hct := F.typeCall_bool_1 x
  repeat (any_goals (first | assumption | wp_step))
  have g : wpAny (model prog w) A.in1.in1 (Builtin.«bool.__new__» ⟨[.type "bool", x], []⟩) (fun fin s' => match fin with | .done f => wants (fun obj s₁ => s₁.TypeIs obj "bool" ∧ Q obj s₁) E (.ok f) s' | .again c' => c'.quiet = true ∧ codeAny (model prog w) A.in1 c' (wants (fun obj s₁ => s₁.TypeIs obj "bool" ∧ Q obj s₁) E) s') (fun e s' => wants (fun obj s₁ => s₁.TypeIs obj "bool" ∧ Q obj s₁) E (.error e) s') s := by
    have f1 := F.conv_sub_bool
    have h' : wpAny (model prog w) A.in1.in1 (truthy x) (fun b s' => wants (fun obj s₁ => s₁.TypeIs obj "bool" ∧ Q obj s₁) E (.ok (.ret (.bool b))) s') (fun e s' => wants (fun obj s₁ => s₁.TypeIs obj "bool" ∧ Q obj s₁) E (.error e) s') s :=
      wpAny_mono h (fun b s' q => ⟨rfl, q⟩) fun _ _ e => e
    obtain ⟨hp, g, d, tk, os⟩ := s
    repeat (any_goals (first | assumption | exact wpAny_bind (wpAny_mono h' (fun b s' q => wpAny_pure q) fun _ _ e => e) | wp_step))
  refine codeAny_mono (codeAny_call_builtin ft.plain F.entry_bool_new (wpAny_of_eq (F.newCall_bool_1 x) g)) fun r s₁ hr => ?_
  cases r with
  | error e => exact hr
  | ok fl =>
    cases fl with
    | ret obj =>
      obtain ⟨hT, hq⟩ := hr
      have hli := ft.init.lookup
      have hbi := ft.init.bind obj
      repeat (any_goals (first | assumption | wp_step))
      refine codeAny_mono (codeAny_call_builtin ft.init.plain F.entry_object_init (ft.init.check _ _ _ _ _ _ _ _ hT (F.args_object_init_2 obj x) (object_init_meets (rest := [x]) ft.init.lookup ft.made F.newNe_bool prog w A.in1 (wants (fun r s₂ => r = .none ∧ Q obj s₂) E) s₁ ⟨hT, rfl, hq⟩))) fun r₂ s₂ hr₂ => ?_
      cases r₂ with
      | error e => exact hr₂
      | ok fl₂ =>
        cases fl₂ with
        | ret r =>
          obtain ⟨rfl, hq⟩ := hr₂
          repeat (any_goals (first | assumption | wp_step))
        | _ => exact hr₂.elim
    | _ => exact hr.elim
theorem call_boolO (m : MOf X.K C "__bool__" f) (F : FnR X.prog X.w X.K X.mg X.base (L2.CX X.prog X.w) k f sp) (hr : Room (k + 2) X.A) : CallR X (.type "bool") (fun xs H Q => ∃ (a dx : Addr) (fs : List (Str × V)), xs = [.ref a] ∧ H a = some (.ins C dx fs) ∧
    sp [.ref a] H (fun v H' => ∃ b, v = .bl b ∧ Q (.bl b) H') E0) := by
  intro pins s σ H xs us Q I r h
  obtain ⟨a, dx, fs, rfl, ea, q⟩ := h
  obtain rfl := Vals.ref1 r
  obtain ⟨od, J⟩ := inst_at I ea
  obtain ⟨mm, hF⟩ := I.fr
  refine call_bool_at (PySem.W.truthy_K hF I.ok.mod.kin J m.at_ m.fn (wpAny_mono (run_in2 F hr passL I (.cons (rR a) .nil) q) (fun u s' z => ?_) fun _ _ e => e))
  obtain ⟨v, H', I', rv, b, rfl, q'⟩ := z
  cases rv
  exact ⟨.bl b, H', I', rfl, q'⟩
/-! ### C( *xs) -/
def tMakeS (K : PySem.W.Frag) (C : Addr) (sp : Sp) (E : XK) (te : TE) : TE := fun σ H Q => te σ H fun y H1 => ∃ a xs, y = V.ref a ∧ (SqT K H1 a xs ∨ SqL K H1 a xs) ∧ ∀ x dx, H1 x = Option.none → H1 dx = Option.none → dx ≠ x →
  sp (V.ref x :: xs) (upd (upd H1 dx (.own x)) x (.ins C dx [])) (fun v H2 => v = .non ∧ Q (.ref x) H2) E
theorem pe_makeS {x : Str} {e : Expr} {te : TE} {p pos sp_ : Pos} (M : Mk X.K C f) (F : FnR X.prog X.w X.K X.mg X.base (L2.CX X.prog X.w) k f sp) (hr : Room (k + 1) X.A) (hm : X.mg x = some (.ref C)) (hx : Passes (L2.CX X.prog X.w) X E) (he : PE X e te) (hg : Gl X x := by rfl) (hd : (x == ("__debug__" : Str)) = false := by decide)
    (hst : starEach [.Starred e sp_] X.env = [(true, eval e X.env)] := by rfl) : PE X (.Call (.Name x p) [.Starred e sp_] [] pos) (tMakeS X.K C sp E te) := by
  refine ⟨fun pins s σ H Q I h => ?_⟩
  refine wpAny_Call_Name_kw (ld_glob I hg hm ?_ hd)
  refine PySem.W.callWith_S (h₀ := X.base) I.ok.mod.kin M.kp (thn (he.run pins s σ H _ I h) fun v s1 ⟨y, H1, I1, ry, a, xs, ey, hxs, q⟩ => ?_) hst
  subst ey
  obtain rfl : v = Value.ref a := ry
  exact StX.star_any I1 hxs fun us s2 I2 rv => ⟨I2.kIn, StX.run_makeR M F hr hx I2 rv q⟩
/-- the class in a local name -/
theorem pe_makeSL {i : Nat} {x : Str} {e : Expr} {te : TE} {p pos sp_ : Pos} (M : Mk X.K C f) (F : FnR X.prog X.w X.K X.mg X.base (L2.CX X.prog X.w) k f sp) (hr : Room (k + 1) X.A) (hx : Passes (L2.CX X.prog X.w) X E) (he : PE X e te) (hN : X.N[i]? = some x := by rfl) (hv : Vis X.env.scope x := by first | exact Or.inl rfl | exact Or.inr (Or.inl rfl) | exact Or.inr (Or.inr rfl))
    (hdb : (x == ("__debug__" : Str)) = false := by decide) (hcd : (x == ("__classdict__" : Str)) = false := by decide)
    (hst : starEach [.Starred e sp_] X.env = [(true, eval e X.env)] := by rfl) : PE X (.Call (.Name x p) [.Starred e sp_] [] pos) (fun σ H Q => σ[i]? = some (some (.ref C)) ∧ tMakeS X.K C sp E te σ H Q) := by
  refine ⟨fun pins s σ H Q I h => ?_⟩
  obtain ⟨hs, h⟩ := h
  refine wpAny_Call_Name_kw (thn ((pe_var (pos := p) hN hv hdb hcd).run pins s σ H (fun v H1 => v = .ref C ∧ H1 = H) I ⟨.ref C, hs, rfl, rfl⟩) fun u s1 ⟨v, H1, I1, r1, q1⟩ => ?_)
  obtain ⟨rfl, rfl⟩ := q1
  cases r1
  refine PySem.W.callWith_S (h₀ := X.base) I.ok.mod.kin M.kp (thn (he.run pins s1 σ _ _ I1 h) fun v s2 ⟨y, H1, I1, ry, a, xs, ey, hxs, q⟩ => ?_) hst
  subst ey
  obtain rfl : v = Value.ref a := ry
  exact StX.star_any I1 hxs fun us s2 I2 rv => ⟨I2.kIn, StX.run_makeR M F hr hx I2 rv q⟩
/-! ### properties -/
structure PR (P : Program) (w : World) (K : PySem.W.Frag) (mg : Str → Option Value) (base : Heap) (C : Addr) (f : Str) (k : Nat) (sp : Sp) : Prop where
  ex : ∃ (p g : Addr) (fd : FuncData), PropOf K C f p g ∧ FnOk P w K mg base CX0 k g fd ["self"] sp ∧ Binds K fd ["self"] []
def tPr (C : Addr) (sp : Sp) (ta : TE) : TE := fun σ H Q => ta σ H fun x H1 => ∃ a dx fs, x = .ref a ∧ H1 a = some (.ins C dx fs) ∧ sp [.ref a] H1 Q E0
theorem pe_pr {e : Expr} {f : Str} {pos : Pos} {ta : TE} (he : PE X e ta) (c : Cls X.K C) (G : PR X.prog X.w X.K X.mg X.base C f k sp) (hr : Room (k + 1) X.A) (hab : attributeBase e f X.env (eval e X.env) = eval e X.env := by rfl) : PE X (.Attribute e f pos) (tPr C sp ta) := by
  obtain ⟨p, g, fd, hp, F, hb⟩ := G.ex
  exact pe_prop he c hp F hr hb .nil pass0 hab
end
end My
/-! the rows' text, cut again -/
namespace My
open PySem PySem.Spec PyProof.Rows L2 TL
def gt : List (List Sg) → List Nat
  | [] => []
  | [l] => l.map Sg.cp
  | l :: m :: r => l.map Sg.cp ++ 10 :: gt (m :: r)
def gtext (g : List (List Sg)) : Str := ⟨(gt g).toArray⟩
theorem cp_ne (s : Sg) : s.cp ≠ 10 := by cases s <;> decide
theorem pre10 {c : Nat} {r : List Nat} (h : c ≠ 10) : pre [10] (c :: r) = false := by
  show ((c :: r).take 1 == [10]) = false
  simp [h]
theorem pre10y {r : List Nat} : pre [10] (10 :: r) = true := by
  show ((10 :: r).take 1 == [10]) = true
  simp
theorem spl_row : ∀ (l : List Sg) (acc rest : List Nat), spl [10] 0 acc (l.map Sg.cp ++ rest) = spl [10] 0 (acc ++ l.map Sg.cp) rest
  | [], acc, rest => by simp
  | s :: l, acc, rest => by
    rw [List.map_cons, List.cons_append, spl_miss (pre10 (cp_ne s)), spl_row l]
    simp
theorem spl_gt : ∀ (l : List Sg) (r : List (List Sg)) (acc : List Nat), spl [10] 0 acc (gt (l :: r)) = (acc ++ l.map Sg.cp) :: r.map (fun m => m.map Sg.cp)
  | l, [], acc => by
    show spl [10] 0 acc (l.map Sg.cp) = _
    have h := spl_row l acc []
    rw [List.append_nil] at h
    rw [h, spl_nil] <;> rfl
  | l, m :: r, acc => by
    show spl [10] 0 acc (l.map Sg.cp ++ 10 :: gt (m :: r)) = _
    rw [spl_row, spl_hit pre10y]
    show (acc ++ l.map Sg.cp) :: spl [10] 0 [] (gt (m :: r)) = _
    rw [spl_gt m r [], List.nil_append, List.map_cons]
theorem gt_join : ∀ g : List (List Sg), (Str.join "\n" (g.map lstr)) = gtext g
  | [] => rfl
  | [l] => rfl
  | l :: m :: r => by
    have ih := gt_join (m :: r)
    show lstr l ++ ("\n" : Str) ++ Str.join "\n" ((m :: r).map lstr) = _
    rw [ih]
    show (⟨(l.map Sg.cp).toArray ++ ("\n" : Str).cps ++ (gt (m :: r)).toArray⟩ : Str) = ⟨(l.map Sg.cp ++ 10 :: gt (m :: r)).toArray⟩
    have e : ("\n" : Str).cps = #[10] := by decide +kernel
    rw [e]
    simp
theorem join_g (g : List (List Sg)) : Txt.join "\n" (g.map lstr) = gtext g := by
  show Builtin.Str.glued "\n" (g.map lstr) = _
  rw [StrLaws.glued_eq_join, gt_join]
theorem str_of_toList {x y : Str} (h : x.cps.toList = y.cps.toList) : x = y := by
  obtain ⟨a⟩ := x
  obtain ⟨b⟩ := y
  have : a = b := by
    have h2 : a.toList = b.toList := h
    exact Array.toList_inj.mp h2
  rw [this]
theorem map_tl_inj : ∀ {xs ys : List Str}, xs.map tl = ys.map tl → xs = ys
  | [], [], _ => rfl
  | [], _ :: _, h => by simp at h
  | _ :: _, [], h => by simp at h
  | x :: xs, y :: ys, h => by
    simp only [List.map_cons, List.cons.injEq] at h
    rw [str_of_toList h.1, map_tl_inj h.2]
theorem nl_kind (x : Str) : ¬ Builtin.Str.strKind x < Builtin.Str.strKind ("\n" : Str) := by
  have e : Builtin.Str.strKind ("\n" : Str) = 1 := by decide +kernel
  rw [e]
  intro h
  unfold Builtin.Str.strKind at h
  split at h
  · omega
  · split at h <;> omega
theorem split_g {g : List (List Sg)} (h : g ≠ []) : Txt.split (gtext g) "\n" = g.map lstr := by
  refine map_tl_inj ?_
  have e : tl ("\n" : Str) = [10] := by decide +kernel
  have hn : tl ("\n" : Str) ≠ [] := by rw [e]; simp
  rw [split_spl _ _ hn (nl_kind _), e]
  have eg : tl (gtext g) = gt g := by
    show (gt g).toArray.toList = gt g
    simp
  rw [eg]
  cases g with
  | nil => exact absurd rfl h
  | cons l r =>
    rw [spl_gt, List.nil_append]
    simp [lstr_toList]
theorem gt_len : ∀ (g : List (List Sg)) (w : Nat), (∀ l ∈ g, l.length ≤ w) → (gt g).length ≤ g.length * (w + 1)
  | [], w, _ => by simp [gt]
  | [l], w, h => by
    have := h l (by simp)
    show (l.map Sg.cp).length ≤ 1 * (w + 1)
    rw [List.length_map]
    omega
  | l :: m :: r, w, h => by
    have h1 := h l (by simp)
    have ih := gt_len (m :: r) w (fun x hx => h x (List.mem_cons_of_mem _ hx))
    show (l.map Sg.cp ++ 10 :: gt (m :: r)).length ≤ (r.length + 1 + 1) * (w + 1)
    rw [List.length_append, List.length_map, List.length_cons, Nat.succ_mul]
    have e : (m :: r).length = r.length + 1 := rfl
    rw [e] at ih
    omega
theorem gtext_len (g : List (List Sg)) : (gtext g).length = (gt g).length := by
  show ((gt g).toArray).size = _
  simp
theorem lines_sum (g : List (List Sg)) (w : Nat) (h : ∀ l ∈ g, l.length ≤ w) : ((g.map lstr).map (·.length)).sum ≤ g.length * w := by
  induction g with
  | nil => simp
  | cons l r ih =>
    have h1 := h l (by simp)
    have h2 := ih (fun x hx => h x (List.mem_cons_of_mem _ hx))
    simp only [List.map_cons, List.sum_cons, List.length_cons, Nat.succ_mul]
    rw [lstr_len]
    omega
theorem lines_str (g : List (List Sg)) : g.map lineV = (g.map lstr).map V.str := by
  rw [List.map_map] <;> rfl
theorem str_ext {x y : Str} (h : x.cps.toList = y.cps.toList) : x = y := str_of_toList h
theorem app_toList (x y : Str) : (x ++ y).cps.toList = x.cps.toList ++ y.cps.toList := by
  obtain ⟨a⟩ := x
  obtain ⟨b⟩ := y
  show (a ++ b).toList = _
  simp
theorem join_signs : ∀ l : List Sg, Txt.join "" (l.map Sg.str) = lstr l := fun l => by
  show Builtin.Str.glued "" (l.map Sg.str) = _
  rw [StrLaws.glued_eq_join]
  refine str_ext ?_
  rw [lstr_toList]
  have e0 : ("" : Str).cps.toList = [] := by decide +kernel
  induction l with
  | nil => decide +kernel
  | cons s r ih =>
    cases r with
    | nil => rfl
    | cons s2 r2 =>
      show (s.str ++ ("" : Str) ++ Str.join "" ((s2 :: r2).map Sg.str)).cps.toList = _
      rw [app_toList, app_toList, ih, e0]
      rfl
theorem signs_sum (l : List Sg) : ((l.map Sg.str).map (·.length)).sum = l.length := by
  induction l with
  | nil => rfl
  | cons s r ih =>
    simp only [List.map_cons, List.sum_cons, ih, List.length_cons]
    have e : s.str.length = 1 := rfl
    omega
end My
/-! data as a whole: rows, pairs, their equality -/
namespace My
open PySem PySem.Spec PyProof.Rows L2
/-- a value of this depth at most -/
structure Sh (n : Nat) (d : PyData) : Prop where
  lay : d.canLay0 = true
  dep : d.depth ≤ n
theorem Sh.mono {n m : Nat} {d : PyData} (h : Sh n d) (le : n ≤ m) : Sh m d := ⟨h.lay, Nat.le_trans h.dep le⟩
theorem Sh.shaped {n : Nat} {d : PyData} (h : Sh n d) (le : n ≤ 64) : SeqAt.shaped d = true := by
  unfold SeqAt.shaped
  rw [h.lay, decide_eq_true (Nat.le_trans h.dep le)] <;> rfl
theorem sh_int (i : Int) : Sh 0 (.int i) := ⟨by simp only [PyData.canLay0], by simp only [PyData.depth]; omega⟩
theorem sh_bool (b : Bool) : Sh 0 (.bool b) := ⟨by simp only [PyData.canLay0], by simp only [PyData.depth]; omega⟩
theorem sh_none : Sh 0 .none := ⟨by simp only [PyData.canLay0], by simp only [PyData.depth]; omega⟩
theorem sh_all {n : Nat} : ∀ {ds : List PyData}, (∀ d ∈ ds, Sh n d) → PyData.canLayAll0 ds = true ∧ PyData.depthAll ds ≤ n
  | [], _ => ⟨by simp only [PyData.canLayAll0], by simp only [PyData.depthAll]; omega⟩
  | d :: ds, h => by
    have h1 := h d (by simp)
    have h2 := sh_all (ds := ds) (fun x hx => h x (List.mem_cons_of_mem _ hx))
    refine ⟨?_, ?_⟩
    · simp only [PyData.canLayAll0, h1.lay, h2.1, Bool.and_self]
    · have a := h1.dep
      have b := h2.2
      simp only [PyData.depthAll]
      omega
theorem sh_list {n : Nat} {ds : List PyData} (h : ∀ d ∈ ds, Sh n d) : Sh (n + 1) (.list ds) := by
  have h2 := sh_all h
  exact ⟨by simp only [PyData.canLay0]; exact h2.1, by simp only [PyData.depth]; omega⟩
theorem sh_tup {n : Nat} {ds : List PyData} (h : ∀ d ∈ ds, Sh n d) : Sh (n + 1) (.tuple ds) := by
  have h2 := sh_all h
  exact ⟨by simp only [PyData.canLay0]; exact h2.1, by simp only [PyData.depth]; omega⟩
theorem strOk_of {x : Str} (h : ∀ c ∈ x.cps.toList, c < 128) : PyData.strOk x = true := by
  unfold PyData.strOk
  rw [← Array.all_toList]
  refine List.all_eq_true.mpr fun c hc => ?_
  have := h c hc
  simp
  omega
theorem sh_str {x : Str} (h : ∀ c ∈ x.cps.toList, c < 128) : Sh 0 (.str x) := ⟨by simp only [PyData.canLay0]; exact strOk_of h, by simp only [PyData.depth]; omega⟩
theorem cp_small (s : Sg) : s.cp < 128 := by cases s <;> decide
theorem sh_line (l : List Sg) : Sh 0 (.str (lstr l)) := sh_str fun c hc => by
  rw [lstr_toList] at hc
  obtain ⟨s, _, rfl⟩ := List.mem_map.mp hc
  exact cp_small s
theorem gt_small : ∀ (g : List (List Sg)) (c : Nat), c ∈ gt g → c < 128
  | [], c, h => by simp [gt] at h
  | [l], c, h => by
    have h : c ∈ l.map Sg.cp := h
    obtain ⟨s, _, rfl⟩ := List.mem_map.mp h
    exact cp_small s
  | l :: m :: r, c, h => by
    have h : c ∈ l.map Sg.cp ++ 10 :: gt (m :: r) := h
    rcases List.mem_append.mp h with h | h
    · obtain ⟨s, _, rfl⟩ := List.mem_map.mp h
      exact cp_small s
    · rcases List.mem_cons.mp h with h | h
      · omega
      · exact gt_small (m :: r) c h
theorem sh_text (g : List (List Sg)) : Sh 0 (.str (gtext g)) := sh_str fun c hc => gt_small g c (by
  have e : (gtext g).cps.toList = gt g := by
    show (gt g).toArray.toList = gt g
    simp
  rw [e] at hc
  exact hc)
def dLine (l : List Sg) : PyData := .str (lstr l)
def dPair (p : Int × Int) : PyData := .tuple [.int p.1, .int p.2]
def dRowsT (g : List (List Sg)) : PyData := .tuple (g.map dLine)
def dRowsL (g : List (List Sg)) : PyData := .list (g.map dLine)
def dPairs (ps : List (Int × Int)) : PyData := .list (ps.map dPair)
theorem sh_pair (p : Int × Int) : Sh 1 (dPair p) := sh_tup fun d hd => by
  have h : d = .int p.1 ∨ d = .int p.2 := by simpa using hd
  rcases h with rfl | rfl <;> exact sh_int _
theorem sh_map {α : Type} {n : Nat} {f : α → PyData} {xs : List α} (h : ∀ x, Sh n (f x)) : ∀ d ∈ xs.map f, Sh n d := fun d hd => by
  obtain ⟨x, _, rfl⟩ := List.mem_map.mp hd
  exact h x
theorem sh_rowsT (g : List (List Sg)) : Sh 1 (dRowsT g) := sh_tup (sh_map sh_line)
theorem sh_rowsL (g : List (List Sg)) : Sh 1 (dRowsL g) := sh_list (sh_map sh_line)
theorem sh_pairs (ps : List (Int × Int)) : Sh 2 (dPairs ps) := sh_list (sh_map sh_pair)
theorem eqvAll_map {α : Type} [DecidableEq α] {f : α → PyData} (hf : ∀ x y, PyData.eqv (f x) (f y) = decide (x = y)) : ∀ xs ys : List α, PyData.eqvAll (xs.map f) (ys.map f) = decide (xs = ys)
  | [], [] => by simp [PyData.eqvAll]
  | [], _ :: _ => by simp [PyData.eqvAll]
  | _ :: _, [] => by simp [PyData.eqvAll]
  | x :: xs, y :: ys => by
    rw [List.map_cons, List.map_cons, PyData.eqvAll, hf, eqvAll_map hf xs ys]
    by_cases h1 : x = y <;> by_cases h2 : xs = ys <;> simp [h1, h2]
theorem eqv_line (l m : List Sg) : PyData.eqv (dLine l) (dLine m) = decide (l = m) := by
  show PyData.eqv (.str (lstr l)) (.str (lstr m)) = _
  rw [PyData.eqv]
  by_cases h : l = m
  · rw [h]; simp
  · have : lstr l ≠ lstr m := fun z => h (lstr_inj z)
    simp [h, this]
theorem eqv_pair (p q : Int × Int) : PyData.eqv (dPair p) (dPair q) = decide (p = q) := by
  show PyData.eqv (.tuple [.int p.1, .int p.2]) (.tuple [.int q.1, .int q.2]) = _
  obtain ⟨a, b⟩ := p
  obtain ⟨c, d⟩ := q
  simp only [PyData.eqv, PyData.eqvAll, Bool.and_true]
  by_cases h1 : a = c <;> by_cases h2 : b = d <;> simp [h1, h2]
theorem eqv_rowsT (g h : List (List Sg)) : PyData.eqv (dRowsT g) (dRowsT h) = decide (g = h) := by
  show PyData.eqv (.tuple (g.map dLine)) (.tuple (h.map dLine)) = _
  rw [PyData.eqv, eqvAll_map eqv_line]
theorem eqv_rowsL (g h : List (List Sg)) : PyData.eqv (dRowsL g) (dRowsL h) = decide (g = h) := by
  show PyData.eqv (.list (g.map dLine)) (.list (h.map dLine)) = _
  rw [PyData.eqv, eqvAll_map eqv_line]
theorem eqv_pairs (g h : List (Int × Int)) : PyData.eqv (dPairs g) (dPairs h) = decide (g = h) := by
  show PyData.eqv (.list (g.map dPair)) (.list (h.map dPair)) = _
  rw [PyData.eqv, eqvAll_map eqv_pair]
theorem dp_lines {K : PySem.W.Frag} {H : Hp} : ∀ g : List (List Sg), DpAll K H (g.map lineV) (g.map dLine)
  | [] => .nil
  | l :: r => .cons (.str _) (dp_lines r)
theorem dp_rowsT {K : PySem.W.Frag} {H : Hp} {a : Addr} {g : List (List Sg)} (h : SqT K H a (g.map lineV)) : Dp K H (.ref a) (dRowsT g) := .tup h (dp_lines g)
theorem dp_rowsL {K : PySem.W.Frag} {H : Hp} {a : Addr} {g : List (List Sg)} (h : SqL K H a (g.map lineV)) : Dp K H (.ref a) (dRowsL g) := .lst h (dp_lines g)
theorem dp_pair {K : PySem.W.Frag} {H : Hp} {v : V} {p : Int × Int} (h : PrAt H v p) : Dp K H v (dPair p) := by
  obtain ⟨a, rfl, h⟩ := h
  exact .tup (SqT.of h) (.cons (.int _) (.cons (.int _) .nil))
theorem dp_prs {K : PySem.W.Frag} {H : Hp} : ∀ {vs : List V} {ps : List (Int × Int)}, PrsAt H vs ps → DpAll K H vs (ps.map dPair)
  | _, _, .nil => .nil
  | _, _, .cons r t => .cons (dp_pair r) (dp_prs t)
theorem dp_pairs {K : PySem.W.Frag} {H : Hp} {a : Addr} {vs : List V} {ps : List (Int × Int)} (h : SqL K H a vs) (r : PrsAt H vs ps) : Dp K H (.ref a) (dPairs ps) := .lst h (dp_prs r)
/-- all mirrors turned -/
def flipG (g : List (List Sg)) : List (List Sg) := g.map fun l => l.map Sg.turn
theorem flip_flip (g : List (List Sg)) : flipG (flipG g) = g := by
  unfold flipG
  rw [List.map_map]
  have e : ((fun l => l.map Sg.turn) ∘ fun l : List Sg => l.map Sg.turn) = id := by
    funext l
    show (l.map Sg.turn).map Sg.turn = l
    rw [List.map_map]
    have e2 : Sg.turn ∘ Sg.turn = id := by funext s; exact Sg.turn_turn s
    rw [e2, List.map_id]
  rw [e, List.map_id]
theorem lcount_flip (l : List Sg) : lcount (l.map Sg.turn) = lcount l := by
  unfold lcount
  rw [List.filter_map, List.length_map]
  have e : Sg.tur ∘ Sg.turn = Sg.tur := by funext s; exact Sg.tur_turn s
  rw [e]
theorem gcount_flip (g : List (List Sg)) : gcount (flipG g) = gcount g := by
  unfold gcount flipG
  rw [List.map_map]
  have e : (lcount ∘ fun l : List Sg => l.map Sg.turn) = lcount := by funext l; exact lcount_flip l
  rw [e]
theorem Grid.flip {m t w : Nat} {g : List (List Sg)} (G : Grid m t g w) : Grid m t (flipG g) w := by
  refine ⟨?_, ?_, G.w0, G.wm, fun l hl => ?_, by rw [gcount_flip]; exact G.tu⟩
  · unfold flipG; rw [List.length_map]; exact G.h0
  · unfold flipG; rw [List.length_map]; exact G.hm
  · obtain ⟨m, hm, rfl⟩ := List.mem_map.mp hl
    rw [List.length_map]
    exact G.ln m hm
end My
/-! a room's object -/
namespace My
open PySem PySem.Spec PyProof.Rows L2
def gw (g : List (List Sg)) : Nat := (g.getD 0 []).length
theorem Grid.gw {m t w : Nat} {g : List (List Sg)} (G : Grid m t g w) : My.gw g = w := by
  cases g with
  | nil => exact absurd G.h0 (by simp)
  | cons l r => exact G.ln l (by simp)
def rfs (t pl : Addr) : List (Str × V) := putF "_places" (.ref pl) (putF "_rows" (.ref t) [])
theorem rp_ : ¬ (("_rows" : Str) = "_places") := by decide +kernel
theorem rfs_rows (t pl : Addr) : (rfs t pl).lookup ("_rows" : Str) = some (.ref t) := by
  unfold rfs
  rw [lookup_putF, if_neg rp_, lookup_putF, if_pos rfl]
theorem rfs_places (t pl : Addr) : (rfs t pl).lookup ("_places" : Str) = some (.ref pl) := by
  unfold rfs
  rw [lookup_putF, if_pos rfl]
/-- a room at x, its rows g -/
def RoomAt (C : Addr) (H : Hp) (x : Addr) (g : List (List Sg)) : Prop :=
  ∃ (dx t pl : Addr) (ws : List V), H x = some (.ins C dx (rfs t pl)) ∧ H t = some (.tup (g.map lineV)) ∧ H pl = some (.lst ws) ∧ PrsAt H ws (places g.length (gw g))
theorem RoomAt.same {C : Addr} {H H' : Hp} {x : Addr} {g : List (List Sg)} (r : RoomAt C H x g) (s : Same H H') : RoomAt C H' x g :=
  let ⟨dx, t, pl, ws, h1, h2, h3, h4⟩ := r
  ⟨dx, t, pl, ws, s _ _ h1, s _ _ h2, s _ _ h3, h4.tx (Tx.of s)⟩
/-- what is new, and the tuples -/
def Nw (H H' : Hp) : Hp := fun b => match H b with
  | none => H' b
  | some _ => match H' b with
    | some (.tup xs) => some (.tup xs)
    | _ => none
theorem nw_new {H H' : Hp} {b : Addr} (h : H b = none) : Nw H H' b = H' b := by
  unfold Nw
  rw [h]
theorem nw_tup {H H' : Hp} {b : Addr} {xs : List V} (h : H' b = some (.tup xs)) : Nw H H' b = some (.tup xs) := by
  unfold Nw
  cases H b with
  | none => exact h
  | some o =>
    dsimp only
    rw [h]
theorem nw_some {H H' : Hp} {b : Addr} {o : HO} (h : Nw H H' b = some o) : H' b = some o ∧ (H b = none ∨ ∃ xs, o = .tup xs) := by
  unfold Nw at h
  cases e : H b with
  | none =>
    rw [e] at h
    exact ⟨h, .inl rfl⟩
  | some u =>
    rw [e] at h
    dsimp only at h
    split at h
    · rename_i xs z
      cases h
      exact ⟨z, .inr ⟨xs, rfl⟩⟩
    · cases h
theorem nw_sub (H H' : Hp) : Same (Nw H H') H' := fun b o h => (nw_some h).1
theorem nw_mono {H0 H H' H2 : Hp} (s : Same H0 H) (t : Same H' H2) : Same (Nw H H') (Nw H0 H2) := fun b o h => by
  obtain ⟨h1, h2⟩ := nw_some h
  rcases h2 with z | ⟨xs, rfl⟩
  · rw [nw_new (s.free z)]
    exact t _ _ h1
  · exact nw_tup (t _ _ h1)
/-- a room that is new, but for tuples -/
def RoomN (C : Addr) (H H' : Hp) (x : Addr) (g : List (List Sg)) : Prop := RoomAt C (Nw H H') x g
theorem RoomN.at_ {C : Addr} {H H' : Hp} {x : Addr} {g : List (List Sg)} (r : RoomN C H H' x g) : RoomAt C H' x g := RoomAt.same r (nw_sub H H')
theorem RoomN.mono {C : Addr} {H0 H H' H2 : Hp} {x : Addr} {g : List (List Sg)} (r : RoomN C H H' x g) (s : Same H0 H) (t : Same H' H2) : RoomN C H0 H2 x g := RoomAt.same r (nw_mono s t)
theorem RoomAt.ins {C : Addr} {H : Hp} {x : Addr} {g : List (List Sg)} (r : RoomAt C H x g) : ∃ dx fs, H x = some (.ins C dx fs) := let ⟨dx, t, pl, ws, h1, _⟩ := r; ⟨dx, _, h1⟩
end My
/-! caught errors; a lambda's call within a try; list.count; what is never reached -/
namespace My
open PySem PySem.Spec PyProof.Rows L2
section
variable {X : Cx}
/-- never reached -/
theorem pe_no {e : Expr} : PE X e (fun _ _ _ => False) := ⟨fun _ _ _ _ _ _ h => h.elim⟩
theorem ps_no {st : Stmt} : PS X st (fun _ _ _ => False) := ⟨fun _ _ _ _ _ _ h => h.elim⟩
/-- isinstance(e, c), the error's class read off -/
def rIsX (K : PySem.W.Frag) (cls : Value) (d : Option Addr) (a : Addr) : List V → Hp → VK → Prop := fun xs H Q =>
  ∃ D, cls = .ref D ∧ (d = none ∨ ∃ dd fs, d = some dd ∧ H dd = some (.xd fs)) ∧ ExcC K D ∧ rIsE K D a xs H Q
theorem call_isX {a : Addr} {oe : Obj} {pn : List (Addr × Obj)} {cls : Value} {d : Option Addr} (hz : Zc cls d oe) (hf : ∃ vs, oe.data = .fields vs) : CallR (X.suite a ((a, oe) :: pn)) (.builtin "isinstance") (rIsX X.K cls d a) := by
  intro pins s σ H xs us Q I r h
  obtain ⟨D, rfl, hd, C, h⟩ := h
  rcases hd with rfl | ⟨dd, fs, rfl, hx⟩
  · exact call_isE C hz hf pins s σ H xs us Q I r h
  · obtain ⟨c, cv, b, rfl, hcv, e, q⟩ := h
    match us, r with
    | [ux, ut], .cons rx (.cons rt .nil) =>
      cases rx
      obtain rfl := hcv _ rt
      obtain ⟨ha, _⟩ := I.pin (a, oe) (List.mem_append_left _ List.mem_cons_self)
      obtain ⟨vs, hv⟩ := hf
      obtain ⟨mA, hns, _⟩ : ObjOk X.prog X.w H s.heap dd (.xd fs) := I.hok dd _ hx
      obtain ⟨od, ho, _⟩ := lookIn_ns hns
      have J : PySem.W.InstAt s.heap a oe D (some od) := ⟨ha, hz.1, by unfold PySem.W.notCls; rw [hv] <;> rfl, by rw [hz.2]; exact ho⟩
      have hcl : (PySem.W.clsIn X.K D).isSome = true := by
        obtain ⟨cd, hc, _⟩ := PySem.W.any_some C.hd
        rw [hc] <;> rfl
      exact PySem.W.kia_one (PySem.W.kitx_exc (od := some od) hcl C.hg C.hk C.hs C.ha C.hn C.ht C.hm) I.kIn J e (fun z => nomatch z) fun tk => ⟨.bl b, H, I.kept (t' := tk) fun _ _ z => z, rfl, q⟩
/-- l.count(y), flat items -/
def rCount (K : PySem.W.Frag) : V → List V → Hp → VK → Prop := fun x xs H Q => ∃ (a : Addr) (ys : List V) (y : V), x = V.ref a ∧ xs = [y] ∧ SqL K H a ys ∧ flatV y = true ∧ ys.all flatV = true ∧ Q (.int (ys.countP (fun z => eqV z y) : Nat)) H
theorem countP_eqU {y : V} : ∀ {ys : List V} {us : List Value}, Vals ys us → ys.all flatV = true → us.countP (eqU y) = ys.countP (fun z => eqV z y)
  | _, _, .nil, _ => rfl
  | z :: ys, u :: us, .cons r t, f => by
    have f' : flatV z = true ∧ ys.all flatV = true := by simpa using f
    rw [List.countP_cons, List.countP_cons, eqU_of r f'.1, countP_eqU t f'.2]
theorem mt_countL : MtR X "list.count" (rCount X.K) := by
  intro pins s σ H x xs v us Q I rx rxs h
  obtain ⟨a, ys, y, rfl, rfl, hs, fy, fys, q⟩ := h
  cases rx
  cases rxs with
  | cons ry rt =>
    rename_i uy ut
    cases rt
    obtain ⟨its, rv, ⟨⟨cls, dd, data, sl⟩, n, ho, hc, hdn, hd⟩, hlen⟩ := I.list hs
    simp only at hc hd
    subst hc hd
    have m := SeqAt.list_countAt a its.toArray n dd sl uy (eqU y)
    refine call_meets PySem.F.slot_list_count ⟨_, ho, rfl⟩ PySem.F.entry_list_count (PySem.F.args_list_count_2 _ _) m ⟨ho, fun w hw => mem_eqAt ry fy rv fys w (by simpa using hw), ?_⟩
    have e : its.toArray.toList.countP (eqU y) = ys.countP (fun z => eqV z y) := countP_eqU rv fys
    rw [e]
    exact ⟨.int _, H, I.tok _, ⟨_, rfl⟩, q⟩
/-- rules that name the kept part by itself (for an except suite, whose reading may not name its context) -/
theorem mt_countK {K : PySem.W.Frag} (hK : X.K = K) : MtR X "list.count" (rCount K) := by subst hK; exact mt_countL
theorem mt_indexK {K : PySem.W.Frag} (hK : X.K = K) : MtR X "list.index" (rIndex K) := by subst hK; exact mt_index
theorem ix_listK {K : PySem.W.Frag} (hK : X.K = K) : IxR X (rIxL K) := by subst hK; exact ix_list
theorem pe_bmK {K : PySem.W.Frag} {o e : Expr} {es : List Expr} {to : TE} {t : TA} {name : Str} {apos cpos : Pos} {T id : String} {r : V → List V → Hp → VK → Prop} (hK : X.K = K) (pa : PlainAttrs T) (slot : Slot T name id) (hty : typeOf (.builtin id) = pure (.type "method_descriptor")) (hm : MtR X id r) (ho : PE X o to) (ha : PA X (e :: es) t)
    (hbase : attributeBase o name X.env (eval o X.env) = eval o X.env := by rfl)
    (hfew : ((backTo cpos (starEach (e :: es) X.env)).all (fun x => !x.1) && (backToKw cpos (keywordEach [] X.env)).all (fun x => x.1.isSome) && decide ((e :: es).length + ([] : List Keyword).length + (if ([] : List Keyword).isEmpty then 0 else 1) < 30)) = true := by rfl)
    (hline : (apos.endLine == cpos.line) = true := by rfl) (hs : starEach (e :: es) X.env = (false, eval e X.env) :: starEach es X.env := by rfl) (hplain : (backTo cpos (starEach es X.env)).any (·.1) = false := by rfl) : PE X (.Call (.Attribute o name apos) (e :: es) [] cpos) (tBM K T r to t) := by
  subst hK
  exact pe_bm pa slot hty hm ho ha hbase hfew hline hs hplain
/-- the frame has its slots when an exception comes -/
theorem takes_len {W : WX} (t : Takes X W) : Takes X (fun cls d σ H => σ.length = X.N.length → W cls d σ H) := fun u s' x => by
  obtain ⟨a, B, sI, pins, σ, H, cls, d, h1, I, h2, h3, h4, h5, h6, h7, w⟩ := x
  exact t u s' ⟨a, B, sI, pins, σ, H, cls, d, h1, I, h2, h3, h4, h5, h6, h7, w I.len⟩
theorem five {α : Type} {l : List α} (h : l.length = 5) : ∃ a b c d e, l = [a, b, c, d, e] := by
  match l, h with
  | [a, b, c, d, e], _ => exact ⟨a, b, c, d, e, rfl⟩
/-- a(), within a try -/
theorem ps_act {Z : Cx} {a q : Str} {f c' : Addr} {W : WX} {tl : XK → Hp → VK → Prop} {p1 p2 p3 : Pos}
    (act : ∀ (E : XK), (∀ cls d σ' H', E cls d H' → σ'.length = Z.N.length → W cls d σ' H') → PE Z (.Call (.Name a p1) [] [] p2) (fun σZ HZ Q => σZ[0]? = some (some (.ref f)) ∧ HZ c' = some (LamX.CodeO c' q) ∧ tl E HZ Q)) :
    PS Z (.Expr (.Call (.Name a p1) [] [] p2) p3) (fun D σ H => ∃ E : XK, (∀ cls d σ' H', E cls d H' → σ'.length = Z.N.length → W cls d σ' H') ∧ σ[0]? = some (some (.ref f)) ∧ H c' = some (LamX.CodeO c' q) ∧ tl E H (fun _ H' => D.nx σ H')) := by
  refine ⟨fun pins s σ H D I h => ?_⟩
  obtain ⟨E, hW, h1, h2, h3⟩ := h
  exact (ps_expr (pos := p3) (act E hW)).run pins s σ H D I ⟨h1, h2, h3⟩
end
end My
/-! [e for x in l] where e wants a token to be out -/
namespace My
open PySem PySem.Spec PyProof.Rows L2
theorem carry {α : Type} {M : Model} {A : Around} {m : Sem α} {E : Value → Shared → Prop} {s : Shared} {P R : α → Shared → Prop} (ht : 1 ≤ s.toks) (hm : wpAny M A m P (fun _ _ => False) s) (hR : ∀ a u, 1 ≤ u.toks → P a u → R a u) : wpAny M A m R E s :=
  wpAny_mono (PySem.wpAny_toks_of ht hm) (fun a u p => hR a u p.1 p.2) fun _ _ p => p.2.elim
theorem carryE {α : Type} {M : Model} {A : Around} {m : Sem α} {E : Value → Shared → Prop} {s : Shared} {P R : α → Shared → Prop} (ht : 1 ≤ s.toks) (hm : wpAny M A m P E s) (hR : ∀ a u, 1 ≤ u.toks → P a u → R a u) : wpAny M A m R E s :=
  wpAny_mono (PySem.wpAny_toks_of ht hm) (fun a u p => hR a u p.1 p.2) fun _ _ p => p.2
section
variable {X : Cx}
theorem pet_lc {elt tg iter : Expr} {scope : Scope} {own : List (Str × Nat)} {pos : Pos} {wi : TI} {g : TG} {te : TE} (calm : X.calm = true) (nd : X.N.Nodup) (pi : PI X tg iter wi) (bk : BlkOk X.N X.env.scope scope own)
    (pg : ∀ (u : Shared) (G : Hp) (C : Addr) (cl : List (Str × Addr)) (fp : List Addr), PG (X.blk u G scope (compEnvC scope cl C X.env) fp) tg g) (pe : ∀ (u : Shared) (G : Hp) (C : Addr) (cl : List (Str × Addr)) (fp : List Addr), PET (X.blk u G scope (compEnvC scope cl C X.env) fp) elt te)
    (fs : ∀ x, foldedSetIterable iter X.env x = pure x := by intro _; rfl) : PET X (.ListComp elt [⟨tg, iter, [], 0⟩] scope pos) (tLc wi g tYes te (own.map (·.2))) := by
  intro pins s σ H Q ht J h
  rw [eval_ListComp]
  have caps : ∀ y ∈ scope.names, y.2 = .free → ∃ c, X.env.cells.lookup y.1 = some c := fun y hy e => J.ok.has _ (bk.free y hy e)
  refine wpAny_comprehension_free (use := none) rfl fs (closure_ok caps) bk.kind (fun y hy e => by rw [bk.uniq y hy, e]) (carryE ht (pi.run pins s σ H _ J h) fun xv sA tA hA => carryE tA hA fun itv sB tB hB => ?_)
  obtain ⟨it, fp, tn, W0, HB, rfl, JB, T, stB, fB, q⟩ := hB
  refine wpAny_newObj_type (newEnv_comp ?_) (by show 0 ≤ sizeLine; decide)
  generalize eD : sB.heap.objs.size = D
  obtain ⟨W, ⟨m0, w0⟩, turn⟩ := q D (JB.hok.fresh (Nat.le_of_eq eD))
  have hC : ({ sB with heap := sB.heap.push { cls := .type "list", data := .seq ([] : List Value).toArray } } : Shared).heap = sB.heap.push { cls := .type "list", data := .seq ([] : List Value).toArray } := rfl
  have tC : 1 ≤ ({ sB with heap := sB.heap.push { cls := .type "list", data := .seq ([] : List Value).toArray } } : Shared).toks := tB
  have JC : Inv X pins σ (upd HB D (.lst [])) ({ sB with heap := sB.heap.push { cls := .type "list", data := .seq ([] : List Value).toArray } } : Shared) := by
    refine JB.laid (t' := sB.toks) (fun b o e => Heap.get?_push_of_some _ e) (Nat.le_of_eq eD) ⟨Nat.zero_le _, [], 0, .nil, ?_⟩
    subst eD
    exact Heap.get?_push_size _ rfl
  generalize ({ sB with heap := sB.heap.push { cls := .type "list", data := .seq ([] : List Value).toArray } } : Shared) = sC at hC tC JC ⊢
  have keepC : ∀ b o, sB.heap.get? b = some o → sC.heap.get? b = some o := fun b o e => by rw [hC]; exact Heap.get?_push_of_some _ e
  have fC : ∀ b ∈ fp, FpOk X pins (upd HB D (.lst [])) b ∧ b < sC.heap.objs.size := fun b hb => by
    obtain ⟨o, e, _⟩ := T.obj _ _ stB b hb
    have lt := Heap.lt_size e
    refine ⟨⟨?_, (fB b hb).2⟩, by rw [hC, Heap.size_push]; exact Nat.lt_succ_of_lt lt⟩
    rw [upd_ne (by rw [← eD]; exact Nat.ne_of_lt lt)]
    exact (fB b hb).1
  have stC : tn 0 sC.heap := T.keep _ _ _ stB fun b _ o e => keepC b o e
  have JD := block_start JC bk nd fC
  have tD : 1 ≤ ({ sC with heap := pushCells (sC.heap.push { cls := .type "dict", data := .dict #[] }) scope.names } : Shared).toks := tC
  have stD : tn 0 ({ sC with heap := pushCells (sC.heap.push { cls := .type "dict", data := .dict #[] }) scope.names } : Shared).heap := T.keep _ _ _ stC fun b _ o e => pushCells_keeps _ _ _ _ (Heap.get?_push_of_some _ e)
  have rg := pg sC (upd HB D (.lst [])) sC.heap.objs.size (cellsFrom (sC.heap.objs.size + 1) scope.names (cloFrom X.env.cells scope.names [])) fp
  have re := pe sC (upd HB D (.lst [])) sC.heap.objs.size (cellsFrom (sC.heap.objs.size + 1) scope.names (cloFrom X.env.cells scope.names [])) fp
  have freeC : ∀ b ∈ fp, (upd HB D (.lst [])) b = none := fun b hb => (fC b hb).1.1
  have eL : (compEnvC scope (cellsFrom (sC.heap.objs.size + 1) scope.names (cloFrom X.env.cells scope.names [])) sC.heap.objs.size X.env).locals = sC.heap.objs.size := rfl
  show codeAny _ _ (.compStart (.ListComp elt [⟨tg, iter, [], 0⟩] scope pos) 0 (.ref it) (.ref D) (compEnvC scope (cellsFrom (sC.heap.objs.size + 1) scope.names (cloFrom X.env.cells scope.names [])) sC.heap.objs.size X.env)) _ ({ sC with heap := pushCells (sC.heap.push { cls := .type "dict", data := .dict #[] }) scope.names } : Shared)
  generalize compEnvC scope (cellsFrom (sC.heap.objs.size + 1) scope.names (cloFrom X.env.cells scope.names [])) sC.heap.objs.size X.env = ce at JD rg re eL ⊢
  generalize upd HB D (.lst []) = HC at JC JD rg re w0 freeC fC
  generalize ({ sC with heap := pushCells (sC.heap.push { cls := .type "dict", data := .dict #[] }) scope.names } : Shared) = sD at JD tD stD ⊢
  have fpo : ∀ {τ : L2.St} {G : Hp} {u : Shared}, Inv (X.blk sC HC scope ce fp) [] τ G u → (∀ b ∈ fp, G b = none) → ∀ b ∈ fp, FpOk (X.blk sC HC scope ce fp) [] G b := fun {τ G u} K n b hb =>
    ⟨n b hb, (K.ok.exf b hb).1, K.ok.exfs b hb, .inl hb, fun x c e => (K.ok.exf b hb).2 x c e, fun p hp => absurd (show p ∈ ([] : List (Addr × Obj)) ++ [] from hp) (by simp)⟩
  have loop : codeAny (model X.prog X.w) X.A (.compLoop (.ListComp elt [⟨tg, iter, [], 0⟩] scope pos) 0 (.ref it) (.ref D) ce) (compPost (model X.prog X.w) X.A X.xe none (EP X pins σ Q) (.ref D) sC.heap.objs.size) sD := by
    refine compLoop_any (fun n u => 1 ≤ u.toks ∧ ∃ i G, Inv (X.blk sC HC scope ce fp) [] (wipe σ (own.map (·.2))) G u ∧ tn i u.heap ∧ (∀ b ∈ fp, G b = none) ∧ W i n G) ?_ m0 ⟨tD, 0, HC, JD, stD, freeC, w0⟩
    rintro n s5 ⟨t5, i, G5, J5, st5, n5, w5⟩
    rcases turn i n G5 w5 with ⟨stop, done⟩ | ⟨go, Nx, hNx, step⟩
    · refine carry t5 (T.done (X.blk sC HC scope ce fp) rfl rfl rfl calm i [] s5 _ G5 (fun _ _ => False) J5 (fpo J5 n5) st5 stop) fun r s6 _ ⟨hr, J6⟩ => ?_
      subst hr
      have back : Inv X pins σ G5 s6 := JC.call' (ch := fp) J6.os J6.base J6.hok J6.bare fun b hb => ⟨(fC b hb).1.2.2.2.1, (fC b hb).1.2.1, (fC b hb).1.2.2.2.2.1, (fC b hb).1.2.2.2.2.2⟩
      have nC : G5 sC.heap.objs.size = none := by rw [← eL]; exact J6.free
      obtain ⟨m, hn, _⟩ := J6.loc
      have hn : s6.heap.Ns ce.locals m := hn
      rw [eL] at hn
      obtain ⟨f0, f1, f2, f3, f4, f5⟩ := JC.fpOk (Nat.le_refl _) nC
      exact ⟨m, hn, fun h'' sb => ⟨.ref D, G5, back.turned (t' := s6.toks) (fun b o hb e => (sb.2 b hb).trans e) f0 f1 f3 f4 f5, rfl, done⟩⟩
    · refine carry t5 (T.item (X.blk sC HC scope ce fp) rfl rfl rfl calm i [] s5 _ G5 (fun _ _ => False) J5 (fpo J5 n5) st5 go) fun r s6 t6 ⟨v, hr, h6⟩ => ?_
      subst hr
      refine carry t6 h6 fun _ s7 t7 ⟨x, G7, J7, r7, y7, st7, n7⟩ => ?_
      refine carry t7 (rg.run _ s7 _ G7 x v _ (J7.pinned (fpo J7 n7) (T.obj _ _ st7)) r7 (step x G7 y7)) fun _ s8 t8 ⟨τ, G8, J8, hw, q8⟩ => ?_
      refine wpAny_tests_nil ?_
      rw [if_pos rfl]
      have q8 : te τ G8 fun y H4 => ∃ acc, H4 D = some (.lst acc) ∧ acc.length < sizeLine ∧ Nx (upd H4 D (.lst (acc ++ [y]))) := by simpa [tYes] using q8
      refine carry t8 (re _ s8 τ G8 _ t8 J8 q8) fun z s9 t9 ⟨y, G9, J9, r9, acc, hD, hz, nx⟩ => ?_
      refine carry (P := fun _ u => Inv (X.blk sC HC scope ce fp) ([] ++ pinsAt fp s7.heap) τ (upd G9 D (.lst (acc ++ [y]))) u) t9 (app_ok (X := X.blk sC HC scope ce fp) J9 hD hz r9 fun s10 J10 => J10) fun _ s10 t10 J10 => ?_
      obtain ⟨m', hm, w'⟩ := hNx _ nx
      have pin : ∀ b ∈ fp, ∀ o, s7.heap.get? b = some o → s10.heap.get? b = some o ∧ (upd G9 D (.lst (acc ++ [y]))) b = none := fun b hb o e =>
        let k := J10.pin (b, o) (List.mem_append_right _ (List.mem_append_right _ (mem_pinsAt hb e)))
        ⟨k.1, k.2.1⟩
      refine ⟨m', hm, t10, i + 1, _, (J10.unpinned (pins := [])).weak (by rw [← hw, wipe_length]) (fun j a e => ?_), T.keep _ _ _ st7 fun b hb o e => (pin b hb o e).1, fun b hb => ?_, w'⟩
      · rw [← hw] at e
        exact (wipe_some e).1
      · obtain ⟨o, e, _⟩ := T.obj _ _ st7 b hb
        exact (pin b hb o e).2
  exact codeAny_compStart_list loop (T.self X.A 0 _ _ _ stD loop)
end
end My
/-! one sign for another -/
namespace My
open PySem PySem.Spec PyProof.Rows L2
def sub1 (c d : Nat) (k : Nat) : Nat := if k = c then d else k
theorem sub1_free (c d : Nat) : ∀ l : List Nat, c ∉ l → l.map (sub1 c d) = l
  | [], _ => rfl
  | k :: r, h => by
    have e : sub1 c d k = k := if_neg fun z => h (by rw [z]; exact List.mem_cons_self)
    rw [List.map_cons, e, sub1_free c d r fun m => h (List.mem_cons_of_mem _ m)]
theorem sub1_parts (c d : Nat) : ∀ l : List Str, (∀ p ∈ l, c ∉ p.cps.toList) → (Str.join ⟨#[c]⟩ l).cps.toList.map (sub1 c d) = (Str.join ⟨#[d]⟩ l).cps.toList
  | [], _ => rfl
  | [p], h => sub1_free c d _ (h p List.mem_cons_self)
  | p :: q :: r, h => by
    have e1 : (Str.join ⟨#[c]⟩ (p :: q :: r)).cps.toList = p.cps.toList ++ [c] ++ (Str.join ⟨#[c]⟩ (q :: r)).cps.toList := by
      show (p ++ ⟨#[c]⟩ ++ Str.join ⟨#[c]⟩ (q :: r)).cps.toList = _
      simp only [Str.cps_append, Array.toList_append]
    have e2 : (Str.join ⟨#[d]⟩ (p :: q :: r)).cps.toList = p.cps.toList ++ [d] ++ (Str.join ⟨#[d]⟩ (q :: r)).cps.toList := by
      show (p ++ ⟨#[d]⟩ ++ Str.join ⟨#[d]⟩ (q :: r)).cps.toList = _
      simp only [Str.cps_append, Array.toList_append]
    have e3 : [c].map (sub1 c d) = [d] := by simp [sub1]
    rw [e1, e2, List.map_append, List.map_append, e3, sub1_free c d _ (h p List.mem_cons_self), sub1_parts c d (q :: r) fun a m => h a (List.mem_cons_of_mem _ m)]
theorem replace_sub1 (x : Str) (c d : Nat) : (Txt.replace x ⟨#[c]⟩ ⟨#[d]⟩).cps.toList = x.cps.toList.map (sub1 c d) := by
  rw [StrLaws.replace_one, ← sub1_parts c d _ (StrLaws.split_free x c), StrLaws.join_split]
theorem replace_len1 (x : Str) (c d : Nat) : (Txt.replace x ⟨#[c]⟩ ⟨#[d]⟩).length = x.length := by
  have h := congrArg List.length (replace_sub1 x c d)
  simp only [List.length_map, Array.length_toList] at h
  exact h
theorem rep_rx (x : Str) : (Txt.replace x "r" "x").length = x.length := replace_len1 x 114 120
theorem rep_fr (x : Str) : (Txt.replace x "f" "r").length = x.length := replace_len1 x 102 114
theorem rep_room {n : Nat} {z : Str} (h : n ≤ 100) (hz : z.length = 1) : n + (n + 1) * z.length ≤ 16777216 := by
  rw [hz]
  omega
/-- r for f and f for r -/
theorem replace_turn (l : List Sg) : Txt.replace (Txt.replace (Txt.replace (lstr l) "r" "x") "f" "r") "x" "f" = lstr (l.map Sg.turn) := by
  have h : (Txt.replace (Txt.replace (Txt.replace (lstr l) ⟨#[114]⟩ ⟨#[120]⟩) ⟨#[102]⟩ ⟨#[114]⟩) ⟨#[120]⟩ ⟨#[102]⟩).cps.toList = (lstr (l.map Sg.turn)).cps.toList := by
    rw [replace_sub1, replace_sub1, replace_sub1, lstr_toList, lstr_toList]
    simp only [List.map_map]
    refine List.map_congr_left fun s _ => ?_
    cases s <;> decide
  have e1 : ("r" : Str) = ⟨#[114]⟩ := by decide +kernel
  have e2 : ("x" : Str) = ⟨#[120]⟩ := by decide +kernel
  have e3 : ("f" : Str) = ⟨#[102]⟩ := by decide +kernel
  rw [e1, e2, e3]
  have ha := Array.toList_inj.mp h
  exact congrArg Str.mk ha
end My
namespace My
open PySem PySem.Spec PyProof.Rows L2
/-- a property whose getter may call what lets errors out -/
structure PRX (P : Program) (w : World) (K : PySem.W.Frag) (mg : Str → Option Value) (base : Heap) (C : Addr) (f : Str) (k : Nat) (sp : Sp) : Prop where
  ex : ∃ (p g : Addr) (fd : FuncData), PropOf K C f p g ∧ FnOk P w K mg base (L2.CX P w) k g fd ["self"] sp ∧ Binds K fd ["self"] []
section
variable {X : Cx} {k : Nat} {C : Addr} {sp : Sp}
theorem pe_prX {e : Expr} {f : Str} {pos : Pos} {ta : TE} (he : PE X e ta) (c : Cls X.K C) (G : PRX X.prog X.w X.K X.mg X.base C f k sp) (hr : Room (k + 1) X.A) (hab : attributeBase e f X.env (eval e X.env) = eval e X.env := by rfl) : PE X (.Attribute e f pos) (tPr C sp ta) := by
  obtain ⟨p, g, fd, hp, F, hb⟩ := G.ex
  exact pe_prop he c hp F hr hb .nil passL hab
end
theorem fun_of {K : PySem.W.Frag} {x q : Str} {st : Stmt} {f : Addr} {fd : FuncData} (F : FunD K x q (defArgs st) (defBody st) (defScope st) [] [] f fd) : Fun K x q st f fd := by
  obtain ⟨oc, od, dV, kV, doc, pm, an, cdv, ct, osl, e, lk, hcd, hD, hK⟩ := F.ex
  rcases hD with ⟨_, rfl⟩ | ⟨z, _⟩
  · exact ⟨⟨oc, od, kV, doc, pm, an, cdv, ct, osl, e, lk, hcd⟩, F.kp⟩
  · exact absurd rfl z
/-- a table, beside a list that changes -/
theorem tab_kp {H H' : Hp} {P a : Addr} {q : Str} (t : LamX.TabS H P q) (hP : P ≠ a) (hc : ∀ c, H a ≠ some (LamX.CodeO c q)) (k : ∀ b o, b ≠ a → H b = some o → H' b = some o) : LamX.TabS H' P q := by
  obtain ⟨ps, h1, h2, h3⟩ := t
  refine ⟨ps, k _ _ hP h1, h2, fun pos cv h => ?_⟩
  obtain ⟨c, e, h4⟩ := h3 pos cv h
  exact ⟨c, e, k _ _ (fun z => hc c (by rw [← z]; exact h4)) h4⟩
end My
/-! the top's run as one equation: the defs, getters and class methods too; what else is looked at -/
namespace My
open PySem PySem.Spec PyProof.Rows L2
def fnAt (K : PySem.W.Frag) (a : Addr) : He.FnW := match K.lookup a with
  | some o => (match o.data with
    | .func x => some (x.name, x.qualname, x.params, x.body, x.scope, x.globals, x.closure, x.builtins)
    | _ => none)
  | none => none
/-- a def: where its function stands, its two names, its statement -/
structure GetD where
  ad : PySem.W.Frag → Addr
  name : Str
  qual : Str
  st : Stmt
def GetD.val (d : GetD) : He.FnW := some (d.name, d.qual, defArgs d.st, .stmts (defBody d.st), defScope d.st, mainGlobals, [], builtinsNs)
def GetD.ok (K : PySem.W.Frag) (d : GetD) : Bool := PySem.W.keepIn K (.ref (d.ad K)) && (match K.lookup (d.ad K) with
  | some o => (match o.data with
    | .func x => PySem.W.codeIn K x.code d.qual && (match x.defaults with
      | .none => true
      | _ => false)
    | _ => false)
  | none => false)
theorem GetD.fn {K : PySem.W.Frag} {d : GetD} (e : fnAt K (d.ad K) = d.val) (c : d.ok K = true) : ∃ fd, Fun K d.name d.qual d.st (d.ad K) fd := by
  obtain ⟨kp, c⟩ := He.ba c
  unfold fnAt at e
  cases q : K.lookup (d.ad K) with
  | none => rw [q] at e; cases e
  | some o =>
    obtain ⟨oc, od, dt, sl⟩ := o
    rw [q] at e c
    cases dt with
    | func x =>
      obtain ⟨m1, m2, m3, m4, m5, m6, m7, m8, m9, m10, m11, m12, m13, m14, m15⟩ := x
      have e' : (some (m1, m2, m3, m4, m5, m6, m7, m15) : He.FnW) = some (d.name, d.qual, defArgs d.st, .stmts (defBody d.st), defScope d.st, mainGlobals, [], builtinsNs) := e
      simp only [Option.some.injEq, Prod.mk.injEq] at e'
      obtain ⟨rfl, rfl, rfl, rfl, rfl, rfl, rfl, rfl⟩ := e'
      obtain ⟨hc, hd⟩ := He.ba c
      have hd : m8 = .none := by
        dsimp only at hd
        cases m8 with
        | none => rfl
        | _ => cases hd
      subst hd
      exact ⟨_, ⟨oc, od, m9, m10, m11, m12, m13, m14, sl, rfl, q, hc⟩, kp⟩
    | _ => cases e
def asY (g : Addr → Option Obj) : Nat → List Addr
  | 0 => [mainGlobals, cStatics]
  | n + 1 => He.growD g (asY g n)
/-- the part of the heap at the addresses as -/
def frY (n : List Addr) (g : Addr → Option Obj) : PySem.W.Frag := He.frT g n
structure SaysY (gs : List GetD) (tf : List He.Defn) (ex : PySem.W.Frag → Bool) (h : Heap) (K : PySem.W.Frag) : Prop where
  fns : (gs.map fun d => fnAt K (d.ad K)) = gs.map GetD.val
  more : ex K = true
  hd : ∀ p ∈ tf, PySem.W.codeHdIn K (He.cT K p).1 (He.cT K p).2 = true
  out : ∀ p ∈ tf, K.lookup (He.cT K p).2 = none
  empty : ∀ p ∈ tf, h.get? (He.cT K p).2 = some { cls := .none, data := .fields #[] }
abbrev AlY : Type := List He.FnW × Bool
def obsY (n : List Addr) (gs : List GetD) (tf : List He.Defn) (ex : PySem.W.Frag → Bool) (g : Addr → Option Obj) : AlY :=
  ((gs.map fun d => fnAt (frY n g) (d.ad (frY n g))), ex (frY n g) && He.tabsB g tf (frY n g))
theorem saysY_of {n : List Addr} {gs : List GetD} {tf : List He.Defn} {ex : PySem.W.Frag → Bool} {h : Heap} (e : obsY n gs tf ex h.get? = (gs.map GetD.val, true)) : SaysY gs tf ex h (frY n h.get?) := by
  obtain ⟨x, y⟩ := He.ba (congrArg Prod.snd e)
  have tab : ∀ p ∈ tf, PySem.W.codeHdIn (frY n h.get?) (He.cT (frY n h.get?) p).1 (He.cT (frY n h.get?) p).2 = true ∧ ∃ o, h.get? (He.cT (frY n h.get?) p).2 = some o ∧ He.emptyTab o = true := fun p hp => by
    obtain ⟨u, v⟩ := He.ba (List.all_eq_true.mp y p hp)
    cases q : h.get? (He.cT (frY n h.get?) p).2 with
    | none => rw [q] at v; cases v
    | some o => rw [q] at v; exact ⟨u, o, rfl, v⟩
  refine ⟨congrArg Prod.fst e, x, fun p hp => (tab p hp).1, fun p hp => ?_, fun p hp => ?_⟩
  · obtain ⟨_, o, q, z⟩ := tab p hp
    exact He.frT_none q z
  · obtain ⟨_, o, q, z⟩ := tab p hp
    rw [q, He.emptyTab_eq z]
def hookY (n : List Addr) (gs : List GetD) (tf : List He.Defn) (ex : PySem.W.Frag → Bool) : PySem.W.Hook where
  α := AlY
  obs := fun s => obsY n gs tf ex s.heap.get?
  val := fun _ => (gs.map GetD.val, true)
  says := fun _ h => ∃ K : PySem.W.Frag, K.In h ∧ SaysY gs tf ex h K
  of := fun _ _ e => ⟨_, He.frT_in, saysY_of e⟩
  keeps := fun _ _ _ ⟨K, hK, c⟩ k => ⟨K, PySem.W.Frag.In.keeps hK k, ⟨c.fns, c.more, c.hd, c.out, fun p hp => k _ _ (c.empty p hp)⟩⟩
def obY (n : List Addr) (gs : List GetD) (tf : List He.Defn) (ex : PySem.W.Frag → Bool) (s : PySem.W.SharedT) : AlY := obsY n gs tf ex (HandSHeadRun.getT s)
theorem obY_eq (n : List Addr) (gs : List GetD) (tf : List He.Defn) (ex : PySem.W.Frag → Bool) (s : PySem.W.SharedT) : obY n gs tf ex s = (hookY n gs tf ex).obs s.abs := by
  have e : HandSHeadRun.getT s = s.abs.heap.get? := funext fun a => HandSHeadRun.getT_eq s a
  show obsY n gs tf ex (HandSHeadRun.getT s) = obsY n gs tf ex s.abs.heap.get?
  rw [e]
/-! .. with tables of the top, keyed by texts -/
abbrev AlZ : Type := AlY × List (Option (List (Option (Str × Int))))
def obsZ (n : List Addr) (gs : List GetD) (tf : List He.Defn) (ex : PySem.W.Frag → Bool) (ts : List He.Tab) (g : Addr → Option Obj) : AlZ := (obsY n gs tf ex g, ts.map fun t => He.dicW (frY n g) (t.1 (frY n g)))
def valZ (gs : List GetD) (ts : List He.Tab) (w : World) : AlZ := ((gs.map GetD.val, true), ts.map fun t => some (He.keysIn w.params t.2))
def TabsOk (ts : List He.Tab) (w : World) (K : PySem.W.Frag) : Prop := (ts.map fun t => He.dicW K (t.1 K)) = ts.map fun t => some (He.keysIn w.params t.2)
def hookZ (n : List Addr) (gs : List GetD) (tf : List He.Defn) (ex : PySem.W.Frag → Bool) (ts : List He.Tab) : PySem.W.Hook where
  α := AlZ
  obs := fun s => obsZ n gs tf ex ts s.heap.get?
  val := fun w => valZ gs ts w
  says := fun w h => ∃ K : PySem.W.Frag, K.In h ∧ SaysY gs tf ex h K ∧ TabsOk ts w K
  of := fun _ _ e => ⟨_, He.frT_in, saysY_of (congrArg Prod.fst e), congrArg Prod.snd e⟩
  keeps := fun _ _ _ ⟨K, hK, c, d⟩ k => ⟨K, PySem.W.Frag.In.keeps hK k, ⟨c.fns, c.more, c.hd, c.out, fun p hp => k _ _ (c.empty p hp)⟩, d⟩
def obZ (n : List Addr) (gs : List GetD) (tf : List He.Defn) (ex : PySem.W.Frag → Bool) (ts : List He.Tab) (s : PySem.W.SharedT) : AlZ := obsZ n gs tf ex ts (HandSHeadRun.getT s)
theorem obZ_eq (n : List Addr) (gs : List GetD) (tf : List He.Defn) (ex : PySem.W.Frag → Bool) (ts : List He.Tab) (s : PySem.W.SharedT) : obZ n gs tf ex ts s = (hookZ n gs tf ex ts).obs s.abs := by
  have e : HandSHeadRun.getT s = s.abs.heap.get? := funext fun a => HandSHeadRun.getT_eq s a
  show obsZ n gs tf ex ts (HandSHeadRun.getT s) = obsZ n gs tf ex ts s.abs.heap.get?
  rw [e]
theorem TabsOk.tab {ts : List He.Tab} {w : World} {K : PySem.W.Frag} (c : TabsOk ts w K) (i : Nat) {t : He.Tab} (h : ts[i]? = some t := by rfl) : ∃ es n, KDict K w (t.1 K) es n := by
  have e2 : (ts.map fun t => He.dicW K (t.1 K))[i]? = (ts.map fun t => some (He.keysIn w.params t.2))[i]? := by rw [show (ts.map fun t => He.dicW K (t.1 K)) = _ from c]
  rw [List.getElem?_map, List.getElem?_map, h] at e2
  exact He.dicW_ok (Option.some.inj e2)
theorem SaysY.fn {gs : List GetD} {tf : List He.Defn} {ex : PySem.W.Frag → Bool} {h : Heap} {K : PySem.W.Frag} (c : SaysY gs tf ex h K) (ok : ∀ d ∈ gs, d.ok K = true) (i : Nat) {d : GetD} (hi : gs[i]? = some d := by rfl) : ∃ fd, Fun K d.name d.qual d.st (d.ad K) fd := by
  have e : (gs.map fun d => fnAt K (d.ad K))[i]? = (gs.map GetD.val)[i]? := by rw [c.fns]
  rw [List.getElem?_map, List.getElem?_map, hi] at e
  exact GetD.fn (Option.some.inj e) (ok d (List.mem_of_getElem? hi))
/-! ### what else is looked at -/
def oo (a b : Option (Option Value)) : Bool := decide (a = b)
theorem oo_ok {a b : Option (Option Value)} (h : oo a b = true) : a = b := of_decide_eq_true h
def ob (a b : Option Bool) : Bool := decide (a = b)
theorem ob_ok {a b : Option Bool} (h : ob a b = true) : a = b := of_decide_eq_true h
def excB (K : PySem.W.Frag) (D : Addr) : Bool :=
  oo (PySem.W.findIn K (.ref D) "__getattribute__") (some (some (.builtin "BaseException.__getattribute__"))) && (oo (PySem.W.findIn K (.ref D) "__getattr__") (some none) && (ob (PySem.W.subIn K (.ref D) (.type "BaseException")) (some true) && (PySem.W.hasDictIn K D &&
    (oo (PySem.W.findIn K (.ref D) "__class__") (some (some (.builtin "object.__class__"))) && (oo (PySem.W.specialIn K (.builtin "object.__class__") "__get__") (some (some (.builtin "getset_descriptor.__get__"))) && (ob (PySem.W.takesIn K (.builtin "object.__class__")) (some true) && ob (PySem.W.mroIn K D (.type "object")) (some true)))))))
theorem excB_ok {K : PySem.W.Frag} {D : Addr} (h : excB K D = true) : ExcC K D := by
  obtain ⟨h1, h⟩ := He.ba h
  obtain ⟨h2, h⟩ := He.ba h
  obtain ⟨h3, h⟩ := He.ba h
  obtain ⟨h4, h⟩ := He.ba h
  obtain ⟨h5, h⟩ := He.ba h
  obtain ⟨h6, h⟩ := He.ba h
  obtain ⟨h7, h8⟩ := He.ba h
  exact ⟨oo_ok h1, oo_ok h2, ob_ok h3, h4, oo_ok h5, oo_ok h6, ob_ok h7, ob_ok h8⟩
/-- a property of C: its record, its getter -/
def getA (K : PySem.W.Frag) (C : Str) (f : Str) : Addr := match PySem.W.recIn K (He.ma K (He.ga K C) f) "property" with
  | some (.ref g :: _) => g
  | _ => 0
def propB (K : PySem.W.Frag) (C f : Str) : Bool := oo (PySem.W.findIn K (.ref (He.ga K C)) f) (some (some (.ref (He.ma K (He.ga K C) f)))) && (oo (PySem.W.specialIn K (.ref (He.ma K (He.ga K C) f)) "__get__") (some (some (.builtin "property.__get__"))) &&
  (ob (PySem.W.takesIn K (.ref (He.ma K (He.ga K C) f))) (some true) && (match PySem.W.recIn K (He.ma K (He.ga K C) f) "property" with
    | some (.ref _ :: _) => true
    | _ => false)))
theorem propB_ok {K : PySem.W.Frag} {C f : Str} (h : propB K C f = true) : PropOf K (He.ga K C) f (He.ma K (He.ga K C) f) (getA K C f) := by
  obtain ⟨h1, h⟩ := He.ba h
  obtain ⟨h2, h⟩ := He.ba h
  obtain ⟨h3, h4⟩ := He.ba h
  refine ⟨oo_ok h1, oo_ok h2, ob_ok h3, ?_⟩
  split at h4
  · rename_i g rest q
    refine ⟨rest, ?_⟩
    have e : getA K C f = g := by unfold getA; rw [q]
    rw [e, q]
  · cases h4
/-- a class method of C -/
def cmA (K : PySem.W.Frag) (C m : Str) : Addr := match PySem.W.recIn K (He.ma K (He.ga K C) m) "classmethod" with
  | some (.ref g :: _) => g
  | _ => 0
def cmB (K : PySem.W.Frag) (C m : Str) : Bool := (match PySem.W.findCls K (.ref (He.ga K C)) (.type "type") m with
    | some (.get (.builtin b) (.ref p) .none (.ref D)) => decide (b = "classmethod.__get__") && (decide (p = He.ma K (He.ga K C) m) && decide (D = He.ga K C))
    | _ => false) && ((match PySem.W.recIn K (He.ma K (He.ga K C) m) "classmethod" with
    | some (.ref _ :: _) => true
    | _ => false) && PySem.W.fnIn K (cmA K C m))
theorem cmB_ok {K : PySem.W.Frag} {C m : Str} (h : cmB K C m = true) : ClX.CMet K (He.ga K C) (.type "type") m (He.ma K (He.ga K C) m) (cmA K C m) := by
  obtain ⟨h1, h⟩ := He.ba h
  obtain ⟨h2, h3⟩ := He.ba h
  refine ⟨?_, ?_, h3⟩
  · split at h1
    · rename_i b p D q
      obtain ⟨x, y⟩ := He.ba h1
      obtain ⟨y, z⟩ := He.ba y
      rw [q, of_decide_eq_true x, of_decide_eq_true y, of_decide_eq_true z]
    · cases h1
  · split at h2
    · rename_i g rest q
      refine ⟨rest, ?_⟩
      have e : cmA K C m = g := by unfold cmA; rw [q]
      rw [e, q]
    · cases h2
def creadB (K : PySem.W.Frag) (C : Str) : Bool := PySem.W.readsIn K (He.ga K C) (.type "type") && oo (PySem.W.specialIn K (.ref (He.ga K C)) "__getattribute__") (some (some (.builtin "type.__getattribute__")))
theorem creadB_ok {K : PySem.W.Frag} {C : Str} (h : creadB K C = true) : ClX.CRead K (He.ga K C) (.type "type") := by
  obtain ⟨h1, h2⟩ := He.ba h
  exact ⟨h1, oo_ok h2⟩
def cintB (K : PySem.W.Frag) (C f : Str) (i : Int) : Bool := match PySem.W.findCls K (.ref (He.ga K C)) (.type "type") f with
  | some (.val (.int j _)) => decide (j = i)
  | _ => false
theorem cintB_ok {K : PySem.W.Frag} {C f : Str} {i : Int} (h : cintB K C f i = true) : ∃ u, ClX.CVal K (He.ga K C) (.type "type") f (.int i) u := by
  unfold cintB at h
  split at h
  · rename_i j t q
    have e := of_decide_eq_true h
    subst e
    exact ⟨_, q, ⟨t, rfl⟩⟩
  · cases h
/-- a plain class with its own == and no != -/
def neB (K : PySem.W.Frag) (C : Str) : Bool := match K.lookup (He.ga K C) with
  | some o => (match o.cls with
    | .type t => t == "type"
    | _ => false) && (match o.data with
    | .cls cd => decide (cd.mro = [.ref (He.ga K C), .type "object"]) && (!cd.hasDel && ((match o.slots.toList with
      | [_, _, _, _, some (.builtin _), _] => true
      | _ => false) && (PySem.W.nsOkIn K cd.ns && (oo (PySem.W.nsIn K cd.ns "__eq__") (some (some (.ref (He.ma K (He.ga K C) "__eq__")))) && oo (PySem.W.nsIn K cd.ns "__ne__") (some none)))))
    | _ => false)
  | none => false
theorem neB_ok {K : PySem.W.Frag} {C : Str} (h : neB K C = true) (ty : PySem.W.typeIn K (.ref (He.ma K (He.ga K C) "__eq__")) = some (.type "function")) : NeC K (He.ga K C) (He.ma K (He.ga K C) "__eq__") := by
  refine ⟨?_, ty⟩
  unfold neB at h
  cases q : K.lookup (He.ga K C) with
  | none => rw [q] at h; cases h
  | some o =>
    rw [q] at h
    obtain ⟨oc, od, dt, sl⟩ := o
    obtain ⟨h1, h2⟩ := He.ba h
    cases dt with
    | cls cd =>
      obtain ⟨c1, c2, c3, c4, c5, c6, c7, c8, c9, c10, c11⟩ := cd
      obtain ⟨a1, h2⟩ := He.ba h2
      obtain ⟨a2, h2⟩ := He.ba h2
      obtain ⟨a3, h2⟩ := He.ba h2
      obtain ⟨a4, h2⟩ := He.ba h2
      obtain ⟨a5, a6⟩ := He.ba h2
      have b1 : c3 = [.ref (He.ga K C), .type "object"] := of_decide_eq_true a1
      have b2 : c11 = false := by simpa using a2
      subst b1
      subst b2
      have hoc : oc = .type "type" := by
        clear h2 a1 a2 a3 a4 a5 a6
        cases oc with
        | type t =>
          have e : t = "type" := by simpa using h1
          rw [e]
        | _ => cases h1
      subst hoc
      dsimp only at a3
      split at a3
      · rename_i k0 k1 k2 k3 n k5 z
        have hs : sl = #[k0, k1, k2, k3, some (.builtin n), k5] := Array.toList_inj.mp z
        subst hs
        exact ⟨c1, c5, c4, c2, c6, c7, c8, c9, c10, od, k0, k1, k2, k3, k5, n, q.symm ▸ rfl, a4, oo_ok a5, oo_ok a6⟩
      · cases a3
    | _ => cases h2
end My
/-! a beam over a grid: its steps can be taken back, so it leaves; how many steps it makes at most -/
namespace My
open PySem PySem.Spec PyProof.Rows L2
namespace Sg
def base : Sg → Sg
  | f => r
  | s => s
theorem base_turn (s : Sg) : s.turn.base = s.base := by cases s <;> rfl
theorem thr_thr (s : Sg) (a b : Int) : s.thr (s.thr a b).1 (s.thr a b).2 = (a, b) := by
  cases s <;> simp [thr]
end Sg
abbrev Gr := List (List Sg)
def rowAt (g : Gr) (r : Nat) : List Sg := g.getD r []
def sgAt (g : Gr) (r c : Nat) : Sg := (rowAt g r).getD c .d
def putAt (g : Gr) (r c : Nat) : Gr := g.set r ((rowAt g r).set c (sgAt g r c).turn)
/-- of this shape -/
def Shp (h w : Nat) (g : Gr) : Prop := g.length = h ∧ ∀ l ∈ g, l.length = w
theorem Shp.row {h w r : Nat} {g : Gr} (s : Shp h w g) (hr : r < h) : g[r]? = some (rowAt g r) ∧ (rowAt g r).length = w := by
  obtain ⟨s1, s2⟩ := s
  have e : g[r]? = some (g[r]'(by omega)) := List.getElem?_eq_getElem (by omega)
  have e2 : rowAt g r = g[r]'(by omega) := by
    unfold rowAt
    rw [List.getD_eq_getElem?_getD, e] <;> rfl
  rw [e2]
  exact ⟨e, s2 _ (List.getElem_mem _)⟩
theorem Shp.sg {h w r c : Nat} {g : Gr} (s : Shp h w g) (hr : r < h) (hc : c < w) : (rowAt g r)[c]? = some (sgAt g r c) := by
  have hl := (s.row hr).2
  unfold sgAt
  rw [List.getD_eq_getElem?_getD, List.getElem?_eq_getElem (by omega)] <;> rfl
theorem Shp.put {h w r c : Nat} {g : Gr} (s : Shp h w g) (hr : r < h) : Shp h w (putAt g r c) := by
  have hl := (s.row hr).2
  refine ⟨by unfold putAt; rw [List.length_set]; exact s.1, fun l hm => ?_⟩
  unfold putAt at hm
  rcases List.mem_or_eq_of_mem_set hm with h1 | h1
  · exact s.2 l h1
  · rw [h1, List.length_set]
    exact hl
theorem rowAt_put {h w r c : Nat} {g : Gr} (s : Shp h w g) (hr : r < h) : rowAt (putAt g r c) r = (rowAt g r).set c (sgAt g r c).turn := by
  have e : (putAt g r c)[r]? = some ((rowAt g r).set c (sgAt g r c).turn) := by
    unfold putAt
    rw [List.getElem?_set_self (by rw [s.1]; exact hr)]
  show (putAt g r c).getD r [] = _
  rw [List.getD_eq_getElem?_getD, e] <;> rfl
theorem sgAt_put {h w r c : Nat} {g : Gr} (s : Shp h w g) (hr : r < h) (hc : c < w) : sgAt (putAt g r c) r c = (sgAt g r c).turn := by
  have hl := (s.row hr).2
  show (rowAt (putAt g r c) r).getD c .d = _
  rw [rowAt_put s hr, List.getD_eq_getElem?_getD, List.getElem?_set_self (by omega)] <;> rfl
theorem put_put {h w r c : Nat} {g : Gr} (s : Shp h w g) (hr : r < h) (hc : c < w) : putAt (putAt g r c) r c = g := by
  have e := (s.row hr).1
  have e1 := s.sg hr hc
  have z : putAt (putAt g r c) r c = (putAt g r c).set r ((rowAt (putAt g r c) r).set c (sgAt (putAt g r c) r c).turn) := rfl
  rw [z, rowAt_put s hr, sgAt_put s hr hc, Sg.turn_turn, List.set_set]
  have e2 : (rowAt g r).set c (sgAt g r c) = rowAt g r := by
    apply List.ext_getElem?
    intro i
    rw [List.getElem?_set]
    by_cases hi : c = i
    · subst hi
      rw [if_pos rfl, if_pos (List.getElem?_eq_some_iff.mp e1).1, e1]
    · rw [if_neg hi]
  rw [e2]
  unfold putAt
  rw [List.set_set]
  apply List.ext_getElem?
  intro i
  rw [List.getElem?_set]
  by_cases hi : r = i
  · subst hi
    rw [if_pos rfl, if_pos (List.getElem?_eq_some_iff.mp e).1, e]
  · rw [if_neg hi]
/-- a beam in a room: the signs, the tile that it comes to, its step -/
structure BS where
  g : Gr
  r : Int
  c : Int
  a : Int
  b : Int
  deriving DecidableEq
def Inn (h w : Nat) (x : BS) : Prop := 0 ≤ x.r ∧ x.r < h ∧ 0 ≤ x.c ∧ x.c < w
instance (h w : Nat) (x : BS) : Decidable (Inn h w x) := by unfold Inn; infer_instance
def BS.step (x : BS) : BS :=
  ⟨putAt x.g x.r.toNat x.c.toNat, x.r + ((sgAt x.g x.r.toNat x.c.toNat).thr x.a x.b).1, x.c + ((sgAt x.g x.r.toNat x.c.toNat).thr x.a x.b).2, ((sgAt x.g x.r.toNat x.c.toNat).thr x.a x.b).1, ((sgAt x.g x.r.toNat x.c.toNat).thr x.a x.b).2⟩
def BS.back (x : BS) : BS :=
  ⟨putAt x.g (x.r - x.a).toNat (x.c - x.b).toNat, x.r - x.a, x.c - x.b, ((sgAt x.g (x.r - x.a).toNat (x.c - x.b).toNat).turn.thr x.a x.b).1, ((sgAt x.g (x.r - x.a).toNat (x.c - x.b).toNat).turn.thr x.a x.b).2⟩
theorem back_step {h w : Nat} {x : BS} (s : Shp h w x.g) (i : Inn h w x) : x.step.back = x := by
  obtain ⟨g, r, c, a, b⟩ := x
  obtain ⟨i1, i2, i3, i4⟩ := i
  dsimp only at i1 i2 i3 i4 s
  have hr : r.toNat < h := by omega
  have hc : c.toNat < w := by omega
  unfold BS.step BS.back
  dsimp only
  have e1 : r + ((sgAt g r.toNat c.toNat).thr a b).1 - ((sgAt g r.toNat c.toNat).thr a b).1 = r := by omega
  have e2 : c + ((sgAt g r.toNat c.toNat).thr a b).2 - ((sgAt g r.toNat c.toNat).thr a b).2 = c := by omega
  rw [e1, e2, put_put s hr hc, sgAt_put s hr hc, Sg.turn_turn, Sg.thr_thr]
/-- a step is down, up, right or left -/
def Dir (a b : Int) : Prop := (a = 1 ∧ b = 0) ∨ (a = -1 ∧ b = 0) ∨ (a = 0 ∧ b = 1) ∨ (a = 0 ∧ b = -1)
theorem Dir.thr {a b : Int} (d : Dir a b) (s : Sg) : Dir (s.thr a b).1 (s.thr a b).2 := by
  rcases d with ⟨rfl, rfl⟩ | ⟨rfl, rfl⟩ | ⟨rfl, rfl⟩ | ⟨rfl, rfl⟩ <;> cases s <;> simp [Dir, Sg.thr]
/-- the same mirrors, however they stand -/
def Bas (g : Gr) : Gr := g.map fun l => l.map Sg.base
theorem base_put {h w r c : Nat} {g : Gr} (s : Shp h w g) (hr : r < h) (hc : c < w) : Bas (putAt g r c) = Bas g := by
  have e := (s.row hr).1
  have e1 := s.sg hr hc
  unfold Bas putAt
  rw [List.map_set, List.map_set, Sg.base_turn]
  have e2 : ((rowAt g r).map Sg.base).set c (sgAt g r c).base = (rowAt g r).map Sg.base := by
    apply List.ext_getElem?
    intro i
    rw [List.getElem?_set]
    by_cases hi : c = i
    · subst hi
      rw [if_pos rfl, if_pos (by rw [List.length_map]; exact (List.getElem?_eq_some_iff.mp e1).1), List.getElem?_map, e1] <;> rfl
    · rw [if_neg hi]
  rw [e2]
  apply List.ext_getElem?
  intro i
  rw [List.getElem?_set]
  by_cases hi : r = i
  · subst hi
    rw [if_pos rfl, if_pos (by rw [List.length_map]; exact (List.getElem?_eq_some_iff.mp e).1), List.getElem?_map, e] <;> rfl
  · rw [if_neg hi]
/-! all ways that the mirrors of a grid may stand -/
def lvar : List Sg → List (List Sg)
  | [] => [[]]
  | s :: l => if s.tur then (lvar l).map (Sg.r :: ·) ++ (lvar l).map (Sg.f :: ·) else (lvar l).map (s :: ·)
theorem lvar_len : ∀ l, (lvar l).length = 2 ^ lcount l
  | [] => rfl
  | s :: l => by
    have ih := lvar_len l
    have hc : lcount (s :: l) = lcount l + if s.tur then 1 else 0 := by
      unfold lcount
      rw [List.filter_cons]
      cases s.tur <;> simp
    rw [hc]
    unfold lvar
    cases h : s.tur with
    | true => simp only [if_true, List.length_append, List.length_map, ih, Nat.pow_succ]; omega
    | false => simp only [Bool.false_eq_true, if_false, List.length_map, ih, Nat.add_zero]
theorem base_cases {s t : Sg} (h : s.base = t.base) : (s.tur = true ∧ (t = .r ∨ t = .f)) ∨ (s.tur = false ∧ t = s) := by
  cases s <;> cases t <;> simp [Sg.base, Sg.tur] at h ⊢
theorem lvar_mem : ∀ {l m : List Sg}, l.map Sg.base = m.map Sg.base → m ∈ lvar l
  | [], [], _ => List.mem_singleton.mpr rfl
  | [], _ :: _, h => by simp at h
  | _ :: _, [], h => by simp at h
  | s :: l, t :: m, h => by
    simp only [List.map_cons, List.cons.injEq] at h
    have ih := lvar_mem h.2
    unfold lvar
    rcases base_cases h.1 with ⟨h1, rfl | rfl⟩ | ⟨h1, rfl⟩
    · rw [if_pos h1]
      exact List.mem_append_left _ (List.mem_map.mpr ⟨m, ih, rfl⟩)
    · rw [if_pos h1]
      exact List.mem_append_right _ (List.mem_map.mpr ⟨m, ih, rfl⟩)
    · rw [if_neg (by rw [h1]; exact Bool.false_ne_true)]
      exact List.mem_map.mpr ⟨m, ih, rfl⟩
def gvar : Gr → List Gr
  | [] => [[]]
  | l :: g => (lvar l).flatMap fun m => (gvar g).map (m :: ·)
theorem flatMap_len {α β : Type} {f : α → List β} {n : Nat} : ∀ l : List α, (∀ x ∈ l, (f x).length = n) → (l.flatMap f).length = l.length * n
  | [], _ => by simp
  | x :: l, h => by
    rw [List.flatMap_cons, List.length_append, h x List.mem_cons_self, flatMap_len l fun y hy => h y (List.mem_cons_of_mem _ hy), List.length_cons, Nat.succ_mul]
    omega
theorem gvar_len : ∀ g : Gr, (gvar g).length = 2 ^ gcount g
  | [] => rfl
  | l :: g => by
    have ih := gvar_len g
    have hc : gcount (l :: g) = lcount l + gcount g := by
      unfold gcount
      rw [List.map_cons, List.sum_cons]
    unfold gvar
    rw [flatMap_len (n := 2 ^ gcount g) _ fun m _ => by rw [List.length_map, ih], lvar_len, hc, Nat.pow_add]
theorem gvar_mem : ∀ {g k : Gr}, Bas g = Bas k → k ∈ gvar g
  | [], [], _ => List.mem_singleton.mpr rfl
  | [], _ :: _, h => by simp [Bas] at h
  | _ :: _, [], h => by simp [Bas] at h
  | l :: g, m :: k, h => by
    unfold Bas at h
    simp only [List.map_cons, List.cons.injEq] at h
    exact List.mem_flatMap.mpr ⟨m, lvar_mem h.1, List.mem_map.mpr ⟨k, gvar_mem h.2, rfl⟩⟩
def dirs : List (Int × Int) := [(1, 0), (-1, 0), (0, 1), (0, -1)]
def states (h w : Nat) (g : Gr) : List BS := (gvar g).flatMap fun k => (List.range h).flatMap fun (r : Nat) => (List.range w).flatMap fun (c : Nat) => dirs.map fun d => ⟨k, (r : Int), (c : Int), d.1, d.2⟩
theorem states_len (h w : Nat) (g : Gr) : (states h w g).length = 2 ^ gcount g * (h * (w * 4)) := by
  unfold states
  rw [flatMap_len (n := h * (w * 4)) _ fun k _ => ?_, gvar_len]
  rw [flatMap_len (n := w * 4) _ fun r _ => ?_, List.length_range]
  rw [flatMap_len (n := 4) _ fun c _ => ?_, List.length_range]
  rw [List.length_map] <;> rfl
theorem states_mem {h w : Nat} {g : Gr} {x : BS} (hb : Bas g = Bas x.g) (i : Inn h w x) (d : Dir x.a x.b) : x ∈ states h w g := by
  obtain ⟨k, r, c, a, b⟩ := x
  obtain ⟨i1, i2, i3, i4⟩ := i
  dsimp only at i1 i2 i3 i4 hb d
  refine List.mem_flatMap.mpr ⟨k, gvar_mem hb, List.mem_flatMap.mpr ⟨r.toNat, List.mem_range.mpr (by omega), List.mem_flatMap.mpr ⟨c.toNat, List.mem_range.mpr (by omega), List.mem_map.mpr ⟨(a, b), ?_, ?_⟩⟩⟩⟩
  · rcases d with ⟨rfl, rfl⟩ | ⟨rfl, rfl⟩ | ⟨rfl, rfl⟩ | ⟨rfl, rfl⟩ <;> decide
  · have e1 : (r.toNat : Int) = r := by omega
    have e2 : (c.toNat : Int) = c := by omega
    simp only [e1, e2]
theorem nodup_le {α : Type} [DecidableEq α] : ∀ (l L : List α), l.Nodup → (∀ x ∈ l, x ∈ L) → l.length ≤ L.length
  | [], _, _, _ => Nat.zero_le _
  | a :: l, L, nd, h => by
    rw [List.nodup_cons] at nd
    have ha := h a List.mem_cons_self
    have ih := nodup_le l (L.erase a) nd.2 fun x hx => (List.mem_erase_of_ne fun z => nd.1 (by rw [← z]; exact hx)).mpr (h x (List.mem_cons_of_mem _ hx))
    rw [List.length_erase_of_mem ha] at ih
    have := List.length_pos_of_mem ha
    rw [List.length_cons]
    omega
def bst (x : BS) : Nat → BS
  | 0 => x
  | n + 1 => (bst x n).step
/-- what holds of a beam while it is in the room -/
structure Way (h w : Nat) (g : Gr) (x : BS) : Prop where
  shp : Shp h w x.g
  bas : Bas g = Bas x.g
  dir : Dir x.a x.b
theorem Way.step {h w : Nat} {g : Gr} {x : BS} (k : Way h w g x) (i : Inn h w x) : Way h w g x.step := by
  obtain ⟨i1, i2, i3, i4⟩ := i
  have hr : x.r.toNat < h := by omega
  have hc : x.c.toNat < w := by omega
  exact ⟨k.shp.put hr, k.bas.trans (base_put k.shp hr hc).symm, k.dir.thr _⟩
theorem Way.at_ {h w : Nat} {g : Gr} {x : BS} (k : Way h w g x) : ∀ n, (∀ i, i < n → Inn h w (bst x i)) → Way h w g (bst x n)
  | 0, _ => k
  | n + 1, hi => (k.at_ n fun i h => hi i (by omega)).step (hi n (by omega))
/-- a beam that comes from outside leaves: after n steps, n not large -/
theorem leaves {h w : Nat} {x : BS} (s : Shp h w x.g) (d : Dir x.a x.b) (out : ¬ Inn h w x.back) : ∃ n, n ≤ 2 ^ gcount x.g * (h * (w * 4)) ∧ ¬ Inn h w (bst x n) ∧ ∀ i, i < n → Inn h w (bst x i) := by
  have k0 : Way h w x.g x := ⟨s, rfl, d⟩
  -- as long as it stays it never comes to the same again
  have inj : ∀ N, (∀ i, i < N → Inn h w (bst x i)) → ∀ i j, i < j → j < N → bst x i ≠ bst x j := by
    intro N hN i
    induction i with
    | zero =>
      intro j hj hjN e
      obtain ⟨j, rfl⟩ : ∃ m, j = m + 1 := ⟨j - 1, by omega⟩
      have b := back_step (k0.at_ j fun i hi => hN i (by omega)).shp (hN j (by omega))
      have e2 : x = (bst x j).step := e
      rw [← e2] at b
      exact out (b ▸ hN j (by omega))
    | succ i ih =>
      intro j hj hjN e
      obtain ⟨j, rfl⟩ : ∃ m, j = m + 1 := ⟨j - 1, by omega⟩
      have b1 := back_step (k0.at_ i fun m hm => hN m (by omega)).shp (hN i (by omega))
      have b2 := back_step (k0.at_ j fun m hm => hN m (by omega)).shp (hN j (by omega))
      have e2 : (bst x i).step = (bst x j).step := e
      rw [e2, b2] at b1
      exact ih j (by omega) (by omega) b1.symm
  have most : ∀ N, (∀ i, i < N → Inn h w (bst x i)) → N ≤ 2 ^ gcount x.g * (h * (w * 4)) := by
    intro N hN
    rw [← states_len]
    have nd : ((List.range N).map (bst x)).Nodup := by
      rw [List.nodup_iff_pairwise_ne, List.pairwise_map]
      refine List.Pairwise.imp_of_mem ?_ List.pairwise_lt_range
      intro i j hi hj lt
      exact inj N hN i j lt (List.mem_range.mp hj)
    have z := nodup_le _ (states h w x.g) nd fun y hy => by
      obtain ⟨i, hi, rfl⟩ := List.mem_map.mp hy
      have hi := List.mem_range.mp hi
      have k := k0.at_ i fun m hm => hN m (by omega)
      exact states_mem k.bas (hN i hi) k.dir
    rw [List.length_map, List.length_range] at z
    exact z
  have key : ∀ N, (∃ n, n ≤ N ∧ ¬ Inn h w (bst x n) ∧ ∀ i, i < n → Inn h w (bst x i)) ∨ ∀ i, i ≤ N → Inn h w (bst x i) := by
    intro N
    induction N with
    | zero =>
      by_cases q : Inn h w (bst x 0)
      · exact .inr fun i hi => by
          obtain rfl : i = 0 := by omega
          exact q
      · exact .inl ⟨0, Nat.le_refl _, q, fun i hi => absurd hi (by omega)⟩
    | succ N ih =>
      rcases ih with ⟨n, h1, h2, h3⟩ | h1
      · exact .inl ⟨n, by omega, h2, h3⟩
      · by_cases q : Inn h w (bst x (N + 1))
        · exact .inr fun i hi => by
            by_cases z : i = N + 1
            · rw [z]; exact q
            · exact h1 i (by omega)
        · exact .inl ⟨N + 1, Nat.le_refl _, q, fun i hi => h1 i (by omega)⟩
  rcases key (2 ^ gcount x.g * (h * (w * 4))) with ⟨n, h1, h2, h3⟩ | h1
  · exact ⟨n, h1, h2, h3⟩
  · have := most (2 ^ gcount x.g * (h * (w * 4)) + 1) fun i hi => h1 i (by omega)
    omega
end My
/-! list(text) -/
namespace My
open PySem PySem.Spec PyProof.Rows L2
theorem vals_by : ∀ {xs : List V} {us : List Value}, xs.length = us.length → (∀ (i : Nat) (x : V) (u : Value), xs[i]? = some x → us[i]? = some u → RelV x u) → Vals xs us
  | [], [], _, _ => .nil
  | [], _ :: _, h, _ => by simp at h
  | _ :: _, [], h, _ => by simp at h
  | x :: xs, u :: us, h, k => .cons (k 0 x u rfl rfl) (vals_by (by simpa using h) fun i y v h1 h2 => k (i + 1) y v (by simpa using h1) (by simpa using h2))
def signsV (z : Str) : List V := z.cps.toList.map fun c => V.str ⟨#[c]⟩
section
variable {X : Cx}
theorem call_listS (hc : X.calm = true) : CallR X (.type "list") (fun xs H Q => ∃ z, xs = [.str z] ∧ z.length ≤ sizeLine ∧ ∀ l, H l = none → Q (.ref l) (upd H l (.lst (signsV z)))) := by
  intro pins s σ H xs us Q I r h
  obtain ⟨z, rfl, hz, q⟩ := h
  obtain ⟨u, rfl, t, rfl⟩ := vals1 r
  refine call_list_str (I.ok.hd hc) z t (hn := hz) fun h' tk acc c hk ho hacc => ?_
  have hlen : (signsV z).length = z.cps.size := by
    unfold signsV
    rw [List.length_map]
    simp
  have hf : H s.heap.objs.size = none := I.hok.fresh (Nat.le_refl _)
  refine ⟨.ref s.heap.objs.size, upd H s.heap.objs.size (.lst (signsV z)), I.laid (t' := tk) hk (Nat.le_refl _) ⟨by rw [hlen]; exact hz, acc.toList, c, ?_, by simpa using ho⟩, rfl, q _ hf⟩
  refine vals_by (by rw [hlen]; simp [hacc.1]) fun i x v h1 h2 => ?_
  obtain ⟨d, k, hd, rfl⟩ := hacc.2 i v (by simpa using h2)
  have h1' : (z.cps.toList[i]?).map (fun c => V.str ⟨#[c]⟩) = some x := by
    rw [← List.getElem?_map]
    exact h1
  have hd' : z.cps.toList[i]? = some d := by simpa using hd
  rw [hd'] at h1'
  cases h1'
  exact ⟨k, rfl⟩
end
end My
/-! a tuple backwards: t[::-1] -/
namespace My
open PySem PySem.Spec PyProof.Rows L2
theorem adjust_rev (n : Nat) : Builtin.Slice.sliceAdjust none none (-1) (n : Int) = ((n : Int) - 1, -1) := rfl
theorem places_rev (n : Nat) : Builtin.Slice.slicePlaces ((n : Int) - 1) (-1) (-1) = n := by
  unfold Builtin.Slice.slicePlaces
  have h1 : ¬ (-1 : Int) > 0 := by omega
  have h2 : (-(-1) : Int) = 1 := by omega
  simp only [h1, if_false, h2, Int.ediv_one]
  split <;> omega
theorem pick_rev (xs : Array Value) : ((List.range xs.size).filterMap fun (k : Nat) => xs[((xs.size : Int) - 1 + (k : Int) * (-1)).toNat]?).toArray = xs.toList.reverse.toArray := by
  have e : (fun (k : Nat) => xs[((xs.size : Int) - 1 + (k : Int) * (-1)).toNat]?) = (fun (j : Nat) => xs[j]?) ∘ fun k => xs.size - 1 - k := by
    funext k
    show xs[((xs.size : Int) - 1 + (k : Int) * (-1)).toNat]? = xs[xs.size - 1 - k]?
    have : ((xs.size : Int) - 1 + (k : Int) * (-1)).toNat = xs.size - 1 - k := by omega
    rw [this]
  rw [e, ← List.filterMap_map, PySem.W.krv_range, List.filterMap_reverse, PySem.W.krv_all]
section
variable {prog : Program} {w : World} {A : Around} {E : Value → Shared → Prop} {s : Shared}
theorem applied_rev {sl : Addr} {vs : Value} {n : Nat} {Q : Int × Int × Nat → Shared → Prop} (hs : s.heap.IsSliceOf sl .none .none vs) (ps : IsPart vs (some (-1))) (h : Q ((n : Int) - 1, -1, n) s) : wpAny (model prog w) A (Builtin.Slice.sliceApplied (.ref sl) (pure (n : Int))) Q E s := by
  obtain ⟨os, hos, hcs, hds⟩ := id hs
  unfold Builtin.Slice.sliceApplied Builtin.Slice.sliceFields
  refine wpAny_bind (wpAny_bind (wpAny_field hos hds (x := .none) rfl (wpAny_bind (wpAny_field hos hds (x := .none) rfl (wpAny_bind (wpAny_field hos hds (x := vs) rfl (wpAny_pure ?_)))))))
  refine wpAny_bind (HT.slicePart_ ps ?_)
  show wpAny _ _ (if ((-1 : Int) == 0) = true then _ else _) _ _ s
  rw [if_neg (by decide)]
  refine wpAny_bind (HT.slicePart_ .none (wpAny_bind (HT.slicePart_ .none (wpAny_bind (wpAny_pure ?_)))))
  show wpAny _ _ (match Builtin.Slice.sliceAdjust none none (-1) (n : Int) with | (lo, hi) => pure (lo, (-1 : Int), Builtin.Slice.slicePlaces lo hi (-1))) _ _ s
  rw [adjust_rev]
  show wpAny _ _ (pure ((n : Int) - 1, (-1 : Int), Builtin.Slice.slicePlaces ((n : Int) - 1) (-1) (-1))) _ _ s
  rw [places_rev]
  exact wpAny_pure h
theorem get_tupRev {t sl : Addr} {items : Array Value} {vs : Value} {Q : Value → Shared → Prop} (ht : IsTup s.heap t items) (hs : s.heap.IsSliceOf sl .none .none vs) (ps : IsPart vs (some (-1)))
    (h : Q (.ref s.heap.objs.size) { s with heap := s.heap.push { cls := .type "tuple", data := .seq items.toList.reverse.toArray } }) (hsz : items.size ≤ sizeLine) : wpAny (model prog w) A (getItem (.ref t) (.ref sl)) Q E s := by
  have fit : sizeOk (.seq items.toList.reverse.toArray) := by
    show items.toList.reverse.toArray.size ≤ sizeLine
    rw [List.size_toArray, List.length_reverse, Array.length_toList]
    exact hsz
  obtain ⟨os, hos, hcs, hds⟩ := id hs
  have hTs : s.TypeIs (.ref sl) "slice" := ⟨os, hos, hcs⟩
  unfold getItem
  try with_reducible refine wpAny_holding ?_
  first | refine wpAny_bind (wpAny_pure ?_) | skip
  refine wpAny_bind (wpAny_sequenceKey ht.typeIs (by decide) ?_)
  refine wpAny_bind (wpAny_callSpecial?_slot (name := Str.ofString "__getitem__") ht.typeIs PyProof.Rows.slot_tuple_getitem (wpAny_call_entry PyProof.Rows.slot_tuple_getitem ht.typeIs entry_tuple_getitem ?_ (args_tuple_getitem _ _)))
  show wpAny _ _ (Builtin.Tuple.tupleItemsOf (.ref t) >>= _) _ _ s
  refine wpAny_bind (tupleItemsOf_ ht (wpAny_bind (wpAny_typeOf hTs ?_)))
  rw [if_pos (by decide)]
  refine wpAny_bind (applied_rev hs ps ?_)
  have no : ¬ ((((items.size : Int) - 1) == 0 && (-1 : Int) == 1 && items.size == items.size) = true) := by simp
  show wpAny _ _ (if ((((items.size : Int) - 1) == 0 && (-1 : Int) == 1 && items.size == items.size) = true) then _ else _) _ _ s
  rw [if_neg no, pick_rev]
  first
    | exact wpAny_bind (m := Builtin.Tuple.tupleExact _) (wpAny_newObj_type (wpAny_pure ⟨_, rfl, wpAny_pure h⟩) fit)
    | exact wpAny_bind (m := Builtin.Tuple.tupleExact _) (wpAny_newObj_type (wpAny_bind (wpAny_pure (wpAny_pure ⟨_, rfl, wpAny_pure h⟩))) fit)
end
def tRevT (K : PySem.W.Frag) (te : TE) : TE := fun σ H Q => te σ H fun x H1 => ∃ a xs, x = .ref a ∧ SqT K H1 a xs ∧ ∀ p, H1 p = none → Q (.ref p) (upd H1 p (.tup xs.reverse))
theorem pe_revT {X : Cx} {e : Expr} {te : TE} {k : Nat} {p1 p2 p3 pos : Pos} (he : PE X e te) : PE X (.Subscript e (.Slice none none (some (.UnaryOp .USub (.Constant (.int 1) k p1) p2)) p3) pos) (tRevT X.K te) := by
  refine ⟨fun pins s σ H Q I h => ?_⟩
  refine Subscript_ (thn (he.run pins s σ H _ I h) fun v s1 ⟨x, H1, I1, r1, a, xs, ex, hx, q⟩ => ?_)
  subst ex
  cases r1
  refine wpAny_Slice (thn (po_none.run pins s1 σ H1 (fun o H2 => o = none ∧ H2 = H1) I1 ⟨rfl, rfl⟩) fun vl s2 ⟨l, H2, I2, pl, el, e2⟩ => ?_)
  subst el e2
  refine thn (po_none.run pins s2 σ H2 (fun o H3 => o = none ∧ H3 = H2) I2 ⟨rfl, rfl⟩) fun vu s3 ⟨u, H3, I3, pu, eu, e3⟩ => ?_
  subst eu e3
  have step : PO X (some (.UnaryOp .USub (.Constant (.int 1) k p1) p2)) (tPart (tUn (rU fun i => .int (-i)) (tC (.int 1)))) := po_some (pe_un un_neg pe_int)
  refine thn (step.run pins s3 σ H3 (fun o H4 => o = some (-1) ∧ H4 = H3) I3 ⟨1, rfl, -1, rfl, rfl, rfl⟩) fun vs s4 ⟨o, H4, I4, ps, eo, e4⟩ => ?_
  subst eo e4
  cases pl
  cases pu
  have I5 : Inv X pins σ H4 { s4 with heap := s4.heap.push { cls := .type "slice", data := .fields #[.none, .none, vs] } } := I4.kept (t' := s4.toks) fun b ob q => Heap.get?_push_of_some _ q
  obtain ⟨its, r, ht, hz⟩ := I5.tuple hx
  have hlen := r.length
  show wpAny (model X.prog X.w) X.A (subscriptTail e (.Slice none none (some (.UnaryOp .USub (.Constant (.int 1) k p1) p2)) p3) (.ref a) (.ref s4.heap.objs.size)) (EP X pins σ Q) X.xe { s4 with heap := s4.heap.push { cls := .type "slice", data := .fields #[.none, .none, vs] } }
  refine tail_any (ops := [.ref a, .ref s4.heap.objs.size]) ht.typeIs (PyProof.Rows.slot_tuple_getitem.lookup) ?_ (by with_unfolding_all rfl)
  refine get_tupRev ht (Heap.IsSliceOf.new _ .none .none vs) ps ?_ (by rw [List.size_toArray]; omega)
  refine ⟨.ref _, _, I5.laid (t' := s4.toks) (o := .tup xs.reverse) (fun b ob q => Heap.get?_push_of_some _ q) (Nat.le_refl _) ?_, rfl, q _ (I5.hok.fresh (Nat.le_refl _))⟩
  exact ⟨by rw [List.length_reverse]; omega, _, r.reverse, IsTup.new _ _⟩
end My
/-! two tuples whose items are equal, under != -/
namespace My
open PySem PySem.Spec PySem.Calls PyProof.Rows L2 GQ
open PySem.AutoSeq1 (wpAny_loadPart')
section
variable {prog : Program} {w : World} {A : Around} {E : Value → Shared → Prop} {R : Result → Shared → Prop}
theorem tup_neG (l b : Addr) (xs ys : Array Value) (n n2 : Nat) (dd dd2 : Option Addr) (sl sl2 : Array (Option Value)) (hsz : xs.size = ys.size) (J : Nat → Shared → Prop)
    (turn : ∀ i (h1 : i < xs.size) (h2 : i < ys.size) s, J i s → wpAny (model prog w) A.in1 (eqBool xs[i] ys[i]) (fun r s' => r = true ∧ J (i + 1) s') (fun e s' => R (.error e) s') s)
    (fin : ∀ s, J xs.size s → R (.ok (.ret (.bool false))) s) {s : Shared} (hl1 : s.heap.get? l = some { cls := .type "tuple", dict := dd, data := .seq xs n, slots := sl }) (hb1 : s.heap.get? b = some { cls := .type "tuple", dict := dd2, data := .seq ys n2, slots := sl2 }) (h : J 0 s) :
    wpAny (model prog w) A.in1 (Builtin.«tuple.__ne__» ⟨[.ref l, .ref b], []⟩) (FinOf prog w A R) (fun e s' => R (.error e) s') s := by
  have f2 := AutoSeq1.sub_tuple_tuple
  have zl : (xs.toList.zip ys.toList).length = xs.size := by simp [hsz]
  have h0 := h
  obtain ⟨hp, g, d, tk, os⟩ := s
  wp_walk using wpAny_loadPart' hl1, wpAny_loadPart' hb1, wpAny_forIn_list _ (fun rest st s' => st.1 = none ∧ ∃ i, rest = (xs.toList.zip ys.toList).drop i ∧ i ≤ xs.size ∧ J i s') _
  case turn =>
    rintro ⟨u, v⟩ rest st s' ⟨hst, i, hr, hi, hJ⟩
    have lt : i < (xs.toList.zip ys.toList).length := by
      rcases Nat.lt_or_ge i (xs.toList.zip ys.toList).length with q | q
      · exact q
      · rw [List.drop_of_length_le q] at hr
        cases hr
    have k1 : i < xs.size := zl ▸ lt
    have k2 : i < ys.size := hsz ▸ k1
    rw [List.drop_eq_getElem_cons lt] at hr
    injection hr with hp hrest
    have eu : u = xs[i] := by
      have := congrArg Prod.fst hp
      simpa using this
    have ev : v = ys[i] := by
      have := congrArg Prod.snd hp
      simpa using this
    subst eu ev
    refine wpAny_bind (wpAny_mono (turn i k1 k2 s' hJ) (fun r s2 q2 => ?_) fun _ _ z => z)
    obtain ⟨rfl, q2⟩ := q2
    wp_walk
    exact ⟨rfl, i + 1, hrest, k1, q2⟩
  case fin =>
    rintro ⟨u, v⟩ s' ⟨hst, i, hr, hi, hJ⟩
    simp only at hst
    subst hst
    have ge : xs.size ≤ i := by
      rcases Nat.lt_or_ge i (xs.toList.zip ys.toList).length with q | q
      · rw [List.drop_eq_getElem_cons q] at hr
        cases hr
      · exact zl ▸ q
    have e : i = xs.size := by omega
    have done : R (.ok (.ret (.bool false))) s' := fin s' (e ▸ hJ)
    wp_walk
    simpa [Builtin.Tuple.tupleCompareSizes, hsz] using done
  case h =>
    exact ⟨rfl, 0, rfl, Nat.zero_le _, h0⟩
theorem rc_tup_neG {l b : Addr} {xs ys : Array Value} {Q : Value → Shared → Prop} {s : Shared} (hsz : xs.size = ys.size) (hu : A.units < cLine) (J : Nat → Shared → Prop) (hl : s.heap.IsTuple l xs) (hb : s.heap.IsTuple b ys)
    (turn : ∀ i (h1 : i < xs.size) (h2 : i < ys.size) s, J i s → wpAny (model prog w) A.in1 (eqBool xs[i] ys[i]) (fun r s' => r = true ∧ J (i + 1) s') E s) (fin : ∀ s, J xs.size s → Q (.bool false) s) (h : J 0 s) :
    wpAny (model prog w) A (richCompare .NotEq (.ref l) (.ref b)) Q E s := by
  obtain ⟨⟨c1, d1, t1, sl1⟩, ho, hc, n, hd⟩ := id hl
  obtain ⟨⟨c2, d2, t2, sl2⟩, ho2, hc2, n2, hd2⟩ := id hb
  simp only at hc hd hc2 hd2
  subst hc hd hc2 hd2
  refine wpAny_richCompare_same_room (op := .NotEq) ⟨_, ho, rfl⟩ ⟨_, ho2, rfl⟩ PySem.F.slot_tuple_ne (call_here PySem.F.slot_tuple_ne ⟨_, ho, rfl⟩ PySem.F.entry_tuple_ne (PySem.F.args_tuple_ne_2 _ _) ?_) hu
  exact tup_neG (R := wants (fun v s' => v ≠ .notImplemented ∧ Q v s') E) l b xs ys n n2 d1 d2 sl1 sl2 hsz J turn (fun s' q => ⟨(fun z => nomatch z), fin s' q⟩) ho ho2 h
end
/-- x != y, two tuples equal item by item: False -/
def rNeG (D : Eqv) : R2 := fun x y H Q => D x y H ∧ ∀ H', Ext H H' → Q (.bl false) H'
theorem op_neG {X : Cx} {n : Nat} {D : Eqv} (hD : Mon D) (h : EqG X n D) (hr : Room (n + 1) X.A) : OpR X (compareOp .NotEq) (rNeG (DTup X.K D)) := by
  intro pins s σ H x y v u Q I rx ry hq
  obtain ⟨⟨a, b, xs, ys, rfl, rfl, ha, hb, p⟩, q⟩ := hq
  cases rx
  cases ry
  show wpAny (model X.prog X.w) X.A (richCompare .NotEq (.ref a) (.ref b)) (EP X pins σ Q) X.xe s
  obtain ⟨its, r, e, z⟩ := I.tuple ha
  obtain ⟨its2, r2, e2, z2⟩ := I.tuple hb
  have hsz : its.toArray.size = its2.toArray.size := by rw [List.size_toArray, List.size_toArray, ← r.length, ← r2.length]; exact p.1
  refine rc_tup_neG hsz hr.units0 (fun _ s' => LoopI X pins σ H s') e e2 (fun i h1 h2 s' q => turnG hD h ⟨hr, rfl⟩ p r r2 i h1 h2 s' q) (fun s' q' => ?_) ⟨H, I, Ext.rfl'⟩
  obtain ⟨H', I', e'⟩ := q'
  exact ⟨.bl false, H', I', rfl, q H' e'⟩
end My
/-! list.count of tuples -/
namespace My
open PySem PySem.Spec PyProof.Rows L2
theorem u65 {k : Nat} {A : Around} (h : Room k A) : A.units + 65 < cLine := by
  have := h.un
  omega
theorem u1 {k : Nat} {A : Around} (h : Room k A) : A.units + 1 < cLine := by
  have := h.un
  omega
section
variable {X : Cx}
theorem dpall_at {K : PySem.W.Frag} {H : Hp} : ∀ {vs : List V} {ds : List PyData}, DpAll K H vs ds → ∀ {i : Nat} {v : V} {d : PyData}, vs[i]? = some v → ds[i]? = some d → Dp K H v d
  | _, _, .nil, _, _, _, e, _ => by cases e
  | _, _, .cons a t, 0, _, _, e1, e2 => by
    cases e1
    cases e2
    exact a
  | _, _, .cons a t, i + 1, _, _, e1, e2 => dpall_at t (i := i) (by simpa using e1) (by simpa using e2)
theorem dpall_len {K : PySem.W.Frag} {H : Hp} : ∀ {vs : List V} {ds : List PyData}, DpAll K H vs ds → vs.length = ds.length
  | _, _, .nil => rfl
  | _, _, .cons a t => by rw [List.length_cons, List.length_cons, dpall_len t]
def rCountD (K : PySem.W.Frag) : V → List V → Hp → VK → Prop := fun x xs H Q => ∃ (a : Addr) (y : V) (d : PyData) (bs : List Addr) (ds : List PyData) (e : Addr → Bool), x = V.ref a ∧ xs = [y] ∧ SqL K H a (bs.map V.ref) ∧ DpAll K H (bs.map V.ref) ds ∧ Dp K H y d ∧ SeqAt.shaped d = true ∧ (∀ z ∈ ds, SeqAt.shaped z = true) ∧
  (∀ (i : Nat) (b : Addr) (z : PyData), bs[i]? = some b → ds[i]? = some z → z.eqv d = e b) ∧ Q (.int (bs.countP e : Nat)) H
def eqR (e : Addr → Bool) : Value → Bool
  | .ref b => e b
  | _ => false
theorem vals_refs {bs : List Addr} {its : List Value} (r : Vals (bs.map V.ref) its) : its = bs.map Value.ref := by
  induction bs generalizing its with
  | nil =>
    cases r
    rfl
  | cons b bs ih =>
    rw [List.map_cons] at r
    cases r with
    | cons r t =>
      cases r
      rw [ih t] <;> rfl
theorem mt_countD (hu : X.A.units + 65 < cLine) : MtR X "list.count" (rCountD X.K) := by
  intro pins s σ H x xs v us Q I rx rxs h
  obtain ⟨a, y, d, bs, ds, e, rfl, rfl, hs, hds, hy, sd, sds, he, q⟩ := h
  cases rx
  cases rxs with
  | cons ry rt =>
    rename_i uy ut
    cases rt
    obtain ⟨its, rv, ⟨⟨cls, dd, data, sl⟩, n, ho, hc, hdn, hd⟩, hlen⟩ := I.list hs
    simp only at hc hd
    subst hc hd
    have ei := vals_refs rv
    subst ei
    obtain ⟨as, r2⟩ := Dp.reads I d y uy hy ry
    have m := SeqAt.list_countAt a (bs.map Value.ref).toArray n dd sl uy (eqR e)
    refine call_meets PySem.F.slot_list_count ⟨_, ho, rfl⟩ PySem.F.entry_list_count (PySem.F.args_list_count_2 _ _) m ⟨ho, fun w hw => ?_, ?_⟩
    · have hw : w ∈ bs.map Value.ref := by simpa using hw
      obtain ⟨b, hb, rfl⟩ := List.mem_map.mp hw
      obtain ⟨i, hi⟩ := List.mem_iff_getElem?.mp hb
      have il := (List.getElem?_eq_some_iff.mp hi).1
      have hl := dpall_len hds
      rw [List.length_map] at hl
      have hz : ds[i]? = some ds[i] := List.getElem?_eq_getElem _
      have hv : (bs.map V.ref)[i]? = some (V.ref b) := by rw [List.getElem?_map, hi] <;> rfl
      obtain ⟨bs2, r1⟩ := Dp.reads I ds[i] (.ref b) (.ref b) (dpall_at hds hv hz) rfl
      have sz := sds _ (List.mem_of_getElem? hz)
      have key := SeqAt.eqAt_reads ds[i] d X.A.in1 _ (.ref b) uy bs2 as r1 r2 (SeqAt.canLay_of_shaped sz) (SeqAt.canLay_of_shaped sd) (by
        have := SeqAt.depth_of_shaped sd
        show X.A.units + 1 + _ < _
        omega)
      rw [he i b _ hi hz] at key
      exact key
    · have ec : (bs.map Value.ref).toArray.toList.countP (eqR e) = bs.countP e := by
        rw [List.toList_toArray, List.countP_map] <;> rfl
      rw [ec]
      exact ⟨.int _, H, I.tok _, ⟨_, rfl⟩, q⟩
end
end My
/-! lists of unlike lengths, compared: their items are not asked -/
namespace My
open PySem PySem.Spec PyProof.Rows L2
section
variable {prog : Program} {w : World} {A : Around} {E : Value → Shared → Prop}
theorem list_eq_sz (l b : Addr) (items items2 : Array Value) (n n2 : Nat) (dd dd2 : Option Addr) (sl sl2 : Array (Option Value)) (hsz : items.size ≠ items2.size) :
    MeetsIn prog w (Builtin.«list.__eq__» ⟨[.ref l, .ref b], []⟩)
      (fun A R s => s.heap.get? l = some { cls := .type "list", dict := dd, data := .seq items n, slots := sl } ∧ s.heap.get? b = some { cls := .type "list", dict := dd2, data := .seq items2 n2, slots := sl2 } ∧
        R (.ok (.ret (.bool false))) s) := by
  intro A R s h
  obtain ⟨hp, g, d, tk, os⟩ := s; obtain ⟨hl, hb, h⟩ := h
  have f3 := AutoSeq1.sub_list_list
  have hne : (items.size != items2.size) = true := by simp [hsz]
  wp_walk using wpAny_loadPart' hl, wpAny_loadPart' hb
  exact h
theorem list_ne_sz (l b : Addr) (items items2 : Array Value) (n n2 : Nat) (dd dd2 : Option Addr) (sl sl2 : Array (Option Value)) (hsz : items.size ≠ items2.size) :
    MeetsIn prog w (Builtin.«list.__ne__» ⟨[.ref l, .ref b], []⟩)
      (fun A R s => s.heap.get? l = some { cls := .type "list", dict := dd, data := .seq items n, slots := sl } ∧ s.heap.get? b = some { cls := .type "list", dict := dd2, data := .seq items2 n2, slots := sl2 } ∧
        R (.ok (.ret (.bool true))) s) := by
  intro A R s h
  obtain ⟨hp, g, d, tk, os⟩ := s; obtain ⟨hl, hb, h⟩ := h
  have f3 := AutoSeq1.sub_list_list
  have hne : (items.size != items2.size) = true := by simp [hsz]
  wp_walk using wpAny_loadPart' hl, wpAny_loadPart' hb
  exact h
theorem rc_list_sz {s : Shared} {l b : Addr} {items items2 : Array Value} (hl : s.heap.IsList l items) (hb : s.heap.IsList b items2) (hsz : items.size ≠ items2.size) (hu : A.units < cLine) (E Q : Value → Shared → Prop) (h : Q (.bool false) s) : wpAny (model prog w) A (richCompare .Eq (.ref l) (.ref b)) Q E s := by
  obtain ⟨⟨cls, dd, data, sl⟩, ho, hc, n, hd⟩ := id hl
  obtain ⟨⟨cls2, dd2, data2, sl2⟩, ho2, hc2, n2, hd2⟩ := id hb
  simp only at hc hd hc2 hd2
  subst hc hd hc2 hd2
  have ta : s.TypeIs (.ref l) "list" := ⟨_, ho, rfl⟩
  have tb : s.TypeIs (.ref b) "list" := ⟨_, ho2, rfl⟩
  exact wpAny_richCompare_same_room (op := .Eq) ta tb F.slot_list_eq (call_meetsIn F.slot_list_eq ta F.entry_list_eq (F.args_list_eq_2 _ _) (list_eq_sz l b items items2 n n2 dd dd2 sl sl2 hsz)
    ⟨ho, ho2, show Value.bool false ≠ Value.notImplemented ∧ Q (.bool false) s from ⟨(fun x => nomatch x), h⟩⟩) hu
theorem rc_list_szN {s : Shared} {l b : Addr} {items items2 : Array Value} (hl : s.heap.IsList l items) (hb : s.heap.IsList b items2) (hsz : items.size ≠ items2.size) (hu : A.units < cLine) (E Q : Value → Shared → Prop) (h : Q (.bool true) s) : wpAny (model prog w) A (richCompare .NotEq (.ref l) (.ref b)) Q E s := by
  obtain ⟨⟨cls, dd, data, sl⟩, ho, hc, n, hd⟩ := id hl
  obtain ⟨⟨cls2, dd2, data2, sl2⟩, ho2, hc2, n2, hd2⟩ := id hb
  simp only at hc hd hc2 hd2
  subst hc hd hc2 hd2
  have ta : s.TypeIs (.ref l) "list" := ⟨_, ho, rfl⟩
  have tb : s.TypeIs (.ref b) "list" := ⟨_, ho2, rfl⟩
  exact wpAny_richCompare_same_room (op := .NotEq) ta tb F.slot_list_ne (call_meetsIn F.slot_list_ne ta F.entry_list_ne (F.args_list_ne_2 _ _) (list_ne_sz l b items items2 n n2 dd dd2 sl sl2 hsz)
    ⟨ho, ho2, show Value.bool true ≠ Value.notImplemented ∧ Q (.bool true) s from ⟨(fun x => nomatch x), h⟩⟩) hu
end
/-- x == [] and x != [], whatever x holds -/
def rNil (K : PySem.W.Frag) (neg : Bool) : R2 := fun x y H Q => ∃ a b xs, x = .ref a ∧ y = .ref b ∧ SqL K H a xs ∧ SqL K H b [] ∧ Q (.bl (xs.isEmpty != neg)) H
theorem op_eqNil {X : Cx} (hu : X.A.units + 64 < cLine) : OpR X (compareOp .Eq) (rNil X.K false) := by
  intro pins s σ H x y v u Q I rx ry hq
  obtain ⟨a, b, xs, rfl, rfl, ha, hb, q⟩ := hq
  cases xs with
  | nil => exact op_eqD hu pins s σ H _ _ _ _ Q I rx ry ⟨.list [], .list [], .lst ha .nil, .lst hb .nil, rfl, rfl, q⟩
  | cons x xs =>
    cases rx
    cases ry
    show wpAny (model X.prog X.w) X.A (richCompare .Eq (.ref a) (.ref b)) (EP X pins σ Q) X.xe s
    obtain ⟨its, r, e⟩ := I.list ha
    obtain ⟨its2, r2, e2⟩ := I.list hb
    refine rc_list_sz e.1.isList e2.1.isList ?_ (Nat.lt_of_le_of_lt (Nat.le_add_right _ _) hu) _ _ ⟨.bl false, H, I, rfl, q⟩
    rw [List.size_toArray, List.size_toArray, ← r.length, ← r2.length]
    simp
theorem op_neNil {X : Cx} (hu : X.A.units + 64 < cLine) : OpR X (compareOp .NotEq) (rNil X.K true) := by
  intro pins s σ H x y v u Q I rx ry hq
  obtain ⟨a, b, xs, rfl, rfl, ha, hb, q⟩ := hq
  cases xs with
  | nil => exact op_neD hu pins s σ H _ _ _ _ Q I rx ry ⟨.list [], .list [], .lst ha .nil, .lst hb .nil, rfl, rfl, q⟩
  | cons x xs =>
    cases rx
    cases ry
    show wpAny (model X.prog X.w) X.A (richCompare .NotEq (.ref a) (.ref b)) (EP X pins σ Q) X.xe s
    obtain ⟨its, r, e⟩ := I.list ha
    obtain ⟨its2, r2, e2⟩ := I.list hb
    refine rc_list_szN e.1.isList e2.1.isList ?_ (Nat.lt_of_le_of_lt (Nat.le_add_right _ _) hu) _ _ ⟨.bl true, H, I, rfl, q⟩
    rw [List.size_toArray, List.size_toArray, ← r.length, ← r2.length]
    simp
end My
/-! lambdas as objects that are kept: made, and called later -/
namespace My
open PySem PySem.Spec PySem.Calls PyProof.Rows L2
/-- a lambda as it lies in the heap -/
structure LamD where
  q : Str
  ps : Arguments
  e : Expr
  sc : Scope
  cl : List (Str × Addr)
  co : Addr
  dt : Value
abbrev lamF (D : LamD) (m t : Value) : FuncData :=
  { name := "<lambda>", qualname := D.q, params := D.ps, body := .expr D.e, scope := D.sc, globals := mainGlobals, closure := D.cl, closureTuple := t, code := .ref D.co, builtins := builtinsNs, defaults := D.dt, kwdefaults := .none, annotations := none, pyModule := m, doc := .none }
def LamO (f : Addr) (D : LamD) : HO := .ext fun h => ∃ m t, h.get? f = some { cls := .type "function", data := .func (lamF D m t) }
section
variable {M : Model} {A : Around} {E : Value → Shared → Prop} {s : Shared} {name qual : Str} {par : Arguments} {bd : Expr} {scp : Scope} {env : Env} {cd P : Addr} {tab : Array Value} {pos : Pos} {ln : Nat} {mg : Str → Option Value} {clo : List (Str × Addr)} {dV : Value} {Q : Value → Shared → Prop}
/-- the making of the object, once its defaults are reckoned; its code is new -/
theorem lam_tailN (c1 : closureFor scp env = pure clo) (c2 : env.globals = mainGlobals) (c3 : s.heap.Ns mainGlobals mg) (c4 : env.code = .ref cd) (c5 : PySem.W.CodeHd s.heap cd P)
    (c6 : s.heap.get? P = some (PySem.W.tabObj tab)) (c7 : TriplesOk tab.toList) (c8 : codeAmong pos tab.toList = none) (c9 : mainGlobals ≠ P) (c10 : s.heap.BuiltinsAt mg P)
    (fin : ∀ (co : Addr) (t : Value) (g : Heap) (tk : Tok), Heap.ExtBut P s.heap g → s.heap.objs.size ≤ co → co < g.objs.size → g.CodeRec (.ref co) qual → g.get? P = some (PySem.W.tabObj (tab ++ #[rawInt pos.line, rawInt pos.col, .ref co])) →
      Q (.ref g.objs.size) { s with heap := g.push { cls := .type "function", data := .func { name, qualname := qual, params := par, body := .expr bd, scope := scp, globals := mainGlobals, closure := clo, closureTuple := t, code := .ref co, builtins := builtinsNs, defaults := dV, kwdefaults := .none, annotations := none, pyModule := (mg "__name__").getD .none, doc := .none } }, toks := tk }) :
    wpAny M A (makeTail name qual par (.expr bd) scp env dV .none none pos ln) Q E s := by
  obtain ⟨mb, om, b1, b2, b3, b4, b5, b6, b7, b8⟩ := c10
  unfold makeTail
  rw [c1, c2]
  refine wpAny_bind (wpAny_pure ?_)
  by_cases hc : clo.isEmpty = true
  · rw [if_pos hc]
    refine wpAny_bind (wpAny_pure (wpAny_bind (wpAny_functionCodeX c4 (c5.code c6 c7) (c5.tab c6) c8 fun co g tk k1 k2 k3 _ k5 k6 _ => ?_)))
    have n1 := c3.extBut k1 c9
    exact wpAny_bind (wpAny_builtinsFor n1 b1 b2 (k1 _ _ b4 b5) b6 b7 b8 (wpAny_bind (wpAny_nsGet n1 (wpAny_bind (wpAny_pure (wpAny_newObj_type (fin co .none g tk k1 k2 k3 k5 k6.2) (by size_fits)))))))
  · rw [if_neg hc]
    refine wpAny_bind (wpAny_newTextTuple (wpAny_bind ?_))
    have up : ∀ {b : Addr} {o o2 : Obj}, s.heap.get? b = some o → (s.heap.push o2).get? b = some o := fun e => Heap.get?_push_of_some _ e
    refine wpAny_functionCodeX c4 ((c5.keeps fun b o e => up e).code (up c6) c7) ((c5.keeps fun b o e => up e).tab (up c6)) c8 fun co g tk k1 k2 k3 _ k5 k6 _ => ?_
    have n1 := (c3.push _).extBut k1 c9
    have k0 : Heap.ExtBut P s.heap g := fun b o ne e => k1 b o ne (up e)
    have sz : s.heap.objs.size ≤ co := Nat.le_trans (by rw [Heap.size_push]; omega) k2
    exact wpAny_bind (wpAny_builtinsFor n1 b1 b2 (k0 _ _ b4 b5) b6 b7 b8 (wpAny_bind (wpAny_nsGet n1 (wpAny_bind (wpAny_pure (wpAny_newObj_type (fin co _ g tk k0 sz k3 k5 k6.2) (by size_fits)))))))
/-- its code is found -/
theorem lam_tailH {cv : Value} (c1 : closureFor scp env = pure clo) (c2 : env.globals = mainGlobals) (c3 : s.heap.Ns mainGlobals mg) (c4 : env.code = .ref cd) (c5 : PySem.W.CodeHd s.heap cd P)
    (c6 : s.heap.get? P = some (PySem.W.tabObj tab)) (c7 : TriplesOk tab.toList) (c8 : codeAmong pos tab.toList = some cv) (c10 : s.heap.BuiltinsAt mg P)
    (fin : ∀ (t : Value) (g : Heap) (tk : Tok), (∀ b o, s.heap.get? b = some o → g.get? b = some o) → s.heap.objs.size ≤ g.objs.size →
      Q (.ref g.objs.size) { s with heap := g.push { cls := .type "function", data := .func { name, qualname := qual, params := par, body := .expr bd, scope := scp, globals := mainGlobals, closure := clo, closureTuple := t, code := cv, builtins := builtinsNs, defaults := dV, kwdefaults := .none, annotations := none, pyModule := (mg "__name__").getD .none, doc := .none } }, toks := tk }) :
    wpAny M A (makeTail name qual par (.expr bd) scp env dV .none none pos ln) Q E s := by
  obtain ⟨mb, om, b1, b2, b3, b4, b5, b6, b7, b8⟩ := c10
  unfold makeTail
  rw [c1, c2]
  refine wpAny_bind (wpAny_pure ?_)
  by_cases hc : clo.isEmpty = true
  · rw [if_pos hc]
    refine wpAny_bind (wpAny_pure (wpAny_bind (wpAny_functionCode_hit c4 (c5.code c6 c7) c8 ?_)))
    exact wpAny_bind (wpAny_builtinsFor c3 b1 b2 b5 b6 b7 b8 (wpAny_bind (wpAny_nsGet c3 (wpAny_bind (wpAny_pure (wpAny_newObj_type (fin .none s.heap s.toks (fun _ _ e => e) (Nat.le_refl _)) (by size_fits)))))))
  · rw [if_neg hc]
    refine wpAny_bind (wpAny_newTextTuple (wpAny_bind ?_))
    have up : ∀ {b : Addr} {o o2 : Obj}, s.heap.get? b = some o → (s.heap.push o2).get? b = some o := fun e => Heap.get?_push_of_some _ e
    refine wpAny_functionCode_hit c4 ((c5.keeps fun b o e => up e).code (up c6) c7) c8 ?_
    have sz : ∀ o2 : Obj, s.heap.objs.size ≤ (s.heap.push o2).objs.size := fun o2 => by rw [Heap.size_push]; omega
    exact wpAny_bind (wpAny_builtinsFor (c3.push _) b1 b2 (up b5) b6 b7 b8 (wpAny_bind (wpAny_nsGet (c3.push _) (wpAny_bind (wpAny_pure (wpAny_newObj_type (fin _ _ s.toks (fun b o e => up e) (sz _)) (by size_fits)))))))
end
section
variable {X : Cx} {pins : List (Addr × Obj)} {σ : L2.St} {H : Hp} {s : Shared}
/-- the table of code objects at P, all of one name -/
structure TabK (H : Hp) (P : Addr) (tab : Array Value) : Prop where
  at_ : H P = some (.tbl tab)
  ok : TriplesOk tab.toList
/-- what the making of a lambda does to the heap -/
structure Made1 (H : Hp) (P : Addr) (tab : Array Value) (q : Str) (f co : Addr) (D : LamD) (H1 : Hp) (tab' : Array Value) : Prop where
  kp : ∀ b o, b ≠ P → H b = some o → H1 b = some o
  tb : TabK H1 P tab'
  cd : ∀ p cv, codeAmong p tab'.toList = some cv → (∃ p', codeAmong p' tab.toList = some cv) ∨ cv = .ref co
  cod : H1 co = some (LamX.CodeO co q)
  old : H co = none ∨ ∃ p, codeAmong p tab.toList = some (.ref co)
  new : H f = none
  fn : H1 f = some (LamO f D)
  ne : f ≠ co
theorem lam_obj {h : Heap} {a : Addr} {D : LamD} {m t : Value} {H : Hp} (e : h.get? a = some { cls := .type "function", data := .func (lamF D m t) }) : ObjOk X.prog X.w (upd H a (LamO a D)) h a (LamO a D) :=
  ⟨⟨m, t, e⟩, ⟨_, e⟩, fun h1 h2 ⟨m, t, x⟩ st => ⟨m, t, st _ x⟩⟩
theorem lam_put {cd P : Addr} {ps : Arguments} {e : Expr} {sc : Scope} {pos : Pos} {dV : Value} {tab : Array Value} {E Q : Value → Shared → Prop} (I : Inv X pins σ H s) (TB : LamX.TabB X.base X.mg cd P) (hcode : X.env.code = .ref cd) (hT : TabK H P tab)
    (hold : ∀ p cv, codeAmong p tab.toList = some cv → ∃ c, cv = .ref c ∧ H c = some (LamX.CodeO c (X.env.qual ++ "<lambda>"))) (hfree : ∀ y ∈ sc.names, y.2 = .free → ∃ c, X.env.cells.lookup y.1 = some c)
    (fin : ∀ (f co : Addr) (tab' : Array Value) (H1 : Hp) (s' : Shared), Inv X pins σ H1 s' → Made1 H P tab (X.env.qual ++ "<lambda>") f co ⟨X.env.qual ++ "<lambda>", ps, e, sc, cloFrom X.env.cells sc.names [], co, dV⟩ H1 tab' → Q (.ref f) s') :
    wpAny (model X.prog X.w) X.A (makeTail "<lambda>" (X.env.qual ++ "<lambda>") ps (.expr e) sc X.env dV .none none pos pos.line) Q E s := by
  have bP : s.heap.BuiltinsAt X.mg P := TB.bm.keeps I.bk
  have oP : s.heap.get? P = some { cls := .none, data := .fields tab } := I.hok P _ hT.at_
  cases hc : codeAmong pos tab.toList with
  | none =>
    refine lam_tailN (mg := X.mg) (cd := cd) (P := P) (tab := tab) (closure_ok hfree) I.ok.glob (I.mod.glob.keeps I.bk) hcode (TB.code.keeps I.bk) oP hT.ok hc TB.gP bP fun co t g tk hx hge hlt hrec htb => ?_
    obtain ⟨c2, oc, vs, u, e2, hoc, hd, hv⟩ := hrec
    cases e2
    have hsz : s.heap.objs.size ≤ g.objs.size := Nat.le_trans hge (Nat.le_of_lt hlt)
    have nC : H co = none := I.hok.fresh hge
    have J := LamX.inv_table (t' := tk) (more := #[rawInt pos.line, rawInt pos.col, .ref co]) (h' := g) I hT.at_ (fun b o hb z => hx b o hb z) htb hge ⟨oc, vs, u, hoc, hd, hv⟩
    have nP : P ≠ co := ne_of_none hT.at_ nC
    have lt1 : ∀ {b : Addr} {o : Obj}, s.heap.get? b = some o → b ≠ g.objs.size := fun {b o} z => Nat.ne_of_lt (Nat.lt_of_lt_of_le (Heap.lt_size z) hsz)
    have J2 := J.laid (t' := tk) (h' := g.push { cls := .type "function", data := .func (lamF ⟨X.env.qual ++ "<lambda>", ps, e, sc, cloFrom X.env.cells sc.names [], co, dV⟩ ((X.mg "__name__").getD .none) t) }) (fun b o z => Heap.get?_push_of_some _ z) (Nat.le_refl _) (lam_obj (Heap.get?_push_size _ rfl))
    have fH : H g.objs.size = none := I.hok.fresh hsz
    have ncf : g.objs.size ≠ co := Nat.ne_of_gt hlt
    have npf : P ≠ g.objs.size := lt1 oP
    refine fin g.objs.size co _ _ _ J2 ⟨fun b o hb z => ?_, ⟨by rw [upd_ne npf, upd_ne nP, upd_same], ?_⟩, fun p cv z => ?_, ?_, .inl nC, fH, upd_same, ncf⟩
    · rw [upd_ne (ne_of_none z fH), upd_ne (ne_of_none z nC), upd_ne hb]
      exact z
    · rw [show (tab ++ #[rawInt pos.line, rawInt pos.col, .ref co]).toList = tab.toList ++ [rawInt pos.line, rawInt pos.col, .ref co] by simp]
      exact PySem.TriplesOk_snoc _ _ _ _ hT.ok
    · rw [show (tab ++ #[rawInt pos.line, rawInt pos.col, .ref co]).toList = tab.toList ++ [rawInt pos.line, rawInt pos.col, .ref co] by simp] at z
      rcases LamX.among_app _ hT.ok z with z | z
      · exact .inl ⟨p, z⟩
      · exact .inr z
    · rw [upd_ne ncf.symm, upd_same]
  | some cv =>
    obtain ⟨co, rfl, hco⟩ := hold pos cv hc
    refine lam_tailH (mg := X.mg) (cd := cd) (P := P) (tab := tab) (closure_ok hfree) I.ok.glob (I.mod.glob.keeps I.bk) hcode (TB.code.keeps I.bk) oP hT.ok hc bP fun t g tk hx hsz => ?_
    have J := I.laid (t' := tk) (a := g.objs.size) (h' := g.push { cls := .type "function", data := .func (lamF ⟨X.env.qual ++ "<lambda>", ps, e, sc, cloFrom X.env.cells sc.names [], co, dV⟩ ((X.mg "__name__").getD .none) t) }) (fun b o z => Heap.get?_push_of_some _ (hx b o z)) hsz (lam_obj (Heap.get?_push_size _ rfl))
    have fH : H g.objs.size = none := I.hok.fresh hsz
    exact fin g.objs.size co tab _ _ J ⟨fun b o _ z => by rw [upd_ne (ne_of_none z fH)]; exact z, ⟨by rw [upd_ne (ne_of_none hT.at_ fH)]; exact hT.at_, hT.ok⟩, fun p cv z => .inl ⟨p, z⟩, by rw [upd_ne (ne_of_none hco fH)]; exact hco, .inr ⟨pos, hc⟩, fH, upd_same, fun z => by rw [← z, fH] at hco; cases hco⟩
/-- lambda: e, and lambda x=d: e, as values -/
def tNewLam (P : Addr) (D : Addr → LamD) (q : Str) : TE := fun _ H Q => ∃ tab, TabK H P tab ∧ (∀ p cv, codeAmong p tab.toList = some cv → ∃ c, cv = .ref c ∧ H c = some (LamX.CodeO c q)) ∧
  ∀ f co tab' H1, Made1 H P tab q f co (D co) H1 tab' → Q (.ref f) H1
theorem pe_newlam {cd P : Addr} {ps : Arguments} {e : Expr} {sc : Scope} {pos : Pos} (TB : LamX.TabB X.base X.mg cd P) (hcode : X.env.code = .ref cd) (hfree : ∀ (y : Str × NameKind), y ∈ sc.names → y.2 = .free → X.env.scope.names.lookup y.1 = some .cell ∨ X.env.scope.names.lookup y.1 = some .free) (hdef : defaultsOf ps X.env = ([], [])) :
    PE X (.Lambda ps e sc pos) (tNewLam P (fun co => ⟨X.env.qual ++ "<lambda>", ps, e, sc, cloFrom X.env.cells sc.names [], co, .none⟩) (X.env.qual ++ "<lambda>")) := by
  refine ⟨fun pins s σ H Q I ⟨tab, hT, hold, h⟩ => ?_⟩
  have has : ∀ y ∈ sc.names, y.2 = .free → ∃ c, X.env.cells.lookup y.1 = some c := fun y hy z => I.ok.has _ (hfree y hy z)
  refine PySem.W.kla_eval hdef ?_
  rw [makeFunction_eq]
  simp only [if_true, pure_bind, List.zip_nil_right, List.filterMap_nil, List.isEmpty_nil]
  exact lam_put I TB hcode hT hold has fun f co tab' H1 s' J m => ⟨.ref f, H1, J, rfl, h f co tab' H1 m⟩
/-- .. with a default -/
def tNewLamD (P : Addr) (D : Value → Addr → LamD) (q : Str) (td : TE) : TE := fun σ H Q => td σ H fun v H0 => ∀ t, H0 t = none → ∃ tab, TabK (upd H0 t (.tup [v])) P tab ∧ (∀ p cv, codeAmong p tab.toList = some cv → ∃ c, cv = .ref c ∧ upd H0 t (.tup [v]) c = some (LamX.CodeO c q)) ∧
  ∀ f co tab' H1, Made1 (upd H0 t (.tup [v])) P tab q f co (D (.ref t) co) H1 tab' → Q (.ref f) H1
theorem pe_newlamD {cd P : Addr} {ps : Arguments} {e d : Expr} {sc : Scope} {pos : Pos} {td : TE} (TB : LamX.TabB X.base X.mg cd P) (hcode : X.env.code = .ref cd) (hfree : ∀ (y : Str × NameKind), y ∈ sc.names → y.2 = .free → X.env.scope.names.lookup y.1 = some .cell ∨ X.env.scope.names.lookup y.1 = some .free) (hd : PE X d td) (hdef : defaultsOf ps X.env = ([eval d X.env], [])) :
    PE X (.Lambda ps e sc pos) (tNewLamD P (fun dV co => ⟨X.env.qual ++ "<lambda>", ps, e, sc, cloFrom X.env.cells sc.names [], co, dV⟩) (X.env.qual ++ "<lambda>") td) := by
  refine ⟨fun pins s σ H Q I h => ?_⟩
  have has : ∀ y ∈ sc.names, y.2 = .free → ∃ c, X.env.cells.lookup y.1 = some c := fun y hy z => I.ok.has _ (hfree y hy z)
  rw [arm_eval_Lambda, hdef]
  show wpAny _ _ (do let dv ← evalAll [eval d X.env]; let kdv ← holding dv (evalAllOpt []); makeFunction "<lambda>" (X.env.qual ++ "<lambda>") ps (.expr e) sc X.env dv kdv [] pos pos.line) _ _ s
  refine wpAny_bind ?_
  show wpAny _ _ (do let v ← eval d X.env; return v :: (← holding [v] (evalAll []))) _ _ s
  refine wpAny_bind (thn (hd.run pins s σ H _ I h) fun u s1 ⟨v, H0, J, rv, h1⟩ => ?_)
  refine wpAny_bind (wpAny_holding (wpAny_pure (wpAny_pure (wpAny_bind (wpAny_holding (wpAny_pure ?_))))))
  rw [makeFunction_eq]
  simp only [List.zip_nil_right, List.filterMap_nil, List.isEmpty_nil, List.isEmpty_cons, if_true, pure_bind, Bool.false_eq_true, if_false]
  refine wpAny_bind (wpAny_newTextTuple ?_)
  have fH : H0 s1.heap.objs.size = none := J.hok.fresh (Nat.le_refl _)
  have J2 := J.laid (t' := s1.toks) (a := s1.heap.objs.size) (o := .tup [v]) (h' := s1.heap.push { cls := .type "tuple", data := .seq [u].toArray }) (fun b o z => Heap.get?_push_of_some _ z) (Nat.le_refl _)
    ⟨by show 1 ≤ sizeLine; decide, [u], .cons rv .nil, ⟨_, Heap.get?_push_size _ rfl, rfl, _, rfl⟩⟩
  obtain ⟨tab, hT, hold, h2⟩ := h1 _ fH
  exact lam_put J2 TB hcode hT hold has fun f co tab' H1 s' K m => ⟨.ref f, H1, K, rfl, h2 f co tab' H1 m⟩
end
/-! called -/
/-- a lambda's names: none of them a cell of its own; those of its own stand in the law's slots is, if at all -/
structure LamL (Nn : List Str) (sc scope : Scope) (is : List Nat) : Prop where
  kind : scope.kind = .function
  co : scope.isCoroutine = false
  gen : scope.isGenerator = false
  own : ∀ y ∈ scope.names, y.2 ≠ .cell
  free : ∀ y ∈ scope.names, y.2 = .free → sc.names.lookup y.1 = some .cell ∨ sc.names.lookup y.1 = some .free
  loc : ∀ y ∈ scope.names, y.2 = .local → ∀ i : Nat, Nn[i]? = some y.1 → i ∈ is
def lamLB (Nn : List Str) (sc scope : Scope) (is : List Nat) : Bool :=
  decide (scope.kind = .function) && !scope.isCoroutine && !scope.isGenerator && scope.names.all fun y => !decide (y.2 = .cell) && (!decide (y.2 = .free) || decide (sc.names.lookup y.1 = some .cell) || decide (sc.names.lookup y.1 = some .free)) &&
    (!decide (y.2 = .local) || (List.range Nn.length).all fun i => !decide (Nn[i]? = some y.1) || is.contains i)
theorem lamL_by {Nn : List Str} {sc scope : Scope} {is : List Nat} (h : lamLB Nn sc scope is = true) : LamL Nn sc scope is := by
  unfold lamLB at h
  simp only [Bool.and_eq_true, Bool.or_eq_true, Bool.not_eq_true', decide_eq_true_eq, decide_eq_false_iff_not, List.all_eq_true, List.contains_iff_mem] at h
  obtain ⟨⟨⟨h1, h2⟩, h3⟩, h4⟩ := h
  refine ⟨h1, h2, h3, fun y hy => (h4 y hy).1.1, fun y hy e => ?_, fun y hy e i hi => ?_⟩
  · rcases (h4 y hy).1.2 with (z | z) | z
    · exact absurd e z
    · exact .inl z
    · exact .inr z
  · rcases (h4 y hy).2 with z | z
    · exact absurd e z
    · rcases z i (List.mem_range.mpr (List.getElem?_eq_some_iff.mp hi).1) with z | z
      · exact absurd hi z
      · exact z
theorem wipe_at : ∀ (is : List Nat) (σ : L2.St) (i : Nat) (v : V), (L2.wipe σ is)[i]? = some (some v) → i ∉ is ∧ σ[i]? = some (some v)
  | [], _, _, _, h => ⟨fun z => (by cases z), h⟩
  | j :: is, σ, i, v, h => by
    have h : ((L2.wipe σ is).set j none)[i]? = some (some v) := h
    by_cases e : i = j
    · subst e
      rw [List.getElem?_set] at h
      simp at h
    · rw [List.getElem?_set_ne (fun z => e z.symm)] at h
      obtain ⟨h1, h2⟩ := wipe_at is σ i v h
      exact ⟨fun z => (List.mem_cons.mp z).elim e h1, h2⟩
theorem wipe_len (σ : L2.St) : ∀ is : List Nat, (L2.wipe σ is).length = σ.length
  | [] => rfl
  | j :: is => by
    show ((L2.wipe σ is).set j none).length = _
    rw [List.length_set, wipe_len σ is]
/-- the law's cells stand as they did, and nobody else's -/
def CellsKept (X : Cx) (s : Shared) (HZ : Hp) (s1 : Shared) : Prop := ∀ y c, X.env.cells.lookup y = some c → HZ c = none ∧ ∀ v, s.heap.IsCell c v → s1.heap.IsCell c v
/-- a larger base: what stood at s and isn't tracked, frames aside -/
structure Plus (X : Cx) (s : Shared) (H : Hp) (B : Heap) : Prop where
  sub : ∀ b o, X.base.get? b = some o → B.get? b = some o
  cells : ∀ y c o, X.env.cells.lookup y = some c → s.heap.get? c = some o → B.get? c = some o
  e0 : Env0 X.prog X.w X.K X.mg B X.A X.stack s H
  sz : X.base.objs.size ≤ B.objs.size
section
variable {X : Cx} {pins : List (Addr × Obj)} {σ : L2.St} {H HZ : Hp} {s s1 : Shared}
theorem plus_ex (I : Inv X pins σ H s) (hfn : ∀ y, X.fn y = true) : ∃ B, Plus X s H B := by
  have e0 := I.env0
  have up : ∀ b o, X.base.get? b = some o → (PySem.W.hideAll s.heap (trk s.heap H ++ frs X.stack)).get? b = some o := fun b o z => by
    obtain ⟨h1, h2⟩ := e0.bs b o z
    refine PySem.W.hideAll_get _ h1 fun hm => ?_
    rcases List.mem_append.mp hm with hm | hm
    · have q : (H b).isSome = true := (List.mem_filter.mp hm).2
      rw [h2] at q
      cases q
    · have q := (e0.funs.mem hm).1
      rw [z] at q
      cases q
  have bs : ∀ b o, (PySem.W.hideAll s.heap (trk s.heap H ++ frs X.stack)).get? b = some o → s.heap.get? b = some o ∧ H b = none := fun b o z => by
    have h1 := PySem.W.of_hideAll _ z
    refine ⟨h1, ?_⟩
    cases q : H b with
    | none => rfl
    | some u =>
      have hm : b ∈ trk s.heap H := List.mem_filter.mpr ⟨List.mem_range.mpr (Heap.lt_size h1), by rw [q] <;> rfl⟩
      rw [PySem.W.hideAll_none _ (List.mem_append_left _ hm)] at z
      cases z
  have sz : (PySem.W.hideAll s.heap (trk s.heap H ++ frs X.stack)).objs.size = s.heap.objs.size := PySem.W.hideAll_size _ _
  refine ⟨_, up, fun y c o hy ho => ?_, ⟨e0.frames, ⟨e0.mod.kin.keeps up, e0.mod.glob.keeps up, ?_, e0.mod.nolimit.keeps up⟩, bs, Nat.le_of_eq sz, L2.funFrames_none e0.funs fun L hL => PySem.W.hideAll_none _ (List.mem_append_right _ hL), e0.frf, e0.hok, e0.bare⟩, by rw [sz]; exact e0.bsz⟩
  · refine PySem.W.hideAll_get _ ho fun hm => ?_
    rcases List.mem_append.mp hm with hm | hm
    · have q : (H c).isSome = true := (List.mem_filter.mp hm).2
      rw [I.freeC y c hy] at q
      cases q
    · have nout : c ∉ frs X.outer := fun z => by
        obtain ⟨_, o', h', _⟩ := I.ok.funs.mem z
        exact absurd (Nat.lt_of_lt_of_le (Heap.lt_size h') (I.ok.cab y c (hfn y) hy)) (Nat.lt_irrefl _)
      rcases I.ok.stk with z | ⟨z, z2⟩
      · rw [z] at hm
        exact nout hm
      · rw [z] at hm
        rcases List.mem_cons.mp (show c ∈ X.env.locals :: frs X.outer by unfold frs at hm ⊢; rw [List.filterMap_cons, z2] at hm; exact hm) with e | hm
        · obtain ⟨m, hn, _⟩ := I.loc
          obtain ⟨v, oc, hc, hv⟩ := I.cell y c hy
          obtain ⟨o2, es, ep, h2, h3, _⟩ := hn
          rw [e, h2] at hc
          cases hc
          rw [hv] at h3
          cases h3
        · exact nout hm
  · obtain ⟨mb, h1, h2⟩ := e0.mod.blt
    exact ⟨mb, h1.keeps up, h2⟩
theorem Plus.env0 {B : Heap} (p : Plus X s H B) (I : Inv X pins σ H s) {A : Around} {outer : List Env} (e0 : Env0 X.prog X.w X.K X.mg B A outer s1 HZ) : Env0 X.prog X.w X.K X.mg X.base A outer s1 HZ :=
  ⟨e0.frames, I.ok.mod, fun b o z => e0.bs b o (p.sub b o z), Nat.le_trans p.sz e0.bsz, PySem.W.funFrames_base p.sub e0.funs, e0.frf, e0.hok, e0.bare⟩
theorem Plus.kept {B : Heap} (p : Plus X s H B) {A : Around} {outer : List Env} (I : Inv X pins σ H s) (e0 : Env0 X.prog X.w X.K X.mg B A outer s1 HZ) : CellsKept X s HZ s1 := fun y c hy => by
  obtain ⟨v, o, ho, hv⟩ := I.cell y c hy
  obtain ⟨h1, h2⟩ := e0.bs c o (p.cells y c o hy ho)
  refine ⟨h2, fun v' ⟨o', ho', hv'⟩ => ?_⟩
  rw [ho] at ho'
  cases ho'
  exact ⟨o, h1, hv'⟩
theorem lam_begin {A : Around} {outer : List Env} {E : XK} {scope : Scope} {f co : Addr} {h1 : Heap} {tk : Nat} {is : List Nat} {bs : List (Str × Value)} (I : Inv X pins σ H s) (L : LamL X.N X.env.scope scope is) (e0 : Env0 X.prog X.w X.K X.mg X.base A outer s1 HZ) (hd : A.handled = none)
    (cls : CellsKept X s HZ s1) (hns : h1.Ns s1.heap.objs.size fun y => bs.reverse.lookup y) (kp : ∀ b o, s1.heap.get? b = some o → h1.get? b = some o) :
    Inv (LamX.lamCx X A outer s1 HZ E scope f co) [] (L2.wipe σ is) HZ { s1 with heap := h1, toks := tk } := by
  have has : ∀ y ∈ scope.names, y.2 = .free → ∃ c, X.env.cells.lookup y.1 = some c := fun y hy z => I.ok.has _ (L.free y hy z)
  have up : ∀ {y c}, (cloFrom X.env.cells scope.names []).lookup y = some c → X.env.cells.lookup y = some c := fun {y c} z => by
    rcases cloFrom_mem (PySem.mem_of_lookup z) with m | ⟨m1, m2⟩
    · cases m
    · obtain ⟨c1, k1⟩ := has _ m1 rfl
      have k1 : X.env.cells.lookup y = some c1 := k1
      rw [k1] at m2
      rw [k1, show c = c1 from m2]
  have dn : ∀ {y}, scope.names.lookup y = some .free → ∃ c, (cloFrom X.env.cells scope.names []).lookup y = some c := fun {y} z => mem_lookup (cloFrom_has (cells := X.env.cells) (acc := []) (PySem.mem_of_lookup z))
  have cellK : ∀ {y : Str} {c : Addr} {v : Option Value}, X.env.cells.lookup y = some c → s.heap.IsCell c v → h1.IsCell c v := fun {y c v} z w => by
    obtain ⟨o, ho, hv⟩ := (cls y c z).2 v w
    exact ⟨_, kp _ _ ho, hv⟩
  have nx : ∀ b : Addr, b ∉ (LamX.lamCx X A outer s1 HZ E scope f co).ex := fun b z => (by cases (show b ∈ ([] : List Addr) from z))
  refine ⟨⟨e0.mod, L.kind, rfl, rfl, Nat.le_refl _, fun y z c k1 k2 => I.ok.inj y z c (up k1) (up k2), fun y hy => ?_, fun y c z _ => ?_, fun _ => hd, Around.frames_deeper e0.frames, .inr ⟨rfl, rfl⟩, fun b z => absurd z (nx b), e0.bs, e0.bsz, fun b _ _ => nx b, fun b z => absurd z (nx b), e0.funs, e0.frf⟩,
    rfl, e0.bare, Un.kept kp, ⟨_, hns, fun i y v k1 k2 k3 => ?_⟩, fun y c z => ?_, e0.hok.fresh (Nat.le_refl _), fun y c z => ?_, fun q hq => ?_, e0.hok.kept kp, ?_⟩
  · rcases (show scope.names.lookup y = some .cell ∨ scope.names.lookup y = some .free from hy) with z | z
    · exact absurd rfl (L.own _ (PySem.mem_of_lookup z))
    · exact dn z
  · have z : false = true := z
    cases z
  · obtain ⟨ni, k2⟩ := wipe_at is σ i v k2
    rcases (show Vis scope y from k3) with z | z | z
    · exact absurd (L.loc _ (PySem.mem_of_lookup z) rfl i k1) ni
    · exact absurd rfl (L.own _ (PySem.mem_of_lookup z))
    · obtain ⟨m, _, lk⟩ := I.loc
      have lf := L.free _ (PySem.mem_of_lookup z) rfl
      obtain ⟨u, ru, q⟩ := lk i y v k1 k2 (lf.elim (fun z => .inr (.inl z)) fun z => .inr (.inr z))
      obtain ⟨c2, k5⟩ := dn z
      refine ⟨u, ru, .inr ⟨.inr z, c2, k5, ?_⟩⟩
      rcases q with ⟨z2, _⟩ | ⟨_, c3, k6, k7⟩
      · have z2 : X.env.scope.names.lookup y = some .local := z2
        rcases lf with z3 | z3 <;> rw [show X.env.scope.names.lookup y = _ from z3] at z2 <;> cases z2
      · rw [up k5] at k6
        cases k6
        exact cellK (up k5) k7
  · obtain ⟨v, z2⟩ := I.cell y c (up z)
    exact ⟨v, cellK (up z) z2⟩
  · exact (cls y c (up z)).1
  · cases (show q ∈ ([] : List (Addr × Obj)) from hq)
  · exact (wipe_len σ is).trans I.len
/-- how the call of a lambda without arguments binds its names -/
def BindL (D : LamD) (bs : List (Str × Value)) (s : Shared) : Prop := ∀ (m t : Value) (M : Model) (A : Around) (E : Value → Shared → Prop) (Q : List (Str × Value) → Shared → Prop), Q bs s → wpAny M A (bindArgs (lamF D m t) ⟨[], []⟩) Q E s
theorem bindL_no {D : LamD} (h : ∀ m t, bindArgs (lamF D m t) ⟨[], []⟩ = pure []) : BindL D [] s := fun m t M A E Q q => by
  rw [h]
  exact wpAny_pure q
theorem bindL_one {D : LamD} {T : Addr} {a : Str} {u : Value} {o : Obj} {n : Nat} (h : ∀ m t, ∃ k, bindArgs (lamF D m t) ⟨[], []⟩ = seqItems? (.ref T) >>= k ∧ ∀ u, k (some #[u]) = pure [(a, u)]) (ho : s.heap.get? T = some o) (hd : o.data = .seq #[u] n) : BindL D [(a, u)] s := fun m t M A E Q q => by
  obtain ⟨k, e1, e2⟩ := h m t
  rw [e1]
  refine wpAny_bind (wpAny_seqItems ho hd ?_)
  rw [e2]
  exact wpAny_pure q
theorem lam_call {A : Around} {outer : List Env} {f : Addr} {D : LamD} {is : List Nat} {bs : List (Str × Value)} {k : Nat} {rd : TE} {E : XK} {Q : VK} (I : Inv X pins σ H s) (hq : D.q = X.env.qual ++ "<lambda>") (hcl : D.cl = cloFrom X.env.cells D.sc.names []) (L : LamL X.N X.env.scope D.sc is)
    (e0 : Env0 X.prog X.w X.K X.mg X.base A outer s1 HZ) (cls : CellsKept X s HZ s1) (hf : HZ f = some (LamO f D)) (hc : HZ D.co = some (LamX.CodeO D.co D.q)) (bn : BindL D bs s1) (hl : ∀ y ∈ bs, D.sc.names.lookup y.1 = some .local) (hr : Room (k + 1) A)
    (hbody : Room k (A.deeper (LamX.lamEnv X D.sc s1.heap.objs.size f D.co)) → PE (LamX.lamCx X A outer s1 HZ E D.sc f D.co) D.e rd) (h : rd (L2.wipe σ is) HZ Q) :
    codeAny (model X.prog X.w) A (.call (.ref f) ⟨[], []⟩) (CR (L2.CX X.prog X.w) outer X.prog X.w HZ s1 Q E) s1 := by
  obtain ⟨⟨m, t, of1⟩, _, _⟩ := e0.hok f _ hf
  obtain ⟨⟨oc, vs, tq, hoc, hdc, hvc⟩, _, _⟩ := e0.hok D.co _ hc
  have lim : s1.heap.NoLimit := e0.mod.nolimit.keeps fun b o e => (e0.bs b o e).1
  refine PySem.W.kla_callFunE hr.depth of1 rfl L.co L.gen rfl ⟨D.co, oc, vs, tq, rfl, hoc, hdc, hvc⟩ ?_
  refine bn m t _ _ _ _ ?_
  refine wpAny_newFunctionEnv L.own hl (fun h1 hns hsb => ⟨lim.fresh _ hsb, ?_⟩) L.kind
  have ee : newEnv D.sc s1.heap.objs.size mainGlobals D.cl (D.q ++ ".<locals>.") (some f) (.ref D.co) none builtinsNs = LamX.lamEnv X D.sc s1.heap.objs.size f D.co := by
    rw [hq, hcl] <;> rfl
  show codeAny _ _ (.expr D.e (newEnv D.sc s1.heap.objs.size mainGlobals D.cl (D.q ++ ".<locals>.") (some f) (.ref D.co) none builtinsNs)) _ _
  rw [ee]
  have kp : ∀ b o, s1.heap.get? b = some o → h1.get? b = some o := fun b o e => hsb.extBut b o (Nat.ne_of_lt (Heap.lt_size e)) (Heap.get?_push_of_some _ e)
  have J := lam_begin (E := E) (f := f) (co := D.co) (tk := s1.toks + bs.length) I L e0 hr.hd cls hns kp
  refine PySem.W.kla_codeExpr (wpAny_mono ((hbody (hr.deeper _)).run [] _ _ HZ Q J h) (fun v s' hq => ?_) fun e s' hq => hq)
  obtain ⟨y1, y2, y3, y4, y5⟩ := hq
  exact ⟨y1, y2, y3.os, y3.bare, y3.base, y3.hok, y4, y5⟩
end
end My
/-! kept lambdas called by another def -/
namespace My
open PySem PySem.Spec PySem.Calls PyProof.Rows L2
/-- one of the law's lambdas: what it is once made, the slots that it hides, its body's reading, the name of its default -/
structure LamI where
  obj : Value → Addr → LamD
  is : List Nat
  rd : XK → TE
  df : Option Str
/-- its default stands -/
def LamI.Df (L : LamI) (H : Hp) (dV : Value) : Prop := match L.df with
  | none => dV = .none
  | some _ => ∃ T v, dV = .ref T ∧ H T = some (.tup [v])
/-- how it binds -/
def LamI.Bn (L : LamI) : Prop := match L.df with
  | none => ∀ (co : Addr) (m t : Value), bindArgs (lamF (L.obj .none co) m t) ⟨[], []⟩ = pure []
  | some a => ∀ (co T : Addr) (m t : Value), ((L.obj (.ref T) co).sc.names.lookup a = some .local) ∧ ∃ k, bindArgs (lamF (L.obj (.ref T) co) m t) ⟨[], []⟩ = seqItems? (.ref T) >>= k ∧ ∀ u, k (some #[u]) = pure [(a, u)]
structure LamI.Ok (X : Cx) (k : Nat) (L : LamI) : Prop where
  q : ∀ dV co, (L.obj dV co).q = X.env.qual ++ "<lambda>" ∧ (L.obj dV co).co = co
  cl : ∀ dV co, (L.obj dV co).cl = cloFrom X.env.cells (L.obj dV co).sc.names []
  sc : ∀ dV co, LamL X.N X.env.scope (L.obj dV co).sc L.is
  bn : L.Bn
  body : ∀ (dV : Value) (co : Addr) (A : Around) (outer : List Env) (s : Shared) (H : Hp) (E : XK) (f : Addr), Room k (A.deeper (LamX.lamEnv X (L.obj dV co).sc s.heap.objs.size f co)) → PE (LamX.lamCx X A outer s H E (L.obj dV co).sc f co) (L.obj dV co).e (L.rd E)
/-- it stands at f -/
structure LamAt (H : Hp) (L : LamI) (dV : Value) (co f : Addr) (q : Str) : Prop where
  fn : H f = some (LamO f (L.obj dV co))
  cd : H co = some (LamX.CodeO co q)
  df : L.Df H dV
section
variable {X : Cx} {pins : List (Addr × Obj)} {σ : L2.St} {H HZ : Hp} {s s1 : Shared}
theorem lam_call2 {A : Around} {outer : List Env} {f co : Addr} {dV : Value} {L : LamI} {k : Nat} {E : XK} {Q : VK} (I : Inv X pins σ H s) (ok : L.Ok X k) (e0 : Env0 X.prog X.w X.K X.mg X.base A outer s1 HZ) (cls : CellsKept X s HZ s1) (at_ : LamAt HZ L dV co f (X.env.qual ++ "<lambda>")) (hr : Room (k + 1) A)
    (h : L.rd E (L2.wipe σ L.is) HZ Q) : codeAny (model X.prog X.w) A (.call (.ref f) ⟨[], []⟩) (CR (L2.CX X.prog X.w) outer X.prog X.w HZ s1 Q E) s1 := by
  have hco := (ok.q dV co).2
  have hq := (ok.q dV co).1
  obtain ⟨bs, b1, b2⟩ : ∃ bs, BindL (L.obj dV co) bs s1 ∧ ∀ y ∈ bs, (L.obj dV co).sc.names.lookup y.1 = some .local := by
    have b := ok.bn
    have d := at_.df
    unfold LamI.Bn at b
    unfold LamI.Df at d
    cases hdf : L.df with
    | none =>
      rw [hdf] at b d
      rw [d]
      exact ⟨[], bindL_no fun m t => b co m t, fun _ z => by cases z⟩
    | some a =>
      rw [hdf] at b d
      obtain ⟨T, v, rfl, hT⟩ := d
      obtain ⟨_, its, rv, o, ho, _, n, hd⟩ := e0.hok T _ hT
      match its, rv with
      | [u], .cons _ .nil =>
        refine ⟨[(a, u)], bindL_one (fun m t => (b co T m t).2) ho hd, fun y hy => ?_⟩
        rw [List.mem_singleton.mp hy]
        exact (b co T .none .none).1
  refine lam_call I hq (ok.cl dV co) (ok.sc dV co) e0 cls at_.fn (by rw [hco, hq]; exact at_.cd) b1 b2 hr (fun hr2 => ?_) h
  rw [hco] at hr2 ⊢
  exact ok.body dV co A outer s1 HZ E f hr2
/-- as a promise, over the larger base -/
theorem lam_fnr {B : Heap} {f co : Addr} {dV : Value} {L : LamI} {k : Nat} (I : Inv X pins σ H s) (p : Plus X s H B) (ok : L.Ok X k) : FnR X.prog X.w X.K X.mg B (L2.CX X.prog X.w) (k + 1) f (fun vs HZ Q E => vs = [] ∧ LamAt HZ L dV co f (X.env.qual ++ "<lambda>") ∧ L.rd E (L2.wipe σ L.is) HZ Q) :=
  fun A outer s1 HZ us vs Q E hr e0 r ⟨hv, at_, h⟩ => by
    subst hv
    cases r
    exact lam_call2 I ok (p.env0 I e0) (p.kept I e0) at_ hr h
/-- a def called, its promise told over the larger base -/
def tPlus (t : TA) (sp : L2.St → List V → Hp → VK → Prop) : TE := fun σ H Q => t σ H fun vs H1 => sp σ vs H1 Q
theorem pe_plus {x : Str} {g : Addr} {fd : FuncData} {ps : List Str} {k : Nat} {spB : Heap → Sp} {sp : L2.St → List V → Hp → VK → Prop} {t : TA} {e : Expr} {es : List Expr} {p pos : Pos} (hg : Gl X x) (hm : X.mg x = some (.ref g)) (hk : PySem.W.keepIn X.K (.ref g) = true) (hb : Binds X.K fd ps [])
    (F : ∀ B, FnOk X.prog X.w X.K X.mg B C8.CX0 k g fd ps (spB B)) (hfn : ∀ y, X.fn y = true) (hr : Room k X.A) (ha : PA X (e :: es) t)
    (conv : ∀ pins σ H s B vs Q, Inv X pins σ H s → Plus X s H B → sp σ vs H Q → spB B vs H Q C8.E0)
    (hdb : (x == ("__debug__" : Str)) = false := by decide) (he : starEach (e :: es) X.env = (false, eval e X.env) :: starEach es X.env := by rfl) (hpl : (backTo pos (starEach es X.env)).any (·.1) = false := by rfl) :
    PE X (.Call (.Name x p) (e :: es) [] pos) (tPlus t sp) := by
  refine ⟨fun pins s σ H Q I h => ?_⟩
  refine wpAny_Call_Name_kw (L2.ld_glob I hg hm ?_ hdb)
  refine PySem.W.callWith_K (h₀ := X.base) I.ok.mod.kin hk (thn (ha.run pos pins s σ H _ I h) fun us s2 ⟨vs, H2, I2, r2, q2⟩ => ⟨I2.kIn, ?_⟩) he hpl
  obtain ⟨B, pl⟩ := plus_ex I2 hfn
  have sp2 := conv pins σ H2 s2 B vs Q I2 pl q2
  have hl : us.length = ps.length := by rw [← r2.length]; exact (F B).len vs H2 Q C8.E0 sp2
  have bt : BindsTo s2 fd ⟨us, []⟩ (ps.zip us) := by
    have := hb s2 us I2.kIn (by rw [List.append_nil]; exact hl)
    rw [List.append_nil] at this
    exact this
  refine wpAny_call (codeAny_mono ((F B).run X.A X.stack s2 H2 ⟨us, []⟩ us vs Q C8.E0 hr pl.e0 bt r2 sp2) fun r s3 hq => ?_)
  cases r with
  | error e => exact (show False from hq).elim
  | ok fl =>
    cases fl with
    | ret u => exact I2.after hq
    | next => exact False.elim hq
    | brk => exact False.elim hq
    | cont => exact False.elim hq
end
end My
/-! a for loop in a generator's body -/
namespace My
open PySem PySem.Spec PyProof.Rows L2 GenW
section
variable {M : Model} {A : Around} {R : GenEnd} {Y : Protocol} {n : Nat} {s₀ : Shared} {c : Code} {fs : List Frame} {s : Shared} {env : Env} {K : Flow → Sem PySem.Fin} {J : Value → Sem PySem.Fin} {gd : Bool → Bool} {lv : List Value → List Value}
def iterOf (iter : Expr) (pos : Pos) (env : Env) : Sem Value := do
  standAt pos
  let x ← foldedSetIterable iter env (← eval iter env)
  standAt iter.pos
  holding [x] (pyIter x)
theorem exec_for_split (tg iter : Expr) (body : List Stmt) (pos : Pos) : exec (.For tg iter body [] pos) env = (iterOf iter pos env >>= fun it => runOwn (.forLoop tg it body [] env) env) := by
  rw [exec_For]
  unfold iterOf
  simp only [bind_assoc]
theorem seg_For1 {tg iter : Expr} {body : List Stmt} {pos : Pos} (hs : ∀ x, foldedSetIterable iter env x = pure x)
    (h : wpAny M (A.over c fs) (eval iter env) (fun x s1 => wpAny M (A.over c fs) (pyIter x) (fun it s2 => ∀ p, Seg M A R Y n s₀ (.forLoop tg it body [] env) (M.den (.forLoop tg it body [] env))
        (.ret (fun r => ((match r with | .ok f => (.pure f : Sem Flow) | .error e => .raise e).onRaise (cameBack env)).wrap K J gd lv) none (gd false) (lv []) c p [] :: fs) s2)
      (fun e s' => Seg M A R Y n s₀ c (J e) fs s') s1) (fun e s' => Seg M A R Y n s₀ c (J e) fs s') s) :
    Seg M A R Y n s₀ c ((exec (.For tg iter body [] pos) env).wrap K J gd lv) fs s := by
  rw [exec_for_split, Sem.bind_eq_wrap', Sem.wrap_wrap]
  refine seg_wrap ?_
  unfold iterOf
  refine wpAny_bind (wpAny_standAt (wpAny_bind (wpAny_mono h (fun x s1 h1 => ?_) fun _ _ z => z)))
  refine wpAny_bind (wpAny_of_eq (hs x) (wpAny_bind (wpAny_standAt (wpAny_holding (wpAny_mono h1 (fun it s2 h2 => ?_) fun _ _ z => z)))))
  exact seg_call h2
end
section
variable {prog : Program} {w : World} {A : Around} {R : GenEnd} {Y : Protocol} {n : Nat} {s₀ : Shared} {fs : List Frame} {s : Shared} {env : Env}
abbrev noteE (env : Env) (x : Value) : Sem PySem.Fin := (do noteFrame x env; theTreesLotGoes x : Sem Unit).wrap (fun _ => .raise x) .raise id id
theorem seg_forLoop1 {tg : Expr} {it : Value} {body : List Stmt}
    (h : wpAny (model prog w) (A.over (.forLoop tg it body [] env) fs) (pyNext it) (fun r s1 => match r with
        | none => Seg (model prog w) A R Y n s₀ (.forLoop tg it body [] env) (.pure (.again (.block [] env))) fs s1
        | some v => wpAny (model prog w) (A.over (.forLoop tg it body [] env) fs) (letOwnedTupleGo tg it v) (fun _ s2 => wpAny (model prog w) (A.over (.forLoop tg it body [] env) fs) (assign tg env v) (fun _ s3 =>
            Seg (model prog w) A R Y n s₀ (.forLoop tg it body [] env) ((execs body env).wrap (fun f => match f with
              | .next | .cont => .pure (.again (.forLoop tg it body [] env))
              | .brk => .pure (.done .next)
              | .ret v => .pure (.done (.ret v))) (noteE env) id id) fs s3)
            (fun e s' => Seg (model prog w) A R Y n s₀ (.forLoop tg it body [] env) (noteE env e) fs s') s2) (fun e s' => Seg (model prog w) A R Y n s₀ (.forLoop tg it body [] env) (noteE env e) fs s') s1)
      (fun e s' => Seg (model prog w) A R Y n s₀ (.forLoop tg it body [] env) (noteE env e) fs s') s) :
    Seg (model prog w) A R Y n s₀ (.forLoop tg it body [] env) ((model prog w).den (.forLoop tg it body [] env)) fs s := by
  have nb : ∀ e, ((do noteFrame e env; theTreesLotGoes e : Sem Unit).bind fun _ => (.raise e : Sem PySem.Fin)) = noteE env e := fun e => Sem.bind_eq_wrap _ _
  show Seg _ A R Y n s₀ _ ((forTurn tg it body [] env).onRaise (fun x => do noteFrame x env; theTreesLotGoes x)) fs s
  unfold forTurn
  rw [Sem.onRaise_eq_wrap, Sem.bind_eq_wrap', Sem.wrap_wrap]
  refine seg_wrap (wpAny_standAt ?_)
  rw [Sem.bind_eq_wrap', Sem.wrap_wrap]
  refine seg_wrap (wpAny_onRaise (wpAny_mono h (fun r s1 h1 => ?_) fun e s' h' => wpAny_standAt ?_))
  · cases r with
    | none => exact h1
    | some v =>
      show Seg _ A R Y n s₀ _ (Sem.wrap _ _ _ _ (letOwnedTupleGo tg it v >>= fun _ => assign tg env v >>= fun _ => execs body env >>= _)) fs s1
      rw [Sem.bind_eq_wrap', Sem.wrap_wrap]
      refine seg_wrap (wpAny_mono h1 (fun _ s2 h2 => ?_) fun e s' h' => by first | exact h' | (rw [← nb] at h'; exact h') | (rw [nb]; exact h'))
      rw [Sem.bind_eq_wrap', Sem.wrap_wrap]
      refine seg_wrap (wpAny_mono h2 (fun _ s3 h3 => ?_) fun e s' h' => by first | exact h' | (rw [← nb] at h'; exact h') | (rw [nb]; exact h'))
      rw [Sem.bind_eq_wrap', Sem.wrap_wrap]
      rw [Sem.wrap_congr (execs body env) _ _ (K' := fun f => match f with
              | .next | .cont => .pure (.again (.forLoop tg it body [] env))
              | .brk => .pure (.done .next)
              | .ret v => .pure (.done (.ret v))) (H' := noteE env) (fun f => by cases f <;> rfl) (fun e => by first | exact nb e | rfl)]
      exact h3
  · first
      | exact h'
      | (rw [← nb] at h'; exact h')
end
def tGFor (wi : TI) (g : TG) (tb : TGn) : TGn := fun D ys σ H => wi σ H fun J H1 => ∃ W : Nat → Nat → List V → L2.St → Hp → Prop, (∃ m, W 0 m ys σ H1) ∧ ∀ i m ys σ H, W i m ys σ H →
  (J.stop i H ∧ D.nx ys σ H) ∨ (J.go i H ∧ ∃ N : List V → L2.St → Hp → Prop, (∀ ys' σ' H', N ys' σ' H' → ∃ m', m' < m ∧ W (i + 1) m' ys' σ' H') ∧ ∀ x H', J.yld i H x H' → g x σ H' fun σ2 H2 => tb { D with nx := N, ct := N, bk := D.nx } ys σ2 H2)
theorem gs_for {X : Cx} {tg iter : Expr} {body : List Stmt} {pos : Pos} {wi : TI} {g : TG} {tb : TGn} (hp : PassesOwn (model X.prog X.w) X.A X.env X.xe) (hc : X.calm = true) (hi : PI X tg iter wi) (hg : PG X tg g) (hb : GSs X body tb)
    (hs : ∀ x, foldedSetIterable iter X.env x = pure x := by intro _; rfl) : GS X (.For tg iter body [] pos) (tGFor wi g tb) := by
  refine ⟨fun A S ip R n ys s₀ c fs K J gd lv s σ H D gc hn k hI ht => ?_⟩
  obtain ⟨acc, cc, r, I⟩ := hI
  refine seg_For1 hs ?_
  rw [gc.over]
  refine wpAny_mono (hi.run ((S, lstObj acc cc) :: ip) s σ H _ I ht) (fun v s1 h1 => ?_) fun e s' hx => k.exc n s₀ e s' hx
  refine wpAny_mono h1 (fun itv s2 h2 p => ?_) fun e s' hx => k.exc n s₀ e s' hx
  obtain ⟨it, fp, tn, Jt, H2, e, I2, T, st2, f2, W, ⟨m0, w0⟩, turn⟩ := h2
  subst e
  have gl := fun (kk : Result → Sem PySem.Fin) => gc_loop (k := kk) (c' := .forLoop tg (.ref it) body [] X.env) (l := lv []) (kp := []) (p := p) gc rfl rfl
  have nS : ∀ b ∈ fp, b ≠ S := fun b hb z => by
    obtain ⟨_, _, _, _, _, h6⟩ := f2 b hb
    exact h6 (S, lstObj acc cc) (List.mem_append_right _ List.mem_cons_self) z.symm
  have stat : ∀ {acc' : Array Value} {cc' : Nat} {H' : Hp}, (∀ b ∈ fp, H' b = none) → ∀ b ∈ fp, FpOk X ((S, lstObj acc' cc') :: ip) H' b := fun {acc' cc' H'} hn b hb => by
    obtain ⟨_, h2, h3, h4, h5, h6⟩ := f2 b hb
    refine ⟨hn b hb, h2, h3, h4, h5, fun q hq => ?_⟩
    rcases List.mem_append.mp hq with z | z
    · exact h6 q (List.mem_append_left _ z)
    · rcases List.mem_cons.mp z with z | z
      · rw [z]
        exact (nS b hb).symm
      · exact h6 q (List.mem_append_right _ (List.mem_cons_of_mem _ z))
  have ee : ∀ (n : Nat) (s₀ : Shared) (x : Value) (s' : Shared), X.xe x s' → Seg (model X.prog X.w) A R (GY X S) n s₀ (.forLoop tg (.ref it) body [] X.env) (noteE X.env x)
      (.ret (fun r => ((match r with | .ok f => (.pure f : Sem Flow) | .error e => .raise e).onRaise (cameBack X.env)).wrap K J gd lv) none (gd false) (lv []) c p [] :: fs) s' := fun n s₀ x s' hx => by
    refine seg_wrap ?_
    rw [(gl _).over]
    refine wpAny_bind (wpAny_mono (hp x s' hx) (fun _ s'' hcb => wpAny_theTreesLotGoes ?_) fun y s'' hcb => ?_)
    · exact seg_leaf (.error x) (seg_cameBack gc k hcb)
    · exact seg_leaf (.error y) (seg_cameBack gc k hcb)
  have loop : ∀ (m i n : Nat) (ys : List V) (s₀ s : Shared) (σ : L2.St) (H : Hp), n + ys.length = sizeLine → W i m ys σ H → GI X S ip ys σ H s → tn i s.heap → (∀ b ∈ fp, H b = none) →
      Seg (model X.prog X.w) A R (GY X S) n s₀ (.forLoop tg (.ref it) body [] X.env) ((model X.prog X.w).den (.forLoop tg (.ref it) body [] X.env))
        (.ret (fun r => ((match r with | .ok f => (.pure f : Sem Flow) | .error e => .raise e).onRaise (cameBack X.env)).wrap K J gd lv) none (gd false) (lv []) c p [] :: fs) s := by
    intro m
    induction m using Nat.strongRecOn with
    | ind m ih =>
      intro i n ys s₀ s3 σ3 H3 hn w3 hI3 st3 fr3
      obtain ⟨acc3, cc3, r3, I3⟩ := hI3
      refine seg_forLoop1 ?_
      rw [(gl _).over]
      rcases turn i m ys σ3 H3 w3 with ⟨stop, qn⟩ | ⟨go, N, hN, step⟩
      · refine wpAny_mono (T.done X rfl rfl rfl hc i ((S, lstObj acc3 cc3) :: ip) s3 σ3 H3 X.xe I3 (stat fr3) st3 stop) (fun r s4 ⟨hr, I4⟩ => ?_) fun x s' hx => ee n s₀ x s' hx
        subst hr
        refine seg_again rfl ?_
        exact seg_leaf (.ok .next) (k.ok n ys s₀ s4 .next hn ⟨σ3, H3, ⟨acc3, cc3, r3, I4⟩, qn⟩)
      · refine wpAny_mono (T.item X rfl rfl rfl hc i ((S, lstObj acc3 cc3) :: ip) s3 σ3 H3 X.xe I3 (stat fr3) st3 go) (fun r s4 ⟨u, hr, h4⟩ => ?_) fun x s' hx => ee n s₀ x s' hx
        subst hr
        refine wpAny_mono h4 (fun _ s5 ⟨x, H5, I5, r5, y5, st5, fr5⟩ => ?_) fun x s' hx => ee n s₀ x s' hx
        have I5' := I5.pinned (stat fr5) (T.obj _ _ st5)
        refine wpAny_mono (hg.run _ s5 σ3 H5 x u _ I5' r5 (step x H5 y5)) (fun _ s6 ⟨σ6, H6, I6, q6⟩ => ?_) fun x s' hx => ee n s₀ x s' hx
        have ipS : ∀ q ∈ ip ++ pinsAt fp s5.heap, q.1 ≠ S := fun q hq => by
          rcases List.mem_append.mp hq with z | z
          · exact gc.ip q z
          · exact nS q.1 (of_pinsAt z).1
        have gc' : GC X S (ip ++ pinsAt fp s5.heap) A c fs gd := ⟨gc.pn, ipS, gc.apart, gc.over, gc.split, gc.guard, gc.gd⟩
        have back : ∀ {ys' : List V} {σ7 : L2.St} {H7 : Hp} {s7 : Shared}, GI X S (ip ++ pinsAt fp s5.heap) ys' σ7 H7 s7 → GI X S ip ys' σ7 H7 s7 ∧ tn (i + 1) s7.heap ∧ ∀ b ∈ fp, H7 b = none := fun {ys' σ7 H7 s7} hI7 => by
          obtain ⟨acc7, cc7, r7, I7⟩ := hI7
          have pin : ∀ b ∈ fp, ∀ o, s5.heap.get? b = some o → s7.heap.get? b = some o ∧ H7 b = none := fun b hb o e =>
            let z := I7.pin (b, o) (List.mem_append_right _ (List.mem_cons_of_mem _ (List.mem_append_right _ (mem_pinsAt hb e))))
            ⟨z.1, z.2.1⟩
          have I8 : Inv X (((S, lstObj acc7 cc7) :: ip) ++ pinsAt fp s5.heap) σ7 H7 s7 := I7
          refine ⟨⟨acc7, cc7, r7, I8.unpinned⟩, T.keep _ _ _ st5 fun b hb o e => (pin b hb o e).1, fun b hb => ?_⟩
          obtain ⟨o, e, _⟩ := T.obj _ _ st5 b hb
          exact (pin b hb o e).2
        refine hb.run A S (ip ++ pinsAt fp s5.heap) R n ys s₀ _ _ _ _ id id s6 σ6 H6 { D with nx := N, ct := N, bk := D.nx } (gc_loop gc' rfl rfl) hn ⟨fun n' ys' s₀' s7 f hn' hs => ?_, fun n' s₀' x s7 hx => ee n' s₀' x s7 hx⟩ ⟨acc3, cc3, r3, I6⟩ q6
        cases f with
        | next =>
          obtain ⟨σ7, H7, I7, n7⟩ := hs
          obtain ⟨m', hm, w7⟩ := hN ys' σ7 H7 n7
          obtain ⟨b1, b2, b3⟩ := back I7
          exact seg_again rfl (ih m' hm (i + 1) n' ys' s₀' s7 σ7 H7 hn' w7 b1 b2 b3)
        | cont =>
          obtain ⟨σ7, H7, I7, n7⟩ := hs
          obtain ⟨m', hm, w7⟩ := hN ys' σ7 H7 n7
          obtain ⟨b1, b2, b3⟩ := back I7
          exact seg_again rfl (ih m' hm (i + 1) n' ys' s₀' s7 σ7 H7 hn' w7 b1 b2 b3)
        | brk =>
          obtain ⟨σ7, H7, I7, q7⟩ := hs
          exact seg_leaf (.ok .next) (k.ok n' ys' s₀' s7 .next hn' ⟨σ7, H7, (back I7).1, q7⟩)
        | ret v =>
          obtain ⟨u7, σ7, H7, I7, r7, q7⟩ := hs
          exact seg_leaf (.ok (.ret v)) (k.ok n' ys' s₀' s7 (.ret v) hn' ⟨u7, σ7, H7, (back I7).1, r7, q7⟩)
  exact loop m0 0 n ys s₀ s2 σ H2 hn w0 ⟨acc, cc, r, I2⟩ st2 fun b hb => (f2 b hb).1
end My
/-! mirrors that never turn; how many turn -/
namespace My
open PySem PySem.Spec PyProof.Rows L2
def Sg.fix : Sg → Sg
  | .r => .R
  | .f => .F
  | s => s
def fixG (g : Gr) : Gr := g.map fun l => l.map Sg.fix
theorem fix_tur (s : Sg) : s.fix.tur = false := by cases s <;> rfl
theorem str_ext' {a b : Str} (h : a.cps.toList = b.cps.toList) : a = b := congrArg Str.mk (Array.toList_inj.mp h)
theorem replace_fix (l : List Sg) : Txt.replace (Txt.replace (lstr l) "r" "R") "f" "F" = lstr (l.map Sg.fix) := by
  have h : (Txt.replace (Txt.replace (lstr l) ⟨#[114]⟩ ⟨#[82]⟩) ⟨#[102]⟩ ⟨#[70]⟩).cps.toList = (lstr (l.map Sg.fix)).cps.toList := by
    rw [replace_sub1, replace_sub1, lstr_toList, lstr_toList]
    simp only [List.map_map]
    refine List.map_congr_left fun s _ => ?_
    cases s <;> decide
  have e1 : ("r" : Str) = ⟨#[114]⟩ := by decide +kernel
  have e2 : ("R" : Str) = ⟨#[82]⟩ := by decide +kernel
  have e3 : ("f" : Str) = ⟨#[102]⟩ := by decide +kernel
  have e4 : ("F" : Str) = ⟨#[70]⟩ := by decide +kernel
  rw [e1, e2, e3, e4]
  exact str_ext' h
theorem rep_rR (x : Str) : (Txt.replace x "r" "R").length = x.length := replace_len1 x 114 82
theorem fix_len (g : Gr) : (fixG g).length = g.length := by
  unfold fixG
  rw [List.length_map]
/-- no mirror turns -/
def Still (g : Gr) : Prop := ∀ l ∈ g, ∀ s ∈ l, s.tur = false
theorem still_fix (g : Gr) : Still (fixG g) := fun l hl s hs => by
  unfold fixG at hl
  obtain ⟨m, _, rfl⟩ := List.mem_map.mp hl
  obtain ⟨t, _, rfl⟩ := List.mem_map.mp hs
  exact fix_tur t
theorem lcount_zero {l : List Sg} : lcount l = 0 ↔ ∀ s ∈ l, s.tur = false := by
  unfold lcount
  rw [List.length_eq_zero_iff, List.filter_eq_nil_iff]
  exact ⟨fun h s hs => (by
    have := h s hs
    cases e : s.tur with
    | true => exact absurd e this
    | false => rfl), fun h s hs => (by rw [h s hs]; exact Bool.false_ne_true)⟩
theorem gcount_zero {g : Gr} : gcount g = 0 ↔ Still g := by
  unfold gcount Still
  induction g with
  | nil => exact ⟨fun _ l h => (by cases h), fun _ => rfl⟩
  | cons l g ih =>
    rw [List.map_cons, List.sum_cons]
    constructor
    · intro h m hm
      rcases List.mem_cons.mp hm with rfl | hm
      · exact lcount_zero.mp (by omega)
      · exact (ih.mp (by omega)) m hm
    · intro h
      have h1 := lcount_zero.mpr (h l List.mem_cons_self)
      have h2 := ih.mpr fun m hm => h m (List.mem_cons_of_mem _ hm)
      omega
theorem Grid.fix {m t w : Nat} {g : Gr} (G : Grid m t g w) : Grid m t (fixG g) w := by
  refine ⟨by rw [fix_len]; exact G.h0, by rw [fix_len]; exact G.hm, G.w0, G.wm, fun l hl => ?_, by rw [gcount_zero.mpr (still_fix g)]; exact Nat.zero_le _⟩
  unfold fixG at hl
  obtain ⟨k, hk, rfl⟩ := List.mem_map.mp hl
  rw [List.length_map]
  exact G.ln k hk
theorem still_line : ∀ {l m : List Sg}, (∀ s ∈ l, s.tur = false) → l.map Sg.base = m.map Sg.base → m = l
  | [], [], _, _ => rfl
  | [], _ :: _, _, h => by simp at h
  | _ :: _, [], _, h => by simp at h
  | s :: l, t :: m, a, h => by
    simp only [List.map_cons, List.cons.injEq] at h
    rw [still_line (fun u hu => a u (List.mem_cons_of_mem _ hu)) h.2]
    rcases base_cases h.1 with z | z
    · rw [a s List.mem_cons_self] at z
      cases z.1
    · rw [z.2]
theorem still_bas : ∀ {g k : Gr}, Still g → Bas g = Bas k → k = g
  | [], [], _, _ => rfl
  | [], _ :: _, _, h => by simp [Bas] at h
  | _ :: _, [], _, h => by simp [Bas] at h
  | l :: g, m :: k, a, h => by
    unfold Bas at h
    simp only [List.map_cons, List.cons.injEq] at h
    rw [still_bas (fun u hu => a u (List.mem_cons_of_mem _ hu)) h.2, still_line (a l List.mem_cons_self) h.1]
theorem still_flip {g : Gr} : Still g ↔ flipG g = g := by
  constructor
  · intro h
    refine still_bas h ?_
    unfold Bas flipG
    rw [List.map_map]
    refine List.map_congr_left fun l _ => ?_
    show l.map Sg.base = (l.map Sg.turn).map Sg.base
    rw [List.map_map]
    exact (List.map_congr_left fun s _ => (Sg.base_turn s).symm)
  · intro h l hl s hs
    obtain ⟨i, hi⟩ := List.mem_iff_getElem?.mp hl
    obtain ⟨j, hj⟩ := List.mem_iff_getElem?.mp hs
    have e : (flipG g)[i]? = some (l.map Sg.turn) := by
      unfold flipG
      rw [List.getElem?_map, hi] <;> rfl
    rw [h, hi] at e
    have e := Option.some.inj e
    have e2 : (l.map Sg.turn)[j]? = some s.turn := by rw [List.getElem?_map, hj] <;> rfl
    rw [← e, hj] at e2
    have e2 := Option.some.inj e2
    cases s <;> first | rfl | cases e2
theorem tilesTo_count (f : Sg → Bool) (g : Gr) : ∀ i, i ≤ g.length → (tilesTo f g i).length = ((g.take i).map fun l => (l.filter f).length).sum
  | 0, _ => by simp [tilesTo]
  | i + 1, h => by
    have hi : i < g.length := h
    have e : g.getD i [] = g[i] := by rw [List.getD_eq_getElem?_getD, List.getElem?_eq_getElem hi] <;> rfl
    rw [tilesTo_succ, List.length_append, tilesTo_count f g i (by omega), rowTiles_count f g i _ (Nat.le_refl _), e, List.take_length, List.take_succ_eq_append_getElem hi, List.map_append, List.sum_append]
    simp
theorem tiles_tur (g : Gr) : (tiles Sg.tur g).length = gcount g := by
  unfold tiles gcount
  rw [tilesTo_count _ _ _ (Nat.le_refl _), List.take_length]
  rfl
theorem tiles_empty (g : Gr) : (tiles Sg.tur g).isEmpty = decide (flipG g = g) := by
  have h : (tiles Sg.tur g).isEmpty = decide (gcount g = 0) := by
    rw [← tiles_tur]
    cases tiles Sg.tur g <;> simp
  rw [h]
  exact decide_eq_decide.mpr (gcount_zero.trans still_flip)
end My
/-! behind a call with a written int a token is out; statements of blocks that carry one -/
namespace My
open PySem PySem.Spec PyProof.Rows L2 CwR
section
variable {X : Cx} {rest : List Stmt} {u : TS} {ta te : TE} {e a : Expr} {sp : Sp} {E : XK} {k : Nat} {x y : Str} {p pos cp spos py : Pos} {i j : Nat} {z : Int}
def PEt (X : Cx) (e : Expr) (t : TE) : Prop := ∀ (pins : List (Addr × Obj)) (s : Shared) (σ : L2.St) (H : Hp) (Q : VK), Inv X pins σ H s → t σ H Q → wpAny (model X.prog X.w) X.A (eval e X.env) (fun u s' => 1 ≤ s'.toks ∧ EP X pins σ Q u s') X.xe s
theorem pet_c1 (G : GF X.prog X.w X.K X.mg X.base x k sp) (hr : Room k X.A) (hx : Passes (L2.CX X.prog X.w) X E) (ha : PE X a ta) (hg : Gl X x := by rfl) (hd : (x == ("__debug__" : Str)) = false := by decide)
    (hs : starEach [a, .Constant (.int z) j cp] X.env = [(false, eval a X.env), (false, eval (.Constant (.int z) j cp) X.env)] := by rfl) (he : starEach [a, .Constant (.int z) j cp] X.env = (false, eval a X.env) :: starEach [.Constant (.int z) j cp] X.env := by rfl) :
    PEt X (.Call (.Name x p) [a, .Constant (.int z) j cp] [] pos) (tCR sp E (tCons ta (tCons (tC (.int z)) tNil))) := by
  obtain ⟨f, hm, hk, F⟩ := G.ex
  intro pins s σ H Q I h
  refine wpAny_Call_Name_kw (ld_glob I hg hm ?_ hd)
  refine PySem.W.callWith_K (h₀ := X.base) I.ok.mod.kin hk ?_ he rfl
  rw [hs]
  show wpAny _ _ (spliced [(false, eval a X.env), (false, eval (.Constant (.int z) j cp) X.env)]) _ _ s
  refine Calls.spliced_cons (thn (ha.run pins s σ H _ I h) fun v s1 ⟨y1, H1, I1, r1, q1⟩ => ?_)
  refine Calls.spliced_cons (wpAny_Constant_int (Calls.spliced_nil ?_))
  have I2 := I1.tok (s1.toks + 1)
  refine ⟨I2.kIn, ?_⟩
  have r2 : Vals [y1, V.int z] [v, Value.int z s1.toks] := .cons r1 (.cons ⟨_, rfl⟩ .nil)
  exact carryE (show 1 ≤ s1.toks + 1 by omega) (wpAny_call (run_fnR F hr hx I2 r2 q1)) fun _ _ t q => ⟨t, q⟩
theorem pss_setT {y : Str} (hN : X.N.Nodup) (hi : X.N[i]? = some y) (hx : Loc X.env.scope y) (he : PEt X e te) (h2 : PSsT X rest u) (hs : swapsWith e (some (.Name y py)) spos.line X.env = pure false := by rfl)
    (hf : X.fn y = true ∨ X.env.scope.names.lookup y = some .local := by first | exact .inl rfl | exact .inr rfl | assumption) : PSs X (.Assign [.Name y py] e spos :: rest) (tSeq (tAsg te (gName i)) u) := by
  refine ⟨fun pins s σ H D I h => ?_⟩
  refine wpAny_execs_cons (wpAny_Assign_Name (thn (he pins s σ H _ I h) fun v s1 ⟨t1, y1, H1, I1, r1, q1⟩ => ?_) hs)
  refine carryE t1 (store_ok (Q := fun _ s2 => Inv X pins (σ.set i (some y1)) H1 s2) I1 hN hi hx r1 (fun _ I2 => I2) hf) fun _ s2 t2 I2 => ?_
  exact h2 pins s2 _ H1 D t2 I2 q1
/-- name = e, a token out -/
theorem pst_set {y : Str} (hN : X.N.Nodup) (hi : X.N[i]? = some y) (hx : Loc X.env.scope y) (he : PET X e te) (hs : swapsWith e (some (.Name y py)) spos.line X.env = pure false := by rfl)
    (hf : X.fn y = true ∨ X.env.scope.names.lookup y = some .local := by first | exact .inl rfl | exact .inr rfl | assumption) : PST X (.Assign [.Name y py] e spos) (tAsg te (gName i)) := by
  intro pins s σ H D t0 I h
  refine wpAny_Assign_Name (thn (he pins s σ H _ t0 I h) fun v s1 ⟨y1, H1, I1, r1, q1⟩ => ?_) hs
  exact store_ok I1 hN hi hx r1 (fun s2 I2 => ⟨_, H1, I2, q1⟩) hf
/-- f(e), e wants a token -/
theorem pet_c (G : GF X.prog X.w X.K X.mg X.base x k sp) (hr : Room k X.A) (hx : Passes (L2.CX X.prog X.w) X E) {es : List Expr} {t : TA} (ha : PAT X (e :: es) t) (hg : Gl X x := by rfl) (hd : (x == ("__debug__" : Str)) = false := by decide)
    (he : starEach (e :: es) X.env = (false, eval e X.env) :: starEach es X.env := by rfl) (hpl : (backTo pos (starEach es X.env)).any (·.1) = false := by rfl) : PET X (.Call (.Name x p) (e :: es) [] pos) (tCR sp E t) := by
  obtain ⟨f, hm, hk, F⟩ := G.ex
  intro pins s σ H Q t0 I h
  refine wpAny_Call_Name_kw (ld_glob I hg hm ?_ hd)
  refine PySem.W.callWith_K (h₀ := X.base) I.ok.mod.kin hk (thn (ha pos pins s σ H _ t0 I h) fun us s1 ⟨vs, H1, I1, r, q⟩ => ⟨I1.kIn, ?_⟩) he hpl
  exact wpAny_call (run_fnR F hr hx I1 r q)
theorem psst_nil' : PSsT X [] tNext := psst_nil
end
end My
/-! o(e, ..), told without the place where it stands -/
namespace My
open PySem PySem.Spec PyProof.Rows L2
theorem pe_imp {X : Cx} {e : Expr} {t t' : TE} (h : PE X e t) (i : ∀ σ H Q, t' σ H Q → t σ H Q) : PE X e t' := ⟨fun pins s σ H Q I q => h.run pins s σ H Q I (i σ H Q q)⟩
def tCO (C : Addr) (sp : Sp) (E : XK) (tf : TE) (t : TA) : TE := fun σ H Q => tf σ H fun y H1 => ∃ a, y = V.ref a ∧ t σ H1 fun vs H2 => (∃ dx fs, H2 a = some (.ins C dx fs)) ∧ sp (V.ref a :: vs) H2 Q E
section
variable {X : Cx} {CX : CXT} {C g : Addr} {k : Nat} {sp : Sp} {E : XK} {fe e : Expr} {es : List Expr} {tf te : TE} {tr : TA} {pos : Pos}
theorem pe_callC (hf : PE X fe tf) (c : StX.CallO X.K C g) (F : FnR X.prog X.w X.K X.mg X.base CX k g sp) (hr : Room k X.A) (hx : Passes CX X E) (ha : PA X (e :: es) tr)
    (ht : eval (.Call fe (e :: es) [] pos) X.env = (do callWith pos (← eval fe X.env) [] (backTo pos (starEach (e :: es) X.env)) (backToKw pos (keywordEach [] X.env))) := by rfl)
    (he : starEach (e :: es) X.env = (false, eval e X.env) :: starEach es X.env := by rfl) (hpl : (backTo pos (starEach es X.env)).any (·.1) = false := by rfl) : PE X (.Call fe (e :: es) [] pos) (tCO C sp E tf tr) := by
  refine ⟨fun pins s σ H Q I h => ?_⟩
  refine Call_ (thn (hf.run pins s σ H _ I h) fun u s1 ⟨y, H1, I1, ry, a, ey, q⟩ => ?_) ht
  subst ey
  obtain rfl : u = Value.ref a := ry
  refine StX.callO_with (thn (ha.run pos pins s1 σ H1 _ I1 q) fun us s2 ⟨vs, H2, I2, r, ⟨dx, fs, hi⟩, q2⟩ => ?_) he hpl
  obtain ⟨ox, od, J, hd⟩ := StX.insC_at I2 (.inr ⟨dx, fs, hi⟩)
  exact ⟨⟨C, ox, od, J, hd⟩, StX.run_callO c F hr hx I2 (.inr ⟨dx, fs, hi⟩) r q2⟩
end
end My
/-! a set of tuples of ints: made empty, one more, asked -/
namespace My
open PySem PySem.Spec PyProof.Rows L2
section
variable {P : Program} {w : World} {A : Around} {E : Value → Shared → Prop} {s : Shared} {a : Addr} {L : List (Addr × List Int)} {es : Array (Int × Value)} {ep : Nat} {t : SetTable} {x : Addr} {k : List Int}
/-- where a search stands after c steps -/
abbrev stp (t : SetTable) (h : Int) (c : Nat) : SetTable.Probe := nth t.mask (runAt t.mask (SetTable.bits h % (t.mask + 1)) (SetTable.bits h)) c
theorem stp_add (t : SetTable) (h : Int) (c q : Nat) : nth t.mask (stp t h c) q = stp t h (c + q) := (nth_add _ _ _ _).symm
theorem nth_dm (m : Nat) : ∀ (n : Nat) (p : SetTable.Probe), p.dummy = none → (nth m p n).dummy = none
  | 0, _, h => h
  | n + 1, p, h => nth_dm m n (adv m p) (by unfold adv; split <;> exact h)
/-- what the table answers there -/
theorem asked (R : SetTR P w s.heap a L es ep t) {h : Int} {K c : Nat} (lt : K < 10 * SetTable.turns t.mask) (cK : c ≤ K) (off : (stp t h K).j ∉ t.place.toList) (on : ∀ b, b < K → (stp t h b).j ∈ t.place.toList) :
    (∃ (q i : Nat) (e : Addr × List Int), c + q < K ∧ L[i]? = some e ∧ t.place.toList[i]? = some (stp t h (c + q)).j ∧
        (∀ (r i' : Nat) (e' : Addr × List Int), c ≤ r → r < c + q → L[i']? = some e' → t.place.toList[i']? = some (stp t h r).j → thash P w e'.2 ≠ h) ∧
        t.probe (fun i => (es[i]?.map Prod.fst).getD 0) h (stp t h c) = some (.candidate (stp t h (c + q)).j i (stp t h (c + q + 1)))) ∨
    ((∀ (r i' : Nat) (e' : Addr × List Int), c ≤ r → r < K → L[i']? = some e' → t.place.toList[i']? = some (stp t h r).j → thash P w e'.2 ≠ h) ∧
        t.probe (fun i => (es[i]?.map Prod.fst).getD 0) h (stp t h c) = some (.empty (stp t h K).j none)) := by
  have hAt : ∀ (i : Nat) (e : Addr × List Int), L[i]? = some e → (es[i]?.map Prod.fst).getD 0 = thash P w e.2 := fun i e he => by
    rw [R.entry he] <;> rfl
  have ent : ∀ {i j : Nat}, t.place.toList[i]? = some j → ∃ e, L[i]? = some e := fun {i j} hi => by
    have h1 := (List.getElem?_eq_some_iff.mp hi).1
    have h2 := R.tab.sz
    rw [List.length_map] at h2
    rw [Array.length_toList, h2] at h1
    exact ⟨_, List.getElem?_eq_getElem h1⟩
  rcases go_spec t R.tab.ris R.tab.dm (fun i => (es[i]?.map Prod.fst).getD 0) h (10 * SetTable.turns t.mask) (K - c) (stp t h c) (nth_dm _ _ _ rfl) (by omega)
      (fun q hq => by rw [stp_add]; exact on _ (by omega)) (by rw [stp_add, Nat.add_sub_cancel' cK]; exact off) with ⟨q, i, hq, hi, hh, hno, hp⟩ | ⟨hno, hp⟩
  · rw [stp_add] at hi
    obtain ⟨e, he⟩ := ent hi
    refine .inl ⟨q, i, e, by omega, he, hi, fun r i' e' h1 h2 he' hp' z => ?_, ?_⟩
    · refine hno (r - c) i' (by omega) ?_ ((hAt i' e' he').trans z)
      rw [stp_add, Nat.add_sub_cancel' h1]
      exact hp'
    · rw [stp_add, stp_add] at hp
      exact hp
  · refine .inr ⟨fun r i' e' h1 h2 he' hp' z => ?_, ?_⟩
    · refine hno (r - c) i' (by omega) ?_ ((hAt i' e' he').trans z)
      rw [stp_add, Nat.add_sub_cancel' h1]
      exact hp'
    · rw [stp_add, Nat.add_sub_cancel' cK] at hp
      exact hp
/-- a search that asks only -/
theorem seek (R : SetTR P w s.heap a L es ep t) (tx : IsT P w s.heap k x) (hu : A.units < cLine) {K : Nat} (lt : K < 10 * SetTable.turns t.mask) (off : (stp t (thash P w k) K).j ∉ t.place.toList) (on : ∀ b, b < K → (stp t (thash P w k) b).j ∈ t.place.toList)
    {Q : SetFound → Shared → Prop} (yes : ∀ i, k ∈ L.map (·.2) → Q (.there (some i)) s) (no : ∀ j, k ∉ L.map (·.2) → Q (.free j false) s) :
    ∀ (fuel c : Nat) (at_ : Option SetTable.Probe), at_.getD (t.probeStart (thash P w k)) = stp t (thash P w k) c → c ≤ K → K - c < fuel →
      (∀ (i : Nat) (e : Addr × List Int), L[i]? = some e → e.2 = k → ∃ r, c ≤ r ∧ r < K ∧ t.place.toList[i]? = some (stp t (thash P w k) r).j) →
      wpAny (model P w) A (setSearchFrom a (.ref x) (thash P w k) false fuel at_) Q E s := by
  intro fuel
  induction fuel with
  | zero => intro c at_ _ _ h; exact absurd h (Nat.not_lt_zero _)
  | succ fuel ih =>
    intro c at_ e1 cK fc inv
    obtain ⟨o, ho, hex, hd⟩ := R.ob
    rw [setSearchFrom_succ]
    refine wpAny_bind ((wpAny_setState_of ho hd R.fits) ?_)
    dsimp only
    refine wp_if_neg R.gw ?_
    refine wpAny_bind (wpAny_pure ?_)
    rcases asked R lt cK off on with ⟨q, i, e, hq, he, hi, hno, hp⟩ | ⟨hno, hp⟩
    · have hpr := hp
      rw [← e1] at hpr
      have hpr2 : t.probe (fun i => (es[i]?.map (fun y => y.1)).getD 0) (thash P w k) (at_.getD (t.probeStart (thash P w k))) = _ := hpr
      rw [hpr2]
      dsimp only
      have me : e ∈ L := List.mem_of_getElem? he
      have te := R.tup e me
      have go : wpAny (model P w) A (searchRest a (.ref x) (thash P w k) false fuel es t (stp t (thash P w k) (c + q)).j i (stp t (thash P w k) (c + q + 1))) Q E s := by
        unfold searchRest
        rw [R.entry he]
        dsimp only
        refine wpAny_bind (wpAny_holding ?_)
        refine wpAny_eqBool_tuple hu te tx ?_
        refine wpAny_bind ((wpAny_setState_of ho hd R.fits) ?_)
        dsimp only
        refine wp_if_neg (by simp) ?_
        refine wpAny_bind (wpAny_pure ?_)
        rw [sameMem]
        dsimp only
        have live := slot_live R.tab.ris hi
        simp only [if_true, live, R.entry he]
        refine wpAny_bind (wpAny_isSame_ref_self ?_)
        refine wpAny_bind (wpAny_pure ?_)
        simp only [if_true]
        by_cases ek : e.2 = k
        · refine wp_if_pos (by simp [ek]) ?_
          exact wpAny_pure (yes i (List.mem_map.mpr ⟨e, me, ek⟩))
        · refine wp_if_neg (by simp [ek]) ?_
          refine ih (c + q + 1) _ rfl (by omega) (by omega) fun i0 e0 h0 k0 => ?_
          obtain ⟨r, r1, r2, r3⟩ := inv i0 e0 h0 k0
          refine ⟨r, ?_, r2, r3⟩
          rcases Nat.lt_trichotomy r (c + q) with z | z | z
          · exact absurd (congrArg (thash P w) k0) (hno r i0 e0 r1 z h0 r3)
          · subst z
            have l2 := slot_live R.tab.ris r3
            rw [live] at l2
            injection l2 with l2
            subst l2
            rw [he] at h0
            cases h0
            exact absurd k0 ek
          · exact z
      by_cases hl : t.led = true
      · refine wp_if_neg (by simp [hl]) ?_
        exact wpAny_bind (wpAny_pure go)
      · refine wp_if_pos (by simp [hl]) (wpAny_bind (seen_tup tx (fun y hy => ?_) ?_))
        · obtain ⟨z, hz, rfl⟩ := List.mem_map.mp hy
          have z1 : z ∈ es ∧ z.1 = thash P w k := by simpa using hz
          have z2 : z ∈ es.toList := by simpa using z1.1
          rw [R.rows] at z2
          obtain ⟨u, hu2, e2⟩ := List.mem_map.mp z2
          exact ⟨u.2, u.1, by rw [← e2], R.tup u hu2⟩
        · refine wp_if_neg (by decide) ?_
          exact wpAny_bind (wpAny_pure go)
    · have hpr := hp
      rw [← e1] at hpr
      have hpr2 : t.probe (fun i => (es[i]?.map (fun y => y.1)).getD 0) (thash P w k) (at_.getD (t.probeStart (thash P w k))) = _ := hpr
      rw [hpr2]
      dsimp only
      refine wpAny_pure (no _ fun hm => ?_)
      obtain ⟨u, hu2, k0⟩ := List.mem_map.mp hm
      obtain ⟨i0, h0⟩ := List.getElem?_of_mem hu2
      obtain ⟨r, r1, r2, r3⟩ := inv i0 u h0 k0
      exact hno r i0 u r1 r2 h0 r3 (congrArg (thash P w) k0)
theorem findT (R : SetTR P w s.heap a L es ep t) (tx : IsT P w s.heap k x) (hu : A.units < cLine) {Q : Option Nat → Shared → Prop} (q : ∀ r : Option Nat, r.isSome = decide (k ∈ L.map (·.2)) → Q r s) : wpAny (model P w) A (setFind a (.ref x) (thash P w k)) Q E s := by
  obtain ⟨o, ho, hex, hd⟩ := R.ob
  unfold setFind
  rw [show (100000 : Nat) = 99999 + 1 from rfl, setFindIn]
  refine wpAny_bind ((wpAny_setState_of ho hd R.fits) ?_)
  dsimp only
  refine wp_if_neg (by simp [byScan, Value.scannable]) ?_
  have rm := R.room
  obtain ⟨K, lt, off, on⟩ := R.tab.first (by rw [List.length_map]; omega) (thash P w k)
  have big : 10 * SetTable.turns t.mask ≤ 1420 := by
    unfold SetTable.turns
    rcases R.tab.mok with z | z | z <;> omega
  refine wpAny_bind ?_
  unfold setSearch
  refine seek R tx hu lt off on (fun i m => wpAny_pure (q (some i) (by rw [decide_eq_true m] <;> rfl))) (fun j m => wpAny_pure (q none (by rw [decide_eq_false m] <;> rfl))) _ 0 none rfl (Nat.zero_le _) (by omega) fun i e he ek => ?_
  have hi : i < t.place.toList.length := by
    have h1 := (List.getElem?_eq_some_iff.mp he).1
    have h2 := R.tab.sz
    rw [List.length_map] at h2
    rw [Array.length_toList, h2]
    exact h1
  have hj := List.getElem?_eq_getElem hi
  obtain ⟨c, hc, e2⟩ := R.tab.before off (i := i) (by rw [List.getElem?_map, he, ← ek] <;> rfl) hj
  exact ⟨c, Nat.zero_le _, hc, by rw [hj]; exact congrArg some e2.symm⟩
theorem SetTR.ty (R : SetTR P w s.heap a L es ep t) : s.TypeIs (.ref a) "set" := let ⟨o, ho, hex, _⟩ := R.ob; ⟨o, ho, hex.1⟩
/-- x in a set -/
theorem inT {Q : Value → Shared → Prop} (R : SetTR P w s.heap a L es ep t) (tx : IsT P w s.heap k x) (hu : A.units + 64 < cLine) (neg : Bool)
    (q : Q (.bool (decide (k ∈ L.map (·.2)) != neg)) { s with toks := s.toks + (k.length + 1) }) : wpAny (model P w) A (compareOp (if neg then .NotIn else .In) (.ref x) (.ref a)) Q E s := by
  have key : ∀ {Q : Bool → Shared → Prop}, Q (decide (k ∈ L.map (·.2))) { s with toks := s.toks + (k.length + 1) } → wpAny (model P w) A (contains (.ref a) (.ref x)) Q E s := by
    intro Q q
    unfold contains
    try with_reducible refine wpAny_holding ?_
    refine wpAny_bind ((wpAny_specialOf (SetTR.ty R) F.slot_set_contains.lookup) ?_)
    refine wp_if_neg (by rw [beq_builtin_none]; exact Bool.false_ne_true) ?_
    refine wpAny_bind ((wpAny_callSpecialUnlessNone?_slot (name := "__contains__") (SetTR.ty R) F.slot_set_contains) ?_)
    refine wpAny_call_entry F.slot_set_contains (SetTR.ty R) entry_set_contains ?_ (F.args_set_contains_2 _ _)
    unfold Builtin.«frozenset.__contains__» Builtin.Frozenset.oneOther
    simp only [List.isEmpty_nil, bind_assoc]
    unfold Builtin.Frozenset.addrOf
    unfold Builtin.Frozenset.withSetAsKey
    unfold setContains
    refine wpAny_bind (wpAny_pure ?_)
    try dsimp only
    refine wpAny_bind (wpAny_pure ?_)
    try dsimp only
    refine wpAny_bind ((wpAny_tryCatch) ?_)
    refine wpAny_holding (wpAny_bind ?_)
    have u1 : A.in1.units < cLine := show A.units + 1 < cLine by omega
    refine wpAny_pyHash_tuple u1 tx ?_
    have tx2 : IsT P w ({ s with toks := s.toks + (k.length + 1) } : Shared).heap k x := tx
    refine wpAny_bind (findT (s := { s with toks := s.toks + (k.length + 1) }) R tx2 u1 fun r er => ?_)
    refine wpAny_pure ?_
    show wpAny _ _ (ret (Value.bool r.isSome)) _ _ _
    rw [er]
    exact wpAny_pure ⟨_, rfl, wpAny_truthy_bool q⟩
  cases neg with
  | false =>
    show wpAny _ _ (do return .bool (← contains (.ref a) (.ref x))) Q E s
    exact wpAny_bind (key (wpAny_pure (by rw [Bool.bne_false] at q; exact q)))
  | true =>
    show wpAny _ _ (do return .bool (!(← contains (.ref a) (.ref x)))) Q E s
    exact wpAny_bind (key (wpAny_pure (by rw [Bool.bne_true] at q; exact q)))
/-- one more -/
theorem addT {Q : Value → Shared → Prop} (R : SetTR P w s.heap a L es ep t) (tx : IsT P w s.heap k x) (hu : A.units + 64 < cLine) (few : L.length + 1 < 64)
    (q : ∀ h' L' es' ep' t', Heap.SameBut a s.heap h' → SetTR P w h' a L' es' ep' t' → (k ∈ L.map (·.2) → L' = L) → (k ∉ L.map (·.2) → L'.Perm ((x, k) :: L)) → Q .none { s with heap := h', toks := s.toks + (k.length + 1) }) :
    wpAny (model P w) A (call (.builtin "set.add") [.ref a, .ref x]) Q E s := by
  refine wpAny_call_entry F.slot_set_add (SetTR.ty R) F.entry_set_add ?_ (F.args_set_add_2 _ _)
  unfold Builtin.«set.add»
  unfold Builtin.Frozenset.oneOther
  simp only [List.isEmpty_nil, bind_assoc]
  unfold Builtin.Frozenset.addrOf
  unfold setAdd
  refine wpAny_bind (wpAny_pure ?_)
  try dsimp only
  refine wpAny_bind (wpAny_pure ?_)
  try dsimp only
  refine wpAny_bind ?_
  have u1 : A.in1.units < cLine := show A.units + 1 < cLine by omega
  refine wpAny_holding (wpAny_bind ?_)
  refine wpAny_pyHash_tuple u1 tx ?_
  have tx2 : IsT P w ({ s with toks := s.toks + (k.length + 1) } : Shared).heap k x := tx
  refine add_at (s := { s with toks := s.toks + (k.length + 1) }) R tx2 u1 few fun b h' L' es' ep' t' sb R2 c1 c2 => ?_
  show wpAny _ _ (ret Value.none) _ _ _
  exact wpAny_pure ⟨_, rfl, q h' L' es' ep' t' sb R2 c1 c2⟩
end
section
variable {X : Cx}
/-- the set of tuples at a: its members, without their addresses -/
def SetAtT (K : PySem.W.Frag) (P : Program) (w : World) (H : Hp) (a : Addr) (ks : List (List Int)) : Prop := ∃ L : List (Addr × List Int), H a = some (SetTO P w a L) ∧ (∀ p ∈ L, SqT K H p.1 (p.2.map V.int)) ∧ L.map (·.2) = ks
def rSet0T (P : Program) (w : World) : List V → Hp → VK → Prop := fun xs H Q => xs = [] ∧ ∀ p, H p = none → Q (.ref p) (upd H p (SetTO P w p []))
theorem cr_set0T : CallR X (.type "set") (rSet0T X.prog X.w) := by
  intro pins s σ H xs us Q I r ⟨ex, q⟩
  subst ex
  cases r
  refine setR_new fun _ => ?_
  have new := fun H' => setTO_new (H := H') (setTR_fresh (P := X.prog) (w := X.w) (a := s.heap.objs.size) (h := s.heap.push { cls := .type "set", dict := none, data := .set #[] 0 (.fresh 0 0 (!X.w.params.followText "set-order")) }) (Heap.get?_push_size _ rfl)).t0
  refine ⟨.ref _, _, I.laid (t' := s.toks) (fun b u e => ?_) (Nat.le_refl _) (new _), rfl, q _ (I.hok.fresh (Nat.le_refl _))⟩
  exact Heap.get?_push_of_some _ e
theorem setT_at {pins : List (Addr × Obj)} {σ : L2.St} {H : Hp} {s : Shared} {a : Addr} {L : List (Addr × List Int)} (I : Inv X pins σ H s) (ha : H a = some (SetTO X.prog X.w a L)) (hk : ∀ p ∈ L, SqT X.K H p.1 (p.2.map V.int)) : ∃ es ep t, SetTR X.prog X.w s.heap a L es ep t :=
  SetT0.full (I.hok a _ ha).1 fun p hp => I.isT (hk p hp)
/-- x in a set of tuples; not in -/
def rInT (K : PySem.W.Frag) (P : Program) (w : World) (neg : Bool) : R2 := fun x y H Q => ∃ (b a : Addr) (L : List (Addr × List Int)) (k : List Int), x = .ref b ∧ y = .ref a ∧ H a = some (SetTO P w a L) ∧ (∀ p ∈ L, SqT K H p.1 (p.2.map V.int)) ∧ SqT K H b (k.map V.int) ∧ Q (.bl (decide (k ∈ L.map (·.2)) != neg)) H
theorem op_inT (neg : Bool) (hu : X.A.units + 64 < cLine) : OpR X (compareOp (if neg then .NotIn else .In)) (rInT X.K X.prog X.w neg) := by
  intro pins s σ H x y v u Q I rx ry ⟨b, a, L, k, ex, ey, ha, hk, hb, q⟩
  subst ex ey
  cases rx
  cases ry
  obtain ⟨es, ep, t, R⟩ := setT_at I ha hk
  exact inT R (I.isT hb) hu neg ⟨.bl (decide (k ∈ L.map (·.2)) != neg), H, I.tok _, rfl, q⟩
/-- a.add(x) -/
def tSAddT (K : PySem.W.Frag) (P : Program) (w : World) (to te : TE) : TE := fun σ H Q => to σ H fun y H1 => (∃ a L, y = V.ref a ∧ H1 a = some (SetTO P w a L) ∧ ∀ p ∈ L, SqT K H1 p.1 (p.2.map V.int)) ∧ te σ H1 fun x H2 => ∃ (b a : Addr) (L : List (Addr × List Int)) (k : List Int), x = .ref b ∧ y = .ref a ∧ H2 a = some (SetTO P w a L) ∧ (∀ p ∈ L, SqT K H2 p.1 (p.2.map V.int)) ∧ SqT K H2 b (k.map V.int) ∧ L.length + 1 < 64 ∧
  ∀ L', (k ∈ L.map (·.2) → L' = L) → (k ∉ L.map (·.2) → L'.Perm ((b, k) :: L)) → Q .non (upd H2 a (SetTO P w a L'))
theorem pe_saddT {o e : Expr} {apos cpos : Pos} {to te : TE} (hu : X.A.units + 64 < cLine) (ho : PE X o to) (he : PE X e te) (m : M1 X o "add" apos e cpos) : PE X (.Call (.Attribute o "add" apos) [e] [] cpos) (tSAddT X.K X.prog X.w to te) := by
  refine ⟨fun pins s σ H Q I h => ?_⟩
  refine wpAny_Call_method m.base m.few m.line PySem.F.plainAttrs_set PySem.F.slot_set_add PySem.F.type_set_add (thn (ho.run pins s σ H _ I h) fun u s1 ⟨y, H1, I1, ry, ⟨a, L, ey, ha, hk⟩, q1⟩ => ?_)
  subst ey
  obtain rfl : u = Value.ref a := ry
  obtain ⟨es, ep, t, R⟩ := setT_at I1 ha hk
  refine ⟨SetTR.ty R, fun b z => ?_, ?_⟩
  · cases z
    obtain ⟨o, ho, hex, _⟩ := R.ob
    exact ⟨o, ho, hex.2.1⟩
  rw [m.trees]
  refine Calls.callWith_builtin rfl (Calls.evalArgs_plain (Calls.spliced_cons (thn (he.run pins s1 σ H1 _ I1 q1) fun iv s2 ⟨x, H2, I2, rx, b, a2, L2, k, ex, ey, ha2, hk2, hb, few, q2⟩ => Calls.spliced_nil ?_)))
  subst ex
  cases ey
  obtain rfl : iv = Value.ref b := rx
  obtain ⟨es2, ep2, t2, R2⟩ := setT_at I2 ha2 hk2
  refine addT R2 (I2.isT hb) hu few fun h' L' es' ep' t' sb R3 c1 c2 => ?_
  refine ⟨.non, _, I2.write (e := a) (t' := s2.toks + (k.length + 1)) (by rw [ha2]; trivial) (.inl rfl) (fun c u hc hu => (sb.2 c hc).trans hu) ?_ (setTO_new R3.t0), rfl, q2 L' c1 c2⟩
  obtain ⟨o, ho, _⟩ := R3.ob
  exact ⟨o, ho⟩
end
end My
/-! a generator that hands out a list's items, woken by a loop whose body may change other things: what stands at each wake is told anew -/
namespace My
open PySem PySem.Spec PyProof.Rows L2 GenW
abbrev NN : Nat := 262146
abbrev refsA (qs : List Addr) : Array Value := (qs.map Value.ref).toArray
theorem vals_qs : ∀ {qs : List Addr} {its : List Value}, Vals (qs.map V.ref) its → its = qs.map Value.ref
  | [], _, .nil => rfl
  | q :: qs, _, .cons r t => by
    rw [vals_qs t, show _ = Value.ref q from r] <;> rfl
/-- asleep, or about to take the item j -/
structure Slp (nL : Addr) (ts : Str) (h : Heap) (it tt : Addr) (m : Str → Option Value) (qs : List Addr) (j : Nat) : Prop where
  ns : h.Ns nL m
  tm : m ts = some (.ref tt)
  li : h.IsList tt (refsA qs)
  itr : h.IsListIter it tt j
  ge : nL ≤ it
/-- tuples of ints, tracked -/
def Tups (H : Hp) (qs : List Addr) (ks : List (List Int)) : Prop := qs.length = ks.length ∧ ∀ (j : Nat) (p : Addr) (k : List Int), qs[j]? = some p → ks[j]? = some k → H p = some (.tup (k.map V.int))
section
variable (P : Program) (w : World) (outer : List Env) (Hc : Hp) (sc : Shared) (base : Heap) (a : Addr) (g : Nat) (ts : Str) (Q : List (List Int) → Prop)
/-- up to the first item: as behind a call -/
def Frst (s1 : Shared) (it tt : Addr) (qs : List Addr) : Prop := ∃ (H1 : Hp) (ks : List (List Int)), Un (frs outer) [] Hc H1 sc.heap s1.heap ∧ HOk P w H1 s1.heap ∧ Same Hc H1 ∧ H1 sc.heap.objs.size = none ∧ H1 it = none ∧ H1 tt = some (.lst (qs.map V.ref)) ∧ Tups H1 qs ks ∧ Q ks
def Seen (j : Nat) (s₀ s1 : Shared) (it tt : Addr) (qs : List Addr) : Prop :=
  (j = 0 → Frst P w outer Hc sc Q s1 it tt qs) ∧ (0 < j → (∀ b o, b ≠ sc.heap.objs.size → b ≠ it → s₀.heap.get? b = some o → s1.heap.get? b = some o) ∧ s₀.heap.IsListIter it tt j ∧ ∀ m0, s₀.heap.Ns sc.heap.objs.size m0 → m0 ts = some (.ref tt))
def FFin (n : Nat) (s₀ s1 : Shared) : Prop := ∃ (it tt : Addr) (qs : List Addr), n + qs.length = NN ∧ sc.heap.objs.size ≤ it ∧ s1.heap.IsList tt (refsA qs) ∧ Seen P w outer Hc sc ts Q qs.length s₀ s1 it tt qs ∧ s1.os = sc.os ∧ AllBare s1.gens
def RR : GenEnd := fun n s₀ r s1 => ((r = .ok (.ret .none) ∨ r = .ok .next) ∧ FFin P w outer Hc sc ts Q n s₀ s1) ∨ ∃ e, r = .error e ∧ False
def YY : Protocol := fun n s₀ v s1 kap => ∃ (j : Nat) (it tt p : Addr) (m : Str → Option Value) (qs : List Addr), n + (j + 1) = NN ∧ v = .ref p ∧ qs[j]? = some p ∧ qs.length < NN ∧ Slp sc.heap.objs.size ts s1.heap it tt m qs (j + 1) ∧ s1.os = sc.os ∧ AllBare s1.gens ∧ s1.heap.IsGen a g ∧
  Seen P w outer Hc sc ts Q j s₀ s1 it tt qs ∧
  ∀ s', s'.os = sc.os → AllBare s'.gens → Slp sc.heap.objs.size ts s'.heap it tt m qs (j + 1) → s'.heap.IsGen a g → kap (.send .none) s'
end
section
variable {P : Program} {w : World} {outer : List Env} {Hc : Hp} {sc : Shared} {a : Addr} {g : Nat} {ts : Str} {Q : List (List Int) → Prop}
theorem Frst.step {s s1 : Shared} {it tt : Addr} {qs : List Addr} (f : Frst P w outer Hc sc Q s it tt qs) (ge : sc.heap.objs.size ≤ it) (k : ∀ b o, b ≠ sc.heap.objs.size → b ≠ it → s.heap.get? b = some o → s1.heap.get? b = some o) : Frst P w outer Hc sc Q s1 it tt qs := by
  obtain ⟨H1, ks, u, ok, sm, n1, n2, ht, tp, hq⟩ := f
  have low : ∀ {b : Addr} {o : Obj}, sc.heap.get? b = some o → b ≠ sc.heap.objs.size ∧ b ≠ it := fun {b o} e => by
    have := Heap.lt_size e
    exact ⟨Nat.ne_of_lt this, Nat.ne_of_lt (Nat.lt_of_lt_of_le this ge)⟩
  refine ⟨H1, ks, ⟨fun b o e n hb hx => ?_, fun b o e n hb hx => ?_, u.free, fun b o e hx => ?_, u.tups, u.frzs, u.tbls⟩, fun b v e => ?_, sm, n1, n2, ht, tp, hq⟩
  · exact k b o (low e).1 (low e).2 (u.keep b o e n hb hx)
  · obtain ⟨sl, q⟩ := u.slot b o e n hb hx
    exact ⟨sl, k b _ (low e).1 (low e).2 q⟩
  · obtain ⟨o', q⟩ := u.there b o e hx
    exact ⟨o', k b o' (low e).1 (low e).2 q⟩
  · refine (ok b v e).stay (fun c z hc q => k c z ?_ ?_ q) (fun _ q => q) fun _ _ q => q
    · rintro rfl
      rcases hc with rfl | hc
      · rw [n1] at e; cases e
      · rw [n1] at hc; cases hc
    · rintro rfl
      rcases hc with rfl | hc
      · rw [n2] at e; cases e
      · rw [n2] at hc; cases hc
theorem Seen.step {j : Nat} {s₀ s s1 : Shared} {it tt : Addr} {qs : List Addr} (f : Seen P w outer Hc sc ts Q j s₀ s it tt qs) (ge : sc.heap.objs.size ≤ it) (k : ∀ b o, b ≠ sc.heap.objs.size → b ≠ it → s.heap.get? b = some o → s1.heap.get? b = some o) : Seen P w outer Hc sc ts Q j s₀ s1 it tt qs :=
  ⟨fun z => (f.1 z).step ge k, fun z => ⟨fun b o h1 h2 e => k b o h1 h2 ((f.2 z).1 b o h1 h2 e), (f.2 z).2⟩⟩
theorem isGen_at {h h' : Heap} {a : Addr} {g : Nat} (x : h.IsGen a g) (k : ∀ o, h.get? a = some o → h'.get? a = some o) : h'.IsGen a g := by
  obtain ⟨o, nm, qn, e, r⟩ := x
  exact ⟨o, nm, qn, k o e, r⟩
/-- the loop that hands out -/
theorem yl_loop {A : Around} {env : Env} {x : Str} {px pz py pe p : Pos} {c : Code} {kk : Result → Sem PySem.Fin} {it tt : Addr} {qs : List Addr} (hL : env.locals = sc.heap.objs.size) (hk : env.scope.kind = .function) (hx : env.kindOf x = some .local) (hxt : ts ≠ x)
    (hco : env.scope.isCoroutine = false) (hi : interactive env = false) (hdx : (x == ("__debug__" : Str)) = false) (hh : (A.over (.forLoop (.Name x px) (.ref it) [.Expr (.Yield (some (.Name x pz)) py) pe] [] env) [.ret kk none false [] c p []]).handled = none) (hql : qs.length < NN) (hga : a ≠ sc.heap.objs.size) (hgi : a ≠ it)
    (hend : ∀ n s₀ s, FFin P w outer Hc sc ts Q n s₀ s → Seg (model P w) A (RR P w outer Hc sc ts Q) (YY P w outer Hc sc a g ts Q) n s₀ c (kk (.ok .next)) [] s) :
    ∀ (r j n : Nat) (s₀ s : Shared) (m : Str → Option Value), j + r = qs.length → n + j = NN → Slp sc.heap.objs.size ts s.heap it tt m qs j → s.os = sc.os → AllBare s.gens → s.heap.IsGen a g → Seen P w outer Hc sc ts Q j s₀ s it tt qs →
      Seg (model P w) A (RR P w outer Hc sc ts Q) (YY P w outer Hc sc a g ts Q) n s₀ (.forLoop (.Name x px) (.ref it) [.Expr (.Yield (some (.Name x pz)) py) pe] [] env) ((model P w).den (.forLoop (.Name x px) (.ref it) [.Expr (.Yield (some (.Name x pz)) py) pe] [] env)) [.ret kk none false [] c p []] s := by
  intro r
  induction r with
  | zero =>
    intro j n s₀ s m hj hn sl os ba ig se
    have hj : j = qs.length := by omega
    subst hj
    have hit : it ≠ tt := fun z => by
      obtain ⟨o, e, c1, _⟩ := sl.itr
      obtain ⟨o2, e2, c2, _⟩ := sl.li
      rw [z, e2] at e
      cases e
      rw [c1] at c2
      exact absurd c2 (by decide)
    refine seg_forLoop1 ?_
    refine wpAny_pyNext_list_end hh sl.itr sl.li (by simp) fun h' eb => ?_
    refine seg_again rfl ?_
    refine seg_leaf (.ok .next) (hend n s₀ _ ⟨it, tt, qs, hn, sl.ge, sl.li.extBut eb hit.symm, se.step sl.ge fun b o h1 h2 e => eb b o h2 e, os, ba⟩)
  | succ r ih =>
    intro j n s₀ s m hj hn sl os ba ig se
    obtain ⟨n, rfl⟩ : ∃ z, n = z + 1 := ⟨n - 1, by omega⟩
    obtain ⟨q, hq⟩ : ∃ q, qs[j]? = some q := ⟨qs[j], List.getElem?_eq_getElem (by omega)⟩
    have hit : it ≠ tt := fun z => by
      obtain ⟨o, e, c1, _⟩ := sl.itr
      obtain ⟨o2, e2, c2, _⟩ := sl.li
      rw [z, e2] at e
      cases e
      rw [c1] at c2
      exact absurd c2 (by decide)
    have hnt : sc.heap.objs.size ≠ tt := fun z => by
      obtain ⟨o, es, ep, e, d, _⟩ := sl.ns
      obtain ⟨o2, e2, _, nn, d2⟩ := sl.li
      rw [z, e2] at e
      cases e
      rw [d2] at d
      cases d
    have hni : sc.heap.objs.size ≠ it := fun z => by
      obtain ⟨o, es, ep, e, d, _⟩ := sl.ns
      obtain ⟨o2, e2, _, d2⟩ := sl.itr
      rw [z, e2] at e
      cases e
      rw [d2] at d
      cases d
    refine seg_forLoop1 ?_
    refine wpAny_pyNext_list_item sl.itr sl.li (x := .ref q) (by simp [hq]) fun h' st' sb => ?_
    obtain ⟨oi, e1, c1, d1⟩ := id st'
    refine go_of (s := { s with heap := h' }) e1 c1 d1 (by decide) ?_
    have ns1 : h'.Ns env.locals m := by rw [hL]; exact sl.ns.sameBut sb hni
    refine wpAny_assign_Name (wpAny_storeName_local (s := { s with heap := h' }) hx ns1 (fun h2 ns2 sb2 => ?_) (by rw [hk]; rfl))
    rw [hL] at ns2 sb2
    refine seg_execs_cons (seg_Expr_Yield rfl rfl rfl ?_ hco hi)
    refine wpAny_Name (wpAny_loadName_local (v := .ref q) hk hx (by rw [hL]; exact ns2) (by simp) ?_) hdx
    intro kap hkap
    have kp : ∀ b o, b ≠ sc.heap.objs.size → b ≠ it → s.heap.get? b = some o → h2.get? b = some o := fun b o b1 b2 e => (sb2.2 b b1).trans ((sb.2 b b2).trans e)
    have sl1 : Slp sc.heap.objs.size ts h2 it tt (fun y => if y = x then some (.ref q) else m y) qs (j + 1) := ⟨ns2, by rw [if_neg hxt]; exact sl.tm, by
      obtain ⟨o, e, z⟩ := sl.li
      exact ⟨o, kp tt o hnt.symm hit.symm e, z⟩, ⟨oi, (sb2.2 it hni.symm).trans e1, c1, d1⟩, sl.ge⟩
    refine ⟨j, it, tt, q, _, qs, by omega, rfl, hq, hql, sl1, os, ba, isGen_at ig fun o e => kp a o hga hgi e, se.step sl.ge kp, fun s' os' ba' sl' ig' => ?_⟩
    refine hkap .none s' ?_
    show Seg _ _ _ _ _ _ _ _ _ _
    refine seg_execs_nil ?_
    refine seg_again rfl ?_
    refine ih (j + 1) n s' s' _ (by omega) (by omega) sl' os' ba' ig' ⟨fun z => absurd z (Nat.succ_ne_zero j), fun _ => ⟨fun _ _ _ _ e => e, sl'.itr, fun m0 h0 => ?_⟩⟩
    rw [h0.agree sl'.ns ts]
    exact sl'.tm
end
end My
/-! a generator def: plain statements, then a loop that hands out a list's items; by its body -/
namespace My
open PySem PySem.Spec PyProof.Rows L2 GenW
theorem execs_app_wrap {env : Env} {K : Flow → Sem PySem.Fin} {J : Value → Sem PySem.Fin} {gd : Bool → Bool} {lv : List Value → List Value} (rest : List Stmt) : ∀ xs : List Stmt, (execs (xs ++ rest) env).wrap K J gd lv =
    (execs xs env).wrap (fun f => match f with | .next => (execs rest env).wrap K J gd lv | f => K f) J gd lv
  | [] => rfl
  | st :: xs => by
    show (execs (st :: (xs ++ rest)) env).wrap K J gd lv = _
    rw [execs_cons_wrap, execs_cons_wrap, execs_app_wrap rest xs]
    refine Sem.wrap_congr _ _ _ (fun f => ?_) fun _ => rfl
    cases f <;> rfl
abbrev E00 : XK := fun _ _ _ => False
abbrev SpY := List V → Hp → (List (List Int) → Prop) → Prop
/-- what a call gives: a generator that has not begun -/
def GMadeY (P : Program) (w : World) (k : Nat) (outer : List Env) (H : Hp) (s : Shared) (Q : List (List Int) → Prop) (u : Value) (s' : Shared) : Prop :=
  ∃ (a : Addr) (g : Nat) (c : Code) (ts : Str), u = .ref a ∧ s.heap.objs.size < a ∧ a < s'.heap.objs.size ∧ s'.heap.IsGen a g ∧ s'.gens[g]? = some (.fresh c) ∧ s'.os = s.os ∧ AllBare s'.gens ∧ (∀ b o, s.heap.get? b = some o → s'.heap.get? b = some o) ∧
    ∀ (A : Around) (s2 : Shared), Room k A → A.frames = some outer → (∀ b o, s'.heap.get? b = some o → s2.heap.get? b = some o) → s2.os = s.os → AllBare s2.gens →
      Seg (model P w) A (RR P w outer H s ts Q) (YY P w outer H s a g ts Q) NN s2 c ((model P w).den c) [] s2
structure GFnY (P : Program) (w : World) (K : PySem.W.Frag) (mg : Str → Option Value) (base : Heap) (k : Nat) (f : Addr) (fd : FuncData) (ps : List Str) (sp : SpY) : Prop where
  len : ∀ vs H Q, sp vs H Q → vs.length = ps.length
  run : ∀ (A : Around) (outer : List Env) (s : Shared) (H : Hp) (args : Args) (us : List Value) (vs : List V) (Q : List (List Int) → Prop), Room k A → Env0 P w K mg base A outer s H → BindsTo s fd args (ps.zip us) → Vals vs us → sp vs H Q →
    codeAny (model P w) A (.call (.ref f) args) (fun r s' => match r with | .ok (.ret u) => GMadeY P w k outer H s Q u s' | _ => False) s
section
variable {P : Program} {w : World} {K : PySem.W.Frag} {mg : Str → Option Value} {base : Heap} {N ps : List Str} {qual : Str} {scope : Scope} {f : Addr} {cd : Value} {outer : List Env} {s : Shared} {H : Hp}
/-- the run, from its first wake on -/
theorem glp_seg {A : Around} {k : Nat} {s2 : Shared} {a : Addr} {g : Nat} {go : Obj} {pre : List Stmt} {t : TS} {σ0 : L2.St} {x ts : Str} {i : Nat} {px pt pz py pe pf : Pos} {Q : List (List Int) → Prop} (hr : Room k A) (hx : scope.names.lookup x = some .local) (hts : scope.names.lookup ts = some .local) (hxt : ts ≠ x) (hi : N[i]? = some ts)
    (hco : scope.isCoroutine = false) (hkd : scope.kind = .function) (hd1 : (x == ("__debug__" : Str)) = false) (hd2 : (ts == ("__debug__" : Str)) = false) (hfold : ∀ env y, foldedSetIterable (.Name ts pt) env y = pure y) (hint : interactive (envOfC qual scope s.heap.objs.size f cd) = false)
    (hgen : ∀ h : Heap, h.get? a = some go → h.IsGen a g) (hga : s.heap.objs.size < a)
    (I : Inv (gcxOf P w K mg base N qual scope f cd A outer s H E00 [(a, go)]) [] σ0 H s2)
    (ht : PSs (gcxOf P w K mg base N qual scope f cd A outer s H E00 [(a, go)]) pre t) (hq : t { nx := fun σ H1 => ∃ (tt : Addr) (qs : List Addr) (ks : List (List Int)), σ[i]? = some (some (.ref tt)) ∧ H1 tt = some (.lst (qs.map V.ref)) ∧ qs.length < NN ∧ Tups H1 qs ks ∧ Same H H1 ∧ Q ks, rt := fun _ _ => False } σ0 H) :
    Seg (model P w) A (RR P w outer H s ts Q) (YY P w outer H s a g ts Q) NN s2 (.func (pre ++ [.For (.Name x px) (.Name ts pt) [.Expr (.Yield (some (.Name x pz)) py) pe] [] pf]) (envOfC qual scope s.heap.objs.size f cd))
      ((model P w).den (.func (pre ++ [.For (.Name x px) (.Name ts pt) [.Expr (.Yield (some (.Name x pz)) py) pe] [] pf]) (envOfC qual scope s.heap.objs.size f cd))) [] s2 := by
  refine seg_func ?_
  rw [execs_app_wrap]
  refine seg_wrap ?_
  rw [over_func]
  refine wpAny_mono (ht.run [] s2 σ0 H _ I hq) (fun fl s' hs => ?_) fun e s' hx => ?_
  · cases fl with
    | brk => obtain ⟨_, _, _, z⟩ := hs; exact False.elim z
    | cont => obtain ⟨_, _, _, z⟩ := hs; exact False.elim z
    | ret u => obtain ⟨_, _, _, _, _, z⟩ := hs; exact False.elim z
    | next =>
      obtain ⟨σ1, H1, I4, tt, qs, ks, ht1, htt, hql, tups, sm, hQ⟩ := hs
      obtain ⟨m, hn, hlk⟩ := I4.loc
      obtain ⟨u, ru, lu⟩ := hlk i ts (.ref tt) hi ht1 (.inl hts)
      obtain rfl : u = Value.ref tt := ru
      have hm : m ts = some (.ref tt) := by
        rcases lu with ⟨_, z⟩ | ⟨z, _⟩
        · exact z
        · have z1 : scope.names.lookup ts = some .cell ∨ scope.names.lookup ts = some .free := z
          rw [hts] at z1
          rcases z1 with z1 | z1 <;> cases z1
      obtain ⟨its, rv, pl, _⟩ := I4.list (SqL.of htt)
      obtain rfl := vals_qs rv
      show Seg _ _ _ _ _ _ _ ((execs [_] _).wrap _ _ _ _) _ _
      refine seg_execs_cons (seg_For1 (fun y => hfold _ y) ?_)
      rw [over_func]
      refine wpAny_Name (wpAny_loadName_local (v := .ref tt) hkd hts hn hm ?_) hd2
      refine wpAny_pyIter_list pl.isList fun p => ?_
      have pinA := I4.pin (a, go) (List.mem_append_left _ (List.mem_singleton.mpr rfl))
      have sza : a < s'.heap.objs.size := Heap.lt_size pinA.1
      have szl : s.heap.objs.size < s'.heap.objs.size := Nat.lt_trans hga sza
      have kp : ∀ b o, s'.heap.get? b = some o → (s'.heap.push { cls := .type "list_iterator", data := .fields #[.ref tt, .int 0 0] }).get? b = some o := fun b o e => Heap.get?_push_of_some _ e
      refine yl_loop (env := envOfC qual scope s.heap.objs.size f cd) (x := x) (tt := tt) (qs := qs) rfl hkd hx hxt hco hint hd1 ?_ hql (Nat.ne_of_gt hga) (Nat.ne_of_lt sza) (fun n s₀ s3 fin => ?_) qs.length 0 NN s2 _ m (Nat.zero_add _) (Nat.add_zero _) ⟨hn.push _, hm, pl.isList.push _, ⟨_, Heap.get?_push_size _ rfl, rfl, rfl⟩, Nat.le_of_lt szl⟩ I4.os I4.bare (hgen _ (kp _ _ pinA.1)) ⟨fun _ => ⟨H1, ks, I4.base.trans (Un.kept kp), I4.hok.kept kp, sm, I4.free, I4.hok.fresh (Nat.le_refl _), htt, tups, hQ⟩, fun z => absurd z (Nat.lt_irrefl 0)⟩
      · rw [over_handled, over_func]
        exact hr.hd
      · exact seg_end (.ok (.ret .none)) (.inl ⟨.inl rfl, fin⟩)
  · refine seg_wrap ?_
    rw [over_func]
    refine wpAny_mono (show wpAny (model P w) (A.deeper (envOfC qual scope s.heap.objs.size f cd)) (leaving (envOfC qual scope s.heap.objs.size f cd) e) (fun _ s'' => L2.CX P w outer H s E00 e s'' ∧ ∀ p ∈ [(a, go)], s''.heap.get? p.1 = some p.2) (fun _ _ => False) s' from hx) (fun _ s'' z => ?_) fun _ _ z => z.elim
    obtain ⟨⟨_, _, _, _, _, _, _, _, _, _, _, _, hW⟩, _⟩ := z
    exact False.elim hW
end
end My
/-! such a def, from its record -/
namespace My
open PySem PySem.Spec PyProof.Rows L2 GenW
theorem glp_of {P : Program} {w : World} {K : PySem.W.Frag} {mg : Str → Option Value} {base : Heap} {k : Nat} {f : Addr} {name qual : Str} {params : Arguments} {pre body : List Stmt} {scope : Scope} {dV kV doc pm cdv ct oc : Value} {an od : Option Addr}
    {osl : Array (Option Value)} {N ps : List Str} {sp : SpY} {x ts : Str} {i : Nat} {px pt pz py pe pf : Pos} (lk : K.lookup f = some ⟨oc, od, .func (PySem.W.fnOf name qual params body scope dV kV doc pm an cdv ct), osl⟩) (hcd : PySem.W.codeIn K cdv qual = true) (S : GScope N ps scope)
    (hb0 : body = pre ++ [.For (.Name x px) (.Name ts pt) [.Expr (.Yield (some (.Name x pz)) py) pe] [] pf]) (hx : scope.names.lookup x = some .local) (hts : scope.names.lookup ts = some .local) (hxt : ts ≠ x) (hi : N[i]? = some ts)
    (hd1 : (x == ("__debug__" : Str)) = false) (hd2 : (ts == ("__debug__" : Str)) = false) (hfold : ∀ env y, foldedSetIterable (.Name ts pt) env y = pure y) (hint : ∀ L, interactive (envOfC qual scope L f cdv) = false) (len : ∀ vs H Q, sp vs H Q → vs.length = ps.length)
    (hbody : ∀ (A : Around) (outer : List Env) (s : Shared) (H : Hp) (vs : List V) (Q : List (List Int) → Prop) (pn : List (Addr × Obj)), Room k (A.deeper (envOfC qual scope s.heap.objs.size f cdv)) → sp vs H Q →
      ∃ t, PSs (gcxOf P w K mg base N qual scope f cdv A outer s H E00 pn) pre t ∧ t { nx := fun σ H1 => ∃ (tt : Addr) (qs : List Addr) (ks : List (List Int)), σ[i]? = some (some (.ref tt)) ∧ H1 tt = some (.lst (qs.map V.ref)) ∧ qs.length < NN ∧ Tups H1 qs ks ∧ Same H H1 ∧ Q ks, rt := fun _ _ => False } (start N vs) H) :
    GFnY P w K mg base (k + 1) f (PySem.W.fnOf name qual params body scope dV kV doc pm an cdv ct) ps sp := by
  refine ⟨len, fun A outer s H args us vs Q hr e0 hb r hsp => ?_⟩
  have hl := len _ _ _ hsp
  have hin : K.In s.heap := e0.mod.kin.keeps fun b o e => (e0.bs b o e).1
  have hlim : s.heap.NoLimit := e0.mod.nolimit.keeps fun b o e => (e0.bs b o e).1
  refine codeAny_call_generator hr.depth (hin _ _ lk) rfl S.co S.gen rfl (PySem.W.codeRec_of hin hcd) (hb _ _ _ _ ?_)
  refine wpAny_newFunctionEnv_cells S.kind (fun ⟨y, v⟩ hy => ?_) fun env he s1 x1 => ?_
  · rcases S.par y (List.of_mem_zip hy).1 with q | q
    · exact .inl q
    · exact .inr ⟨q, PySem.W.cellsFrom_some _ _ _ (.inl q)⟩
  subst he
  have lim1 : s1.heap.NoLimit := hlim.keeps x1.toInCall.keep
  refine ⟨lim1, ?_⟩
  obtain ⟨h1, tk, es1, _⟩ := x1.done
  have os1 : s1.os = s.os := by rw [es1]
  have ba1 : AllBare s1.gens := by rw [es1]; exact e0.bare
  have lt1 := x1.toInCall.ns.lt
  have main : ∀ (go : Obj) (nm qn : Value) (tk2 : Nat), go.cls = .type "generator" ∧ go.data = .fields #[.int s1.gens.size 0, nm, qn] ∧ go.slots = #[] → (∀ h : Heap, (h.push go).get? h.objs.size = some go) →
      GMadeY P w (k + 1) outer H s Q (.ref s1.heap.objs.size) { s1 with gens := s1.gens.push (.fresh (.func body (envOfC qual scope s.heap.objs.size f cdv))), toks := tk2, heap := s1.heap.push go } := by
    intro go nm qn tk2 ⟨gc, gd, gl⟩ gp
    have gg : ∀ h : Heap, h.get? s1.heap.objs.size = some go → h.IsGen s1.heap.objs.size s1.gens.size := fun h e => ⟨go, nm, qn, e, gc, gd, gl⟩
    have gk : ∀ b o, s1.heap.get? b = some o → (s1.heap.push go).get? b = some o := fun b o e => Heap.get?_push_of_some _ e
    refine ⟨s1.heap.objs.size, s1.gens.size, _, ts, rfl, lt1, by show _ < (s1.heap.push go).objs.size; rw [Heap.size_push]; exact Nat.lt_succ_self _, gg _ (gp _), Array.getElem?_push_size .., os1, ba1.push rfl, fun b o e => gk b o (x1.toInCall.keep b o e), fun Aw s2 hrw hfr k2 o2 b2 => ?_⟩
    have ew : Env0 P w K mg base Aw outer s H := ⟨hfr, e0.mod, e0.bs, e0.bsz, e0.funs, e0.frf, e0.hok, e0.bare⟩
    have I1 : Inv (gcxOf P w K mg base N qual scope f cdv Aw outer s H E00 []) [] (start N vs) H s1 := inv_startG S hrw.hd ew hl r x1
    have k3 : ∀ b o, s1.heap.get? b = some o → s2.heap.get? b = some o := fun b o e => k2 b o (gk b o e)
    have I2 := I1.call' (ch := []) (s' := s2) (o2.trans os1.symm) (Un.kept k3) (I1.hok.kept k3) b2 fun b z => by simp at z
    have I3 : Inv (gcxOf P w K mg base N qual scope f cdv Aw outer s H E00 [(s1.heap.objs.size, go)]) [] (start N vs) H s2 := Inv.pinnedG I2 fun p hp => by
      rw [List.append_nil] at hp
      rw [List.mem_singleton.mp hp]
      exact ⟨k2 _ _ (gp _), I1.hok.fresh (Nat.le_refl _), Nat.ne_of_gt lt1, I1.nofs (Nat.le_refl _), fun v q => by rw [gd] at q; cases q⟩
    obtain ⟨t, ht, hq⟩ := hbody Aw outer s H vs Q [(s1.heap.objs.size, go)] (hrw.deeper _) hsp
    subst hb0
    exact glp_seg hrw hx hts hxt hi S.co S.kind hd1 hd2 hfold (hint _) gg lt1 I3 ht hq
  exact main _ _ _ _ ⟨rfl, rfl, rfl⟩ fun h => Heap.get?_push_size _ rfl
end My
/-! for x in f(e, ..): body, f such a generator; the body leaves the table of generators as it is -/
namespace My
open PySem PySem.Spec PyProof.Rows L2 GenW
section
variable {P : Program} {w : World}
/-- of what the run tracks anew, the tuples and the list alone -/
def restH (Hc H1 : Hp) (tt : Addr) : Hp := fun b => match Hc b with
  | some u => some u
  | none => match H1 b with
    | some (.tup xs) => some (.tup xs)
    | _ => if b = tt then H1 tt else none
theorem rest_old {Hc H1 : Hp} {tt : Addr} : Same Hc (restH Hc H1 tt) := fun b u e => by
  unfold restH
  rw [e]
theorem rest_tup {Hc H1 : Hp} {tt b : Addr} {xs : List V} (sm : Same Hc H1) (e : H1 b = some (.tup xs)) : restH Hc H1 tt b = some (.tup xs) := by
  unfold restH
  cases q : Hc b with
  | some u =>
    have := sm b u q
    rw [e] at this
    cases this
    rfl
  | none => simp only [e]
theorem rest_tt {Hc H1 : Hp} {tt : Addr} {xs : List V} (sm : Same Hc H1) (e : H1 tt = some (.lst xs)) : restH Hc H1 tt tt = some (.lst xs) := by
  unfold restH
  cases q : Hc tt with
  | some u =>
    have := sm tt u q
    rw [e] at this
    cases this
    rfl
  | none => simp [e]
theorem rest_new {Hc H1 : Hp} {tt b : Addr} {u : HO} (n : Hc b = none) (e : restH Hc H1 tt b = some u) : (∃ xs, u = .tup xs) ∨ b = tt := by
  unfold restH at e
  simp only [n] at e
  split at e
  · cases e
    exact .inl ⟨_, rfl⟩
  · split at e
    · rename_i z
      exact .inr z
    · cases e
theorem rest_none {Hc H1 : Hp} {tt b : Addr} (n : Hc b = none) (n1 : H1 b = none) : restH Hc H1 tt b = none := by
  unfold restH
  simp only [n, n1]
  split
  · rename_i z
    rw [← z, n1]
  · rfl
theorem ok_less {Hc H1 Hr : Hp} {h h1 : Heap} {a : Addr} {u : HO} (s : Same Hc Hr) (t : ∀ d xs, H1 d = some (.tup xs) → Hr d = some (.tup xs)) (x : ObjOk P w Hc h a u) (y : ObjOk P w H1 h1 a u) : ObjOk P w Hr h1 a u := by
  induction u with
  | dT kvs =>
    obtain ⟨z, q, xs, r, c⟩ := y
    exact ⟨z, q, xs, Paired.mapP r fun p q z => ⟨z.1, t _ _ z.2.1, z.2.2⟩, c⟩
  | ins C dx fs =>
    obtain ⟨d, _⟩ := x
    obtain ⟨_, r⟩ := y
    exact ⟨s _ _ d, r⟩
  | frz ob u ih => exact ⟨y.1, ih x.2 y.2⟩
  | _ => exact y
theorem rest_ok {Hc H1 : Hp} {h h1 : Heap} {tt : Addr} {xs : List V} (oc : HOk P w Hc h) (o1 : HOk P w H1 h1) (sm : Same Hc H1) (e : H1 tt = some (.lst xs)) : HOk P w (restH Hc H1 tt) h1 := fun b u z => by
  cases q : Hc b with
  | some v =>
    rw [rest_old b v q] at z
    cases z
    exact ok_less rest_old (fun d ys y => rest_tup sm y) (oc b u q) (o1 b u (sm b u q))
  | none =>
    rcases rest_new q z with ⟨ys, rfl⟩ | rfl
    · unfold restH at z
      simp only [q] at z
      split at z
      · rename_i y
        cases z
        exact o1 b _ y
      · split at z
        · rename_i y
          rw [e] at z
          cases z
        · cases z
    · rw [rest_tt sm e] at z
      cases z
      exact o1 b _ e
theorem rest_un {Hc H1 : Hp} {h h1 : Heap} {tt : Addr} {fs : List Addr} (u : Un fs [] Hc H1 h h1) (sm : Same Hc H1) : Un fs [] Hc (restH Hc H1 tt) h h1 :=
  ⟨u.keep, u.slot, fun b o e n hx => rest_none n (u.free b o e n hx), u.there, fun b xs e => rest_old b _ e, fun b o v e => rest_old b _ e, fun b ps e => ⟨#[], by rw [rest_old b _ e]; simp⟩⟩
end
section
variable {X : Cx} {pins : List (Addr × Obj)} {σ : L2.St} {H : Hp} {s : Shared}
theorem inv_re {s' : Shared} (I : Inv X pins σ H s) (e : s'.heap = s.heap) (o : s'.os = s.os) (b : AllBare s'.gens) : Inv X pins σ H s' := by
  obtain ⟨hh, g, d, t, os⟩ := s'
  have e : hh = s.heap := e
  have o : os = s.os := o
  subst e o
  exact ⟨I.ok, I.os, b, I.base, I.loc, I.cell, I.free, I.freeC, I.pin, I.hok, I.len⟩
/-- a name of one's own frame is set; the generators stay -/
theorem store_g {A : Around} {E : Value → Shared → Prop} {i : Nat} {x : Str} {v : V} {u : Value} {Q : Unit → Shared → Prop} (I : Inv X pins σ H s) (hN : X.N.Nodup) (hi : X.N[i]? = some x) (hk : X.env.scope.names.lookup x = some .local) (r : RelV v u)
    (h : ∀ s', Inv X pins (σ.set i (some v)) H s' → s'.gens = s.gens → Q () s') : wpAny (model X.prog X.w) A (storeName X.env x u) Q E s := by
  obtain ⟨m, hn, hl⟩ := id I.loc
  refine wpAny_storeName_local hk hn (fun h' n' sb => h _ ?_ rfl) (by rw [I.ok.kind]; rfl)
  have old : ∀ b o, X.s_0.heap.get? b = some o → b ≠ X.env.locals := fun b o e => Nat.ne_of_lt (Nat.lt_of_lt_of_le (Heap.lt_size e) I.ok.above)
  refine ⟨I.ok, I.os, I.bare, ⟨fun b o e n hb hx => (sb.2 b (old b o e)).trans (I.base.keep b o e n hb hx), fun b o e n hb hx => ?_, I.base.free, fun b o e hx => ?_, I.base.tups, I.base.frzs, I.base.tbls⟩, ⟨_, n', fun j y z e1 e2 e3 => ?_⟩, fun y c e => ?_, I.free, I.freeC, fun p hp => ?_, fun b z e => ?_, by rw [List.length_set]; exact I.len⟩
  · obtain ⟨sl, q⟩ := I.base.slot b o e n hb hx
    exact ⟨sl, (sb.2 b (old b o e)).trans q⟩
  · obtain ⟨o', q⟩ := I.base.there b o e hx
    exact ⟨o', (sb.2 b (old b o e)).trans q⟩
  · by_cases z1 : j = i
    · rw [z1] at e1 e2
      rw [hi] at e1
      cases e1
      rw [List.getElem?_set_self (by rw [I.len]; exact (List.getElem?_eq_some_iff.mp hi).1)] at e2
      cases e2
      exact ⟨u, r, .inl ⟨hk, if_pos rfl⟩⟩
    · rw [List.getElem?_set_ne (Ne.symm z1)] at e2
      obtain ⟨u', r', q⟩ := hl j y z e1 e2 e3
      refine ⟨u', r', ?_⟩
      rcases q with ⟨q1, q2⟩ | ⟨q1, c, q2, q3⟩
      · refine .inl ⟨q1, ?_⟩
        have : y ≠ x := fun z2 => z1 (nodup_ix hN e1 (z2 ▸ hi))
        exact (if_neg this).trans q2
      · exact .inr ⟨q1, c, q2, q3.sameBut sb (I.cne y c q2)⟩
  · obtain ⟨z, q⟩ := I.cell y c e
    exact ⟨z, q.sameBut sb (I.cne y c e)⟩
  · obtain ⟨q1, q2, q3, q4, q5⟩ := I.pin p hp
    exact ⟨(sb.2 p.1 q3).trans q1, q2, q3, q4, q5⟩
  · refine (I.hok b z e).stay (fun c y hc q => (sb.2 c ?_).trans q) (fun _ q => q) fun _ _ q => q
    rintro rfl
    rcases hc with hc | hc
    · rw [← hc, I.free] at e
      cases e
    · rw [I.free] at hc
      cases hc
/-- a statement that leaves the generators -/
structure PSg (X : Cx) (st : Stmt) (t : TS) : Prop where
  run : ∀ (pins : List (Addr × Obj)) (s : Shared) (σ : L2.St) (H : Hp) (D : Ends), Inv X pins σ H s → t D σ H → ∀ E : Value → Shared → Prop, wpAny (model X.prog X.w) X.A (exec st X.env) (fun f s' => f = .next ∧ s'.gens = s.gens ∧ ∃ σ' H', Inv X pins σ' H' s' ∧ D.nx σ' H') E s
theorem run_gfy {k : Nat} {f : Addr} {fd : FuncData} {ps : List Str} {sp : SpY} {us : List Value} {vs : List V} {Q : List (List Int) → Prop} {E1 : Value → Shared → Prop} (F : GFnY X.prog X.w X.K X.mg X.base k f fd ps sp) (hr : Room k X.A) (hb : Binds X.K fd ps [])
    (I : Inv X pins σ H s) (r : Vals vs us) (h : sp vs H Q) : wpAny (model X.prog X.w) X.A (call (.ref f) us) (fun u s' => GMadeY X.prog X.w k X.stack H s Q u s') E1 s := by
  have hl : (us ++ []).length = ps.length := by rw [List.append_nil, ← r.length]; exact F.len _ _ _ h
  have hb2 := hb s us I.kIn hl
  rw [List.append_nil] at hb2
  refine wpAny_call (codeAny_mono (F.run X.A X.stack s H ⟨us, []⟩ us vs Q hr I.env0 hb2 r h) fun r s' hq => ?_)
  cases r with
  | error e => exact False.elim hq
  | ok fl =>
    cases fl with
    | ret u => exact hq
    | next => exact False.elim hq
    | brk => exact False.elim hq
    | cont => exact False.elim hq
theorem refs_inj : ∀ {a b : List Addr}, a.map Value.ref = b.map Value.ref → a = b
  | [], [], _ => rfl
  | [], _ :: _, h => by cases h
  | _ :: _, [], h => by cases h
  | x :: a, y :: b, h => by
    injection h with h1 h2
    injection h1 with h1
    rw [h1, refs_inj h2]
/-- what the body is to keep of the run's own: told of the names and the heap ahead of each item -/
structure Wd (H1 H2 : Hp) (tt : Addr) (qs : List Addr) (ix : Nat) (tb : TS) (D : Ends) (W : Nat → L2.St → Hp → Prop) (σ : L2.St) : Prop where
  z : W 0 σ H2
  fr : ∀ j σ' H', W j σ' H' → H' tt = H2 tt ∧ ∀ b, H1 b = none → H' b = H2 b
  st : ∀ j q σ' H', qs[j]? = some q → W j σ' H' → tb { D with nx := W (j + 1) } (σ'.set ix (some (.ref q))) H'
  en : ∀ σ' H', W qs.length σ' H' → D.nx σ' H'
/-- the loop's reading -/
def tForY (ix : Nat) (ta : TA) (sp : SpY) (tb : TS) : TS := fun D σ H => ta σ H fun vs H1 => ∃ Q, sp vs H1 Q ∧ ∀ (ks : List (List Int)) (qs : List Addr) (tt : Addr) (H2 : Hp), Q ks → Same H1 H2 → Tups H2 qs ks → H2 tt = some (.lst (qs.map V.ref)) → ∃ W, Wd H1 H2 tt qs ix tb D W σ
section
variable {D : Ends} {H1 : Hp} {s1 : Shared} {Q : List (List Int) → Prop} {ix : Nat} {tb : TS} {ts : Str}
/-- where the loop stands, an item or more behind it -/
structure MidY (X : Cx) (pins : List (Addr × Obj)) (σ : L2.St) (D : Ends) (H1 : Hp) (ix : Nat) (tb : TS) (nL : Addr) (j : Nat) (s : Shared) (tt : Addr) (qs : List Addr) : Prop where
  ex : ∃ (H2 : Hp) (W : Nat → L2.St → Hp → Prop) (σ' : L2.St) (H' : Hp), Wd H1 H2 tt qs ix tb D W σ ∧ W j σ' H' ∧ Inv X pins σ' H' s ∧ H2 tt = some (.lst (qs.map V.ref)) ∧ ∀ b u, H1 b = none → H2 b = some u → (∃ xs, u = .tup xs) ∨ b = tt
theorem not_tup {H' : Hp} {h : Heap} {b : Addr} {o : Obj} {xs : List V} (ok : HOk X.prog X.w H' h) (e : h.get? b = some o) (c : o.cls ≠ .type "tuple") : H' b ≠ some (.tup xs) := fun z => by
  obtain ⟨_, _, _, o2, e2, c2, _⟩ := ok b _ z
  rw [e] at e2
  cases e2
  exact c c2
theorem free_of {H2 H' : Hp} {h : Heap} {b tt : Addr} {o : Obj} (ok : HOk X.prog X.w H' h) (n : H1 b = none) (cl : ∀ b u, H1 b = none → H2 b = some u → (∃ xs, u = .tup xs) ∨ b = tt) (fr : H' b = H2 b) (e : h.get? b = some o) (c : o.cls ≠ .type "tuple") (ne : b ≠ tt) : H' b = none := by
  cases q : H' b with
  | none => rfl
  | some u =>
    rcases cl b u n (fr.symm.trans q) with ⟨xs, rfl⟩ | z
    · exact absurd q (not_tup ok e c)
    · exact absurd z ne
theorem free_seq {H2 H' : Hp} {s : Shared} {σ' : L2.St} {b tt : Addr} {o : Obj} {xs : List V} (I : Inv X pins σ' H' s) (n : H1 b = none) (cl : ∀ b u, H1 b = none → H2 b = some u → (∃ xs, u = .tup xs) ∨ b = tt) (fr : H' b = H2 b) (ht : H' tt = some (.lst xs)) (e : s.heap.get? b = some o) (c : ∀ its n, o.data ≠ .seq its n) : H' b = none := by
  cases q : H' b with
  | none => rfl
  | some u =>
    rcases cl b u n (fr.symm.trans q) with ⟨xs, rfl⟩ | z
    · obtain ⟨_, _, _, o2, e2, _, nn, d2⟩ := I.hok b _ q
      rw [e] at e2
      cases e2
      exact absurd d2 (c _ _)
    · obtain ⟨_, _, ⟨o2, nn, e3, _, _, d3⟩, _⟩ := I.list (SqL.of ht)
      rw [← z, e] at e3
      cases e3
      exact absurd d3 (c _ _)
/-- up to the first item -/
theorem mid_first {it tt : Addr} {qs : List Addr} {s2 : Shared} (I1 : Inv X pins σ H1 s1) (hW : ∀ (ks : List (List Int)) (qs : List Addr) (tt : Addr) (H2 : Hp), Q ks → Same H1 H2 → Tups H2 qs ks → H2 tt = some (.lst (qs.map V.ref)) → ∃ W, Wd H1 H2 tt qs ix tb D W σ)
    (f : Frst X.prog X.w X.stack H1 s1 Q s2 it tt qs) (os : s2.os = s1.os) (ba : AllBare s2.gens) : MidY X pins σ D H1 ix tb s1.heap.objs.size 0 s2 tt qs := by
  obtain ⟨Hg, ks, u, ok, sm, n1, n2, ht, tp, hq⟩ := f
  obtain ⟨W, wd⟩ := hW ks qs tt (restH H1 Hg tt) hq rest_old ⟨tp.1, fun j p k e1 e2 => rest_tup sm (tp.2 j p k e1 e2)⟩ (rest_tt sm ht)
  exact ⟨⟨_, W, σ, _, wd, wd.z, I1.call' (ch := []) os (rest_un u sm) (rest_ok I1.hok ok sm ht) ba fun b z => by simp at z, rest_tt sm ht, fun b u n e => rest_new n e⟩⟩
/-- .. and later on -/
theorem mid_later {it tt tt' : Addr} {qs qs' : List Addr} {j : Nat} {s s2 : Shared} {m : Str → Option Value} (I1 : Inv X pins σ H1 s1) (md : MidY X pins σ D H1 ix tb s1.heap.objs.size j s tt qs) (ns : s.heap.Ns s1.heap.objs.size m) (tm : m ts = some (.ref tt))
    (k : ∀ b o, b ≠ s1.heap.objs.size → b ≠ it → s.heap.get? b = some o → s2.heap.get? b = some o) (itr : s.heap.IsListIter it tt' j) (tm' : ∀ m0, s.heap.Ns s1.heap.objs.size m0 → m0 ts = some (.ref tt')) (ge : s1.heap.objs.size ≤ it) (li : s2.heap.IsList tt' (refsA qs')) (os : s2.os = s.os) (ba : AllBare s2.gens) :
    tt' = tt ∧ qs' = qs ∧ MidY X pins σ D H1 ix tb s1.heap.objs.size j s2 tt qs := by
  have e1 : tt' = tt := by
    have := tm' m ns
    rw [tm] at this
    injection this with this
    injection this with this
    exact this.symm
  subst e1
  obtain ⟨H2, W, σ', H', wd, w, I, ht, cl⟩ := md.ex
  have frz := wd.fr j σ' H' w
  obtain ⟨oi, e2, c2, d2⟩ := id itr
  have ot : ∃ o, s.heap.get? tt' = some o ∧ o.cls = .type "list" := by
    obtain ⟨its, _, ⟨o, _, e, c, _⟩, _⟩ := I.list (SqL.of (frz.1.trans ht))
    exact ⟨o, e, c⟩
  obtain ⟨ol, el, cl2⟩ := ot
  have n1 : H1 s1.heap.objs.size = none := I1.hok.fresh (Nat.le_refl _)
  have n2 : H1 it = none := I1.hok.fresh ge
  obtain ⟨on, es, ep, en, dn, _⟩ := id ns
  have hL : H' s1.heap.objs.size = none := by
    cases q : H' s1.heap.objs.size with
    | none => rfl
    | some u =>
      rcases cl _ u n1 ((frz.2 _ n1).symm.trans q) with ⟨xs, rfl⟩ | z
      · obtain ⟨_, _, _, o2, e3, _, nn, d3⟩ := I.hok _ _ q
        rw [en] at e3
        cases e3
        rw [dn] at d3
        cases d3
      · obtain ⟨_, _, ⟨o2, nn, e3, _, _, d3⟩, _⟩ := I.list (SqL.of (frz.1.trans ht))
        rw [← z, en] at e3
        cases e3
        rw [dn] at d3
        cases d3
  have hi : H' it = none := free_of I.hok n2 cl (frz.2 it n2) e2 (by rw [c2]; decide) fun z => by
    rw [z, el] at e2
    cases e2
    rw [c2] at cl2
    exact absurd cl2 (by decide)
  have It := I.turnedL (t' := s2.toks) (h' := s2.heap) (ch := [s1.heap.objs.size, it]) (fun b o hb e => k b o (fun z => hb (by simp [z])) (fun z => hb (by simp [z])) e) fun b hb => by
    rcases List.mem_cons.mp hb with rfl | hb
    · exact I1.fpOk (Nat.le_refl _) hL
    · rw [List.mem_singleton.mp hb]
      exact I1.fpOk ge hi
  have I2 : Inv X pins σ' H' s2 := inv_re It rfl os ba
  have eq : qs' = qs := by
    obtain ⟨its, rv, ⟨o2, nn, e3, _, _, d3⟩, _⟩ := I2.list (SqL.of (frz.1.trans ht))
    rw [vals_qs rv] at d3
    obtain ⟨o3, e4, _, n4, d4⟩ := li
    rw [e3] at e4
    cases e4
    rw [d3] at d4
    injection d4 with d4
    have d5 : qs.map Value.ref = qs'.map Value.ref := by simpa using d4
    exact (refs_inj d5).symm
  exact ⟨rfl, eq, ⟨⟨H2, W, σ', H', wd, w, I2, ht, cl⟩⟩⟩
end
end
end My
/-! the rule of the loop -/
namespace My
open PySem PySem.Spec PyProof.Rows L2 GenW
section
variable {X : Cx} {pins : List (Addr × Obj)} {σ : L2.St} {D : Ends} {H1 : Hp} {s1 s2 : Shared} {Q : List (List Int) → Prop} {ix : Nat} {tb : TS} {ts : Str} {a : Addr} {g : Nat} {k : Nat} {f fn : Str} {sp : SpY}
abbrev RRX (X : Cx) (H1 : Hp) (s1 : Shared) (ts : Str) (Q : List (List Int) → Prop) : GenEnd := RR X.prog X.w X.stack H1 s1 ts Q
abbrev YYX (X : Cx) (H1 : Hp) (s1 : Shared) (a : Addr) (g : Nat) (ts : Str) (Q : List (List Int) → Prop) : Protocol := YY X.prog X.w X.stack H1 s1 a g ts Q
/-- ahead of each item -/
def HeadY (X : Cx) (pins : List (Addr × Obj)) (σ : L2.St) (D : Ends) (H1 : Hp) (s1 s2 : Shared) (Q : List (List Int) → Prop) (ix : Nat) (tb : TS) (ts : Str) (a : Addr) (g : Nat) (n : Nat) (s : Shared) : Prop :=
  1 ≤ n ∧ s.os = s1.os ∧ AllBare s.gens ∧ s.heap.IsGen a g ∧ s.heap.NoLimit ∧ (∃ gs, s.gens[g]? = some gs ∧ gs.Goes (model X.prog X.w) X.A.in1 (RRX X H1 s1 ts Q) (YYX X H1 s1 a g ts Q) n (.send .none) (s.setGen g .running)) ∧
  ((n = NN) ∨ ∃ (j : Nat) (tt : Addr) (m : Str → Option Value) (qs : List Addr), 0 < j ∧ n + j = NN ∧ MidY X pins σ D H1 ix tb s1.heap.objs.size j s tt qs ∧ s.heap.Ns s1.heap.objs.size m ∧ m ts = some (.ref tt))
theorem mid_any {it tt : Addr} {qs : List Addr} {j n : Nat} {s s₁ : Shared} (I1 : Inv X pins σ H1 s1) (hW : ∀ (ks : List (List Int)) (qs : List Addr) (tt : Addr) (H2 : Hp), Q ks → Same H1 H2 → Tups H2 qs ks → H2 tt = some (.lst (qs.map V.ref)) → ∃ W, Wd H1 H2 tt qs ix tb D W σ)
    (hd : HeadY X pins σ D H1 s1 s2 Q ix tb ts a g n s) (hn : n + j = NN) (se : Seen X.prog X.w X.stack H1 s1 ts Q j (s.setGen g .running) s₁ it tt qs) (li : s₁.heap.IsList tt (refsA qs)) (ge : s1.heap.objs.size ≤ it) (os : s₁.os = s1.os) (ba : AllBare s₁.gens) :
    MidY X pins σ D H1 ix tb s1.heap.objs.size j s₁ tt qs := by
  obtain ⟨_, o1, b1, ig, _, _, z⟩ := hd
  by_cases hj : j = 0
  · subst hj
    exact mid_first I1 hW (se.1 rfl) os ba
  · rcases z with z | ⟨j', tt', m, qs', j0, hn', md, ns, tm⟩
    · omega
    · have ej : j' = j := by omega
      subst ej
      obtain ⟨k1, k2, k3⟩ := se.2 j0
      obtain ⟨e1, e2, e3⟩ := mid_later I1 md ns tm k1 k2 k3 ge li (os.trans o1.symm) ba
      rw [e1, e2]
      exact e3
theorem ps_forY {e : Expr} {es : List Expr} {ta : TA} {fa : Addr} {fd : FuncData} {ps : List Str} {x : Str} {px p1 pos pos' : Pos} {st : Stmt} (hp : PassesOwn (model X.prog X.w) X.A X.env X.xe) (hc : X.calm = true) (F : GFnY X.prog X.w X.K X.mg X.base k fa fd ps sp) (hr : Room (k + 1) X.A) (hg : Gl X fn) (hm : X.mg fn = some (.ref fa)) (hk : PySem.W.keepIn X.K (.ref fa) = true) (hb : Binds X.K fd ps [])
    (ha : PA X (e :: es) ta) (hN : X.N.Nodup) (hix : X.N[ix]? = some x) (hx : X.env.scope.names.lookup x = some .local) (hB : PSg X st tb) (hdb : (fn == ("__debug__" : Str)) = false := by decide) (he : starEach (e :: es) X.env = (false, eval e X.env) :: starEach es X.env := by rfl) (hpl : (backTo pos' (starEach es X.env)).any (·.1) = false := by rfl)
    (hs : ∀ y, foldedSetIterable (.Call (.Name fn p1) (e :: es) [] pos') X.env y = pure y := by intro _; rfl) : PS X (.For (.Name x px) (.Call (.Name fn p1) (e :: es) [] pos') [st] [] pos) (tForY ix ta sp tb) := by
  refine ⟨fun pins s σ H D I h => wpAny_For ?_ hs⟩
  refine wpAny_Call_Name_kw (ld_glob I hg hm ?_ hdb)
  refine PySem.W.callWith_K (h₀ := X.base) I.ok.mod.kin hk (thn (ha.run pos' pins s σ H _ I h) fun us s1 ⟨vs, H1, I1, r, Q, hsp, hW⟩ => ⟨I1.kIn, ?_⟩) he hpl
  refine thn (run_gfy F (hr.mono (Nat.le_succ k)) hb I1 r hsp) fun u s2 ⟨a, g, c, ts, eu, la, sa, ig, hgs, os2, ba2, k2, wake⟩ => ?_
  subst eu
  refine wpAny_pyIter_gen ig ?_
  have base2 : ∀ {s' : Shared}, (∀ b o, s2.heap.get? b = some o → s'.heap.get? b = some o) → s'.heap.NoLimit := fun k => I1.nolimit.keeps fun b o e => k b o (k2 b o e)
  refine codeAny_forLoop_any (fun n s => HeadY X pins σ D H1 s1 s2 Q ix tb ts a g n s) (fun n s hd => ?_) NN ⟨by decide, os2, ba2, ig, I1.nolimit.keeps k2, ⟨_, hgs, rfl, wake X.A.in1 _ hr.in1 I1.ok.frames (fun _ _ e => e) os2 (allBare_setGen ba2 rfl)⟩, .inl rfl⟩
  obtain ⟨n1, os, ba, igs, hl, ⟨gs, hgs, go⟩, _⟩ := id hd
  refine wpAny_gsz (n := g + 1) (Array.getElem?_eq_some_iff.mp hgs).1 ?_
  refine next_genG (Er := fun _ _ => False) (I1.ok.hd hc) hl hr.depth igs hgs go (fun v s₁ gs' hb' hy => ?_) (fun s₁ fin h' k' => ?_) (fun _ _ z => z.elim)
  · intro hsz
    rw [setGen_size] at hsz
    obtain ⟨j, it, tt, p, m, qs, hn, ev, hq, hql, sl, o1, b1, ig1, se, hwk⟩ := hy
    subst ev
    obtain ⟨n, rfl⟩ : ∃ z, n = z + 1 := ⟨n - 1, by omega⟩
    have hn : n + (j + 1) = NN := hn
    have md := mid_any I1 hW hd (j := j) (by omega) se sl.li sl.ge o1 b1
    obtain ⟨H2, W, σ', H', wd, w, I, ht, cl⟩ := md.ex
    have I' : Inv X pins σ' H' (s₁.setGen g gs') := inv_re I rfl rfl (allBare_setGen b1 hb')
    obtain ⟨og, nm, qn, eg, cg, dg, sg⟩ := id ig1
    obtain ⟨oi, ei, ci, di⟩ := sl.itr
    obtain ⟨on, es, ep, en, dn, _⟩ := id sl.ns
    have hjl : j < qs.length := (List.getElem?_eq_some_iff.mp hq).1
    have fr := wd.fr j σ' H' w
    have own : ∀ b ∈ [s1.heap.objs.size, it, a], FpOk X pins H' b ∧ ∃ o, (s₁.setGen g gs').heap.get? b = some o ∧ ∀ v, o.data ≠ .cell v := fun b hb => by
      have key : ∀ {o : Obj}, s1.heap.objs.size ≤ b → s₁.heap.get? b = some o → (∀ its n, o.data ≠ .seq its n) → FpOk X pins H' b := fun {o} ge e c => I1.fpOk ge (free_seq I (I1.hok.fresh ge) cl (fr.2 b (I1.hok.fresh ge)) (fr.1.trans ht) e c)
      rcases List.mem_cons.mp hb with rfl | hb
      · exact ⟨key (Nat.le_refl _) en (fun _ _ z => by rw [dn] at z; cases z), on, en, fun _ z => by rw [dn] at z; cases z⟩
      · rcases List.mem_cons.mp hb with rfl | hb
        · exact ⟨key sl.ge ei (fun _ _ z => by rw [di] at z; cases z), oi, ei, fun _ z => by rw [di] at z; cases z⟩
        · rw [List.mem_singleton.mp hb] at key ⊢
          exact ⟨key (Nat.le_of_lt la) eg (fun _ _ z => by rw [dg] at z; cases z), og, eg, fun _ z => by rw [dg] at z; cases z⟩
    have Ip := I'.pinned (fp := [s1.heap.objs.size, it, a]) (fun b hb => (own b hb).1) (fun b hb => (own b hb).2)
    refine go_of (s := s₁.setGen g gs') eg cg dg (by decide) ?_
    refine wpAny_assign_Name (store_g Ip hN hix hx (show RelV (.ref p) (.ref p) from rfl) fun s3 I3 g3 => ?_)
    refine wpAny_execs_cons (wpAny_mono (hB.run _ s3 _ H' { D with nx := W (j + 1) } I3 (wd.st j p σ' H' hq w) _) (fun fl s4 ⟨ef, g4, σ4, H4, I4, w4⟩ => ?_) fun _ _ z => z)
    subst ef
    refine wpAny_execs_nil ?_
    have w4 : W (j + 1) σ4 H4 := w4
    have pin : ∀ b ∈ [s1.heap.objs.size, it, a], ∀ o, s₁.heap.get? b = some o → s4.heap.get? b = some o := fun b hb o e => (I4.pin (b, o) (List.mem_append_right _ (List.mem_append_right _ (mem_pinsAt hb e)))).1
    have pn := pin s1.heap.objs.size (by simp)
    have pi := pin it (by simp)
    have pa := pin a (by simp)
    have sl4 : Slp s1.heap.objs.size ts s4.heap it tt m qs (j + 1) := ⟨sl.ns.at pn, sl.tm, by
      obtain ⟨its, rv, ⟨o2, nn, e3, c3, _, d3⟩, _⟩ := I4.list (SqL.of (((wd.fr _ _ _ w4).1).trans ht))
      rw [vals_qs rv] at d3
      exact ⟨o2, e3, c3, nn, d3⟩, ⟨oi, pi oi ei, ci, di⟩, sl.ge⟩
    have os4 : s4.os = s1.os := I4.os.trans I1.os.symm
    have ig4 : s4.heap.IsGen a g := isGen_at ig1 pa
    refine ⟨n, Nat.lt_succ_self n, by omega, os4, I4.bare, ig4, I4.nolimit, ⟨gs', by rw [g4, g3]; exact setGen_at hsz, hwk (s4.setGen g .running) os4 (allBare_setGen I4.bare rfl) sl4 ig4⟩, .inr ⟨j + 1, tt, m, qs, Nat.succ_pos j, hn, ⟨⟨H2, W, σ4, H4, wd, w4, I4.unpinned, ht, cl⟩⟩, sl4.ns, sl4.tm⟩⟩
  · intro _
    obtain ⟨it, tt, qs, hn, ge, li, se, o1, b1⟩ := fin
    have md := mid_any I1 hW hd hn se li ge o1 b1
    obtain ⟨H2, W, σ', H', wd, w, I, ht, cl⟩ := md.ex
    refine wpAny_execs_nil ?_
    exact ⟨σ', H', (inv_re I (s' := s₁.setGen g .finished) rfl rfl (allBare_setGen b1 rfl)).kept (t' := (s₁.setGen g .finished).toks) k', wd.en σ' H' w⟩
end
end My
/-! S.add(x), the generators as they are -/
namespace My
open PySem PySem.Spec PyProof.Rows L2 GenW
section
variable {X : Cx} {pins : List (Addr × Obj)} {σ : L2.St} {H : Hp} {s : Shared}
theorem var_g {i : Nat} {x : Str} {pos : Pos} {v : V} {Q : Value → Shared → Prop} {E : Value → Shared → Prop} (I : Inv X pins σ H s) (hN : X.N[i]? = some x) (hv : Vis X.env.scope x) (e : σ[i]? = some (some v)) (hd : (x == ("__debug__" : Str)) = false) (hcd : (x == ("__classdict__" : Str)) = false) (h : ∀ u, RelV v u → Q u s) : wpAny (model X.prog X.w) X.A (eval (.Name x pos) X.env) Q E s := by
  obtain ⟨m, hn, hl⟩ := I.loc
  obtain ⟨u, r, l⟩ := hl i x v hN e hv
  rcases l with ⟨k, hm⟩ | ⟨k | k, c, hc, z⟩
  · exact wpAny_Name (wpAny_loadName_local I.ok.kind k hn hm (h u r)) hd
  · exact wpAny_Name (wpAny_loadName_cell I.ok.kind k hc z (h u r)) hd
  · exact wpAny_Name (wpAny_loadName_free I.ok.kind k hc z (h u r) hcd) hd
def tSetAdd (K : PySem.W.Frag) (P : Program) (w : World) (iS ix : Nat) : TS := fun D σ H => ∃ (b a : Addr) (L : List (Addr × List Int)) (k : List Int), σ[ix]? = some (some (.ref b)) ∧ σ[iS]? = some (some (.ref a)) ∧ H a = some (SetTO P w a L) ∧ (∀ p ∈ L, SqT K H p.1 (p.2.map V.int)) ∧ SqT K H b (k.map V.int) ∧ L.length + 1 < 64 ∧
  ∀ L', (k ∈ L.map (·.2) → L' = L) → (k ∉ L.map (·.2) → L'.Perm ((b, k) :: L)) → D.nx σ (upd H a (SetTO P w a L'))
theorem psg_add {iS ix : Nat} {S x : Str} {p1 p2 apos cpos pos : Pos} (hu : X.A.units + 64 < cLine) (hS : X.N[iS]? = some S) (hx : X.N[ix]? = some x) (lS : Vis X.env.scope S) (lx : Vis X.env.scope x) (dS : (S == ("__debug__" : Str)) = false ∧ (S == ("__classdict__" : Str)) = false) (dx : (x == ("__debug__" : Str)) = false ∧ (x == ("__classdict__" : Str)) = false)
    (m : M1 X (.Name S p1) "add" apos (.Name x p2) cpos) (hs : swapsWith (.Call (.Attribute (.Name S p1) "add" apos) [.Name x p2] [] cpos) none pos.line X.env = pure false := by rfl) : PSg X (.Expr (.Call (.Attribute (.Name S p1) "add" apos) [.Name x p2] [] cpos) pos) (tSetAdd X.K X.prog X.w iS ix) := by
  refine ⟨fun pins s σ H D I ⟨b, a, L, k, e1, e2, ha, hk, hb, few, q⟩ E => wpAny_Expr_any ?_ I.quiet hs⟩
  refine wpAny_Call_method m.base m.few m.line PySem.F.plainAttrs_set PySem.F.slot_set_add PySem.F.type_set_add (var_g I hS lS e2 dS.1 dS.2 fun u r => ?_)
  obtain rfl : u = Value.ref a := r
  obtain ⟨es, ep, t, R⟩ := setT_at I ha hk
  refine ⟨SetTR.ty R, fun c z => ?_, ?_⟩
  · cases z
    obtain ⟨o, ho, hex, _⟩ := R.ob
    exact ⟨o, ho, hex.2.1⟩
  rw [m.trees]
  refine Calls.callWith_builtin rfl (Calls.evalArgs_plain (Calls.spliced_cons (var_g I hx lx e1 dx.1 dx.2 fun u r => Calls.spliced_nil ?_)))
  obtain rfl : u = Value.ref b := r
  refine addT R (I.isT hb) hu few fun h' L' es' ep' t' sb R3 c1 c2 => ?_
  refine ⟨rfl, rfl, σ, _, I.write (e := a) (t' := s.toks + (k.length + 1)) (by rw [ha]; trivial) (.inl rfl) (fun c u hc hu => (sb.2 c hc).trans hu) ?_ (setTO_new R3.t0), q L' c1 c2⟩
  obtain ⟨o, ho, _⟩ := R3.ob
  exact ⟨o, ho⟩
end
end My
namespace My
open PySem PySem.Spec PyProof.Rows L2
def top (i : Nat) : Stmt := PySem.Challenge.pw_mirrorturns_k05_the_same_port_again.main.body.getD i (.Pass ⟨0, 0, 0, 0⟩)
end My
namespace My
open PySem PySem.Spec PyProof.Rows L2
/-- the module's constants, and the built-ins, that no name of the module hides -/
structure Txt (mg : Str → Option Value) : Prop where
  v_SIGNS : ∃ t, mg "SIGNS" = some (.str ".rfRF" t)
  v_TURNING : ∃ t, mg "TURNING" = some (.str "rf" t)
  v_RISING : ∃ t, mg "RISING" = some (.str "rR" t)
  v_FALLING : ∃ t, mg "FALLING" = some (.str "fF" t)
  b_len : mg "len" = none
  b_range : mg "range" = none
  b_abs : mg "abs" = none
  b_enumerate : mg "enumerate" = none
  b_isinstance : mg "isinstance" = none
  b_all : mg "all" = none
  b_tuple : mg "tuple" = none
  b_list : mg "list" = none
  b_min : mg "min" = none
  b_bool : mg "bool" = none
  b_int : mg "int" = none
  b_str : mg "str" = none
  b_sum : mg "sum" = none
  b_divmod : mg "divmod" = none
  b_sorted : mg "sorted" = none
  b_set : mg "set" = none
end My
namespace My
open PySem PySem.Spec PyProof.Rows L2
def gs : List GetD := [
  ⟨fun K => He.ga K "_law_below", "_law_below", "_law_below", (top 41)⟩,
  ⟨fun K => He.ga K "fault_in_row", "fault_in_row", "fault_in_row", (top 27)⟩,
  ⟨fun K => He.ga K "tiles_with", "tiles_with", "tiles_with", (top 21)⟩,
  ⟨fun K => He.ga K "check_rows", "check_rows", "check_rows", (top 28)⟩,
  ⟨fun K => He.ga K "port_places", "port_places", "port_places", (top 23)⟩,
  ⟨fun K => He.ma K (He.ga K "Room") "__init__", "__init__", "Room.__init__", (inClass (top 29) 2)⟩,
  ⟨fun K => cmA K "Room" "parse", "parse", "Room.parse", (inClass (top 29) 3)⟩,
  ⟨fun K => He.ga K "_law_room", "_law_room", "_law_room", (top 43)⟩,
  ⟨fun K => He.ga K "_law_edges", "_law_edges", "_law_edges", (top 44)⟩,
  ⟨fun K => He.ga K "_law_beam", "_law_beam", "_law_beam", (top 45)⟩,
  ⟨fun K => He.ga K "_law_course", "_law_course", "_law_course", (top 46)⟩,
  ⟨fun K => He.ga K "_law_number", "_law_number", "_law_number", (top 48)⟩,
  ⟨fun K => He.ga K "_law_index", "_law_index", "_law_index", (top 49)⟩,
  ⟨fun K => He.ga K "_law_equal", "_law_equal", "_law_equal", (top 47)⟩,
  ⟨fun K => He.ga K "_law_spots", "_law_spots", "_law_spots", (top 50)⟩,
  ⟨fun K => getA K "Room" "rows", "rows", "Room.rows", (inClass (top 29) 4)⟩,
  ⟨fun K => He.ma K (He.ga K "Room") "__eq__", "__eq__", "Room.__eq__", (inClass (top 29) 13)⟩,
  ⟨fun K => He.ga K "is_number", "is_number", "is_number", (top 9)⟩,
  ⟨fun K => He.ma K (He.ga K "Room") "__len__", "__len__", "Room.__len__", (inClass (top 29) 9)⟩,
  ⟨fun K => He.ga K "check_port", "check_port", "check_port", (top 10)⟩,
  ⟨fun K => getA K "Room" "text", "text", "Room.text", (inClass (top 29) 5)⟩,
  ⟨fun K => He.ga K "step_inward", "step_inward", "step_inward", (top 24)⟩,
  ⟨fun K => He.ga K "thrown", "thrown", "thrown", (top 19)⟩,
  ⟨fun K => He.ga K "turned", "turned", "turned", (top 20)⟩,
  ⟨fun K => He.ga K "run_beam", "run_beam", "run_beam", (top 25)⟩,
  ⟨fun K => He.ma K (He.ga K "Room") "__call__", "__call__", "Room.__call__", (inClass (top 29) 8)⟩,
  ⟨fun K => He.ga K "follow", "follow", "follow", (top 32)⟩,
  ⟨fun K => He.ga K "find_cycle", "find_cycle", "find_cycle", (top 36)⟩,
  ⟨fun K => He.ga K "check_beams", "check_beams", "check_beams", (top 12)⟩,
  ⟨fun K => He.ga K "room_after", "room_after", "room_after", (top 33)⟩,
  ⟨fun K => He.ga K "after_beams", "after_beams", "after_beams", (top 35)⟩,
  ⟨fun K => He.ga K "nth_exit", "nth_exit", "nth_exit", (top 34)⟩,
  ⟨fun K => getA K "Room" "size", "size", "Room.size", (inClass (top 29) 6)⟩,
  ⟨fun K => He.ga K "check_tile", "check_tile", "check_tile", (top 11)⟩,
  ⟨fun K => He.ga K "path", "path", "path", (top 30)⟩,
  ⟨fun K => He.ga K "count_passes", "count_passes", "count_passes", (top 37)⟩,
  ⟨fun K => He.ga K "never_passed", "never_passed", "never_passed", (top 38)⟩,
  ⟨fun K => He.ga K "_law_random", "_law_random", "_law_random", (top 40)⟩,
  ⟨fun K => He.ga K "_law_lines", "_law_lines", "_law_lines", (top 42)⟩,
  ⟨fun K => He.ga K "law", "law", "law", (top 51)⟩]
def fas : List He.Fa := [.str "SIGNS" ".rfRF", .str "TURNING" "rf", .str "RISING" "rR", .str "FALLING" "fF", .free "len", .free "range", .free "abs", .free "enumerate", .free "isinstance", .free "all", .free "tuple", .free "list", .free "min", .free "bool", .free "int", .free "str", .free "sum", .free "divmod", .free "sorted", .free "set", .glo "Room", .cls "Room", .noat "Room" "_rows", .noat "Room" "_places", .mkr "Room", .glo "_law_below", .glo "fault_in_row", .glo "tiles_with", .glo "check_rows", .glo "port_places", .glo "_law_room", .glo "_law_edges", .glo "_law_beam", .glo "_law_course", .glo "_law_number", .glo "_law_index", .glo "_law_equal", .glo "_law_spots", .meth "Room" "__eq__", .exc "UnknownPort", .glo "UnknownPort", .glo "is_number", .meth "Room" "__len__", .glo "check_port", .meth "Room" "__call__", .glo "step_inward", .glo "thrown", .glo "turned", .glo "run_beam", .glo "follow", .glo "find_cycle", .exc "InvalidNumber", .glo "InvalidNumber", .glo "check_beams", .int "MAX_BEAMS" 1000000000000000000, .glo "room_after", .glo "after_beams", .glo "nth_exit", .exc "UnknownTile", .glo "UnknownTile", .glo "check_tile", .glo "count_passes", .glo "path", .glo "never_passed", .str "MIRRORS" "rfRF", .glo "_law_random", .glo "_law_lines", .glo "law"]
def eNames : List Str := ["InvalidRoom", "UnknownPort", "UnknownTile", "InvalidNumber", "OtherRoom", "TooMany", "Contradiction", "NotTurning", "InvalidName", "UnknownName", "InvalidOperation", "Bench", "Observer", "Beams"]
def eA (K : PySem.W.Frag) (i : Nat) : Addr := He.ga K (eNames.getD i "")
def roomB (K : PySem.W.Frag) : Bool := creadB K "Room" && (cintB K "Room" "MAX_SIZE" 8 && (cintB K "Room" "MAX_TURNING" 10 && (cmB K "Room" "parse" && (propB K "Room" "rows" && (oo (PySem.W.findIn K (.ref (He.ga K "Room")) "__class__") (some (some (.builtin "object.__class__"))) && (oo (PySem.W.specialIn K (.builtin "object.__class__") "__get__") (some (some (.builtin "getset_descriptor.__get__"))) && (ob (PySem.W.takesIn K (.builtin "object.__class__")) (some true) && (ob (PySem.W.mroIn K (He.ga K "Room") (.type "object")) (some true) && (ob (PySem.W.kitOne K (.ref (He.ga K "Room")) (.ref (He.ga K "Room"))) (some true) && (ob (PySem.W.kitOne K (.type "list") (.ref (He.ga K "Room"))) (some false) && (propB K "Room" "text" && (PySem.W.fnIn K (He.ma K (He.ga K "Room") "__call__") && (propB K "Room" "size" && (neB K "Room"))))))))))))))
def exB (K : PySem.W.Frag) : Bool := (fas.all fun f => f.ok K) && ((gs.all fun d => d.ok K) && (roomB K && true))
def asL : List Addr := [3, 2, 6, 4, 21, 31, 53, 65, 77, 89, 98, 105, 112, 119, 126, 133, 138, 143, 150, 155, 162, 169, 275, 286, 293, 300, 307, 314, 321, 326, 331, 336, 343, 350, 357, 362, 367, 374, 379, 386, 393, 398, 403, 0, 20, 30, 52, 64, 76, 88, 97, 104, 111, 118, 125, 132, 137, 142, 149, 154, 161, 168, 274, 285, 292, 299, 306, 313, 320, 325, 330, 335, 342, 349, 356, 361, 366, 373, 378, 385, 392, 397, 402, 15, 16, 17, 18, 19, 29, 32, 50, 51, 63, 75, 87, 92, 93, 94, 95, 96, 99, 100, 101, 102, 103, 106, 107, 108, 109, 110, 113, 114, 115, 116, 117, 120, 121, 122, 123, 124, 127, 128, 129, 130, 131, 134, 135, 136, 139, 140, 141, 144, 145, 146, 147, 148, 151, 152, 153, 156, 157, 158, 159, 160, 163, 164, 165, 166, 167, 183, 192, 201, 209, 217, 225, 232, 239, 246, 253, 260, 267, 272, 273, 276, 277, 280, 281, 282, 283, 284, 287, 288, 289, 290, 291, 294, 295, 296, 297, 298, 301, 302, 303, 304, 305, 308, 309, 310, 311, 312, 315, 316, 317, 318, 319, 322, 323, 324, 327, 328, 329, 332, 333, 334, 337, 338, 339, 340, 341, 344, 345, 346, 347, 348, 351, 352, 353, 354, 355, 358, 359, 360, 363, 364, 365, 368, 369, 370, 371, 372, 375, 376, 377, 380, 381, 382, 383, 384, 387, 388, 389, 390, 391, 394, 395, 396, 399, 400, 401, 49, 38, 182, 190, 191, 200, 208, 216, 224, 231, 238, 245, 252, 259, 266, 271, 44, 45, 46, 47, 48, 177, 178, 179, 180, 181, 189, 193, 199, 207, 215, 223, 226, 227, 228, 229, 230, 233, 234, 235, 236, 237, 240, 241, 242, 243, 244, 247, 248, 249, 250, 251, 254, 255, 256, 257, 258, 261, 262, 263, 264, 265, 268, 269, 270, 184, 185, 186, 187, 188, 194, 195, 196, 197, 198, 202, 203, 204, 205, 206, 210, 211, 212, 213, 214, 218, 219, 220, 221, 222]
abbrev Rw : PySem.W.OpenRow := PySem.W.OpenLaw.row PySem.Challenge.rw_mirrorturns_k05_the_same_port_again
def hk : PySem.W.Hook := hookY asL gs [("law", none)] exB
def names0 : List Str := ["_wall", "MirrorError", "InvalidRoom", "UnknownPort", "UnknownTile", "InvalidNumber", "MAX_BEAMS", "is_number", "check_port", "check_tile", "check_beams", "SIGNS", "MIRRORS", "TURNING", "RISING", "FALLING", "thrown", "turned", "tiles_with", "port_places"]
def names1 : List Str := ["step_inward", "run_beam", "fault_in_row", "check_rows", "Room", "path", "follow", "room_after", "nth_exit", "after_beams", "find_cycle", "count_passes", "never_passed", "_law_random", "_law_below", "_law_lines", "_law_room", "_law_edges", "_law_beam", "_law_course"]
def names2 : List Str := ["_law_equal", "_law_number", "_law_index", "_law_spots"]
theorem topRun (w : World) : HandSHeadRun.RunEq Rw (PySem.W.view Rw.prog [51]) hk (obY asL gs [("law", none)] exB) 8000 (My.names0 ++ My.names1 ++ My.names2) w := by
  intro os
  kernel_rfl
end My
/-! data, whole: what the law's names hold, whatever heap bears it -/
namespace My
open PySem PySem.Spec PyProof.Rows L2
inductive Da where
  | non
  | bl (b : Bool)
  | int (i : Int)
  | str (z : Str)
  | tup (l : List Da)
  | lst (l : List Da)
  | room (g : Gr)
  | lam (D : LamD)
  | dct (ks : List Key) (vs : List Da)
/-- d at v, in the part F of the heap that never changes -/
inductive At (C : Addr) (F : Hp) : V → Da → Prop where
  | non : At C F .non .non
  | bl (b : Bool) : At C F (.bl b) (.bl b)
  | int (i : Int) : At C F (.int i) (.int i)
  | str (z : Str) : At C F (.str z) (.str z)
  | tup {a : Addr} {xs : List V} {ds : List Da} (h : F a = some (.tup xs)) (hl : xs.length = ds.length) (p : ∀ (i : Nat) (x : V) (d : Da), xs[i]? = some x → ds[i]? = some d → At C F x d) : At C F (.ref a) (.tup ds)
  | lst {a : Addr} {xs : List V} {ds : List Da} (h : F a = some (.lst xs)) (hl : xs.length = ds.length) (p : ∀ (i : Nat) (x : V) (d : Da), xs[i]? = some x → ds[i]? = some d → At C F x d) : At C F (.ref a) (.lst ds)
  | room {x w : Nat} {g : Gr} (h : RoomAt C F x g) (G : Grid 8 10 g w) : At C F (.ref x) (.room g)
  | lam {f : Addr} {D : LamD} (h : F f = some (LamO f D)) (hc : F D.co = some (LamX.CodeO D.co D.q)) (hd : ∀ T, D.dt = .ref T → ∃ v, F T = some (.tup [v])) : At C F (.ref f) (.lam D)
  | dct {a : Addr} {o : Obj} {kvs : List (Key × V)} {ks : List Key} {ds : List Da} (h : F a = some (.frz o (.dK kvs))) (hk : kvs.map (·.1) = ks) (hl : kvs.length = ds.length) (p : ∀ (i : Nat) (x : V) (d : Da), (kvs.map (·.2))[i]? = some x → ds[i]? = some d → At C F x d) : At C F (.ref a) (.dct ks ds)
theorem At.same {C : Addr} {F F' : Hp} (s : Same F F') {v : V} {d : Da} (x : At C F v d) : At C F' v d := by
  induction x with
  | non => exact .non
  | bl b => exact .bl b
  | int i => exact .int i
  | str z => exact .str z
  | tup h hl p ih => exact .tup (s _ _ h) hl ih
  | lst h hl p ih => exact .lst (s _ _ h) hl ih
  | room h G => exact .room (h.same s) G
  | lam h hc hd => exact .lam (s _ _ h) (s _ _ hc) fun T e => let ⟨v, k⟩ := hd T e; ⟨v, s _ _ k⟩
  | dct h hk hl p ih => exact .dct (s _ _ h) hk hl ih
/-- a list of values, a list of data -/
structure Ats (C : Addr) (F : Hp) (xs : List V) (ds : List Da) : Prop where
  len : xs.length = ds.length
  at_ : ∀ (i : Nat) (x : V) (d : Da), xs[i]? = some x → ds[i]? = some d → At C F x d
section
variable {C : Addr} {F F' : Hp} {v : V} {d : Da} {xs ys : List V} {ds es : List Da} {a : Addr}
theorem Ats.same (s : Same F F') (x : Ats C F xs ds) : Ats C F' xs ds := ⟨x.len, fun i y d h1 h2 => (x.at_ i y d h1 h2).same s⟩
theorem Ats.nil : Ats C F [] [] := ⟨rfl, fun i x d h _ => by simp at h⟩
theorem Ats.cons (h : At C F v d) (t : Ats C F xs ds) : Ats C F (v :: xs) (d :: ds) := by
  refine ⟨by rw [List.length_cons, List.length_cons, t.len], fun i x e h1 h2 => ?_⟩
  cases i with
  | zero =>
    cases h1
    cases h2
    exact h
  | succ i => exact t.at_ i x e (by simpa using h1) (by simpa using h2)
theorem Ats.hd (h : Ats C F (v :: xs) (d :: ds)) : At C F v d := h.at_ 0 v d rfl rfl
theorem Ats.tl (h : Ats C F (v :: xs) (d :: ds)) : Ats C F xs ds := ⟨by simpa using h.len, fun i x e h1 h2 => h.at_ (i + 1) x e (by simpa using h1) (by simpa using h2)⟩
theorem Ats.get (h : Ats C F xs ds) {i : Nat} (e : ds[i]? = some d) : ∃ x, xs[i]? = some x ∧ At C F x d := by
  have hi := (List.getElem?_eq_some_iff.mp e).1
  have hx : xs[i]? = some (xs[i]'(by rw [h.len]; exact hi)) := List.getElem?_eq_getElem _
  exact ⟨_, hx, h.at_ i _ _ hx e⟩
theorem Ats.app (h : Ats C F xs ds) (k : Ats C F ys es) : Ats C F (xs ++ ys) (ds ++ es) := by
  refine ⟨by rw [List.length_append, List.length_append, h.len, k.len], fun i x e h1 h2 => ?_⟩
  by_cases hi : i < xs.length
  · rw [List.getElem?_append_left hi] at h1
    rw [List.getElem?_append_left (by rw [← h.len]; exact hi)] at h2
    exact h.at_ i x e h1 h2
  · rw [List.getElem?_append_right (by omega)] at h1
    rw [List.getElem?_append_right (by rw [← h.len]; omega)] at h2
    rw [h.len] at h1
    exact k.at_ _ x e h1 h2
theorem Ats.snoc (h : Ats C F xs ds) (k : At C F v d) : Ats C F (xs ++ [v]) (ds ++ [d]) := h.app (.cons k .nil)
theorem Ats.rev (h : Ats C F xs ds) : Ats C F xs.reverse ds.reverse := by
  refine ⟨by rw [List.length_reverse, List.length_reverse, h.len], fun i x e h1 h2 => ?_⟩
  have hi : i < xs.length := by
    have := (List.getElem?_eq_some_iff.mp h1).1
    simpa using this
  rw [List.getElem?_reverse hi] at h1
  rw [List.getElem?_reverse (by rw [← h.len]; exact hi), ← h.len] at h2
  exact h.at_ _ x e h1 h2
theorem Ats.drop (h : Ats C F xs ds) (n : Nat) : Ats C F (xs.drop n) (ds.drop n) := by
  refine ⟨by rw [List.length_drop, List.length_drop, h.len], fun i x e h1 h2 => ?_⟩
  rw [List.getElem?_drop] at h1 h2
  exact h.at_ _ x e h1 h2
theorem Ats.take (h : Ats C F xs ds) (n : Nat) : Ats C F (xs.take n) (ds.take n) := by
  refine ⟨by rw [List.length_take, List.length_take, h.len], fun i x e h1 h2 => ?_⟩
  rw [List.getElem?_take] at h1 h2
  split at h1
  · rename_i hlt
    rw [if_pos hlt] at h2
    exact h.at_ _ x e h1 h2
  · cases h1
theorem At.tup' (h : F a = some (.tup xs)) (p : Ats C F xs ds) : At C F (.ref a) (.tup ds) := .tup h p.len p.at_
theorem At.lst' (h : F a = some (.lst xs)) (p : Ats C F xs ds) : At C F (.ref a) (.lst ds) := .lst h p.len p.at_
theorem At.tupI (h : At C F v (.tup ds)) : ∃ a xs, v = .ref a ∧ F a = some (.tup xs) ∧ Ats C F xs ds := by
  cases h with
  | tup h hl p => exact ⟨_, _, rfl, h, hl, p⟩
theorem At.lstI (h : At C F v (.lst ds)) : ∃ a xs, v = .ref a ∧ F a = some (.lst xs) ∧ Ats C F xs ds := by
  cases h with
  | lst h hl p => exact ⟨_, _, rfl, h, hl, p⟩
theorem At.roomI {g : Gr} (h : At C F v (.room g)) : ∃ x w, v = .ref x ∧ RoomAt C F x g ∧ Grid 8 10 g w := by
  cases h with
  | room h G => exact ⟨_, _, rfl, h, G⟩
theorem At.intI {i : Int} (h : At C F v (.int i)) : v = .int i := by cases h; rfl
theorem At.blI {b : Bool} (h : At C F v (.bl b)) : v = .bl b := by cases h; rfl
theorem At.strI {z : Str} (h : At C F v (.str z)) : v = .str z := by cases h; rfl
theorem At.nonI (h : At C F v .non) : v = .non := by cases h; rfl
end
/-- there, and no tuple -/
def Mt (o : Option HO) : Prop := o ≠ none ∧ ∀ xs, o ≠ some (.tup xs)
theorem Mt.lst {xs : List V} : Mt (some (.lst xs)) := ⟨(fun z => by cases z), (fun _ z => by cases z)⟩
/-- things that change: what stands, of the frozen part, the heap, the root, its own objects -/
structure MO where
  p : Addr → Hp → Hp → Addr → List Addr → Prop
  st : ∀ {C : Addr} {F F' H H' : Hp} {a : Addr} {S : List Addr}, p C F H a S → Same F F' → (∀ b ∈ S, ∀ o, H b = some o → H' b = some o) → p C F' H' a S
  lv : ∀ {C : Addr} {F H : Hp} {a : Addr} {S : List Addr}, p C F H a S → ∀ b ∈ S, Mt (H b)
  pn : Option Addr := none
  pk : ∀ {C : Addr} {F H : Hp} {a : Addr} {S : List Addr}, p C F H a S → ∀ x, pn = some x → a = x := by intros; contradiction
/-- a list of the law's own -/
def ML (l : List Da) : MO where
  p := fun C F H a S => S = [a] ∧ ∃ xs, H a = some (.lst xs) ∧ Ats C F xs l
  st := fun ⟨e, xs, h, k⟩ s t => ⟨e, xs, t _ (by rw [e]; exact List.mem_singleton.mpr rfl) _ h, k.same s⟩
  lv := fun ⟨e, xs, h, k⟩ b hb => by
    rw [e] at hb
    rw [List.mem_singleton.mp hb, h]
    exact .lst
/-- the source of numbers -/
def MSo (o : Option Addr) : MO where
  p := fun C F H a S => S = [a] ∧ DOk H a ∧ ∀ x, o = some x → a = x
  st := fun {C F F' H H' a S} ⟨e, k, q⟩ s t => ⟨e, let ⟨y, c, r, h, q⟩ := k; ⟨y, c, r, t a (by rw [e]; exact List.mem_singleton.mpr rfl) _ h, q⟩, q⟩
  lv := fun ⟨e, k, _⟩ b hb => by
    rw [e] at hb
    obtain ⟨y, c, r, h, q⟩ := k
    rw [List.mem_singleton.mp hb, h]
    exact .lst
  pn := o
  pk := fun h => h.2.2
abbrev MS : MO := MSo none
/-- what a name holds -/
inductive Sl where
  | un
  | d (x : Da)
  | mo (m : MO)
abbrev Ct := List Sl
/-- what an expression gives: data, a new thing, one that a name holds -/
inductive Rs where
  | d (x : Da)
  | mo (m : MO)
  | al (i : Nat)
  | pr (m : MO) (x : Da)
structure Org where
  F0 : Hp
  H0 : Hp
  T : Nat → Addr → Prop
structure Rel (B : Org) (F H : Hp) : Prop where
  fr : Same B.F0 F
  kp : ∀ b o, (∀ i, ¬ B.T i b) → B.H0 b = some o → H b = some o
  al : ∀ b, B.H0 b ≠ none → H b ≠ none
  mu : ∀ b, B.F0 b = none → Mt (B.H0 b) → F b = none
  mt : ∀ b, Mt (B.H0 b) → Mt (H b)
def SlOk (C : Addr) (F H : Hp) (ov : Option (Option V)) (s : Sl) (S : List Addr) : Prop :=
  match s with
  | .un => S = []
  | .d x => S = [] ∧ ∃ v, ov = some (some v) ∧ At C F v x
  | .mo m => ∃ a, ov = some (some (.ref a)) ∧ m.p C F H a S
abbrev Fp := Nat → List Addr
structure Env (B : Org) (C : Addr) (Γ : Ct) (S : Fp) (σ : L2.St) (F H : Hp) : Prop where
  sub : Same F H
  len : σ.length = Γ.length
  sl : ∀ i s, Γ[i]? = some s → SlOk C F H σ[i]? s (S i)
  out : ∀ i, Γ[i]? = none → S i = []
  fz : ∀ i b, b ∈ S i → F b = none
  own : ∀ i b, b ∈ S i → B.T i b ∨ B.H0 b = none
  dis : ∀ i j b, b ∈ S i → b ∈ S j → i = j
  rel : Rel B F H
theorem Env.lv {B : Org} {C : Addr} {Γ : Ct} {S : Fp} {σ : L2.St} {F H : Hp} (e : Env B C Γ S σ F H) {i : Nat} {b : Addr} (hb : b ∈ S i) : Mt (H b) := by
  cases h : Γ[i]? with
  | none => rw [e.out i h] at hb; cases hb
  | some s =>
    have k := e.sl i s h
    cases s with
    | un => rw [k] at hb; cases hb
    | d x => rw [k.1] at hb; cases hb
    | mo m =>
      obtain ⟨a, _, k⟩ := k
      exact m.lv k b hb
/-- how the heap may move while an expression is reckoned -/
structure Mv (S : Fp) (F H : Hp) (S' : Fp) (F' H' : Hp) : Prop where
  fr : Same F F'
  kp : ∀ b o, (∀ i, b ∉ S i) → H b = some o → H' b = some o
  al : ∀ b, H b ≠ none → H' b ≠ none
  mu : ∀ b, F b = none → Mt (H b) → (∀ i, b ∉ S i) → F' b = none
  mt : ∀ b, Mt (H b) → Mt (H' b)
  nw : ∀ i b, b ∈ S' i → b ∈ S i ∨ H b = none
theorem Mv.refl {S : Fp} {F H : Hp} : Mv S F H S F H := ⟨fun _ _ h => h, fun _ _ _ h => h, fun _ h => h, fun _ h _ _ => h, fun _ h => h, fun _ _ h => .inl h⟩
theorem none_of {H H' : Hp} (al : ∀ b, H b ≠ none → H' b ≠ none) {b : Addr} (h : H' b = none) : H b = none := by
  cases e : H b with
  | none => rfl
  | some o => exact absurd h (al b (by rw [e]; exact fun z => nomatch z))
theorem Mv.trans {S S1 S2 : Fp} {F F1 F2 H H1 H2 : Hp} (a : Mv S F H S1 F1 H1) (b : Mv S1 F1 H1 S2 F2 H2) : Mv S F H S2 F2 H2 := by
  refine ⟨a.fr.trans b.fr, fun x o n h => b.kp x o (fun i hi => ?_) (a.kp x o n h), fun x h => b.al x (a.al x h), fun x h1 h2 n => b.mu x (a.mu x h1 h2 n) (a.mt x h2) (fun i hi => (a.nw i x hi).elim (n i) h2.1), fun x h => b.mt x (a.mt x h), fun i x hx => ?_⟩
  · rcases a.nw i x hi with z | z
    · exact n i z
    · rw [h] at z; cases z
  · rcases b.nw i x hx with z | z
    · exact a.nw i x z
    · exact .inr (none_of a.al z)
/-- what came -/
def Rv (C : Addr) (σ : L2.St) (S : Fp) (F H : Hp) (v : V) (r : Rs) (T : List Addr) : Prop :=
  match r with
  | .d x => T = [] ∧ At C F v x
  | .mo m => ∃ a, v = .ref a ∧ m.p C F H a T ∧ (∀ b ∈ T, F b = none ∧ ∀ i, b ∉ S i)
  | .al i => T = [] ∧ σ[i]? = some (some v)
  | .pr m x => ∃ a p y, v = .ref a ∧ H a = some (.tup [.ref p, y]) ∧ (∀ i, a ∉ S i) ∧ At C F y x ∧ m.p C F H p T ∧ (∀ b ∈ T, F b = none ∧ ∀ i, b ∉ S i)
theorem Rv.lv {C : Addr} {σ : L2.St} {S : Fp} {F H : Hp} {v : V} {r : Rs} {T : List Addr} (k : Rv C σ S F H v r T) {b : Addr} (hb : b ∈ T) : Mt (H b) ∧ F b = none ∧ ∀ i, b ∉ S i := by
  cases r with
  | d x => rw [k.1] at hb; cases hb
  | al i => rw [k.1] at hb; cases hb
  | mo m =>
    obtain ⟨a, _, k, q⟩ := k
    exact ⟨m.lv k b hb, q b hb⟩
  | pr m x =>
    obtain ⟨a, p, y, _, _, _, _, k, q⟩ := k
    exact ⟨m.lv k b hb, q b hb⟩
/-- it stays while the next is reckoned -/
theorem Rv.mv {C : Addr} {σ : L2.St} {S S' : Fp} {F H F' H' : Hp} {v : V} {r : Rs} {T : List Addr} (k : Rv C σ S F H v r T) (m : Mv S F H S' F' H') : Rv C σ S' F' H' v r T := by
  cases r with
  | d x => exact ⟨k.1, k.2.same m.fr⟩
  | al i => exact k
  | mo n =>
    obtain ⟨a, e, k, q⟩ := k
    refine ⟨a, e, n.st k m.fr fun b hb o h => m.kp b o (q b hb).2 h, fun b hb => ⟨m.mu b (q b hb).1 (n.lv k b hb) (q b hb).2, fun i hi => ?_⟩⟩
    rcases m.nw i b hi with z | z
    · exact (q b hb).2 i z
    · exact (n.lv k b hb).1 z
  | pr n x =>
    obtain ⟨a, p, y, e, ha, na, hy, k, q⟩ := k
    refine ⟨a, p, y, e, m.kp a _ na ha, fun i hi => ?_, hy.same m.fr, n.st k m.fr fun b hb o h => m.kp b o (q b hb).2 h, fun b hb => ⟨m.mu b (q b hb).1 (n.lv k b hb) (q b hb).2, fun i hi => ?_⟩⟩
    · rcases m.nw i a hi with z | z
      · exact na i z
      · rw [ha] at z; cases z
    · rcases m.nw i b hi with z | z
      · exact (q b hb).2 i z
      · exact (n.lv k b hb).1 z
inductive Rvs (C : Addr) (σ : L2.St) (S : Fp) (F H : Hp) : List V → List Rs → List Addr → Prop where
  | nil : Rvs C σ S F H [] [] []
  | cons {v : V} {r : Rs} {T : List Addr} {vs : List V} {rs : List Rs} {U : List Addr} (h : Rv C σ S F H v r T) (t : Rvs C σ S F H vs rs U) (n : ∀ b ∈ T, b ∉ U) : Rvs C σ S F H (v :: vs) (r :: rs) (T ++ U)
/-- an exception: its class, its fields -/
structure Xc where
  cls : Addr
  fs : Option (List (Str × Da))
def XcOk (C : Addr) (F H : Hp) (x : Xc) (d : Option Addr) : Prop :=
  match x.fs with
  | none => d = none
  | some l => ∃ a fs, d = some a ∧ H a = some (.xd fs) ∧ fs.map (·.1) = l.map (·.1) ∧ Ats C F (fs.map (·.2)) (l.map (·.2))
abbrev KX := Ct → Xc → Prop
def XOk (B : Org) (C : Addr) (E : XK) (KE : KX) : Prop := ∀ Γ S σ F H x d, Env B C Γ S σ F H → XcOk C F H x d → KE Γ x → E (.ref x.cls) d H
def Cont (B : Org) (C : Addr) (S : Fp) (σ : L2.St) (F H : Hp) (K : Ct → Rs → Prop) (Q : VK) : Prop :=
  ∀ Γ' S' F' H' r T v, Env B C Γ' S' σ F' H' → Mv S F H S' F' H' → Rv C σ S' F' H' v r T → (∀ b ∈ T, H b = none) → K Γ' r → Q v H'
/-- an expression: from Γ it comes to Γ' and gives r with K Γ' r -/
def W (B : Org) (C : Addr) (Γ : Ct) (te : TE) (K : Ct → Rs → Prop) : Prop := ∀ S σ F H (Q : VK), Env B C Γ S σ F H → Cont B C S σ F H K Q → te σ H Q
def WA (B : Org) (C : Addr) (Γ : Ct) (ta : TA) (K : Ct → List Rs → Prop) : Prop := ∀ S σ F H (Q : List V → Hp → Prop), Env B C Γ S σ F H →
  (∀ Γ' S' F' H' rs T vs, Env B C Γ' S' σ F' H' → Mv S F H S' F' H' → Rvs C σ S' F' H' vs rs T → (∀ b ∈ T, H b = none) → K Γ' rs → Q vs H') → ta σ H Q
def WT (B : Org) (C : Addr) (Γ : Ct) (tt : TT) (K : Ct → Bool → Prop) : Prop := ∀ S σ F H (Q : Bool → Hp → Prop), Env B C Γ S σ F H →
  (∀ Γ' S' F' H' b, Env B C Γ' S' σ F' H' → Mv S F H S' F' H' → K Γ' b → Q b H') → tt σ H Q
/-- what is wanted behind a statement -/
structure AE where
  nx : Ct → Prop
  rt : Ct → Rs → Prop
  bk : Ct → Prop := fun _ => False
  ct : Ct → Prop := fun _ => False
/-- the wish of the heap's reading that an abstract one speaks of -/
structure Ends4 (B : Org) (C : Addr) (F0 : Hp) (D : Ends) (A : AE) : Prop where
  nx : ∀ Γ S σ F H, Same F0 F → Env B C Γ S σ F H → A.nx Γ → D.nx σ H
  rt : ∀ Γ S σ F H r T v, Same F0 F → Env B C Γ S σ F H → Rv C σ S F H v r T → (∀ b ∈ T, B.H0 b = none) → A.rt Γ r → D.rt v H
  bk : ∀ Γ S σ F H, Same F0 F → Env B C Γ S σ F H → A.bk Γ → D.bk σ H
  ct : ∀ Γ S σ F H, Same F0 F → Env B C Γ S σ F H → A.ct Γ → D.ct σ H
theorem Ends4.at_ {B : Org} {C : Addr} {F0 F1 : Hp} {D : Ends} {A : AE} (h : Ends4 B C F0 D A) (s : Same F0 F1) : Ends4 B C F1 D A :=
  ⟨fun Γ S σ F H s1 => h.nx Γ S σ F H (s.trans s1), fun Γ S σ F H r T v s1 => h.rt Γ S σ F H r T v (s.trans s1), fun Γ S σ F H s1 => h.bk Γ S σ F H (s.trans s1), fun Γ S σ F H s1 => h.ct Γ S σ F H (s.trans s1)⟩
def WS (B : Org) (C : Addr) (Γ : Ct) (ts : TS) (A : AE) : Prop := ∀ S σ F H (D : Ends), Env B C Γ S σ F H → Ends4 B C F D A → ts D σ H
end My
/-! the rules of expressions -/
namespace My
open PySem PySem.Spec PyProof.Rows L2
section
variable {B : Org} {C : Addr} {Γ : Ct} {S S' : Fp} {σ : L2.St} {F F' H H' : Hp} {K K' : Ct → Rs → Prop} {Q : VK} {v : V} {x : Da} {te ta tb : TE}
theorem w_of (h : ∀ S σ F H (Q : VK), Env B C Γ S σ F H → Cont B C S σ F H K Q → te σ H Q) : W B C Γ te K := h
theorem Cont.mv (c : Cont B C S σ F H K Q) (m : Mv S F H S' F' H') : Cont B C S' σ F' H' K Q :=
  fun Γ1 S1 F1 H1 r T v e m1 rv fr k => c Γ1 S1 F1 H1 r T v e (m.trans m1) rv (fun b hb => none_of m.al (fr b hb)) k
theorem Cont.mono (c : Cont B C S σ F H K Q) (h : ∀ Γ r, K' Γ r → K Γ r) : Cont B C S σ F H K' Q := fun Γ1 S1 F1 H1 r T v e m rv fr k => c Γ1 S1 F1 H1 r T v e m rv fr (h _ _ k)
theorem W.mono (w : W B C Γ te K') (h : ∀ Γ r, K' Γ r → K Γ r) : W B C Γ te K := fun S σ F H Q e c => w S σ F H Q e (Cont.mono c h)
/-- what an extension of the heap leaves -/
structure Gr4 (F H F' H' : Hp) : Prop where
  f : Same F F'
  s : Same F' H'
  h : Same H H'
  mu : ∀ b, F b = none → Mt (H b) → F' b = none
theorem Gr4.mt {F H F' H' : Hp} (g : Gr4 F H F' H') : ∀ b, Mt (H b) → Mt (H' b) := fun b h => by
  cases e : H b with
  | none => exact absurd e h.1
  | some o =>
    rw [g.h _ _ e]
    rw [e] at h
    exact h
theorem Gr4.refl (s : Same F H) : Gr4 F H F H := ⟨Same.refl F, s, Same.refl H, fun _ h _ => h⟩
theorem Gr4.trans {F1 H1 : Hp} (a : Gr4 F H F' H') (b : Gr4 F' H' F1 H1) : Gr4 F H F1 H1 := ⟨a.f.trans b.f, b.s, a.h.trans b.h, fun x h1 h2 => b.mu x (a.mu x h1 h2) (a.mt x h2)⟩
theorem Gr4.fz {p : Addr} {o : HO} (s : Same F H) (h : H p = none) : Gr4 F H (upd F p o) (upd H p o) := by
  have hF := s.free h
  refine ⟨Same.new hF, fun b u e => ?_, Same.new h, fun b h1 h2 => ?_⟩
  · by_cases z : b = p
    · subst z
      rw [upd_same] at e ⊢
      exact e
    · rw [upd_ne z] at e ⊢
      exact s _ _ e
  · have z : b ≠ p := fun z => h2.1 (z ▸ h)
    rw [upd_ne z]
    exact h1
theorem Gr4.of {H' : Hp} (s : Same F H) (h : Same H H') : Gr4 F H F H' := ⟨Same.refl F, s.trans h, h, fun _ h _ => h⟩
theorem Env.ext (e : Env B C Γ S σ F H) (g : Gr4 F H F' H') : Env B C Γ S σ F' H' := by
  refine ⟨g.s, e.len, fun i s h => ?_, e.out, fun i b hb => g.mu b (e.fz i b hb) (e.lv hb), e.own, e.dis, e.rel.fr.trans g.f, fun b o n h => g.h _ _ (e.rel.kp b o n h), fun b h z => e.rel.al b h (g.h.free z), fun b h1 h2 => g.mu b (e.rel.mu b h1 h2) (e.rel.mt b h2), fun b h => g.mt b (e.rel.mt b h)⟩
  have k := e.sl i s h
  cases s with
  | un => exact k
  | d x => exact ⟨k.1, let ⟨v, h1, h2⟩ := k.2; ⟨v, h1, h2.same g.f⟩⟩
  | mo m => exact let ⟨a, h1, h2⟩ := k; ⟨a, h1, m.st h2 g.f fun b _ o h => g.h _ _ h⟩
theorem Mv.ext (g : Gr4 F H F' H') : Mv S F H S F' H' := ⟨g.f, fun b o _ h => g.h _ _ h, fun b h z => h (g.h.free z), fun b h1 h2 _ => g.mu b h1 h2, g.mt, fun _ _ h => .inl h⟩
theorem Cont.here (c : Cont B C S σ F H K Q) (e : Env B C Γ S σ F H) (a : At C F v x) (k : K Γ (.d x)) : Q v H := c Γ S F H (.d x) [] v e .refl ⟨rfl, a⟩ (fun _ h => nomatch h) k
theorem Cont.ext (c : Cont B C S σ F H K Q) (e : Env B C Γ S σ F H) (g : Gr4 F H F' H') (a : At C F' v x) (k : K Γ (.d x)) : Q v H' := c Γ S F' H' (.d x) [] v (e.ext g) (.ext g) ⟨rfl, a⟩ (fun _ h => nomatch h) k
/-- a new thing of one's own, of one object -/
theorem Cont.own1 {m : MO} {p : Addr} (c : Cont B C S σ F H K Q) (e : Env B C Γ S σ F H) (g : Gr4 F H F' H') (hp : H p = none) (hF : F' p = none) (a : m.p C F' H' p [p]) (k : K Γ (.mo m)) : Q (.ref p) H' := by
  refine c Γ S F' H' (.mo m) [p] _ (e.ext g) (.ext g) ⟨p, rfl, a, fun b hb => ?_⟩ (fun b hb => by rw [List.mem_singleton.mp hb]; exact hp) k
  rw [List.mem_singleton.mp hb]
  exact ⟨hF, fun i hi => (e.lv hi).1 hp⟩
/-! names, constants -/
theorem w_var {i : Nat} {K : Ct → Rs → Prop} (h : Γ[i]? = some (.d x)) (k : K Γ (.d x)) : W B C Γ (tVar i) K := fun S σ F H Q e c => by
  obtain ⟨_, v, h1, h2⟩ := e.sl i _ h
  exact ⟨v, h1, c.here e h2 k⟩
theorem w_al {i : Nat} {m : MO} {K : Ct → Rs → Prop} (h : Γ[i]? = some (.mo m)) (k : K Γ (.al i)) : W B C Γ (tVar i) K := fun S σ F H Q e c => by
  obtain ⟨a, h1, h2⟩ := e.sl i _ h
  exact ⟨_, h1, c Γ S F H (.al i) [] _ e .refl ⟨rfl, h1⟩ (fun _ h => nomatch h) k⟩
theorem w_int {i : Int} {K : Ct → Rs → Prop} (k : K Γ (.d (.int i))) : W B C Γ (tC (.int i)) K := fun S σ F H Q e c => c.here e (.int i) k
theorem w_bl {i : Bool} {K : Ct → Rs → Prop} (k : K Γ (.d (.bl i))) : W B C Γ (tC (.bl i)) K := fun S σ F H Q e c => c.here e (.bl i) k
theorem w_str {i : Str} {K : Ct → Rs → Prop} (k : K Γ (.d (.str i))) : W B C Γ (tC (.str i)) K := fun S σ F H Q e c => c.here e (.str i) k
theorem w_non {K : Ct → Rs → Prop} (k : K Γ (.d .non)) : W B C Γ (tC .non) K := fun S σ F H Q e c => c.here e .non k
/-! operators -/
def WR (B : Org) (C : Addr) (Γ : Ct) (r : R2) (x y : Rs) (K : Ct → Rs → Prop) : Prop := ∀ S σ F H v w T U Q, Env B C Γ S σ F H → Rv C σ S F H v x T → Rv C σ S F H w y U → Cont B C S σ F H K Q → r v w H Q
def WU (B : Org) (C : Addr) (Γ : Ct) (r : V → Hp → VK → Prop) (x : Rs) (K : Ct → Rs → Prop) : Prop := ∀ S σ F H v T Q, Env B C Γ S σ F H → Rv C σ S F H v x T → Cont B C S σ F H K Q → r v H Q
def WC (B : Org) (C : Addr) (Γ : Ct) (r : List V → Hp → VK → Prop) (xs : List Rs) (K : Ct → Rs → Prop) : Prop := ∀ S σ F H vs T Q, Env B C Γ S σ F H → Rvs C σ S F H vs xs T → Cont B C S σ F H K Q → r vs H Q
theorem w_op {r : R2} {K : Ct → Rs → Prop} (h : W B C Γ ta fun Γ1 x => W B C Γ1 tb fun Γ2 y => WR B C Γ2 r x y K) : W B C Γ (tOp r ta tb) K := fun S σ F H Q e c =>
  h S σ F H _ e fun Γ1 S1 F1 H1 x T v e1 m1 rx fx k1 => k1 S1 σ F1 H1 _ e1 fun Γ2 S2 F2 H2 y U w e2 m2 ry fy k2 => k2 S2 σ F2 H2 v w T U Q e2 (rx.mv m2) ry (c.mv (m1.trans m2))
theorem w_un {r : V → Hp → VK → Prop} {K : Ct → Rs → Prop} (h : W B C Γ ta fun Γ1 x => WU B C Γ1 r x K) : W B C Γ (tUn r ta) K := fun S σ F H Q e c =>
  h S σ F H _ e fun Γ1 S1 F1 H1 x T v e1 m1 rx fx k1 => k1 S1 σ F1 H1 v T Q e1 rx (c.mv m1)
theorem wr_I0i {f : Int → Int → Int} {i j : Int} {K : Ct → Rs → Prop} (k : K Γ (.d (.int (f i j)))) : WR B C Γ (rI0 fun i j => .int (f i j)) (.d (.int i)) (.d (.int j)) K := fun S σ F H v w T U Q e rx ry c => by
  obtain rfl := rx.2.intI
  obtain rfl := ry.2.intI
  exact ⟨i, j, rfl, rfl, c.here e (.int _) k⟩
theorem wr_I0b {f : Int → Int → Bool} {i j : Int} {K : Ct → Rs → Prop} (k : K Γ (.d (.bl (f i j)))) : WR B C Γ (rI0 fun i j => .bl (f i j)) (.d (.int i)) (.d (.int j)) K := fun S σ F H v w T U Q e rx ry c => by
  obtain rfl := rx.2.intI
  obtain rfl := ry.2.intI
  exact ⟨i, j, rfl, rfl, c.here e (.bl _) k⟩
theorem wr_Ii {P : Int → Int → Prop} {f : Int → Int → Int} {i j : Int} {K : Ct → Rs → Prop} (h : P i j) (k : K Γ (.d (.int (f i j)))) : WR B C Γ (rI P fun i j => .int (f i j)) (.d (.int i)) (.d (.int j)) K := fun S σ F H v w T U Q e rx ry c => by
  obtain rfl := rx.2.intI
  obtain rfl := ry.2.intI
  exact ⟨i, j, rfl, rfl, h, c.here e (.int _) k⟩
/-- flat data -/
def flatD : Da → Option V
  | .non => some .non
  | .bl b => some (.bl b)
  | .int i => some (.int i)
  | .str z => some (.str z)
  | _ => none
theorem at_flat {u : V} (h : flatD x = some u) (a : At C F v x) : v = u := by
  cases x <;> first | (cases h; done) | (cases a; cases h; rfl)
theorem flat_at {u : V} (h : flatD x = some u) : At C F u x := by
  cases x with
  | non => cases h; exact .non
  | bl b => cases h; exact .bl b
  | int i => cases h; exact .int i
  | str z => cases h; exact .str z
  | tup l => cases h
  | lst l => cases h
  | room g => cases h
  | lam D => cases h
  | dct _ _ => cases h
theorem wr_eq {x y : Da} {u w : V} {K : Ct → Rs → Prop} (hx : flatD x = some u) (hy : flatD y = some w) (hs : scal u w = true) (k : K Γ (.d (.bl (decide (u = w))))) : WR B C Γ rEq (.d x) (.d y) K := fun S σ F H v w' T U Q e rx ry c => by
  obtain rfl := at_flat hx rx.2
  obtain rfl := at_flat hy ry.2
  exact ⟨hs, c.here e (.bl _) k⟩
theorem wr_ne {x y : Da} {u w : V} {K : Ct → Rs → Prop} (hx : flatD x = some u) (hy : flatD y = some w) (hs : scal u w = true) (k : K Γ (.d (.bl (!decide (u = w))))) : WR B C Γ rNe (.d x) (.d y) K := fun S σ F H v w' T U Q e rx ry c => by
  obtain rfl := at_flat hx rx.2
  obtain rfl := at_flat hy ry.2
  exact ⟨hs, c.here e (.bl _) k⟩
/-- a list, as it stands -/
def VwL (Γ : Ct) (r : Rs) (l : List Da) : Prop := r = .d (.lst l) ∨ r = .mo (ML l) ∨ ∃ i, r = .al i ∧ Γ[i]? = some (.mo (ML l))
def VwT (r : Rs) (l : List Da) : Prop := r = .d (.tup l)
def VwS (Γ : Ct) (r : Rs) (l : List Da) : Prop := VwL Γ r l ∨ VwT r l
theorem VwL.d {l : List Da} : VwL Γ (.d (.lst l)) l := .inl rfl
theorem VwL.m {l : List Da} : VwL Γ (.mo (ML l)) l := .inr (.inl rfl)
theorem VwL.a {l : List Da} {i : Nat} (h : Γ[i]? = some (.mo (ML l))) : VwL Γ (.al i) l := .inr (.inr ⟨i, rfl, h⟩)
theorem Env.vwL {r : Rs} {l : List Da} {T : List Addr} (e : Env B C Γ S σ F H) (rv : Rv C σ S F H v r T) (h : VwL Γ r l) : ∃ a xs, v = .ref a ∧ H a = some (.lst xs) ∧ Ats C F xs l := by
  rcases h with rfl | rfl | ⟨i, rfl, h⟩
  · obtain ⟨a, xs, h1, h2, h3⟩ := rv.2.lstI
    exact ⟨a, xs, h1, e.sub _ _ h2, h3⟩
  · obtain ⟨a, h1, ⟨_, xs, h2, h3⟩, _⟩ := rv
    exact ⟨a, xs, h1, h2, h3⟩
  · obtain ⟨a, h1, _, xs, h2, h3⟩ := e.sl i _ h
    rw [rv.2] at h1
    cases h1
    exact ⟨a, xs, rfl, h2, h3⟩
theorem Env.vwT {r : Rs} {l : List Da} {T : List Addr} (e : Env B C Γ S σ F H) (rv : Rv C σ S F H v r T) (h : VwT r l) : ∃ a xs, v = .ref a ∧ H a = some (.tup xs) ∧ Ats C F xs l := by
  obtain rfl := h
  obtain ⟨a, xs, h1, h2, h3⟩ := rv.2.tupI
  exact ⟨a, xs, h1, e.sub _ _ h2, h3⟩
/-- all of it at once, in the heap as it stands -/
theorem Env.vwD {r : Rs} {l : List Da} {T : List Addr} (e : Env B C Γ S σ F H) (rv : Rv C σ S F H v r T) (h : VwL Γ r l) : At C H v (.lst l) := by
  obtain ⟨a, xs, rfl, h2, h3⟩ := e.vwL rv h
  exact .lst' h2 (h3.same e.sub)
def Vw (Γ : Ct) (r : Rs) (x : Da) : Prop := r = .d x ∨ ∃ l, x = .lst l ∧ VwL Γ r l
theorem Vw.d : Vw Γ (.d x) x := .inl rfl
theorem Vw.m {l : List Da} : Vw Γ (.mo (ML l)) (.lst l) := .inr ⟨l, rfl, .m⟩
theorem Vw.a {l : List Da} {i : Nat} (h : Γ[i]? = some (.mo (ML l))) : Vw Γ (.al i) (.lst l) := .inr ⟨l, rfl, .a h⟩
theorem Env.vw {r : Rs} {T : List Addr} (e : Env B C Γ S σ F H) (rv : Rv C σ S F H v r T) (h : Vw Γ r x) : At C H v x := by
  rcases h with rfl | ⟨l, rfl, h⟩
  · exact rv.2.same e.sub
  · exact e.vwD rv h
/-! displays -/
theorem wa_nil {K : Ct → List Rs → Prop} (k : K Γ []) : WA B C Γ tNil K := fun S σ F H Q e c => c Γ S F H [] [] [] e .refl .nil (fun _ h => nomatch h) k
theorem wa_cons {tr : TA} {K : Ct → List Rs → Prop} (h : W B C Γ te fun Γ1 r => WA B C Γ1 tr fun Γ2 rs => K Γ2 (r :: rs)) : WA B C Γ (tCons te tr) K := fun S σ F H Q e c =>
  h S σ F H _ e fun Γ1 S1 F1 H1 x T v e1 m1 rx fx k1 => k1 S1 σ F1 H1 _ e1 fun Γ2 S2 F2 H2 rs U vs e2 m2 ry fy k2 => by
    refine c Γ2 S2 F2 H2 (x :: rs) (T ++ U) (v :: vs) e2 (m1.trans m2) (.cons (rx.mv m2) ry fun b hb hu => (rx.lv hb).1.1 (fy b hu)) (fun b hb => ?_) k2
    rcases List.mem_append.mp hb with z | z
    · exact fx b z
    · exact none_of m1.al (fy b z)
/-- what may be frozen -/
inductive Frz : Rs → Da → Prop where
  | d (x : Da) : Frz (.d x) x
  | m (l : List Da) : Frz (.mo (ML l)) (.lst l)
theorem fz_list {p : Addr} {o : HO} (s : Same F H) (hF : F p = none) (h : H p = some o) : Same F (upd F p o) ∧ Same (upd F p o) H := by
  refine ⟨Same.new hF, fun b u e => ?_⟩
  by_cases z : b = p
  · subst z
    rw [upd_same] at e
    rw [h]
    exact e
  · rw [upd_ne z] at e
    exact s _ _ e
/-- one more object is frozen that is nobody's -/
theorem Env.fz1 {p : Addr} {o : HO} (e : Env B C Γ S σ F H) (hF : F p = none) (h : H p = some o) (hn : ∀ i, p ∉ S i) (h0 : B.H0 p = none) : Env B C Γ S σ (upd F p o) H := by
  obtain ⟨s1, s2⟩ := fz_list (o := o) e.sub hF h
  refine ⟨s2, e.len, fun i s h => ?_, e.out, fun i b hb => ?_, e.own, e.dis, e.rel.fr.trans s1, e.rel.kp, e.rel.al, fun b h1 h2 => ?_, e.rel.mt⟩
  · have k := e.sl i s h
    cases s with
    | un => exact k
    | d x => exact ⟨k.1, let ⟨v, h1, h2⟩ := k.2; ⟨v, h1, h2.same s1⟩⟩
    | mo m => exact let ⟨a, h1, h2⟩ := k; ⟨a, h1, m.st h2 s1 fun b _ o h => h⟩
  · rw [upd_ne (fun z => hn i (by rw [← z]; exact hb))]
    exact e.fz i b hb
  · rw [upd_ne (fun z => h2.1 (by rw [z]; exact h0))]
    exact e.rel.mu b h1 h2
theorem w_fz {K : Ct → Rs → Prop} (h : W B C Γ te fun Γ1 r => ∃ d, Frz r d ∧ K Γ1 (.d d)) : W B C Γ te K := fun S σ F H Q e c =>
  h S σ F H Q e fun Γ1 S1 F1 H1 r T v e1 m1 rv fr ⟨d, hd, k⟩ => by
    cases hd with
    | d x => exact c Γ1 S1 F1 H1 _ T v e1 m1 rv fr k
    | m l =>
      obtain ⟨a, rfl, ⟨rfl, xs, h2, h3⟩, h4⟩ := rv
      have ma : a ∈ [a] := List.mem_singleton.mpr rfl
      obtain ⟨hF, hn⟩ := h4 a ma
      obtain ⟨s1, s2⟩ := fz_list (o := .lst xs) e1.sub hF h2
      have h0 : B.H0 a = none := none_of e.rel.al (fr a ma)
      refine c Γ1 S1 (upd F1 a (.lst xs)) H1 (.d (.lst l)) [] _ (e1.fz1 hF h2 hn h0) ⟨m1.fr.trans s1, m1.kp, m1.al, fun b h1 hb n => ?_, m1.mt, m1.nw⟩ ⟨rfl, .lst' upd_same (h3.same s1)⟩ (fun _ h => nomatch h) k
      rw [upd_ne (fun z => hb.1 (by rw [z]; exact fr a ma))]
      exact m1.mu b h1 hb n
/-- an argument, frozen -/
theorem wa_c {tr : TA} {K : Ct → List Rs → Prop} (h : W B C Γ te fun Γ1 r => ∃ d, Frz r d ∧ WA B C Γ1 tr fun Γ2 rs => K Γ2 (.d d :: rs)) : WA B C Γ (tCons te tr) K :=
  wa_cons (w_fz (K := fun Γ1 r => WA B C Γ1 tr fun Γ2 rs => K Γ2 (r :: rs)) h)
theorem Rvs.ats {vs : List V} {T : List Addr} {ds : List Da} (h : Rvs C σ S F H vs (ds.map Rs.d) T) : Ats C F vs ds := by
  induction ds generalizing vs T with
  | nil =>
    cases h
    exact .nil
  | cons d ds ih =>
    rw [List.map_cons] at h
    cases h with
    | cons h t n => exact .cons h.2 (ih t)
theorem w_tup {ta : TA} {K : Ct → Rs → Prop} (h : WA B C Γ ta fun Γ1 rs => ∃ ds : List Da, rs = ds.map Rs.d ∧ ds.length ≤ sizeLine ∧ K Γ1 (.d (.tup ds))) : W B C Γ (tTup ta) K := fun S σ F H Q e c =>
  h S σ F H _ e fun Γ1 S1 F1 H1 rs T vs e1 m1 rv fr ⟨ds, er, hl, k⟩ => by
    subst er
    have a := rv.ats
    refine ⟨by rw [a.len]; exact hl, fun p hp => ?_⟩
    have g := Gr4.fz (o := .tup vs) e1.sub hp
    exact (Cont.mv c m1).ext e1 g (.tup' upd_same (a.same g.f)) k
theorem w_lst {ta : TA} {K : Ct → Rs → Prop} (h : WA B C Γ ta fun Γ1 rs => ∃ ds : List Da, rs = ds.map Rs.d ∧ ds.length ≤ sizeLine ∧ K Γ1 (.mo (ML ds))) : W B C Γ (tLst ta) K := fun S σ F H Q e c =>
  h S σ F H _ e fun Γ1 S1 F1 H1 rs T vs e1 m1 rv fr ⟨ds, er, hl, k⟩ => by
    subst er
    have a := rv.ats
    refine ⟨by rw [a.len]; exact hl, fun p hp => ?_⟩
    have g := Gr4.of (e1.sub) (Same.new (o := .lst vs) hp)
    exact Cont.own1 (m := ML ds) (Cont.mv c m1) e1 g hp (e1.sub.free hp) ⟨rfl, vs, upd_same, a⟩ k
theorem w_cb {r : List V → Hp → VK → Prop} {ta : TA} {K : Ct → Rs → Prop} (h : WA B C Γ ta fun Γ1 rs => WC B C Γ1 r rs K) : W B C Γ (tCB r ta) K := fun S σ F H Q e c =>
  h S σ F H _ e fun Γ1 S1 F1 H1 rs T vs e1 m1 rv fr k => k S1 σ F1 H1 vs T Q e1 rv (Cont.mv c m1)
/-! tests -/
theorem WT.mono {tt : TT} {K K' : Ct → Bool → Prop} (w : WT B C Γ tt K') (h : ∀ Γ r, K' Γ r → K Γ r) : WT B C Γ tt K := fun S σ F H Q e c => w S σ F H Q e fun Γ1 S1 F1 H1 b e1 m1 k => c Γ1 S1 F1 H1 b e1 m1 (h _ _ k)
theorem wt_test {K : Ct → Bool → Prop} (h : W B C Γ te fun Γ1 r => ∃ b, r = .d (.bl b) ∧ K Γ1 b) : WT B C Γ (tTest te) K := fun S σ F H Q e c =>
  h S σ F H _ e fun Γ1 S1 F1 H1 r T v e1 m1 rv fr ⟨b, er, k⟩ => by
    subst er
    exact ⟨b, rv.2.blI, c Γ1 S1 F1 H1 b e1 m1 k⟩
theorem wt_B {K : Ct → Bool → Prop} (h : W B C Γ te fun Γ1 r => ∃ b, r = .d (.bl b) ∧ K Γ1 b) : WT B C Γ (tB te) K := fun S σ F H Q e c =>
  h S σ F H _ e fun Γ1 S1 F1 H1 r T v e1 m1 rv fr ⟨b, er, k⟩ => by
    subst er
    exact ⟨b, rv.2.blI, c Γ1 S1 F1 H1 b e1 m1 k⟩
theorem wt_not {tt : TT} {K : Ct → Bool → Prop} (h : WT B C Γ tt fun Γ1 b => K Γ1 (!b)) : WT B C Γ (tNot tt) K := fun S σ F H Q e c =>
  h S σ F H _ e fun Γ1 S1 F1 H1 b e1 m1 k => c Γ1 S1 F1 H1 _ e1 m1 k
theorem wt_and {t u : TT} {K : Ct → Bool → Prop} (h : WT B C Γ t fun Γ1 b => (b = true → WT B C Γ1 u K) ∧ (b = false → K Γ1 false)) : WT B C Γ (tAnd t u) K := fun S σ F H Q e c =>
  h S σ F H _ e fun Γ1 S1 F1 H1 b e1 m1 ⟨k1, k2⟩ => by
    cases b with
    | true => exact k1 rfl S1 σ F1 H1 Q e1 fun Γ2 S2 F2 H2 b e2 m2 k => c Γ2 S2 F2 H2 b e2 (m1.trans m2) k
    | false => exact c Γ1 S1 F1 H1 false e1 m1 (k2 rfl)
theorem wt_or {t u : TT} {K : Ct → Bool → Prop} (h : WT B C Γ t fun Γ1 b => (b = false → WT B C Γ1 u K) ∧ (b = true → K Γ1 true)) : WT B C Γ (tOr t u) K := fun S σ F H Q e c =>
  h S σ F H _ e fun Γ1 S1 F1 H1 b e1 m1 ⟨k1, k2⟩ => by
    cases b with
    | false => exact k1 rfl S1 σ F1 H1 Q e1 fun Γ2 S2 F2 H2 b e2 m2 k => c Γ2 S2 F2 H2 b e2 (m1.trans m2) k
    | true => exact c Γ1 S1 F1 H1 true e1 m1 (k2 rfl)
theorem w_notV {K : Ct → Rs → Prop} (h : W B C Γ te fun Γ1 r => ∃ b, r = .d (.bl b) ∧ K Γ1 (.d (.bl (!b)))) : W B C Γ (tNotV te) K := fun S σ F H Q e c =>
  h S σ F H _ e fun Γ1 S1 F1 H1 r T v e1 m1 rv fr ⟨b, er, k⟩ => by
    subst er
    exact ⟨b, rv.2.blI, (Cont.mv c m1).here e1 (.bl _) k⟩
theorem w_andV {K : Ct → Rs → Prop} (h : W B C Γ ta fun Γ1 r => ∃ b, r = .d (.bl b) ∧ (b = true → W B C Γ1 tb K) ∧ (b = false → K Γ1 (.d (.bl false)))) : W B C Γ (tAndV ta tb) K := fun S σ F H Q e c =>
  h S σ F H _ e fun Γ1 S1 F1 H1 r T v e1 m1 rv fr ⟨b, er, k1, k2⟩ => by
    subst er
    refine ⟨b, rv.2.blI, ?_⟩
    cases b with
    | true => exact k1 rfl S1 σ F1 H1 Q e1 (Cont.mv c m1)
    | false => exact (Cont.mv c m1).here e1 (.bl _) (k2 rfl)
theorem w_orV {K : Ct → Rs → Prop} (h : W B C Γ ta fun Γ1 r => ∃ b, r = .d (.bl b) ∧ (b = false → W B C Γ1 tb K) ∧ (b = true → K Γ1 (.d (.bl true)))) : W B C Γ (tOrV ta tb) K := fun S σ F H Q e c =>
  h S σ F H _ e fun Γ1 S1 F1 H1 r T v e1 m1 rv fr ⟨b, er, k1, k2⟩ => by
    subst er
    refine ⟨b, rv.2.blI, ?_⟩
    cases b with
    | false => exact k1 rfl S1 σ F1 H1 Q e1 (Cont.mv c m1)
    | true => exact (Cont.mv c m1).here e1 (.bl _) (k2 rfl)
theorem w_if {t : TT} {K : Ct → Rs → Prop} (h : WT B C Γ t fun Γ1 b => (b = true → W B C Γ1 ta K) ∧ (b = false → W B C Γ1 tb K)) : W B C Γ (tIf t ta tb) K := fun S σ F H Q e c =>
  h S σ F H _ e fun Γ1 S1 F1 H1 b e1 m1 ⟨k1, k2⟩ => by
    cases b with
    | true => exact k1 rfl S1 σ F1 H1 Q e1 (Cont.mv c m1)
    | false => exact k2 rfl S1 σ F1 H1 Q e1 (Cont.mv c m1)
/-! items, lengths -/
theorem Ats.atI {xs : List V} {l : List Da} {i : Int} (h : Ats C F xs l) (hi : L2.atI l i = some x) : ∃ y, L2.atI xs i = some y ∧ At C F y x := by
  unfold L2.atI at hi ⊢
  rw [h.len]
  cases e : ixN l.length i with
  | none => rw [e] at hi; cases hi
  | some j =>
    rw [e] at hi
    exact h.get hi
theorem wr_ixT {Kf : PySem.W.Frag} {l : List Da} {i : Int} {K : Ct → Rs → Prop} (hi : L2.atI l i = some x) (k : K Γ (.d x)) : WR B C Γ (rIxT Kf) (.d (.tup l)) (.d (.int i)) K := fun S σ F H v w T U Q e rx ry c => by
  obtain rfl := ry.2.intI
  obtain ⟨a, xs, rfl, h2, h3⟩ := e.vwT rx rfl
  obtain ⟨y, h4, h5⟩ := h3.atI hi
  exact ⟨a, xs, i, y, rfl, rfl, SqT.of h2, h4, c.here e h5 k⟩
theorem wr_ixL {Kf : PySem.W.Frag} {r : Rs} {l : List Da} {i : Int} {K : Ct → Rs → Prop} (h : VwL Γ r l) (hi : atI l i = some x) (k : K Γ (.d x)) : WR B C Γ (rIxL Kf) r (.d (.int i)) K := fun S σ F H v w T U Q e rx ry c => by
  obtain rfl := ry.2.intI
  obtain ⟨a, xs, rfl, h2, h3⟩ := e.vwL rx h
  obtain ⟨y, h4, h5⟩ := h3.atI hi
  exact ⟨a, xs, i, y, rfl, rfl, SqL.of h2, h4, c.here e h5 k⟩
end
end My
/-! the rules of statements, loops, comprehensions -/
namespace My
open PySem PySem.Spec PyProof.Rows L2
def setS (S : Fp) (i : Nat) (T : List Addr) : Fp := fun j => if j = i then T else S j
theorem setS_i {S : Fp} {i : Nat} {T : List Addr} : setS S i T i = T := if_pos rfl
theorem setS_j {S : Fp} {i j : Nat} {T : List Addr} (h : j ≠ i) : setS S i T j = S j := if_neg h
/-- what a name holds once r was given to it -/
inductive SlR : Rs → Sl → Prop where
  | d (x : Da) : SlR (.d x) (.d x)
  | m (m : MO) : SlR (.mo m) (.mo m)
section
variable {B : Org} {C : Addr} {Γ : Ct} {S S' : Fp} {σ : L2.St} {F F' H H' : Hp} {K K' : Ct → Rs → Prop} {Q : VK} {v : V} {x : Da} {te ta tb : TE} {A : AE} {D : Ends} {t u : TS}
theorem Env.put {i : Nat} {r : Rs} {s : Sl} {T : List Addr} (e : Env B C Γ S σ F H) (hi : i < Γ.length) (h : SlR r s) (rv : Rv C σ S F H v r T) (fr : ∀ b ∈ T, B.H0 b = none) : Env B C (Γ.set i s) (setS S i T) (σ.set i (some v)) F H := by
  have hs : i < σ.length := by rw [e.len]; exact hi
  have lv : ∀ b ∈ T, F b = none ∧ ∀ j, b ∉ S j := fun b hb => (rv.lv hb).2
  refine ⟨e.sub, by rw [List.length_set, List.length_set, e.len], fun j s' hj => ?_, fun j hj => ?_, fun j b hb => ?_, fun j b hb => ?_, fun j k b hj hk => ?_, e.rel⟩
  · by_cases z : j = i
    · subst z
      rw [List.getElem?_set_self hi] at hj
      cases hj
      rw [setS_i, List.getElem?_set_self hs]
      cases h with
      | d x => exact ⟨rv.1, v, rfl, rv.2⟩
      | m m =>
        obtain ⟨a, rfl, h2, _⟩ := rv
        exact ⟨a, rfl, h2⟩
    · rw [List.getElem?_set_ne (Ne.symm z)] at hj ⊢
      rw [setS_j z]
      exact e.sl j s' hj
  · have z : j ≠ i := fun z => by
      rw [z, List.getElem?_set_self hi] at hj
      cases hj
    rw [List.getElem?_set_ne (Ne.symm z)] at hj
    rw [setS_j z]
    exact e.out j hj
  · by_cases z : j = i
    · rw [z, setS_i] at hb
      exact (lv b hb).1
    · rw [setS_j z] at hb
      exact e.fz j b hb
  · by_cases z : j = i
    · rw [z, setS_i] at hb
      exact .inr (fr b hb)
    · rw [setS_j z] at hb
      exact e.own j b hb
  · by_cases z : j = i
    · by_cases y : k = i
      · rw [z, y]
      · rw [z, setS_i] at hj
        rw [setS_j y] at hk
        exact absurd hk ((lv b hj).2 k)
    · rw [setS_j z] at hj
      by_cases y : k = i
      · rw [y, setS_i] at hk
        exact absurd hj ((lv b hk).2 j)
      · rw [setS_j y] at hk
        exact e.dis j k b hj hk
theorem Env.putD {i : Nat} (e : Env B C Γ S σ F H) (hi : i < Γ.length) (h : At C F v x) : Env B C (Γ.set i (.d x)) (setS S i []) (σ.set i (some v)) F H :=
  e.put (r := .d x) (T := []) hi (.d x) ⟨rfl, h⟩ fun _ h => nomatch h
/-- a name forgotten -/
theorem Env.un (i : Nat) (e : Env B C Γ S σ F H) {w : Option V} : Env B C (Γ.set i .un) (setS S i []) (σ.set i w) F H := by
  refine ⟨e.sub, by rw [List.length_set, List.length_set, e.len], fun j s' hj => ?_, fun j hj => ?_, fun j b hb => ?_, fun j b hb => ?_, fun j k b hj hk => ?_, e.rel⟩
  · by_cases z : j = i
    · subst z
      rw [setS_i]
      have hl : j < Γ.length := by
        rcases Nat.lt_or_ge j Γ.length with z | z
        · exact z
        · rw [List.getElem?_eq_none (by rw [List.length_set]; exact z)] at hj
          cases hj
      rw [List.getElem?_set_self hl] at hj
      cases hj
      rfl
    · rw [List.getElem?_set_ne (Ne.symm z)] at hj ⊢
      rw [setS_j z]
      exact e.sl j s' hj
  · by_cases z : j = i
    · rw [z, setS_i]
    · rw [List.getElem?_set_ne (Ne.symm z)] at hj
      rw [setS_j z]
      exact e.out j hj
  · by_cases z : j = i
    · rw [z, setS_i] at hb; cases hb
    · rw [setS_j z] at hb
      exact e.fz j b hb
  · by_cases z : j = i
    · rw [z, setS_i] at hb; cases hb
    · rw [setS_j z] at hb
      exact e.own j b hb
  · by_cases z : j = i
    · rw [z, setS_i] at hj; cases hj
    · rw [setS_j z] at hj
      by_cases y : k = i
      · rw [y, setS_i] at hk; cases hk
      · rw [setS_j y] at hk
        exact e.dis j k b hj hk
/-- what the slots hold where nothing is said does not matter -/
theorem Env.slots {σ' : L2.St} (e : Env B C Γ S σ F H) (hl : σ'.length = σ.length) (h : ∀ i : Nat, σ'[i]? = σ[i]? ∨ Γ[i]? = some Sl.un) : Env B C Γ S σ' F H := by
  refine ⟨e.sub, hl.trans e.len, fun i s hi => ?_, e.out, e.fz, e.own, e.dis, e.rel⟩
  rcases h i with z | z
  · rw [z]; exact e.sl i s hi
  · rw [z] at hi
    cases hi
    exact e.sl i _ z
/-! statements -/
theorem ws_next (h : A.nx Γ) : WS B C Γ tNext A := fun S σ F H D e d => d.nx Γ S σ F H (Same.refl F) e h
theorem ws_seq (h : WS B C Γ t { A with nx := fun Γ1 => WS B C Γ1 u A }) : WS B C Γ (tSeq t u) A := fun S σ F H D e d =>
  h S σ F H { D with nx := u D } e ⟨fun Γ1 S1 σ1 F1 H1 s1 e1 k => k S1 σ1 F1 H1 D e1 (d.at_ s1), d.rt, d.bk, d.ct⟩
theorem ws_cut (N : Ct → Prop) (h : WS B C Γ t { A with nx := N }) (k : ∀ Γ1, N Γ1 → WS B C Γ1 u A) : WS B C Γ (C8.tCut t u) A := fun S σ F H D e d =>
  ⟨fun σ1 H1 => ∃ Γ1 S1 F1, Env B C Γ1 S1 σ1 F1 H1 ∧ Same F F1 ∧ N Γ1, h S σ F H _ e ⟨fun Γ1 S1 σ1 F1 H1 s1 e1 n => ⟨Γ1, S1, F1, e1, s1, n⟩, d.rt, d.bk, d.ct⟩, fun σ1 H1 ⟨Γ1, S1, F1, e1, s1, n⟩ => k Γ1 n S1 σ1 F1 H1 D e1 (d.at_ s1)⟩
theorem ws_if {c : TT} (h : WT B C Γ c fun Γ1 b => (b = true → WS B C Γ1 t A) ∧ (b = false → WS B C Γ1 u A)) : WS B C Γ (tIfS c t u) A := fun S σ F H D e d =>
  h S σ F H _ e fun Γ1 S1 F1 H1 b e1 m1 ⟨k1, k2⟩ => by
    cases b with
    | true => exact k1 rfl S1 σ F1 H1 D e1 (d.at_ m1.fr)
    | false => exact k2 rfl S1 σ F1 H1 D e1 (d.at_ m1.fr)
theorem ws_ret (h : W B C Γ te A.rt) : WS B C Γ (tRet te) A := fun S σ F H D e d =>
  h S σ F H _ e fun Γ1 S1 F1 H1 r T v e1 m1 rv fr k => d.rt Γ1 S1 σ F1 H1 r T v m1.fr e1 rv (fun b hb => none_of e.rel.al (fr b hb)) k
theorem ws_retN (h : A.rt Γ (.d .non)) : WS B C Γ tRetN A := fun S σ F H D e d => d.rt Γ S σ F H (.d .non) [] _ (Same.refl F) e ⟨rfl, .non⟩ (fun _ h => nomatch h) h
theorem ws_drop (h : W B C Γ te fun Γ1 _ => A.nx Γ1) : WS B C Γ (tDrop te) A := fun S σ F H D e d =>
  h S σ F H _ e fun Γ1 S1 F1 H1 r T v e1 m1 rv fr k => d.nx Γ1 S1 σ F1 H1 m1.fr e1 k
theorem ws_set {i : Nat} (h : W B C Γ te fun Γ1 r => ∃ s, SlR r s ∧ i < Γ1.length ∧ A.nx (Γ1.set i s)) : WS B C Γ (tAsg te (gName i)) A := fun S σ F H D e d =>
  h S σ F H _ e fun Γ1 S1 F1 H1 r T v e1 m1 rv fr ⟨s, hs, hi, k⟩ => d.nx _ _ _ F1 H1 m1.fr (e1.put hi hs rv fun b hb => none_of e.rel.al (fr b hb)) k
/-! targets -/
def WG (C : Addr) (B : Org) (is : List Nat) (g : TG) (Γ : Ct) (x : Da) (N : Ct → Prop) : Prop := ∀ S σ F H (v : V) (Q : L2.St → Hp → Prop), Env B C Γ S σ F H → At C F v x →
  (∀ Γ1 S1 σ1, Env B C Γ1 S1 σ1 F H → (∀ i b, b ∈ S1 i → b ∈ S i) → (∀ j, j ∉ is → σ1[j]? = σ[j]?) → σ1.length = σ.length → N Γ1 → Q σ1 H) → g v σ H Q
def WGs (C : Addr) (B : Org) (is : List Nat) (g : TGs) (Γ : Ct) (xs : List Da) (N : Ct → Prop) : Prop := ∀ S σ F H (vs : List V) (Q : L2.St → Hp → Prop), Env B C Γ S σ F H → Ats C F vs xs →
  (∀ Γ1 S1 σ1, Env B C Γ1 S1 σ1 F H → (∀ i b, b ∈ S1 i → b ∈ S i) → (∀ j, j ∉ is → σ1[j]? = σ[j]?) → σ1.length = σ.length → N Γ1 → Q σ1 H) → g vs σ H Q
theorem wg_name {i : Nat} {N : Ct → Prop} (hi : i < Γ.length) (h : N (Γ.set i (.d x))) : WG C B [i] (gName i) Γ x N := fun S σ F H v Q e a q =>
  q _ _ _ (e.putD hi a) (fun j b hb => by
    by_cases z : j = i
    · rw [z, setS_i] at hb; cases hb
    · rw [setS_j z] at hb
      exact hb) (fun j hj => List.getElem?_set_ne (fun z => hj (by rw [z]; exact List.mem_singleton.mpr rfl))) (List.length_set ..) h
theorem wgs_nil {N : Ct → Prop} (h : N Γ) : WGs C B [] gNil Γ [] N := fun S σ F H v Q e a q => by
  have : v = [] := List.length_eq_zero_iff.mp a.len
  exact ⟨this, q Γ S σ e (fun _ _ h => h) (fun _ _ => rfl) rfl h⟩
theorem wgs_cons {is js : List Nat} {g : TG} {gs : TGs} {xs : List Da} {N : Ct → Prop} (h : WG C B is g Γ x fun Γ1 => WGs C B js gs Γ1 xs N) : WGs C B (is ++ js) (gCons g gs) Γ (x :: xs) N := fun S σ F H vs Q e a q => by
  cases vs with
  | nil => exact absurd a.len (by simp)
  | cons v vs =>
    refine ⟨v, vs, rfl, h S σ F H v _ e a.hd fun Γ1 S1 σ1 e1 y1 w1 l1 k => k S1 σ1 F H vs Q e1 a.tl fun Γ2 S2 σ2 e2 y2 w2 l2 n => q Γ2 S2 σ2 e2 (fun i b z => y1 i b (y2 i b z)) (fun j hj => ?_) (l2.trans l1) n⟩
    exact (w2 j fun z => hj (List.mem_append_right _ z)).trans (w1 j fun z => hj (List.mem_append_left _ z))
theorem wg_tup {is : List Nat} {Kf : PySem.W.Frag} {n : Nat} {gs : TGs} {xs : List Da} {N : Ct → Prop} (hn : xs.length = n) (h : WGs C B is gs Γ xs N) : WG C B is (gTup Kf n gs) Γ (.tup xs) N := fun S σ F H v Q e a q => by
  obtain ⟨p, vs, rfl, h2, h3⟩ := a.tupI
  exact ⟨p, vs, rfl, SqT.of (e.sub _ _ h2), h3.len.trans hn, h S σ F H vs Q e h3 q⟩
theorem ws_asg {is : List Nat} {g : TG} (h : W B C Γ te fun Γ1 r => ∃ x, r = .d x ∧ WG C B is g Γ1 x A.nx) : WS B C Γ (tAsg te g) A := fun S σ F H D e d =>
  h S σ F H _ e fun Γ1 S1 F1 H1 r T v e1 m1 rv fr ⟨x, er, k⟩ => by
    subst er
    exact k S1 σ F1 H1 v _ e1 rv.2 fun Γ2 S2 σ2 e2 _ _ _ n => d.nx Γ2 S2 σ2 F1 H1 m1.fr e2 n
/-- a, b, .. = x, y, ..: the things go into the names, whatever they are -/
def gNames : List Nat → TGs
  | [] => gNil
  | i :: is => gCons (gName i) (gNames is)
inductive Puts : List Rs → List Nat → Ct → Ct → Prop where
  | nil (Γ : Ct) : Puts [] [] Γ Γ
  | cons {r : Rs} {s : Sl} {rs : List Rs} {i : Nat} {is : List Nat} {Γ Γ' : Ct} (h : SlR r s) (hi : i < Γ.length) (t : Puts rs is (Γ.set i s) Γ') : Puts (r :: rs) (i :: is) Γ Γ'
theorem puts_env {rs : List Rs} {is : List Nat} {Γ Γ' : Ct} (h : Puts rs is Γ Γ') : ∀ {S : Fp} {σ : L2.St} {F H : Hp} {vs : List V} {T : List Addr} {Q : L2.St → Hp → Prop}, Env B C Γ S σ F H → Rvs C σ S F H vs rs T → (∀ b ∈ T, B.H0 b = none) →
    (∀ S' σ', Env B C Γ' S' σ' F H → Q σ' H) → gNames is vs σ H Q := by
  induction h with
  | nil Γ =>
    intro S σ F H vs T Q e rv fr q
    cases rv
    exact ⟨rfl, q S σ e⟩
  | @cons r s rs i is Γ Γ' h hi t ih =>
    intro S σ F H vs T Q e rv fr q
    cases rv with
    | @cons v _ T1 vs _ U rv rt n =>
      refine ⟨v, vs, rfl, ih (e.put hi h rv fun b hb => fr b (List.mem_append_left _ hb)) ?_ (fun b hb => fr b (List.mem_append_right _ hb)) q⟩
      have hT : ∀ b ∈ T1, Mt (H b) := fun b hb => (rv.lv hb).1
      have key : ∀ {vs rs U}, Rvs C σ S F H vs rs U → (∀ b ∈ U, b ∉ T1) → (∀ r ∈ rs, ∀ j, r ≠ .al j) → Rvs C (σ.set i (some v)) (setS S i T1) F H vs rs U := fun {vs rs U} q => by
        induction q with
        | nil => exact fun _ _ => .nil
        | @cons v r T2 vs rs U1 h _ n ih =>
          intro hd hal
          refine .cons ?_ (ih (fun b hb => hd b (List.mem_append_right _ hb)) fun r hr => hal r (List.mem_cons_of_mem _ hr)) n
          cases r with
          | d x => exact h
          | al j => exact absurd rfl (hal _ List.mem_cons_self j)
          | pr m x =>
            obtain ⟨a, p, y, ea, ha, na, hy, hm, hq⟩ := h
            refine ⟨a, p, y, ea, ha, fun j hj => ?_, hy, hm, fun b hb => ⟨(hq b hb).1, fun j hj => ?_⟩⟩
            · by_cases z : j = i
              · rw [z, setS_i] at hj
                exact (hT a hj).2 _ ha
              · rw [setS_j z] at hj
                exact na j hj
            · by_cases z : j = i
              · rw [z, setS_i] at hj
                exact hd b (List.mem_append_left _ hb) hj
              · rw [setS_j z] at hj
                exact (hq b hb).2 j hj
          | mo m =>
            obtain ⟨a, ea, ha, hq⟩ := h
            refine ⟨a, ea, ha, fun b hb => ⟨(hq b hb).1, fun j hj => ?_⟩⟩
            by_cases z : j = i
            · rw [z, setS_i] at hj
              exact hd b (List.mem_append_left _ hb) hj
            · rw [setS_j z] at hj
              exact (hq b hb).2 j hj
      refine key rt (fun b hb hT => n b hT hb) fun r hr j z => ?_
      have nal : ∀ {rs : List Rs} {is : List Nat} {Γ Γ' : Ct}, Puts rs is Γ Γ' → ∀ r ∈ rs, r ≠ .al j := fun {rs is Γ Γ'} p => by
        induction p with
        | nil => exact fun r hr => nomatch hr
        | cons h _ _ ih =>
          intro r hr z
          rcases List.mem_cons.mp hr with e | e
          · rw [← e, z] at h
            cases h
          · exact ih r e z
      exact nal t r hr z
theorem Rvs.len {vs : List V} {rs : List Rs} {T : List Addr} (h : Rvs C σ S F H vs rs T) : vs.length = rs.length := by
  induction h with
  | nil => rfl
  | cons _ _ _ ih => rw [List.length_cons, List.length_cons, ih]
theorem Rvs.mono {vs : List V} {rs : List Rs} {T : List Addr} {H' : Hp} (h : Rvs C σ S F H vs rs T) (s : Same H H') : Rvs C σ S F H' vs rs T := by
  induction h with
  | nil => exact .nil
  | @cons v r T vs rs U h t n ih =>
    refine .cons ?_ ih n
    cases r with
    | d x => exact h
    | al j => exact h
    | pr m x =>
      obtain ⟨a, p, y, ea, ha, na, hy, hm, hq⟩ := h
      exact ⟨a, p, y, ea, s _ _ ha, na, hy, m.st hm (Same.refl F) fun b _ o z => s _ _ z, hq⟩
    | mo m =>
      obtain ⟨a, ea, ha, hq⟩ := h
      exact ⟨a, ea, m.st ha (Same.refl F) fun b _ o z => s _ _ z, hq⟩
theorem ws_names {Kf : PySem.W.Frag} {n : Nat} {ta : TA} (is : List Nat) (h : WA B C Γ ta fun Γ1 rs => rs.length ≤ 1000 ∧ n = rs.length ∧ ∃ Γ2, Puts rs is Γ1 Γ2 ∧ A.nx Γ2) : WS B C Γ (tAsg (tTup ta) (gTup Kf n (gNames is))) A := fun S σ F H D e d =>
  h S σ F H _ e fun Γ1 S1 F1 H1 rs T vs e1 m1 rv fr ⟨hl, hn, Γ2, hp, k⟩ => by
    have lv := rv.len
    refine ⟨sz2 (by omega), fun p hp0 => ⟨p, vs, rfl, SqT.of upd_same, by omega, ?_⟩⟩
    have g := Gr4.of e1.sub (Same.new (o := .tup vs) hp0)
    exact puts_env hp (e1.ext g) (rv.mono g.h) (fun b hb => none_of e.rel.al (fr b hb)) fun S' σ' e' => d.nx Γ2 S' σ' F1 _ m1.fr e' k
theorem ws_par {i j : Nat} {ta : TA} (h : WA B C Γ ta fun Γ1 rs => ∃ Γ2, Puts rs [i, j] Γ1 Γ2 ∧ A.nx Γ2) : WS B C Γ (tPar i j ta) A := fun S σ F H D e d =>
  h S σ F H _ e fun Γ1 S1 F1 H1 rs T vs e1 m1 rv fr ⟨Γ2, hp, k⟩ => by
    have q := puts_env (Q := fun σ' H' => D.nx σ' H') hp e1 rv (fun b hb => none_of e.rel.al (fr b hb)) fun S' σ' e' => d.nx Γ2 S' σ' F1 _ m1.fr e' k
    obtain ⟨v, r, rfl, w, r', rfl, rfl, q⟩ := q
    exact ⟨v, w, rfl, q⟩
end
end My
/-! loops, comprehensions -/
namespace My
open PySem PySem.Spec PyProof.Rows L2
/-- a walk over data, while the frozen part stands -/
def AWk (C : Addr) (F : Hp) (J : It) (es : List Da) : Prop := ∃ (G : Hp → Prop) (Y : Nat → Hp → V → Hp → Prop), Walk J es.length G Y ∧ (∀ H, Same F H → G H) ∧
  ∀ i F2 H x H', i < es.length → Same F F2 → Same F2 H → Y i H x H' → ∃ F3 d, es[i]? = some d ∧ Gr4 F2 H F3 H' ∧ At C F3 x d
def WI (B : Org) (C : Addr) (Γ : Ct) (wi : TI) (K : Ct → List Da → Prop) : Prop := ∀ S σ F H (R : It → Hp → Prop), Env B C Γ S σ F H →
  (∀ Γ' S' F' H' J es, Env B C Γ' S' σ F' H' → Mv S F H S' F' H' → AWk C F' J es → K Γ' es → R J H') → wi σ H R
section
variable {B : Org} {C : Addr} {Γ : Ct} {S S' : Fp} {σ : L2.St} {F F' H H' : Hp} {Q : VK} {v : V} {x : Da} {te ta tb tl : TE} {A : AE} {D : Ends} {t u : TS} {Kf : PySem.W.Frag}
theorem wi_list {K : Ct → List Da → Prop} (h : W B C Γ tl fun Γ1 r => ∃ l, Frz r (.lst l) ∧ K Γ1 l) : WI B C Γ (iList Kf tl) K := fun S σ F H R e c => by
  refine w_fz (K := fun Γ1 r => ∃ l, r = .d (.lst l) ∧ K Γ1 l) (h.mono fun Γ1 r ⟨l, h1, h2⟩ => ⟨_, h1, l, rfl, h2⟩) S σ F H _ e fun Γ1 S1 F1 H1 r T v e1 m1 rv fr ⟨l, er, k⟩ => ?_
  subst er
  obtain ⟨a, xs, rfl, h2, h3⟩ := rv.2.lstI
  refine ⟨a, rfl, ⟨xs, SqL.of (e1.sub _ _ h2)⟩, c Γ1 S1 F1 H1 _ l e1 m1 ⟨_, _, h3.len ▸ walk_list (xs := xs), fun H s => SqL.of (s _ _ h2), fun i F2 H x H' hi s1 s2 y => ?_⟩ k⟩
  obtain ⟨rfl, hx⟩ := y
  have hd : l[i]? = some l[i] := by simp [hi]
  exact ⟨F2, _, hd, Gr4.refl s2, (h3.at_ i x _ hx hd).same s1⟩
theorem wi_tup {K : Ct → List Da → Prop} (h : W B C Γ tl fun Γ1 r => ∃ l, r = .d (.tup l) ∧ K Γ1 l) : WI B C Γ (iTup Kf tl) K := fun S σ F H R e c => by
  refine h S σ F H _ e fun Γ1 S1 F1 H1 r T v e1 m1 rv fr ⟨l, er, k⟩ => ?_
  subst er
  obtain ⟨a, xs, rfl, h2, h3⟩ := rv.2.tupI
  refine ⟨a, rfl, ⟨xs, SqT.of (e1.sub _ _ h2)⟩, c Γ1 S1 F1 H1 _ l e1 m1 ⟨_, _, h3.len ▸ walk_tup (xs := xs), fun H s => SqT.of (s _ _ h2), fun i F2 H x H' hi s1 s2 y => ?_⟩ k⟩
  obtain ⟨rfl, hx⟩ := y
  have hd : l[i]? = some l[i] := by simp [hi]
  exact ⟨F2, _, hd, Gr4.refl s2, (h3.at_ i x _ hx hd).same s1⟩
def rngD (lo : Int) (n : Nat) : List Da := (List.range n).map fun (i : Nat) => .int (lo + i)
theorem rngD_len {lo : Int} {n : Nat} : (rngD lo n).length = n := by
  unfold rngD
  rw [List.length_map, List.length_range]
theorem rngD_get {lo : Int} {n i : Nat} (h : i < n) : (rngD lo n)[i]? = some (.int (lo + i)) := by
  unfold rngD
  rw [List.getElem?_map, List.getElem?_range h] <;> rfl
theorem rngD_inv {lo : Int} {n i : Nat} (h : (rngD lo n)[i]? = some x) : i < n ∧ x = .int (lo + i) := by
  have hi : i < n := by
    have := (List.getElem?_eq_some_iff.mp h).1
    rw [rngD_len] at this
    exact this
  rw [rngD_get hi] at h
  exact ⟨hi, (Option.some.inj h).symm⟩
theorem rngD_inv0 {n i : Nat} (h : (rngD 0 n)[i]? = some x) : i < n ∧ x = .int i := by
  obtain ⟨h1, h2⟩ := rngD_inv h
  rw [Int.zero_add] at h2
  exact ⟨h1, h2⟩
theorem awk_rng {lo : Int} {n : Nat} : AWk C F (Itr lo n) (rngD lo n) := by
  refine ⟨_, _, (show Walk (Itr lo n) (rngD lo n).length (fun _ => True) (YFn fun i => .int (lo + i)) by rw [rngD_len]; exact walk_range), fun _ _ => trivial, fun i F2 H x H' hi s1 s2 y => ?_⟩
  obtain ⟨rfl, rfl⟩ := y
  rw [rngD_len] at hi
  exact ⟨F2, _, rngD_get hi, Gr4.refl s2, .int _⟩
theorem wi_rng1 {ta : TA} {K : Ct → List Da → Prop} (h : WA B C Γ ta fun Γ1 rs => ∃ n : Int, rs = [.d (.int n)] ∧ (-(2 ^ 62) ≤ n ∧ n < 2 ^ 62) ∧ K Γ1 (rngD 0 n.toNat)) : WI B C Γ (iRng1 ta) K := fun S σ F H R e c =>
  h S σ F H _ e fun Γ1 S1 F1 H1 rs T vs e1 m1 rv fr ⟨n, er, hn, k⟩ => by
    subst er
    have a := Rvs.ats (ds := [.int n]) rv
    obtain rfl : vs = [.int n] := by
      obtain ⟨x, h1, h2⟩ := a.get (i := 0) rfl
      have l := a.len
      cases vs with
      | nil => cases h1
      | cons y r =>
        cases r with
        | nil =>
          cases h1
          rw [h2.intI]
        | cons z r => exact absurd l (by simp)
    exact ⟨n, rfl, hn.1, hn.2, c Γ1 S1 F1 H1 _ _ e1 m1 awk_rng k⟩
theorem wi_rng2 {ta : TA} {K : Ct → List Da → Prop} (h : WA B C Γ ta fun Γ1 rs => ∃ m n : Int, rs = [.d (.int m), .d (.int n)] ∧ (-(2 ^ 62) ≤ m ∧ m < 2 ^ 62 ∧ -(2 ^ 62) ≤ n ∧ n < 2 ^ 62) ∧ K Γ1 (rngD m (n - m).toNat)) : WI B C Γ (iRng2 ta) K := fun S σ F H R e c =>
  h S σ F H _ e fun Γ1 S1 F1 H1 rs T vs e1 m1 rv fr ⟨m, n, er, hn, k⟩ => by
    subst er
    have a := Rvs.ats (ds := [.int m, .int n]) rv
    obtain rfl : vs = [.int m, .int n] := by
      cases vs with
      | nil => exact absurd a.len (by simp)
      | cons y r =>
        have a1 := a.hd
        have a2 := a.tl
        cases r with
        | nil => exact absurd a2.len (by simp)
        | cons z r =>
          have a3 := a2.tl
          have : r = [] := List.length_eq_zero_iff.mp a3.len
          rw [a1.intI, a2.hd.intI, this]
    exact ⟨m, n, rfl, hn, c Γ1 S1 F1 H1 _ _ e1 m1 awk_rng k⟩
/-- the signs of a text -/
def sgsD (z : Str) : List Da := z.cps.toList.map fun c => .str ⟨#[c]⟩
theorem sgsD_len {z : Str} : (sgsD z).length = z.cps.size := by
  unfold sgsD
  rw [List.length_map, Array.length_toList]
theorem wi_str {K : Ct → List Da → Prop} (h : W B C Γ te fun Γ1 r => ∃ z, r = .d (.str z) ∧ K Γ1 (sgsD z)) : WI B C Γ (iStr te) K := fun S σ F H R e c =>
  h S σ F H _ e fun Γ1 S1 F1 H1 r T v e1 m1 rv fr ⟨z, er, k⟩ => by
    subst er
    refine ⟨z, rv.2.strI, c Γ1 S1 F1 H1 _ _ e1 m1 ⟨_, _, (sgsD_len (z := z)).symm ▸ walk_str, fun _ _ => trivial, fun i F2 H x H' hi s1 s2 y => ?_⟩ k⟩
    obtain ⟨rfl, c', hc, rfl⟩ := y
    refine ⟨F2, .str ⟨#[c']⟩, ?_, Gr4.refl s2, .str _⟩
    unfold sgsD
    rw [List.getElem?_map, ← Array.getElem?_toList.symm, hc] <;> rfl
/-- numbered -/
def enumD (l : List Da) : List Da := (List.range l.length).map fun (i : Nat) => .tup [.int i, l.getD i .non]
theorem enumD_len {l : List Da} : (enumD l).length = l.length := by
  unfold enumD
  rw [List.length_map, List.length_range]
theorem enumD_get {l : List Da} {i : Nat} (h : i < l.length) : (enumD l)[i]? = some (.tup [.int i, l[i]]) := by
  unfold enumD
  rw [List.getElem?_map, List.getElem?_range h, Option.map_some, List.getD_eq_getElem?_getD, List.getElem?_eq_getElem h] <;> rfl
theorem pair_gr {F2 H : Hp} {T : Addr} {a b : V} {d e : Da} (s : Same F2 H) (h : H T = none) (ha : At C F2 a d) (hb : At C F2 b e) : Gr4 F2 H (upd F2 T (.tup [a, b])) (upd H T (.tup [a, b])) ∧ At C (upd F2 T (.tup [a, b])) (.ref T) (.tup [d, e]) := by
  have g := Gr4.fz (o := .tup [a, b]) s h
  exact ⟨g, .tup' upd_same (.cons (ha.same g.f) (.cons (hb.same g.f) .nil))⟩
theorem awk_enum {a : Addr} {xs : List V} {l : List Da} (h : F a = some (.lst xs)) (p : Ats C F xs l) : AWk C F (Ite Kf a) (enumD l) := by
  refine ⟨_, _, (enumD_len (l := l)).symm ▸ p.len ▸ walk_enum (xs := xs), fun H s => SqL.of (s _ _ h), fun i F2 H x H' hi s1 s2 y => ?_⟩
  rw [enumD_len] at hi
  obtain ⟨T, a1, b1, rfl, hT, rfl, h1, h2⟩ := y
  cases h1
  have hd : l[i]? = some l[i] := by simp [hi]
  obtain ⟨g, q⟩ := pair_gr (C := C) s2 hT (.int (i : Nat)) ((p.at_ i _ _ h2 hd).same s1)
  exact ⟨_, _, enumD_get hi, g, q⟩
theorem wi_enum {ta : TA} {K : Ct → List Da → Prop} (h : WA B C Γ ta fun Γ1 rs => ∃ l, rs = [.d (.lst l)] ∧ K Γ1 (enumD l)) : WI B C Γ (iEnum Kf ta) K := fun S σ F H R e c =>
  h S σ F H _ e fun Γ1 S1 F1 H1 rs T vs e1 m1 rv fr ⟨l, er, k⟩ => by
    subst er
    have q := Rvs.ats (ds := [.lst l]) rv
    cases vs with
    | nil => exact absurd q.len (by simp)
    | cons y r =>
      have : r = [] := List.length_eq_zero_iff.mp q.tl.len
      subst this
      obtain ⟨a, xs, rfl, h2, h3⟩ := q.hd.lstI
      exact ⟨a, xs, rfl, SqL.of (e1.sub _ _ h2), c Γ1 S1 F1 H1 _ _ e1 m1 (awk_enum h2 h3) k⟩
/-! for -/
theorem ws_for {is : List Nat} {wi : TI} {g : TG} {tb : TS} (h : WI B C Γ wi fun Γ1 es => ∃ I : Nat → Ct → Prop, I 0 Γ1 ∧
    (∀ i x Γ2, es[i]? = some x → I i Γ2 → WG C B is g Γ2 x fun Γ3 => WS B C Γ3 tb { A with nx := I (i + 1), ct := I (i + 1), bk := A.nx }) ∧ ∀ Γ2, I es.length Γ2 → A.nx Γ2) : WS B C Γ (tFor wi g tb) A := fun S σ F H D e d =>
  h S σ F H _ e fun Γ1 S1 F1 H1 J es e1 m1 ⟨G, Y, w, hG, hY⟩ ⟨I, i0, turn, fin⟩ => by
    refine for_it w (fun i σ H => ∃ Γ2 S2 F2, Env B C Γ2 S2 σ F2 H ∧ Same F1 F2 ∧ I i Γ2) ⟨Γ1, S1, F1, e1, Same.refl F1, i0⟩ (fun i σ H _ ⟨Γ2, S2, F2, e2, s2, _⟩ => hG H (s2.trans e2.sub)) (fun i v σ H H' hi ⟨Γ2, S2, F2, e2, s2, k⟩ y => ?_) (fun σ H ⟨Γ2, S2, F2, e2, s2, k⟩ => d.nx Γ2 S2 σ F2 H (m1.fr.trans s2) e2 (fin Γ2 k))
    obtain ⟨F3, x, hx, g3, a⟩ := hY i F2 H v H' hi s2 e2.sub y
    refine turn i x Γ2 hx k S2 σ F3 H' v _ (e2.ext g3) a fun Γ3 S3 σ3 e3 _ _ _ k3 => k3 S3 σ3 F3 H' _ e3 ?_
    have sF : Same F1 F3 := s2.trans g3.f
    exact ⟨fun Γ4 S4 σ4 F4 H4 s4 e4 k4 => ⟨Γ4, S4, F4, e4, sF.trans s4, k4⟩, fun Γ4 S4 σ4 F4 H4 r T v s4 => d.rt Γ4 S4 σ4 F4 H4 r T v ((m1.fr.trans sF).trans s4), fun Γ4 S4 σ4 F4 H4 s4 => d.nx Γ4 S4 σ4 F4 H4 ((m1.fr.trans sF).trans s4), fun Γ4 S4 σ4 F4 H4 s4 e4 k4 => ⟨Γ4, S4, F4, e4, sF.trans s4, k4⟩⟩
/-! while -/
theorem ws_while {c : TT} {tb : TS} (I : Nat → Ct → Prop) (m : Nat) (i0 : I m Γ)
    (turn : ∀ m Γ2, I m Γ2 → WT B C Γ2 c fun Γ3 b => (b = true → WS B C Γ3 tb { A with nx := fun Γ4 => ∃ m', m' < m ∧ I m' Γ4, ct := fun Γ4 => ∃ m', m' < m ∧ I m' Γ4, bk := A.nx }) ∧ (b = false → A.nx Γ3)) : WS B C Γ (tWhile c tb) A := fun S σ F H D e d => by
  refine ⟨fun m σ H => ∃ Γ2 S2 F2, Env B C Γ2 S2 σ F2 H ∧ Same F F2 ∧ I m Γ2, ⟨m, Γ, S, F, e, Same.refl F, i0⟩, fun m σ H ⟨Γ2, S2, F2, e2, s2, k⟩ => ?_⟩
  refine turn m Γ2 k S2 σ F2 H _ e2 fun Γ3 S3 F3 H3 b e3 m3 ⟨k1, k2⟩ => ?_
  cases b with
  | true =>
    have sF : Same F F3 := s2.trans m3.fr
    refine ⟨fun σ H => ∃ m', m' < m ∧ ∃ Γ2 S2 F2, Env B C Γ2 S2 σ F2 H ∧ Same F F2 ∧ I m' Γ2, fun σ H z => z, k1 rfl S3 σ F3 H3 _ e3 ?_⟩
    exact ⟨fun Γ4 S4 σ4 F4 H4 s4 e4 ⟨m', l, k4⟩ => ⟨m', l, Γ4, S4, F4, e4, sF.trans s4, k4⟩, fun Γ4 S4 σ4 F4 H4 r T v s4 => d.rt Γ4 S4 σ4 F4 H4 r T v (sF.trans s4), fun Γ4 S4 σ4 F4 H4 s4 => d.nx Γ4 S4 σ4 F4 H4 (sF.trans s4), fun Γ4 S4 σ4 F4 H4 s4 e4 ⟨m', l, k4⟩ => ⟨m', l, Γ4, S4, F4, e4, sF.trans s4, k4⟩⟩
  | false => exact d.nx Γ3 S3 σ F3 H3 (s2.trans m3.fr) e3 (k2 rfl)
/-! comprehensions -/
def wipeC (Γ : Ct) : List Nat → Ct
  | [] => Γ
  | i :: is => (wipeC Γ is).set i .un
def UnAt (Γ : Ct) (vs : List Nat) : Prop := ∀ i ∈ vs, i < Γ.length → Γ[i]? = some .un
theorem wipeC_len (Γ : Ct) : ∀ vs : List Nat, (wipeC Γ vs).length = Γ.length
  | [] => rfl
  | i :: is => by
    show ((wipeC Γ is).set i .un).length = _
    rw [List.length_set, wipeC_len Γ is]
theorem wipeC_un (Γ : Ct) : ∀ vs : List Nat, UnAt (wipeC Γ vs) vs
  | [] => fun _ h => nomatch h
  | i :: is => fun j hj hl => by
    have hl2 : j < (wipeC Γ is).length := by rw [wipeC_len] at hl ⊢; exact hl
    show ((wipeC Γ is).set i .un)[j]? = some .un
    by_cases z : j = i
    · rw [z] at hl2 ⊢
      exact List.getElem?_set_self hl2
    · rw [List.getElem?_set_ne (Ne.symm z)]
      rcases List.mem_cons.mp hj with y | y
      · exact absurd y z
      · exact wipeC_un Γ is j y hl2
theorem Env.wipe : ∀ (vs : List Nat) {S : Fp}, Env B C Γ S σ F H → ∃ S', Env B C (wipeC Γ vs) S' (L2.wipe σ vs) F H ∧ ∀ i b, b ∈ S' i → b ∈ S i
  | [], S, e => ⟨S, e, fun _ _ h => h⟩
  | i :: is, S, e => by
    obtain ⟨S1, e1, h1⟩ := Env.wipe is e
    refine ⟨setS S1 i [], e1.un i, fun j b hb => ?_⟩
    by_cases z : j = i
    · rw [z, setS_i] at hb; cases hb
    · rw [setS_j z] at hb
      exact h1 j b hb
theorem Env.slots' {σ' : L2.St} {vs : List Nat} (e : Env B C Γ S σ F H) (hu : UnAt Γ vs) (hw : L2.wipe σ' vs = L2.wipe σ vs) : Env B C Γ S σ' F H := by
  have hl : σ'.length = σ.length := by rw [← L2.wipe_length σ' vs, hw, L2.wipe_length]
  refine e.slots hl fun i => ?_
  by_cases hi : i ∈ vs
  · rcases Nat.lt_or_ge i Γ.length with z | z
    · exact .inr (hu i hi z)
    · left
      rw [List.getElem?_eq_none (by rw [hl, e.len]; exact z), List.getElem?_eq_none (by rw [e.len]; exact z)]
  · left
    rw [← L2.wipe_out hi, hw, L2.wipe_out hi]
theorem wipe_wipe (σ : L2.St) (vs : List Nat) : L2.wipe (L2.wipe σ vs) vs = L2.wipe σ vs := by
  apply List.ext_getElem?
  intro i
  by_cases hi : i ∈ vs
  · have key : ∀ (ws : List Nat) (τ : L2.St), i ∈ ws → i < τ.length → (L2.wipe τ ws)[i]? = some none := by
      intro ws
      induction ws with
      | nil => exact fun _ h => nomatch h
      | cons w ws ih =>
        intro τ h hl
        show ((L2.wipe τ ws).set w none)[i]? = some none
        by_cases z : i = w
        · rw [z] at hl ⊢
          exact List.getElem?_set_self (by rw [L2.wipe_length]; exact hl)
        · rw [List.getElem?_set_ne (Ne.symm z)]
          rcases List.mem_cons.mp h with y | y
          · exact absurd y z
          · exact ih τ y hl
    rcases Nat.lt_or_ge i σ.length with z | z
    · rw [key vs _ hi (by rw [L2.wipe_length]; exact z), key vs _ hi z]
    · rw [List.getElem?_eq_none (by rw [L2.wipe_length, L2.wipe_length]; exact z), List.getElem?_eq_none (by rw [L2.wipe_length]; exact z)]
  · rw [L2.wipe_out hi]
theorem wipe_same {σ1 σ : L2.St} {is vs : List Nat} (hl : σ1.length = σ.length) (h : ∀ j, j ∉ is → σ1[j]? = σ[j]?) (hv : ∀ i ∈ is, i ∈ vs) : L2.wipe σ1 vs = L2.wipe σ vs := by
  have key : ∀ (ws : List Nat) (τ : L2.St) (i : Nat), i ∈ ws → i < τ.length → (L2.wipe τ ws)[i]? = some none := by
    intro ws
    induction ws with
    | nil => exact fun _ _ h => nomatch h
    | cons w ws ih =>
      intro τ i h hl
      show ((L2.wipe τ ws).set w none)[i]? = some none
      by_cases z : i = w
      · rw [z] at hl ⊢
        exact List.getElem?_set_self (by rw [L2.wipe_length]; exact hl)
      · rw [List.getElem?_set_ne (Ne.symm z)]
        rcases List.mem_cons.mp h with y | y
        · exact absurd y z
        · exact ih τ i y hl
  apply List.ext_getElem?
  intro i
  by_cases hi : i ∈ vs
  · rcases Nat.lt_or_ge i σ.length with z | z
    · rw [key vs _ i hi (by rw [hl]; exact z), key vs _ i hi z]
    · rw [List.getElem?_eq_none (by rw [L2.wipe_length, hl]; exact z), List.getElem?_eq_none (by rw [L2.wipe_length]; exact z)]
  · rw [L2.wipe_out hi, L2.wipe_out hi]
    exact h i fun z => hi (hv i z)
/-- an object that nobody's is may change -/
theorem Env.mutD {p : Addr} {o : HO} (e : Env B C Γ S σ F H) (hF : F p = none) (hn : ∀ i, p ∉ S i) (h0 : B.H0 p = none) : Env B C Γ S σ F (upd H p o) := by
  have s : Same F (upd H p o) := fun b u h => by
    rw [upd_ne (ne_of_none h hF)]
    exact e.sub _ _ h
  refine ⟨s, e.len, fun i s h => ?_, e.out, e.fz, e.own, e.dis, e.rel.fr, fun b u n h => ?_, fun b h => ?_, e.rel.mu, fun b h => ?_⟩
  · have k := e.sl i s h
    cases s with
    | un => exact k
    | d x => exact k
    | mo m =>
      obtain ⟨a, h1, h2⟩ := k
      refine ⟨a, h1, m.st h2 (Same.refl F) fun b hb u hu => ?_⟩
      rw [upd_ne (fun z => hn i (by rw [← z]; exact hb))]
      exact hu
  · rw [upd_ne (ne_of_none h h0)]
    exact e.rel.kp b u n h
  · by_cases z : b = p
    · rw [z, upd_same]
      exact fun w => nomatch w
    · rw [upd_ne z]
      exact e.rel.al b h
  · have z : b ≠ p := fun z => h.1 (z ▸ h0)
    rw [upd_ne z]
    exact e.rel.mt b h
theorem wt_yes {K : Ct → Bool → Prop} (k : K Γ true) : WT B C Γ tYes K := fun S σ F H Q e c => c Γ S F H true e .refl k
theorem w_lc {is vs : List Nat} {wi : TI} {g : TG} {tt : TT} {K : Ct → Rs → Prop} (hv : ∀ i ∈ is, i ∈ vs) (h : WI B C Γ wi fun Γ1 es => es.length < sizeLine ∧ ∃ I : Nat → Ct → List Da → Prop, I 0 (wipeC Γ1 vs) [] ∧
    (∀ i x Γ2 acc, es[i]? = some x → acc.length ≤ i → I i Γ2 acc → UnAt Γ2 vs → WG C B is g Γ2 x fun Γ3 => WT B C Γ3 tt fun Γ4 b => (b = true → W B C Γ4 te fun Γ5 r => ∃ d, Frz r d ∧ I (i + 1) (wipeC Γ5 vs) (acc ++ [d])) ∧ (b = false → I (i + 1) (wipeC Γ4 vs) acc)) ∧
    ∀ Γ2 acc, I es.length Γ2 acc → acc.length ≤ es.length → UnAt Γ2 vs → K Γ2 (.mo (ML acc))) : W B C Γ (tLc wi g tt te vs) K := fun S σ F H Q e c =>
  h S σ F H _ e fun Γ1 S1 F1 H1 J es e1 m1 ⟨G, Y, w, hG, hY⟩ ⟨hes, I, i0, turn, fin⟩ D hD => by
    have h0D : B.H0 D = none := none_of e1.rel.al hD
    have hsD : H D = none := none_of m1.al hD
    have fF : F1 D = none := e1.sub.free hD
    refine lc_it w (fun i H2 => ∃ Γ2 S2 F2 acc xs, Env B C Γ2 S2 (L2.wipe σ vs) F2 H2 ∧ Mv S F H S2 F2 H2 ∧ Same F1 F2 ∧ H2 D = some (.lst xs) ∧ Ats C F2 xs acc ∧ F2 D = none ∧ (∀ j, D ∉ S2 j) ∧ UnAt Γ2 vs ∧ acc.length ≤ i ∧ I i Γ2 acc) ?_ ?_ ?_ ?_
    · obtain ⟨S2, e2, h2⟩ := e1.wipe vs
      have g := Gr4.of e1.sub (Same.new (o := .lst []) hD)
      refine ⟨wipeC Γ1 vs, S2, F1, [], [], e2.ext g, ⟨m1.fr, fun b o n q => g.h _ _ (m1.kp b o n q), fun b q z => m1.al b q (g.h.free z), m1.mu, fun b q => g.mt b (m1.mt b q), fun j b hb => m1.nw j b (h2 j b hb)⟩, Same.refl F1, upd_same, .nil, fF, fun j hj => (e1.lv (h2 j D hj)).1 hD, wipeC_un Γ1 vs, Nat.le_refl _, i0⟩
    · rintro i H2 _ ⟨Γ2, S2, F2, acc, xs, e2, _, s2, _⟩
      exact hG H2 (s2.trans e2.sub)
    · rintro i v H2 H3 hi ⟨Γ2, S2, F2, acc, xs, e2, m2, s2, hl, ha, hF, hS, hu, hacc, k⟩ y
      obtain ⟨F3, x, hx, g3, a⟩ := hY i F2 H2 v H3 hi s2 e2.sub y
      have e3 := e2.ext g3
      have m3 := m2.trans (.ext g3)
      have hl3 := g3.h _ _ hl
      have hF3 : F3 D = none := g3.mu D hF (by rw [hl]; exact .lst)
      refine turn i x Γ2 acc hx hacc k hu S2 _ F3 H3 v _ e3 a fun Γ3 S3 σ3 e4 y4 w4 l4 k4 => ?_
      have ew : L2.wipe σ3 vs = L2.wipe σ vs := by rw [wipe_same l4 w4 hv, wipe_wipe]
      refine ⟨ew, ?_⟩
      have m4 : Mv S F H S3 F3 H3 := m3.trans ⟨Same.refl F3, fun _ _ _ h => h, fun _ h => h, fun _ h _ _ => h, fun _ h => h, fun j b hb => .inl (y4 j b hb)⟩
      have hS3 : ∀ j, D ∉ S3 j := fun j hj => hS j (y4 j D hj)
      have nD : Mt (H3 D) := by rw [hl3]; exact .lst
      have stay : ∀ {S5 F5 H5}, Mv S3 F3 H3 S5 F5 H5 → H5 D = some (.lst xs) ∧ Ats C F5 xs acc ∧ F5 D = none ∧ ∀ j, D ∉ S5 j := fun {S5 F5 H5} m => by
        refine ⟨m.kp D _ hS3 hl3, ha.same (g3.f.trans m.fr), m.mu D hF3 nD hS3, fun j hj => ?_⟩
        rcases m.nw j D hj with z | z
        · exact hS3 j z
        · exact nD.1 z
      refine k4 S3 σ3 F3 H3 _ e4 fun Γ4 S4 F4 H4 b e5 m5 ⟨kt, kf⟩ => ?_
      obtain ⟨d1, d2, d3, d4⟩ := stay m5
      have m45 := m4.trans m5
      cases b with
      | false =>
        rw [if_neg Bool.false_ne_true]
        obtain ⟨S6, e6, h6⟩ := e5.wipe vs
        rw [ew] at e6
        exact ⟨_, S6, F4, acc, xs, e6, m45.trans ⟨Same.refl F4, fun _ _ _ h => h, fun _ h => h, fun _ h _ _ => h, fun _ h => h, fun j b hb => .inl (h6 j b hb)⟩, (s2.trans g3.f).trans m5.fr, d1, d2, d3, fun j hj => d4 j (h6 j D hj), wipeC_un Γ4 vs, Nat.le_succ_of_le hacc, kf rfl⟩
      | true =>
        rw [if_pos rfl]
        refine w_fz (K := fun Γ5 r => ∃ d, r = .d d ∧ I (i + 1) (wipeC Γ5 vs) (acc ++ [d])) ((kt rfl).mono fun Γ5 r ⟨d, h1, h2⟩ => ⟨d, h1, d, rfl, h2⟩) S4 σ3 F4 H4 _ e5 fun Γ5 S5 F5 H5 r T w e7 m7 rv fr ⟨d, er, k5⟩ => ?_
        subst er
        have m57 := m5.trans m7
        obtain ⟨f1, f2, f3, f4⟩ := stay m57
        obtain ⟨S6, e6, h6⟩ := e7.wipe vs
        rw [ew] at e6
        have fS : ∀ j, D ∉ S6 j := fun j hj => f4 j (h6 j D hj)
        have hlx : xs.length < sizeLine := by rw [f2.len]; omega
        refine ⟨xs, f1, hlx, wipeC Γ5 vs, S6, F5, acc ++ [d], xs ++ [w], e6.mutD f3 fS h0D, ?_, (s2.trans g3.f).trans m57.fr, upd_same, f2.snoc rv.2, f3, fS, wipeC_un Γ5 vs, by rw [List.length_append]; show acc.length + 1 ≤ i + 1; omega, k5⟩
        have m8 := m4.trans m57
        refine ⟨m8.fr, fun b o n q => ?_, fun b q => ?_, m8.mu, fun b q => ?_, fun j b hb => m8.nw j b (h6 j b hb)⟩
        · rw [upd_ne (ne_of_none q hsD)]
          exact m8.kp b o n q
        · by_cases z : b = D
          · rw [z, upd_same]
            exact fun w => nomatch w
          · rw [upd_ne z]
            exact m8.al b q
        · rw [upd_ne (fun z => q.1 (by rw [z]; exact hsD))]
          exact m8.mt b q
    · rintro H2 ⟨Γ2, S2, F2, acc, xs, e2, m2, s2, hl, ha, hF, hS, hu, hacc, k⟩
      refine c Γ2 S2 F2 H2 (.mo (ML acc)) [D] _ (e2.slots' hu (wipe_wipe σ vs).symm) m2 ⟨D, rfl, ⟨rfl, xs, hl, ha⟩, fun b hb => ?_⟩ (fun b hb => by rw [List.mem_singleton.mp hb]; exact hsD) (fin Γ2 acc k hacc hu)
      rw [List.mem_singleton.mp hb]
      exact ⟨hF, hS⟩
end
end My
/-! lists, texts, comparisons -/
namespace My
open PySem PySem.Spec PyProof.Rows L2
section
variable {B : Org} {C : Addr} {Γ : Ct} {S S' : Fp} {σ : L2.St} {F F' H H' : Hp} {Q : VK} {v : V} {x : Da} {te ta tb : TE} {Kf : PySem.W.Frag} {K : Ct → Rs → Prop}
/-! what changes -/
structure Chg (F H : Hp) (S : List Addr) (F' H' : Hp) (T : List Addr) : Prop where
  f : Same F F'
  s : Same F' H'
  kp : ∀ b o, b ∉ S → H b = some o → H' b = some o
  mu : ∀ b, F b = none → Mt (H b) → F' b = none
  mt : ∀ b ∈ S, Mt (H' b)
  fT : ∀ b ∈ T, F' b = none
  nw : ∀ b ∈ T, b ∈ S ∨ H b = none
theorem Env.chg {i : Nat} {m m' : MO} {a : Addr} {T : List Addr} (e : Env B C Γ S σ F H) (hi : Γ[i]? = some (.mo m)) (ha : σ[i]? = some (some (.ref a))) (h : Chg F H (S i) F' H' T) (hm : m'.p C F' H' a T) :
    Env B C (Γ.set i (.mo m')) (setS S i T) σ F' H' ∧ Mv S F H (setS S i T) F' H' := by
  have il : i < Γ.length := (List.getElem?_eq_some_iff.mp hi).1
  have n0 : ∀ b, Mt (H b) → Mt (H' b) := fun b hb => by
    by_cases z : b ∈ S i
    · exact h.mt b z
    · cases q : H b with
      | none => exact absurd q hb.1
      | some o =>
        rw [h.kp b o z q]
        rw [q] at hb
        exact hb
  have al : ∀ b, H b ≠ none → H' b ≠ none := fun b hb => by
    by_cases z : b ∈ S i
    · exact (h.mt b z).1
    · cases q : H b with
      | none => exact absurd q hb
      | some o =>
        rw [h.kp b o z q]
        exact fun w => nomatch w
  have nT : ∀ j b, j ≠ i → b ∈ S j → b ∉ T := fun j b hj hb hT => by
    rcases h.nw b hT with z | z
    · exact hj (e.dis j i b hb z)
    · exact (e.lv hb).1 z
  refine ⟨⟨h.s, by rw [List.length_set]; exact e.len, fun j s hj => ?_, fun j hj => ?_, fun j b hb => ?_, fun j b hb => ?_, fun j k b hj hk => ?_, ?_⟩, ?_⟩
  · by_cases z : j = i
    · subst z
      rw [List.getElem?_set_self il] at hj
      cases hj
      rw [setS_i]
      exact ⟨a, ha, hm⟩
    · rw [List.getElem?_set_ne (Ne.symm z)] at hj
      rw [setS_j z]
      have k := e.sl j s hj
      cases s with
      | un => exact k
      | d x => exact ⟨k.1, let ⟨v, h1, h2⟩ := k.2; ⟨v, h1, h2.same h.f⟩⟩
      | mo m =>
        obtain ⟨c, h1, h2⟩ := k
        exact ⟨c, h1, m.st h2 h.f fun b hb o q => h.kp b o (fun w => z (e.dis j i b hb w)) q⟩
  · have z : j ≠ i := fun z => by
      rw [z, List.getElem?_set_self il] at hj
      cases hj
    rw [List.getElem?_set_ne (Ne.symm z)] at hj
    rw [setS_j z]
    exact e.out j hj
  · by_cases z : j = i
    · rw [z, setS_i] at hb
      exact h.fT b hb
    · rw [setS_j z] at hb
      exact h.mu b (e.fz j b hb) (e.lv hb)
  · by_cases z : j = i
    · rw [z, setS_i] at hb
      rcases h.nw b hb with w | w
      · rw [z]
        exact e.own i b w
      · exact .inr (none_of e.rel.al w)
    · rw [setS_j z] at hb
      exact e.own j b hb
  · by_cases z : j = i
    · by_cases y : k = i
      · rw [z, y]
      · rw [z, setS_i] at hj
        rw [setS_j y] at hk
        exact absurd hj (nT k b y hk)
    · rw [setS_j z] at hj
      by_cases y : k = i
      · rw [y, setS_i] at hk
        exact absurd hk (nT j b z hj)
      · rw [setS_j y] at hk
        exact e.dis j k b hj hk
  · refine ⟨e.rel.fr.trans h.f, fun b o n q => ?_, fun b q => al b (e.rel.al b q), fun b h1 h2 => h.mu b (e.rel.mu b h1 h2) (e.rel.mt b h2), fun b q => n0 b (e.rel.mt b q)⟩
    have nb : b ∉ S i := fun z => by
      rcases e.own i b z with w | w
      · exact n i w
      · rw [q] at w; cases w
    exact h.kp b o nb (e.rel.kp b o n q)
  · refine ⟨h.f, fun b o n q => h.kp b o (n i) q, al, fun b h1 h2 _ => h.mu b h1 h2, n0, fun j b hb => ?_⟩
    by_cases z : j = i
    · rw [z, setS_i] at hb
      rw [z]
      exact h.nw b hb
    · rw [setS_j z] at hb
      exact .inl hb
/-- one object of one's own is written anew -/
theorem Chg.one {a : Addr} {o : HO} (s : Same F H) (hF : F a = none) (hm : Mt (some o)) : Chg F H [a] F (upd H a o) [a] := by
  refine ⟨Same.refl F, fun b u q => ?_, fun b u n q => ?_, fun b q _ => q, fun b hb => ?_, fun b hb => ?_, fun b hb => .inl hb⟩
  · rw [upd_ne (ne_of_none q hF)]
    exact s _ _ q
  · rw [upd_ne fun z => n (by rw [z]; exact List.mem_singleton.mpr rfl)]
    exact q
  · rw [List.mem_singleton.mp hb, upd_same]
    exact hm
  · rw [List.mem_singleton.mp hb]
    exact hF
theorem w_append {i : Nat} {l : List Da} (hi : Γ[i]? = some (.mo (ML l))) (h : W B C Γ te fun Γ1 r => ∃ d l1, Frz r d ∧ Γ1[i]? = some (.mo (ML l1)) ∧ l1.length < 1000000 ∧ K (Γ1.set i (.mo (ML (l1 ++ [d])))) (.d .non)) : W B C Γ (tBM Kf "list" rAppend (tVar i) (tCons te tNil)) K := fun S σ F H Q e c => by
  obtain ⟨a, ha, _, xs, h1, h2⟩ := e.sl i _ hi
  refine ⟨_, ha, .inl ⟨rfl, xs, SqL.of h1⟩, ?_⟩
  refine w_fz (K := fun Γ1 r => ∃ d l1, r = .d d ∧ Γ1[i]? = some (.mo (ML l1)) ∧ l1.length < 1000000 ∧ K (Γ1.set i (.mo (ML (l1 ++ [d])))) (.d .non)) (h.mono fun Γ1 r ⟨d, l1, q1, q2, q3, q4⟩ => ⟨d, q1, d, l1, rfl, q2, q3, q4⟩) S σ F H _ e fun Γ1 S1 F1 H1 r T v e1 m1 rv fr ⟨d, l1, er, hi1, hl, k⟩ => ?_
  subst er
  obtain ⟨a', ha', hS, ys, g1, g2⟩ := e1.sl i _ hi1
  rw [ha] at ha'
  cases ha'
  refine ⟨a, ys, v, rfl, rfl, g1, Nat.lt_of_lt_of_le (show ys.length < 1000000 by rw [g2.len]; exact hl) (by decide), ?_⟩
  have hF : F1 a = none := e1.fz i a (by rw [hS]; exact List.mem_singleton.mpr rfl)
  have ch := Chg.one (o := .lst (ys ++ [v])) e1.sub hF .lst
  rw [← hS] at ch
  obtain ⟨e2, m2⟩ := Env.chg (m' := ML (l1 ++ [d])) (T := S1 i) e1 hi1 ha ch ⟨hS, ys ++ [v], upd_same, g2.snoc rv.2⟩
  exact c _ _ F1 _ (.d .non) [] .non e2 (m1.trans m2) ⟨rfl, .non⟩ (fun _ h => nomatch h) k
/-! lengths, slices, joins of lists -/
theorem vs1 {vs : List V} {r : Rs} {T : List Addr} (h : Rvs C σ S F H vs [r] T) : ∃ v T', vs = [v] ∧ Rv C σ S F H v r T' := by
  cases h with
  | cons h t n =>
    cases t
    exact ⟨_, _, rfl, h⟩
theorem wc_lenL {r : Rs} {l : List Da} (h : VwL Γ r l) (k : K Γ (.d (.int (l.length : Nat)))) : WC B C Γ (fun xs H Q => ∃ p ys, xs = [.ref p] ∧ (SqL Kf H p ys ∨ SqT Kf H p ys) ∧ Q (.int ys.length) H) [r] K := fun S σ F H vs T Q e rv c => by
  obtain ⟨v, T', rfl, rz⟩ := vs1 rv
  obtain ⟨a, xs, rfl, h2, h3⟩ := e.vwL rz h
  refine ⟨a, xs, rfl, .inl (SqL.of h2), ?_⟩
  rw [h3.len]
  exact c.here e (.int _) k
theorem wc_lenT {l : List Da} (k : K Γ (.d (.int (l.length : Nat)))) : WC B C Γ (fun xs H Q => ∃ p ys, xs = [.ref p] ∧ (SqL Kf H p ys ∨ SqT Kf H p ys) ∧ Q (.int ys.length) H) [.d (.tup l)] K := fun S σ F H vs T Q e rv c => by
  obtain ⟨v, T', rfl, rz⟩ := vs1 rv
  obtain ⟨a, xs, rfl, h2, h3⟩ := e.vwT rz rfl
  refine ⟨a, xs, rfl, .inr (SqT.of h2), ?_⟩
  rw [h3.len]
  exact c.here e (.int _) k
theorem wc_lenS {z : Str} (hz : z.length ≤ sizeLine) (k : K Γ (.d (.int (z.length : Nat)))) : WC B C Γ (fun xs H Q => ∃ z, xs = [.str z] ∧ z.length ≤ sizeLine ∧ Q (.int z.length) H) [.d (.str z)] K := fun S σ F H vs T Q e rv c => by
  obtain ⟨v, T', rfl, rz⟩ := vs1 rv
  obtain rfl := rz.2.strI
  exact ⟨z, rfl, hz, c.here e (.int _) k⟩
/-- a new list of frozen things -/
theorem Cont.newL {p : Addr} {vs : List V} {ds : List Da} (c : Cont B C S σ F H K Q) (e : Env B C Γ S σ F H) (hp : H p = none) (a : Ats C F vs ds) (k : K Γ (.mo (ML ds))) : Q (.ref p) (upd H p (.lst vs)) := by
  have g := Gr4.of e.sub (Same.new (o := .lst vs) hp)
  exact Cont.own1 (m := ML ds) c e g hp (e.sub.free hp) ⟨rfl, vs, upd_same, a⟩ k
theorem Cont.newT {p : Addr} {vs : List V} {ds : List Da} (c : Cont B C S σ F H K Q) (e : Env B C Γ S σ F H) (hp : H p = none) (a : Ats C F vs ds) (k : K Γ (.d (.tup ds))) : Q (.ref p) (upd H p (.tup vs)) := by
  have g := Gr4.fz (o := .tup vs) e.sub hp
  exact c.ext e g (.tup' upd_same (a.same g.f)) k
theorem w_revL (h : W B C Γ te fun Γ1 r => ∃ l, VwL Γ1 r l ∧ K Γ1 (.mo (ML l.reverse))) : W B C Γ (tRevL Kf te) K := fun S σ F H Q e c =>
  h S σ F H _ e fun Γ1 S1 F1 H1 r T v e1 m1 rv fr ⟨l, hl, k⟩ => by
    obtain ⟨a, xs, rfl, h2, h3⟩ := e1.vwL rv hl
    exact ⟨a, xs, rfl, SqL.of h2, fun p hp => (Cont.mv c m1).newL e1 hp h3.rev k⟩
theorem w_revT (h : W B C Γ te fun Γ1 r => ∃ l, r = .d (.tup l) ∧ K Γ1 (.d (.tup l.reverse))) : W B C Γ (tRevT Kf te) K := fun S σ F H Q e c =>
  h S σ F H _ e fun Γ1 S1 F1 H1 r T v e1 m1 rv fr ⟨l, hl, k⟩ => by
    obtain ⟨a, xs, rfl, h2, h3⟩ := e1.vwT rv hl
    exact ⟨a, xs, rfl, SqT.of h2, fun p hp => (Cont.mv c m1).newT e1 hp h3.rev k⟩
/-- a slice's bound -/
def WO (B : Org) (C : Addr) (Γ : Ct) (to : TO) (K : Ct → Option Int → Prop) : Prop := ∀ S σ F H (Q : Option Int → Hp → Prop), Env B C Γ S σ F H →
  (∀ Γ' S' F' H' o, Env B C Γ' S' σ F' H' → Mv S F H S' F' H' → K Γ' o → Q o H') → to σ H Q
theorem wo_none {K : Ct → Option Int → Prop} (k : K Γ none) : WO B C Γ tNoPart K := fun S σ F H Q e c => c Γ S F H none e .refl k
theorem wo_some {K : Ct → Option Int → Prop} (h : W B C Γ te fun Γ1 r => ∃ i, r = .d (.int i) ∧ K Γ1 (some i)) : WO B C Γ (tPart te) K := fun S σ F H Q e c =>
  h S σ F H _ e fun Γ1 S1 F1 H1 r T v e1 m1 rv fr ⟨i, er, k⟩ => by
    subst er
    exact ⟨i, rv.2.intI, c Γ1 S1 F1 H1 (some i) e1 m1 k⟩
def cutD {α : Type} (xs : List α) (lo hi : Option Int) : List α := (xs.drop (HT.sIx xs.length 0 lo)).take (HT.sIx xs.length xs.length hi - HT.sIx xs.length 0 lo)
theorem Ats.cut {xs : List V} {l : List Da} (h : Ats C F xs l) (lo hi : Option Int) : Ats C F (cutV xs lo hi) (cutD l lo hi) := by
  unfold cutV cutD
  rw [h.len]
  exact (h.drop _).take _
theorem w_slL {tl th : TO} (h : W B C Γ te fun Γ1 r => WO B C Γ1 tl fun Γ2 lo => WO B C Γ2 th fun Γ3 hi => ∃ l, VwL Γ3 r l ∧ K Γ3 (.mo (ML (cutD l lo hi)))) : W B C Γ (tSl (rSlL Kf) te tl th) K := fun S σ F H Q e c =>
  h S σ F H _ e fun Γ1 S1 F1 H1 r T v e1 m1 rv fr k1 => k1 S1 σ F1 H1 _ e1 fun Γ2 S2 F2 H2 lo e2 m2 k2 => k2 S2 σ F2 H2 _ e2 fun Γ3 S3 F3 H3 hi e3 m3 ⟨l, hl, k⟩ => by
    obtain ⟨a, xs, rfl, h2, h3⟩ := e3.vwL ((rv.mv m2).mv m3) hl
    exact ⟨a, xs, rfl, SqL.of h2, fun p hp => (Cont.mv c ((m1.trans m2).trans m3)).newL e3 hp (h3.cut lo hi) k⟩
theorem w_slS {tl th : TO} (h : W B C Γ te fun Γ1 r => WO B C Γ1 tl fun Γ2 lo => WO B C Γ2 th fun Γ3 hi => ∃ z, r = .d (.str z) ∧ z.length ≤ sizeLine ∧ K Γ3 (.d (.str (cutS z lo hi)))) : W B C Γ (tSl rSlS te tl th) K := fun S σ F H Q e c =>
  h S σ F H _ e fun Γ1 S1 F1 H1 r T v e1 m1 rv fr k1 => k1 S1 σ F1 H1 _ e1 fun Γ2 S2 F2 H2 lo e2 m2 k2 => k2 S2 σ F2 H2 _ e2 fun Γ3 S3 F3 H3 hi e3 m3 ⟨z, hl, hz, k⟩ => by
    subst hl
    exact ⟨z, rv.2.strI, hz, (Cont.mv c ((m1.trans m2).trans m3)).here e3 (.str _) k⟩
theorem wr_cat {x y : Rs} {l m : List Da} (hx : VwL Γ x l) (hy : VwL Γ y m) (hs : l.length + m.length ≤ sizeLine) (k : K Γ (.mo (ML (l ++ m)))) : WR B C Γ rCat x y K := fun S σ F H v w T U Q e rx ry c => by
  obtain ⟨a, xs, rfl, h2, h3⟩ := e.vwL rx hx
  obtain ⟨b, ys, rfl, g2, g3⟩ := e.vwL ry hy
  exact ⟨a, b, xs, ys, rfl, rfl, h2, g2, by rw [h3.len, g3.len]; exact hs, fun p hp => c.newL e hp (h3.app g3) k⟩
theorem wr_catS {x y : Str} (hs : x.length + y.length ≤ sizeLine) (k : K Γ (.d (.str (x ++ y)))) : WR B C Γ (fun x y H Q => ∃ i j, x = .str i ∧ y = .str j ∧ i.length + j.length ≤ sizeLine ∧ Q (.str (i ++ j)) H) (.d (.str x)) (.d (.str y)) K := fun S σ F H v w T U Q e rx ry c => by
  obtain rfl := rx.2.strI
  obtain rfl := ry.2.strI
  exact ⟨x, y, rfl, rfl, hs, c.here e (.str _) k⟩
theorem wc_listL {r : Rs} {l : List Da} (h : VwL Γ r l) (k : K Γ (.mo (ML l))) : WC B C Γ (fun xs H Q => ∃ p ys, xs = [.ref p] ∧ (SqL Kf H p ys ∨ SqT Kf H p ys) ∧ ∀ l, H l = none → Q (.ref l) (upd H l (.lst ys))) [r] K := fun S σ F H vs T Q e rv c => by
  obtain ⟨v, T', rfl, rz⟩ := vs1 rv
  obtain ⟨a, xs, rfl, h2, h3⟩ := e.vwL rz h
  exact ⟨a, xs, rfl, .inl (SqL.of h2), fun p hp => c.newL e hp h3 k⟩
theorem wc_listT {l : List Da} (k : K Γ (.mo (ML l))) : WC B C Γ (fun xs H Q => ∃ p ys, xs = [.ref p] ∧ (SqL Kf H p ys ∨ SqT Kf H p ys) ∧ ∀ l, H l = none → Q (.ref l) (upd H l (.lst ys))) [.d (.tup l)] K := fun S σ F H vs T Q e rv c => by
  obtain ⟨v, T', rfl, rz⟩ := vs1 rv
  obtain ⟨a, xs, rfl, h2, h3⟩ := e.vwT rz rfl
  exact ⟨a, xs, rfl, .inr (SqT.of h2), fun p hp => c.newL e hp h3 k⟩
theorem wc_tupL {r : Rs} {l : List Da} (h : VwL Γ r l) (k : K Γ (.d (.tup l))) : WC B C Γ (fun xs H Q => ∃ p ys, xs = [.ref p] ∧ ((SqL Kf H p ys ∧ ∀ l, H l = none → Q (.ref l) (upd H l (.tup ys))) ∨ (SqT Kf H p ys ∧ Q (.ref p) H))) [r] K := fun S σ F H vs T Q e rv c => by
  obtain ⟨v, T', rfl, rz⟩ := vs1 rv
  obtain ⟨a, xs, rfl, h2, h3⟩ := e.vwL rz h
  exact ⟨a, xs, rfl, .inl ⟨SqL.of h2, fun p hp => c.newT e hp h3 k⟩⟩
theorem wc_abs {i : Int} (k : K Γ (.d (.int (if i < 0 then -i else i)))) : WC B C Γ (fun xs H Q => ∃ i, xs = [.int i] ∧ Q (.int (if i < 0 then -i else i)) H) [.d (.int i)] K := fun S σ F H vs T Q e rv c => by
  obtain ⟨v, T', rfl, rz⟩ := vs1 rv
  obtain rfl := rz.2.intI
  exact ⟨i, rfl, c.here e (.int _) k⟩
/-! None -/
def isNo : Da → Bool
  | .non => true
  | _ => false
theorem at_non {d : Da} (a : At C F v d) : decide (v = .non) = isNo d := by
  cases a <;> first | rfl | exact decide_eq_false (fun z => by cases z)
theorem wr_isN {d : Da} (k : K Γ (.d (.bl (isNo d)))) : WR B C Γ (fun x y H Q => y = .non ∧ Q (.bl (decide (x = .non))) H) (.d d) (.d .non) K := fun S σ F H v w T U Q e rx ry c => by
  refine ⟨ry.2.nonI, ?_⟩
  rw [at_non rx.2]
  exact c.here e (.bl _) k
theorem wr_notN {d : Da} (k : K Γ (.d (.bl (!isNo d)))) : WR B C Γ (fun x y H Q => y = .non ∧ Q (.bl (!decide (x = .non))) H) (.d d) (.d .non) K := fun S σ F H v w T U Q e rx ry c => by
  refine ⟨ry.2.nonI, ?_⟩
  rw [at_non rx.2]
  exact c.here e (.bl _) k
/-! == of plain data -/
mutual
def py : Da → PyData
  | .non => .none
  | .bl b => .bool b
  | .int i => .int i
  | .str z => .str z
  | .tup l => .tuple (pys l)
  | .lst l => .list (pys l)
  | .room _ => .none
  | .lam _ => .none
  | .dct _ _ => .none
def pys : List Da → List PyData
  | [] => []
  | d :: l => py d :: pys l
end
/-- no rooms, plain signs, not deep -/
inductive Pl : Nat → Da → Prop where
  | non {n : Nat} : Pl n .non
  | bl {n : Nat} (b : Bool) : Pl n (.bl b)
  | int {n : Nat} (i : Int) : Pl n (.int i)
  | str {n : Nat} (z : Str) (h : ∀ c ∈ z.cps.toList, c < 128) : Pl n (.str z)
  | tup {n : Nat} {l : List Da} (h : ∀ d ∈ l, Pl n d) : Pl (n + 1) (.tup l)
  | lst {n : Nat} {l : List Da} (h : ∀ d ∈ l, Pl n d) : Pl (n + 1) (.lst l)
theorem pys_map : ∀ l : List Da, pys l = l.map py
  | [] => by rw [pys] <;> rfl
  | d :: l => by rw [pys, pys_map l] <;> rfl
theorem Pl.sh {n : Nat} {d : Da} (h : Pl n d) : Sh n (py d) := by
  induction h with
  | non => rw [py]; exact sh_none.mono (Nat.zero_le _)
  | bl b => rw [py]; exact (sh_bool b).mono (Nat.zero_le _)
  | int i => rw [py]; exact (sh_int i).mono (Nat.zero_le _)
  | str z h => rw [py]; exact (sh_str h).mono (Nat.zero_le _)
  | tup h ih =>
    rw [py, pys_map]
    exact sh_tup fun e he => by
      obtain ⟨d, hd, rfl⟩ := List.mem_map.mp he
      exact ih d hd
  | lst h ih =>
    rw [py, pys_map]
    exact sh_list fun e he => by
      obtain ⟨d, hd, rfl⟩ := List.mem_map.mp he
      exact ih d hd
theorem dpAll_of {xs : List V} {l : List Da} (hl : xs.length = l.length) (h : ∀ (i : Nat) (x : V) (d : Da), xs[i]? = some x → l[i]? = some d → Dp Kf H x (py d)) : DpAll Kf H xs (pys l) := by
  induction l generalizing xs with
  | nil =>
    have : xs = [] := List.length_eq_zero_iff.mp hl
    rw [this, pys]
    exact .nil
  | cons d l ih =>
    cases xs with
    | nil => exact absurd hl (by simp)
    | cons x xs =>
      rw [pys]
      exact .cons (h 0 x d rfl rfl) (ih (by simpa using hl) fun i y e h1 h2 => h (i + 1) y e (by simpa using h1) (by simpa using h2))
theorem At.dp {n : Nat} {d : Da} (a : At C H v d) (p : Pl n d) : Dp Kf H v (py d) := by
  induction a generalizing n with
  | non => rw [py]; exact .non
  | bl b => rw [py]; exact .bl b
  | int i => rw [py]; exact .int i
  | str z => rw [py]; exact .str z
  | tup h hl q ih =>
    cases p with
    | tup p =>
      rw [py]
      exact .tup (SqT.of h) (dpAll_of hl fun i x d h1 h2 => ih i x d h1 h2 (p d (List.mem_of_getElem? h2)))
  | lst h hl q ih =>
    cases p with
    | lst p =>
      rw [py]
      exact .lst (SqL.of h) (dpAll_of hl fun i x d h1 h2 => ih i x d h1 h2 (p d (List.mem_of_getElem? h2)))
  | room => cases p
  | lam => cases p
  | dct => cases p
theorem eqvAll_refl : ∀ l : List PyData, (∀ d ∈ l, PyData.eqv d d = true) → PyData.eqvAll l l = true
  | [], _ => by rw [PyData.eqvAll]
  | d :: l, h => by
    rw [PyData.eqvAll, h d List.mem_cons_self, eqvAll_refl l fun e he => h e (List.mem_cons_of_mem _ he)] <;> rfl
theorem Pl.eqv {n : Nat} {d : Da} (h : Pl n d) : PyData.eqv (py d) (py d) = true := by
  induction h with
  | non => rw [py]; simp [PyData.eqv]
  | bl b => rw [py]; simp [PyData.eqv]
  | int i => rw [py]; simp [PyData.eqv]
  | str z h => rw [py]; simp [PyData.eqv]
  | tup h ih =>
    rw [py, pys_map, PyData.eqv]
    exact eqvAll_refl _ fun e he => by
      obtain ⟨d, hd, rfl⟩ := List.mem_map.mp he
      exact ih d hd
  | lst h ih =>
    rw [py, pys_map, PyData.eqv]
    exact eqvAll_refl _ fun e he => by
      obtain ⟨d, hd, rfl⟩ := List.mem_map.mp he
      exact ih d hd
theorem wr_eqD {r s : Rs} {x y : Da} (hx : Vw Γ r x) (hy : Vw Γ s y) (px : Pl 60 x) (py' : Pl 60 y) (k : K Γ (.d (.bl (PyData.eqv (py x) (py y))))) : WR B C Γ (rEqD Kf) r s K := fun S σ F H v w T U Q e rx ry c =>
  ⟨py x, py y, (e.vw rx hx).dp px, (e.vw ry hy).dp py', px.sh.shaped (by decide), py'.sh.shaped (by decide), c.here e (.bl _) k⟩
theorem wr_neD {r s : Rs} {x y : Da} (hx : Vw Γ r x) (hy : Vw Γ s y) (px : Pl 60 x) (py' : Pl 60 y) (k : K Γ (.d (.bl (!PyData.eqv (py x) (py y))))) : WR B C Γ (rNeD Kf) r s K := fun S σ F H v w T U Q e rx ry c =>
  ⟨py x, py y, (e.vw rx hx).dp px, (e.vw ry hy).dp py', px.sh.shaped (by decide), py'.sh.shaped (by decide), c.here e (.bl _) k⟩
/-- the same -/
theorem wr_neS {r s : Rs} {x : Da} (hx : Vw Γ r x) (hy : Vw Γ s x) (px : Pl 60 x) (k : K Γ (.d (.bl false))) : WR B C Γ (rNeD Kf) r s K := wr_neD hx hy px px (by rw [px.eqv]; exact k)
theorem wr_eqS {r s : Rs} {x : Da} (hx : Vw Γ r x) (hy : Vw Γ s x) (px : Pl 60 x) (k : K Γ (.d (.bl true))) : WR B C Γ (rEqD Kf) r s K := wr_eqD hx hy px px (by rw [px.eqv]; exact k)
end
end My
/-! frozen argument lists; a law's beginning; steps by themselves -/
namespace My
open PySem PySem.Spec PyProof.Rows L2
section
variable {B : Org} {C : Addr} {Γ : Ct} {S S' : Fp} {σ : L2.St} {F F' H H' : Hp} {Q : VK} {v : V} {x : Da} {te ta tb : TE} {Kf : PySem.W.Frag} {K : Ct → Rs → Prop}
def WAf (B : Org) (C : Addr) (Γ : Ct) (ta : TA) (K : Ct → List Da → Prop) : Prop := WA B C Γ ta fun Γ1 rs => ∃ ds : List Da, rs = ds.map Rs.d ∧ K Γ1 ds
theorem waf_nil {K : Ct → List Da → Prop} (k : K Γ []) : WAf B C Γ tNil K := wa_nil ⟨[], rfl, k⟩
theorem WA.mono {ta : TA} {K K' : Ct → List Rs → Prop} (w : WA B C Γ ta K') (h : ∀ Γ r, K' Γ r → K Γ r) : WA B C Γ ta K := fun S σ F H Q e c => w S σ F H Q e fun Γ1 S1 F1 H1 rs T vs e1 m1 rv fr k => c Γ1 S1 F1 H1 rs T vs e1 m1 rv fr (h _ _ k)
theorem waf_cons {tr : TA} {K : Ct → List Da → Prop} (h : W B C Γ te fun Γ1 r => ∃ d, Frz r d ∧ WAf B C Γ1 tr fun Γ2 ds => K Γ2 (d :: ds)) : WAf B C Γ (tCons te tr) K :=
  wa_c (h.mono fun Γ1 r ⟨d, hd, w⟩ => ⟨d, hd, w.mono fun Γ2 rs ⟨ds, e, k⟩ => ⟨d :: ds, by rw [e] <;> rfl, k⟩⟩)
theorem w_tupF {ta : TA} (h : WAf B C Γ ta fun Γ1 ds => ds.length ≤ sizeLine ∧ K Γ1 (.d (.tup ds))) : W B C Γ (tTup ta) K := w_tup (h.mono fun Γ1 rs ⟨ds, e, l, k⟩ => ⟨ds, e, l, k⟩)
theorem w_lstF {ta : TA} (h : WAf B C Γ ta fun Γ1 ds => ds.length ≤ sizeLine ∧ K Γ1 (.mo (ML ds))) : W B C Γ (tLst ta) K := w_lst (h.mono fun Γ1 rs ⟨ds, e, l, k⟩ => ⟨ds, e, l, k⟩)
theorem ltL {i n : Nat} (h : Nat.ble (i + 1) n = true) : i < n := Nat.le_of_ble_eq_true h
theorem sw_set {i : Nat} {A : AE} (h : W B C Γ te fun Γ1 r => ∃ s Γ2, SlR r s ∧ i < Γ1.length ∧ Γ1.set i s = Γ2 ∧ A.nx Γ2) : WS B C Γ (tAsg te (gName i)) A :=
  ws_set (h.mono fun Γ1 r ⟨s, Γ2, h1, h2, h3, h4⟩ => ⟨s, h1, h2, h3 ▸ h4⟩)
theorem sg_name {i : Nat} {N : Ct → Prop} (h : ∃ Γ2, i < Γ.length ∧ Γ.set i (.d x) = Γ2 ∧ N Γ2) : WG C B [i] (gName i) Γ x N := by
  obtain ⟨Γ2, h1, h2, h3⟩ := h
  exact wg_name h1 (h2 ▸ h3)
/-- targets, where it does not matter which slots they are -/
def WT0 (C : Addr) (B : Org) (g : TG) (Γ : Ct) (x : Da) (N : Ct → Prop) : Prop := ∀ S σ F H (v : V) (Q : L2.St → Hp → Prop), Env B C Γ S σ F H → At C F v x → (∀ Γ1 S1 σ1, Env B C Γ1 S1 σ1 F H → N Γ1 → Q σ1 H) → g v σ H Q
def WTs0 (C : Addr) (B : Org) (g : TGs) (Γ : Ct) (xs : List Da) (N : Ct → Prop) : Prop := ∀ S σ F H (vs : List V) (Q : L2.St → Hp → Prop), Env B C Γ S σ F H → Ats C F vs xs → (∀ Γ1 S1 σ1, Env B C Γ1 S1 σ1 F H → N Γ1 → Q σ1 H) → g vs σ H Q
theorem tg_name {i : Nat} {N : Ct → Prop} (h : ∃ Γ2, i < Γ.length ∧ Γ.set i (.d x) = Γ2 ∧ N Γ2) : WT0 C B (gName i) Γ x N := fun S σ F H v Q e a q => by
  obtain ⟨Γ2, h1, h2, h3⟩ := h
  subst h2
  exact q _ _ _ (e.putD h1 a) h3
theorem tgs_nil {N : Ct → Prop} (h : N Γ) : WTs0 C B gNil Γ [] N := fun S σ F H v Q e a q => ⟨List.length_eq_zero_iff.mp a.len, q Γ S σ e h⟩
theorem tgs_cons {g : TG} {gs : TGs} {xs : List Da} {N : Ct → Prop} (h : WT0 C B g Γ x fun Γ1 => WTs0 C B gs Γ1 xs N) : WTs0 C B (gCons g gs) Γ (x :: xs) N := fun S σ F H vs Q e a q => by
  cases vs with
  | nil => exact absurd a.len (by simp)
  | cons v vs => exact ⟨v, vs, rfl, h S σ F H v _ e a.hd fun Γ1 S1 σ1 e1 k => k S1 σ1 F H vs Q e1 a.tl q⟩
theorem tg_tup {Kf : PySem.W.Frag} {n : Nat} {gs : TGs} {xs : List Da} {N : Ct → Prop} (hn : xs.length = n) (h : WTs0 C B gs Γ xs N) : WT0 C B (gTup Kf n gs) Γ (.tup xs) N := fun S σ F H v Q e a q => by
  obtain ⟨p, vs, rfl, h2, h3⟩ := a.tupI
  exact ⟨p, vs, rfl, SqT.of (e.sub _ _ h2), h3.len.trans hn, h S σ F H vs Q e h3 q⟩
theorem sw_asg {g : TG} {A : AE} (h : W B C Γ te fun Γ1 r => ∃ x, r = .d x ∧ WT0 C B g Γ1 x A.nx) : WS B C Γ (tAsg te g) A := fun S σ F H D e d =>
  h S σ F H _ e fun Γ1 S1 F1 H1 r T v e1 m1 rv fr ⟨x, er, k⟩ => by
    subst er
    exact k S1 σ F1 H1 v _ e1 rv.2 fun Γ2 S2 σ2 e2 n => d.nx Γ2 S2 σ2 F1 H1 m1.fr e2 n
theorem sw_for {wi : TI} {g : TG} {tb : TS} {A : AE} (h : WI B C Γ wi fun Γ1 es => ∃ I : Nat → Ct → Prop, I 0 Γ1 ∧
    (∀ i x Γ2, es[i]? = some x → I i Γ2 → WT0 C B g Γ2 x fun Γ3 => WS B C Γ3 tb { A with nx := I (i + 1), ct := I (i + 1), bk := A.nx }) ∧ ∀ Γ2, I es.length Γ2 → A.nx Γ2) : WS B C Γ (tFor wi g tb) A := fun S σ F H D e d =>
  h S σ F H _ e fun Γ1 S1 F1 H1 J es e1 m1 ⟨G, Y, w, hG, hY⟩ ⟨I, i0, turn, fin⟩ => by
    refine for_it w (fun i σ H => ∃ Γ2 S2 F2, Env B C Γ2 S2 σ F2 H ∧ Same F1 F2 ∧ I i Γ2) ⟨Γ1, S1, F1, e1, Same.refl F1, i0⟩ (fun i σ H _ ⟨Γ2, S2, F2, e2, s2, _⟩ => hG H (s2.trans e2.sub)) (fun i v σ H H' hi ⟨Γ2, S2, F2, e2, s2, k⟩ y => ?_) (fun σ H ⟨Γ2, S2, F2, e2, s2, k⟩ => d.nx Γ2 S2 σ F2 H (m1.fr.trans s2) e2 (fin Γ2 k))
    obtain ⟨F3, x, hx, g3, a⟩ := hY i F2 H v H' hi s2 e2.sub y
    refine turn i x Γ2 hx k S2 σ F3 H' v _ (e2.ext g3) a fun Γ3 S3 σ3 e3 k3 => k3 S3 σ3 F3 H' _ e3 ?_
    have sF : Same F1 F3 := s2.trans g3.f
    exact ⟨fun Γ4 S4 σ4 F4 H4 s4 e4 k4 => ⟨Γ4, S4, F4, e4, sF.trans s4, k4⟩, fun Γ4 S4 σ4 F4 H4 r T v s4 => d.rt Γ4 S4 σ4 F4 H4 r T v ((m1.fr.trans sF).trans s4), fun Γ4 S4 σ4 F4 H4 s4 => d.nx Γ4 S4 σ4 F4 H4 ((m1.fr.trans sF).trans s4), fun Γ4 S4 σ4 F4 H4 s4 e4 k4 => ⟨Γ4, S4, F4, e4, sF.trans s4, k4⟩⟩
theorem sw_names {Kf : PySem.W.Frag} {n : Nat} {ta : TA} {A : AE} (is : List Nat) (h : WA B C Γ ta fun Γ1 rs => rs.length ≤ 1000 ∧ n = rs.length ∧ ∃ Γ2 Γ3, Puts rs is Γ1 Γ2 ∧ Γ2 = Γ3 ∧ A.nx Γ3) : WS B C Γ (tAsg (tTup ta) (gTup Kf n (gNames is))) A :=
  ws_names is (h.mono fun Γ1 rs ⟨h1, h2, Γ2, Γ3, h3, h4, h5⟩ => ⟨h1, h2, Γ2, h3, h4 ▸ h5⟩)
theorem sw_names2 {Kf : PySem.W.Frag} {n : Nat} {ta : TA} {A : AE} {i0 i1 : Nat} (h : WA B C Γ ta fun Γ1 rs => rs.length ≤ 1000 ∧ n = rs.length ∧ ∃ Γ2 Γ3, Puts rs [i0, i1] Γ1 Γ2 ∧ Γ2 = Γ3 ∧ A.nx Γ3) : WS B C Γ (tAsg (tTup ta) (gTup Kf n (gCons (gName i0) (gCons (gName i1) gNil)))) A := sw_names [i0, i1] h
theorem sw_names3 {Kf : PySem.W.Frag} {n : Nat} {ta : TA} {A : AE} {i0 i1 i2 : Nat} (h : WA B C Γ ta fun Γ1 rs => rs.length ≤ 1000 ∧ n = rs.length ∧ ∃ Γ2 Γ3, Puts rs [i0, i1, i2] Γ1 Γ2 ∧ Γ2 = Γ3 ∧ A.nx Γ3) : WS B C Γ (tAsg (tTup ta) (gTup Kf n (gCons (gName i0) (gCons (gName i1) (gCons (gName i2) gNil))))) A := sw_names [i0, i1, i2] h
theorem sw_names4 {Kf : PySem.W.Frag} {n : Nat} {ta : TA} {A : AE} {i0 i1 i2 i3 : Nat} (h : WA B C Γ ta fun Γ1 rs => rs.length ≤ 1000 ∧ n = rs.length ∧ ∃ Γ2 Γ3, Puts rs [i0, i1, i2, i3] Γ1 Γ2 ∧ Γ2 = Γ3 ∧ A.nx Γ3) : WS B C Γ (tAsg (tTup ta) (gTup Kf n (gCons (gName i0) (gCons (gName i1) (gCons (gName i2) (gCons (gName i3) gNil)))))) A := sw_names [i0, i1, i2, i3] h
theorem sw_names5 {Kf : PySem.W.Frag} {n : Nat} {ta : TA} {A : AE} {i0 i1 i2 i3 i4 : Nat} (h : WA B C Γ ta fun Γ1 rs => rs.length ≤ 1000 ∧ n = rs.length ∧ ∃ Γ2 Γ3, Puts rs [i0, i1, i2, i3, i4] Γ1 Γ2 ∧ Γ2 = Γ3 ∧ A.nx Γ3) : WS B C Γ (tAsg (tTup ta) (gTup Kf n (gCons (gName i0) (gCons (gName i1) (gCons (gName i2) (gCons (gName i3) (gCons (gName i4) gNil))))))) A := sw_names [i0, i1, i2, i3, i4] h
theorem sw_names6 {Kf : PySem.W.Frag} {n : Nat} {ta : TA} {A : AE} {i0 i1 i2 i3 i4 i5 : Nat} (h : WA B C Γ ta fun Γ1 rs => rs.length ≤ 1000 ∧ n = rs.length ∧ ∃ Γ2 Γ3, Puts rs [i0, i1, i2, i3, i4, i5] Γ1 Γ2 ∧ Γ2 = Γ3 ∧ A.nx Γ3) : WS B C Γ (tAsg (tTup ta) (gTup Kf n (gCons (gName i0) (gCons (gName i1) (gCons (gName i2) (gCons (gName i3) (gCons (gName i4) (gCons (gName i5) gNil)))))))) A := sw_names [i0, i1, i2, i3, i4, i5] h
theorem sw_names7 {Kf : PySem.W.Frag} {n : Nat} {ta : TA} {A : AE} {i0 i1 i2 i3 i4 i5 i6 : Nat} (h : WA B C Γ ta fun Γ1 rs => rs.length ≤ 1000 ∧ n = rs.length ∧ ∃ Γ2 Γ3, Puts rs [i0, i1, i2, i3, i4, i5, i6] Γ1 Γ2 ∧ Γ2 = Γ3 ∧ A.nx Γ3) : WS B C Γ (tAsg (tTup ta) (gTup Kf n (gCons (gName i0) (gCons (gName i1) (gCons (gName i2) (gCons (gName i3) (gCons (gName i4) (gCons (gName i5) (gCons (gName i6) gNil))))))))) A := sw_names [i0, i1, i2, i3, i4, i5, i6] h
theorem sw_par {i j : Nat} {ta : TA} {A : AE} (h : WA B C Γ ta fun Γ1 rs => ∃ Γ2 Γ3, Puts rs [i, j] Γ1 Γ2 ∧ Γ2 = Γ3 ∧ A.nx Γ3) : WS B C Γ (tPar i j ta) A :=
  ws_par (h.mono fun Γ1 rs ⟨Γ2, Γ3, h3, h4, h5⟩ => ⟨Γ2, h3, h4 ▸ h5⟩)
theorem sw_par3 {i j l : Nat} {ta : TA} {A : AE} (h : WA B C Γ ta fun Γ1 rs => ∃ Γ2 Γ3, Puts rs [i, j, l] Γ1 Γ2 ∧ Γ2 = Γ3 ∧ A.nx Γ3) : WS B C Γ (tPar3 i j l ta) A := fun S σ F H D e d =>
  h S σ F H _ e fun Γ1 S1 F1 H1 rs T vs e1 m1 rv fr ⟨Γ2, Γ3, hp, h3, k⟩ => by
    subst h3
    have q := puts_env (Q := fun σ' H' => D.nx σ' H') hp e1 rv (fun b hb => none_of e.rel.al (fr b hb)) fun S' σ' e' => d.nx Γ2 S' σ' F1 _ m1.fr e' k
    obtain ⟨v, r, rfl, w, r', rfl, u, r2, rfl, rfl, q⟩ := q
    exact ⟨v, w, u, rfl, q⟩
theorem sw_append {i : Nat} {l : List Da} (hi : Γ[i]? = some (.mo (ML l))) (h : W B C Γ te fun Γ1 r => ∃ d l1 Γ2, Frz r d ∧ Γ1[i]? = some (.mo (ML l1)) ∧ l1.length < 1000000 ∧ Γ1.set i (.mo (ML (l1 ++ [d]))) = Γ2 ∧ K Γ2 (.d .non)) : W B C Γ (tBM Kf "list" rAppend (tVar i) (tCons te tNil)) K :=
  w_append hi (h.mono fun Γ1 r ⟨d, l1, Γ2, h1, h2, h3, h4, h5⟩ => ⟨d, l1, h1, h2, h3, h4 ▸ h5⟩)
/-- a list of one's own becomes what it is -/
theorem ws_fz (i : Nat) {l : List Da} {t : TS} {A : AE} {Γ2 : Ct} (hi : Γ[i]? = some (.mo (ML l))) (hT : ∀ b, ¬ B.T i b) (h2 : Γ.set i (.d (.lst l)) = Γ2) (h : WS B C Γ2 t A) : WS B C Γ t A := fun S σ F H D e d => by
  subst h2
  obtain ⟨a, ha, hS, xs, h1, h2⟩ := e.sl i _ hi
  have il : i < Γ.length := (List.getElem?_eq_some_iff.mp hi).1
  have ma : a ∈ S i := by rw [hS]; exact List.mem_singleton.mpr rfl
  have hF : F a = none := e.fz i a ma
  have h0 : B.H0 a = none := (e.own i a ma).resolve_left (hT a)
  obtain ⟨s1, s2⟩ := fz_list (o := .lst xs) e.sub hF h1
  have es : σ.set i (some (.ref a)) = σ := by
    apply List.ext_getElem?
    intro j
    by_cases z : j = i
    · rw [z, List.getElem?_set_self (by rw [e.len]; exact il), ha]
    · rw [List.getElem?_set_ne (Ne.symm z)]
  have e1 := (e.un i (w := some (.ref a))).fz1 (p := a) (o := .lst xs) hF h1 (fun j hj => by
    by_cases z : j = i
    · rw [z, setS_i] at hj; cases hj
    · rw [setS_j z] at hj
      exact z (e.dis j i a hj ma)) h0
  have e2 := e1.putD (i := i) (v := .ref a) (x := .lst l) (by rw [List.length_set]; exact il) (.lst' upd_same (h2.same s1))
  rw [List.set_set, List.set_set, es] at e2
  exact h _ σ _ H D e2 (d.at_ s1)
/-- where a law begins -/
def OrgL : Org := ⟨fun _ => none, fun _ => none, fun _ _ => False⟩
theorem law_enter {n : Nat} {ov : Option V} {d : Addr} {t : TS} (hd : DOk H d) (q : ∀ H', Q (.bl true) H') (h : WS OrgL C (.un :: .mo MS :: List.replicate n .un) t { nx := fun _ => False, rt := fun _ r => r = .d (.bl true) }) (nx : L2.St → Hp → Prop) :
    t { nx := nx, rt := Q } (ov :: some (.ref d) :: List.replicate n none) H := by
  refine h (fun i => if i = 1 then [d] else []) _ (fun _ => none) H _ ⟨fun _ _ h => (by cases h), by simp, fun i s hi => ?_, fun i hi => ?_, fun _ _ _ => rfl, fun _ _ _ => .inr rfl, fun i j b hi hj => ?_, ⟨fun _ _ h => (by cases h), fun _ _ _ h => (by cases h), fun _ h => absurd rfl h, fun _ _ h => absurd rfl h.1, fun _ h => absurd rfl h.1⟩⟩ ⟨fun _ _ _ _ _ _ _ z => z.elim, fun Γ S σ F H r T v _ e rv _ z => ?_, fun _ _ _ _ _ _ _ z => z.elim, fun _ _ _ _ _ _ _ z => z.elim⟩
  · match i with
    | 0 =>
      cases hi
      rfl
    | 1 =>
      cases hi
      exact ⟨d, rfl, rfl, hd, fun _ z => by cases z⟩
    | k + 2 =>
      have hi : (List.replicate n Sl.un)[k]? = some s := hi
      rw [List.getElem?_replicate] at hi
      split at hi
      · cases hi
        rfl
      · cases hi
  · match i with
    | 0 => cases hi
    | 1 => cases hi
    | k + 2 => rfl
  · by_cases h1 : i = 1
    · by_cases h2 : j = 1
      · rw [h1, h2]
      · rw [if_neg h2] at hj
        cases hj
    · rw [if_neg h1] at hi
      cases hi
  · subst z
    rw [rv.2.blI]
    exact q H
theorem scal_same {u : V} (h : flatV u = true) (hb : ∀ b, u ≠ .byt b) (hr : ∀ a, u ≠ .ref a) : scal u u = true := by cases u <;> first | rfl | cases h
theorem flat_scal {x : Da} {u : V} (h : flatD x = some u) : scal u u = true := by
  cases x with
  | non => cases h; rfl
  | bl b => cases h; rfl
  | int i => cases h; rfl
  | str z => cases h; rfl
  | tup l => cases h
  | lst l => cases h
  | room g => cases h
  | lam D => cases h
  | dct _ _ => cases h
theorem wr_neF {x : Da} {u : V} (hx : flatD x = some u) (k : K Γ (.d (.bl false))) : WR B C Γ rNe (.d x) (.d x) K := wr_ne hx hx (flat_scal hx) (by rw [decide_eq_true rfl]; exact k)
theorem wr_eqF {x : Da} {u : V} (hx : flatD x = some u) (k : K Γ (.d (.bl true))) : WR B C Γ rEq (.d x) (.d x) K := wr_eq hx hx (flat_scal hx) (by rw [decide_eq_true rfl]; exact k)
end
end My
/-! defs over data; defs with an own object as their first argument -/
namespace My
open PySem PySem.Spec PyProof.Rows L2
section
variable {B : Org} {C U : Addr} {Γ : Ct} {S S' : Fp} {σ : L2.St} {F F' H H' : Hp} {Q : VK} {v : V} {x : Da} {te ta tb : TE} {Kf : PySem.W.Frag} {K : Ct → Rs → Prop} {E : XK}
/-- calls -/
def WF (B : Org) (C : Addr) (Γ : Ct) (sp : Sp) (E : XK) (rs : List Rs) (K : Ct → Rs → Prop) : Prop := ∀ S σ F H vs T (Q : VK), Env B C Γ S σ F H → Rvs C σ S F H vs rs T → Cont B C S σ F H K Q → sp vs H Q E
theorem w_cr {sp : Sp} {ta : TA} (h : WA B C Γ ta fun Γ1 rs => WF B C Γ1 sp E rs K) : W B C Γ (tCR sp E ta) K := fun S σ F H Q e c =>
  h S σ F H _ e fun Γ1 S1 F1 H1 rs T vs e1 m1 rv fr k => k S1 σ F1 H1 vs T Q e1 rv (Cont.mv c m1)
theorem Rvs.one {r : Rs} {T : List Addr} (h : Rv C σ S F H v r T) : Rvs C σ S F H [v] [r] T := by
  have q := Rvs.cons (C := C) h .nil (fun _ _ z => by cases z)
  rw [List.append_nil] at q
  exact q
/-- the values of two arguments -/
theorem vs2 {vs : List V} {r s : Rs} {T : List Addr} (h : Rvs C σ S F H vs [r, s] T) : ∃ v w T' U', vs = [v, w] ∧ Rv C σ S F H v r T' ∧ Rv C σ S F H w s U' := by
  cases h with
  | cons h t n =>
    obtain ⟨w, U, e, k⟩ := vs1 t
    subst e
    exact ⟨_, w, _, U, rfl, h, k⟩
theorem vs3 {vs : List V} {r s u : Rs} {T : List Addr} (h : Rvs C σ S F H vs [r, s, u] T) : ∃ v w z T' U' V', vs = [v, w, z] ∧ Rv C σ S F H v r T' ∧ Rv C σ S F H w s U' ∧ Rv C σ S F H z u V' := by
  cases h with
  | cons h t n =>
    obtain ⟨w, z, U, V', e, k, l⟩ := vs2 t
    subst e
    exact ⟨_, w, z, _, U, V', rfl, h, k, l⟩
/-- what came of a def -/
def Res (C : Addr) (F H : Hp) (S : List Addr) (v : V) (r : Rs) (T : List Addr) : Prop :=
  match r with
  | .d x => T = [] ∧ At C F v x
  | .mo m => ∃ a, v = .ref a ∧ m.p C F H a T ∧ ∀ b ∈ T, F b = none ∧ b ∉ S
  | .al _ => False
  | .pr m x => ∃ a p y, v = .ref a ∧ H a = some (.tup [.ref p, y]) ∧ a ∉ S ∧ At C F y x ∧ m.p C F H p T ∧ ∀ b ∈ T, F b = none ∧ b ∉ S
abbrev DP := List Da → (Rs → Prop) → (Xc → Prop) → Prop
/-- a def over data: from the data to what it gives or raises -/
def spD (C : Addr) (P : DP) : Sp := fun vs H Q E => ∃ (F : Hp) (ds : List Da) (R : Rs → Prop) (X : Xc → Prop), Same F H ∧ Ats C F vs ds ∧ P ds R X ∧
  (∀ (F' H' : Hp) (v : V) (r : Rs) (T : List Addr), Gr4 F H F' H' → Res C F' H' [] v r T → (∀ b ∈ T, H b = none) → R r → Q v H') ∧
  (∀ (F' H' : Hp) (x : Xc) (d : Option Addr), Gr4 F H F' H' → XcOk C F' H' x d → X x → E (.ref x.cls) d H')
theorem spD_len {P : DP} {vs : List V} {n : Nat} (hP : ∀ ds R X, P ds R X → ds.length = n) (h : spD C P vs H Q E) : vs.length = n := by
  obtain ⟨F, ds, R, X, _, a, p, _⟩ := h
  rw [a.len]
  exact hP _ _ _ p
theorem wf_d {P : DP} {ds : List Da} {KE : KX} (hE : XOk B C E KE) (h : P ds (fun r => (∀ i, r ≠ .al i) → K Γ r) (KE Γ)) : WF B C Γ (spD C P) E (ds.map Rs.d) K := fun S σ F H vs T Q e rv c => by
  refine ⟨F, ds, _, _, e.sub, rv.ats, h, fun F' H' v r T g res fr k => ?_, fun F' H' x d g xo kx => hE Γ S σ F' H' x d (e.ext g) xo kx⟩
  refine c Γ S F' H' r T v (e.ext g) (.ext g) ?_ fr (k fun i z => by rw [z] at res; exact res)
  cases r with
  | d x => exact res
  | al i => exact res.elim
  | mo m =>
    obtain ⟨a, h1, h2, h3⟩ := res
    exact ⟨a, h1, h2, fun b hb => ⟨(h3 b hb).1, fun i hi => (e.lv hi).1 (fr b hb)⟩⟩
  | pr m x =>
    obtain ⟨a, p, y, h1, h2, h3, h4, h5, h6⟩ := res
    refine ⟨a, p, y, h1, h2, fun i hi => ((e.ext g).lv hi).2 _ h2, h4, h5, fun b hb => ⟨(h6 b hb).1, fun i hi => (e.lv hi).1 (fr b hb)⟩⟩
theorem xok0 : XOk B C E0 fun _ _ => False := fun _ _ _ _ _ _ _ _ _ z => z.elim
theorem xokF : XOk B C E fun _ _ => False := fun _ _ _ _ _ _ _ _ _ z => z.elim
/-- all its arguments as they stand, a flat result -/
inductive Vws (Γ : Ct) : List Rs → List Da → Prop where
  | nil : Vws Γ [] []
  | cons {r : Rs} {x : Da} {rs : List Rs} {ds : List Da} (h : Vw Γ r x) (t : Vws Γ rs ds) : Vws Γ (r :: rs) (x :: ds)
theorem Env.vws {rs : List Rs} {ds : List Da} {vs : List V} {T : List Addr} (e : Env B C Γ S σ F H) (rv : Rvs C σ S F H vs rs T) (h : Vws Γ rs ds) : Ats C H vs ds := by
  induction h generalizing vs T with
  | nil =>
    cases rv
    exact .nil
  | cons h t ih =>
    cases rv with
    | cons r1 r2 n => exact .cons (e.vw r1 h) (ih r2)
theorem wf_v {P : DP} {rs : List Rs} {ds : List Da} {KE : KX} (hE : XOk B C E KE) (hv : Vws Γ rs ds) (h : P ds (fun r => ∃ x u, r = .d x ∧ flatD x = some u ∧ K Γ (.d x)) (fun x => x.fs = none ∧ KE Γ x)) : WF B C Γ (spD C P) E rs K := fun S σ F H vs T Q e rv c => by
  refine ⟨H, ds, _, _, Same.refl H, e.vws rv hv, h, fun F' H' v r T g res fr ⟨x, u, er, fl, k⟩ => ?_, fun F' H' x d g xo ⟨f0, kx⟩ => ?_⟩
  · subst er
    obtain rfl := at_flat fl res.2
    exact c.ext e (Gr4.of e.sub g.h) (flat_at fl) k
  · refine hE Γ S σ F H' x d (e.ext (Gr4.of e.sub g.h)) ?_ kx
    unfold XcOk at xo ⊢
    rw [f0] at xo ⊢
    exact xo
/-! inside such a def -/
def RtOk (R : Rs → Prop) (Γ : Ct) (r : Rs) : Prop :=
  match r with
  | .al i => ∃ m, Γ[i]? = some (.mo m) ∧ R (.mo m)
  | r => R r
def nonN (n : Nat) : List (Option V) := List.replicate n Option.none
theorem ent_sl {vs : List V} {ds : List Da} {n i : Nat} {s : Sl} (a : Ats C F vs ds) (h : (ds.map Sl.d ++ List.replicate n Sl.un)[i]? = some s) : SlOk C F H (vs.map Option.some ++ nonN n)[i]? s [] := by
  by_cases hi : i < ds.length
  · rw [List.getElem?_append_left (by rw [List.length_map]; exact hi), List.getElem?_map, List.getElem?_eq_getElem hi] at h
    cases h
    obtain ⟨x, h1, h2⟩ := a.get (List.getElem?_eq_getElem hi)
    refine ⟨rfl, x, ?_, h2⟩
    rw [List.getElem?_append_left (by rw [List.length_map, a.len]; exact hi), List.getElem?_map, h1] <;> rfl
  · rw [List.getElem?_append_right (by rw [List.length_map]; omega), List.getElem?_replicate] at h
    split at h
    · cases h
      rfl
    · cases h
theorem d_enter {P : DP} {vs : List V} {n : Nat} {t : TS} {nx : L2.St → Hp → Prop} (h : spD C P vs H Q E)
    (body : ∀ (B : Org) (ds : List Da) (R : Rs → Prop) (X : Xc → Prop), (∀ i b, ¬ B.T i b) → XOk B C E (fun _ x => X x) → P ds R X → ds.length = vs.length →
      WS B C (ds.map Sl.d ++ List.replicate n .un) t { nx := fun _ => R (.d .non), rt := fun Γ r => RtOk R Γ r }) (hn : ∀ σ H', Q .non H' → nx σ H') : t { nx := nx, rt := Q } (vs.map Option.some ++ nonN n) H := by
  obtain ⟨F, ds, R, X, sF, a, p, q1, q2⟩ := h
  have gr : ∀ {Γ S σ F' H'}, Env ⟨F, H, fun _ _ => False⟩ C Γ S σ F' H' → Gr4 F H F' H' := fun {Γ S σ F' H'} e => ⟨e.rel.fr, e.sub, fun b o h => e.rel.kp b o (fun _ z => z) h, e.rel.mu⟩
  refine body ⟨F, H, fun _ _ => False⟩ ds R X (fun _ _ => id) (fun Γ S σ F' H' x d e xo kx => q2 F' H' x d (gr e) xo kx) p a.len.symm (fun _ => []) _ F H _ ⟨sF, by simp [nonN, a.len], fun i s hi => ent_sl a hi, fun _ _ => rfl, fun _ _ z => (by cases z), fun _ _ z => (by cases z), fun _ _ _ z => (by cases z), ⟨Same.refl F, fun _ _ _ h => h, fun _ h => h, fun _ h _ => h, fun _ h => h⟩⟩ ⟨fun Γ S σ F' H' _ e k => hn σ H' (q1 F' H' _ (.d .non) [] (gr e) ⟨rfl, .non⟩ (fun _ z => (by cases z)) k), fun Γ S σ F' H' r T v _ e rv fr k => ?_, fun _ _ _ _ _ _ _ z => z.elim, fun _ _ _ _ _ _ _ z => z.elim⟩
  cases r with
  | d x => exact q1 F' H' v (.d x) T (gr e) rv fr k
  | mo m =>
    obtain ⟨b, h1, h2, h3⟩ := rv
    exact q1 F' H' v (.mo m) T (gr e) ⟨b, h1, h2, fun b hb => ⟨(h3 b hb).1, fun z => (by cases z)⟩⟩ fr k
  | pr m x =>
    obtain ⟨b, p, y, h1, h2, h3, h4, h5, h6⟩ := rv
    exact q1 F' H' v (.pr m x) T (gr e) ⟨b, p, y, h1, h2, fun z => (by cases z), h4, h5, fun b hb => ⟨(h6 b hb).1, fun z => (by cases z)⟩⟩ fr k
  | al i =>
    obtain ⟨m, hi, k⟩ := k
    obtain ⟨b, h1, h2⟩ := e.sl i _ hi
    rw [rv.2] at h1
    cases h1
    exact q1 F' H' _ (.mo m) (S i) (gr e) ⟨b, rfl, h2, fun b hb => ⟨e.fz i b hb, fun z => (by cases z)⟩⟩ (fun b hb => (e.own i b hb).resolve_left fun z => z) k
/-! an own object as the first argument -/
structure Fam (ι : Type) where
  m : Option Addr → ι → MO
  pn : ∀ o i, (m o i).pn = o
  re : ∀ {o o' : Option Addr} {i : ι} {C : Addr} {F H : Hp} {a : Addr} {S : List Addr}, (m o i).p C F H a S → (∀ x, o' = some x → a = x) → (m o' i).p C F H a S
abbrev MP (ι : Type) := ι → List Da → (ι → Rs → Prop) → (ι → Xc → Prop) → Prop
def spM {ι : Type} (M : Fam ι) (C : Addr) (P : MP ι) : Sp := fun vs H Q E => ∃ (F : Hp) (a : Addr) (S : List Addr) (i : ι) (ws : List V) (ds : List Da) (R : ι → Rs → Prop) (X : ι → Xc → Prop), vs = .ref a :: ws ∧ Same F H ∧ (M.m (some a) i).p C F H a S ∧ (∀ b ∈ S, F b = none) ∧ Ats C F ws ds ∧ P i ds R X ∧
  (∀ (F' H' : Hp) (S' : List Addr) (i' : ι) (v : V) (r : Rs) (T : List Addr), Chg F H S F' H' S' → (M.m (some a) i').p C F' H' a S' → Res C F' H' S' v r T → (∀ b ∈ T, H b = none) → R i' r → Q v H') ∧
  (∀ (F' H' : Hp) (S' : List Addr) (i' : ι) (x : Xc) (d : Option Addr), Chg F H S F' H' S' → (M.m (some a) i').p C F' H' a S' → XcOk C F' H' x d → X i' x → E (.ref x.cls) d H')
theorem spM_len {ι : Type} {M : Fam ι} {P : MP ι} {vs : List V} {n : Nat} (hP : ∀ i ds R X, P i ds R X → ds.length = n) (h : spM M C P vs H Q E) : vs.length = n + 1 := by
  obtain ⟨F, a, S, i, ws, ds, R, X, rfl, _, _, _, q, p, _⟩ := h
  rw [List.length_cons, q.len, hP _ _ _ _ p]
theorem wf_m {ι : Type} {M : Fam ι} {P : MP ι} {o : Option Addr} {s : ι} {j : Nat} {ds : List Da} {KE : KX} (hE : XOk B C E KE) (hj : Γ[j]? = some (.mo (M.m o s))) (h : P s ds (fun s' r => (∀ i, r ≠ .al i) → K (Γ.set j (.mo (M.m o s'))) r) (fun s' x => KE (Γ.set j (.mo (M.m o s'))) x)) : WF B C Γ (spM M C P) E (.al j :: ds.map Rs.d) K := fun S σ F H vs T Q e rv c => by
  cases rv with
  | @cons v _ T1 ws _ U r1 r2 n =>
    obtain ⟨a, ha, hp⟩ := e.sl j _ hj
    rw [r1.2] at ha
    cases ha
    have pa : ∀ x, o = some x → a = x := fun x z => (M.m o s).pk hp x (by rw [M.pn]; exact z)
    refine ⟨F, a, S j, s, ws, ds, _, _, rfl, e.sub, M.re hp (fun x z => Option.some.inj z), fun b hb => e.fz j b hb, r2.ats, h, fun F' H' S' s' v r T ch hp' res fr k => ?_, fun F' H' S' s' x d ch hp' xo kx => ?_⟩
    · obtain ⟨e2, m2⟩ := Env.chg (m' := M.m o s') e hj r1.2 ch (M.re hp' pa)
      refine c _ _ F' H' r T v e2 m2 ?_ fr (k fun i z => by rw [z] at res; exact res)
      have fS : ∀ b ∈ T, b ∉ S' → ∀ i, b ∉ setS S j S' i := fun b hb n i hi => by
        by_cases z : i = j
        · rw [z, setS_i] at hi
          exact n hi
        · rw [setS_j z] at hi
          exact (e.lv hi).1 (fr b hb)
      cases r with
      | d x => exact res
      | al i => exact res.elim
      | mo m =>
        obtain ⟨b, h1, h2, h3⟩ := res
        exact ⟨b, h1, h2, fun b hb => ⟨(h3 b hb).1, fS b hb (h3 b hb).2⟩⟩
      | pr m x =>
        obtain ⟨b, p, y, h1, h2, h3, h4, h5, h6⟩ := res
        exact ⟨b, p, y, h1, h2, fun i hi => (e2.lv hi).2 _ h2, h4, h5, fun b hb => ⟨(h6 b hb).1, fS b hb (h6 b hb).2⟩⟩
    · obtain ⟨e2, m2⟩ := Env.chg (m' := M.m o s') e hj r1.2 ch (M.re hp' pa)
      exact hE _ _ _ F' H' x d e2 xo kx
/-- where such a def ends: the object, what it gives -/
def RtM {ι : Type} (M : Fam ι) (a : Addr) (R : ι → Rs → Prop) (Γ : Ct) (r : Rs) : Prop := ∃ s, Γ[0]? = some (.mo (M.m (some a) s)) ∧ match r with
  | .al i => i ≠ 0 ∧ ∃ m, Γ[i]? = some (.mo m) ∧ R s (.mo m)
  | r => R s r
theorem m_enter {ι : Type} {M : Fam ι} {P : MP ι} {vs : List V} {n : Nat} {t : TS} {nx : L2.St → Hp → Prop} (h : spM M C P vs H Q E)
    (body : ∀ (B : Org) (a : Addr) (s : ι) (ds : List Da) (R : ι → Rs → Prop) (X : ι → Xc → Prop), (∀ i b, i ≠ 0 → ¬ B.T i b) → XOk B C E (fun Γ x => ∃ s, Γ[0]? = some (.mo (M.m (some a) s)) ∧ X s x) → P s ds R X → ds.length + 1 = vs.length →
      WS B C (.mo (M.m (some a) s) :: ds.map Sl.d ++ List.replicate n .un) t { nx := fun Γ => RtM M a R Γ (.d .non), rt := RtM M a R }) (hn : ∀ σ H', Q .non H' → nx σ H') : t { nx := nx, rt := Q } (vs.map Option.some ++ nonN n) H := by
  obtain ⟨F, a, S, i, ws, ds, R, X, rfl, sF, hp, fS, as, p, q1, q2⟩ := h
  have ch : ∀ {Γ : Ct} {S2 : Fp} {σ : L2.St} {F' H' : Hp} {s : ι}, Env ⟨F, H, fun i b => i = 0 ∧ b ∈ S⟩ C Γ S2 σ F' H' → Γ[0]? = some (.mo (M.m (some a) s)) → Chg F H S F' H' (S2 0) ∧ (M.m (some a) s).p C F' H' a (S2 0) := fun {Γ S2 σ F' H' s} e h0 => by
    obtain ⟨a', h1, h2⟩ := e.sl 0 _ h0
    have : a' = a := (M.m (some a) s).pk h2 a (M.pn _ _)
    subst this
    refine ⟨⟨e.rel.fr, e.sub, fun b o n h => e.rel.kp b o (fun i z => n z.2) h, e.rel.mu, fun b hb => e.rel.mt b ((M.m _ i).lv hp b hb), e.fz 0, fun b hb => ?_⟩, h2⟩
    rcases e.own 0 b hb with z | z
    · exact .inl z.2
    · exact .inr z
  have fin : ∀ {Γ : Ct} {S2 : Fp} {σ : L2.St} {F' H' : Hp} {r : Rs} {T : List Addr} {v : V}, Env ⟨F, H, fun i b => i = 0 ∧ b ∈ S⟩ C Γ S2 σ F' H' → Rv C σ S2 F' H' v r T → (∀ b ∈ T, H b = none) → RtM M a R Γ r → Q v H' := fun {Γ S2 σ F' H' r T v} e rv fr ⟨s, h0, k⟩ => by
    obtain ⟨c1, c2⟩ := ch e h0
    cases r with
    | d x => exact q1 F' H' (S2 0) s v (.d x) T c1 c2 rv fr k
    | mo m =>
      obtain ⟨b, h1, h2, h3⟩ := rv
      exact q1 F' H' (S2 0) s v (.mo m) T c1 c2 ⟨b, h1, h2, fun b hb => ⟨(h3 b hb).1, (h3 b hb).2 0⟩⟩ fr k
    | pr m x =>
      obtain ⟨b, p, y, h1, h2, h3, h4, h5, h6⟩ := rv
      exact q1 F' H' (S2 0) s v (.pr m x) T c1 c2 ⟨b, p, y, h1, h2, h3 0, h4, h5, fun b hb => ⟨(h6 b hb).1, (h6 b hb).2 0⟩⟩ fr k
    | al i =>
      obtain ⟨i0, m, hi, k⟩ := k
      obtain ⟨b, h1, h2⟩ := e.sl i _ hi
      rw [rv.2] at h1
      cases h1
      exact q1 F' H' (S2 0) s _ (.mo m) (S2 i) c1 c2 ⟨b, rfl, h2, fun b hb => ⟨e.fz i b hb, fun z => i0 (e.dis i 0 b hb z)⟩⟩ (fun b hb => (e.own i b hb).resolve_left fun z => i0 z.1) k
  refine body ⟨F, H, fun i b => i = 0 ∧ b ∈ S⟩ a i ds R X (fun i b n z => n z.1) (fun Γ S2 σ F' H' x d e xo ⟨s, h0, kx⟩ => ?_) p (by rw [List.length_cons, as.len]) (fun i => if i = 0 then S else []) _ F H _ ⟨sF, by simp [nonN, as.len], fun i s hi => ?_, fun i hi => ?_, fun i b hb => ?_, fun i b hb => ?_, fun i j b hi hj => ?_, ⟨Same.refl F, fun _ _ _ h => h, fun _ h => h, fun _ h _ => h, fun _ h => h⟩⟩ ⟨fun Γ S σ F' H' _ e k => hn σ H' (fin (r := .d .non) (T := []) e ⟨rfl, .non⟩ (fun _ z => (by cases z)) k), fun Γ S σ F' H' r T v _ e rv fr k => fin e rv fr k, fun _ _ _ _ _ _ _ z => z.elim, fun _ _ _ _ _ _ _ z => z.elim⟩
  · obtain ⟨c1, c2⟩ := ch e h0
    exact q2 F' H' (S2 0) s x d c1 c2 xo kx
  · cases i with
    | zero =>
      cases hi
      exact ⟨a, rfl, hp⟩
    | succ i => exact (show SlOk C F H (ws.map Option.some ++ nonN n)[i]? s [] from ent_sl as hi)
  · cases i with
    | zero => cases hi
    | succ i => rfl
  · by_cases z : i = 0
    · rw [if_pos z] at hb
      exact fS b hb
    · rw [if_neg z] at hb
      cases hb
  · by_cases z : i = 0
    · rw [if_pos z] at hb
      exact .inl ⟨z, hb⟩
    · rw [if_neg z] at hb
      cases hb
  · by_cases z : i = 0
    · by_cases y : j = 0
      · rw [z, y]
      · rw [if_neg y] at hj
        cases hj
    · rw [if_neg z] at hi
      cases hi
end
end My
/-! own lists of own objects -/
namespace My
open PySem PySem.Spec PyProof.Rows L2
inductive Own (C : Addr) (F H : Hp) : List Addr → List MO → List Addr → Prop where
  | nil : Own C F H [] [] []
  | cons {x : Addr} {T : List Addr} {m : MO} {xs : List Addr} {ms : List MO} {U : List Addr} (h : m.p C F H x T) (t : Own C F H xs ms U) (n : ∀ b ∈ T, b ∉ U) : Own C F H (x :: xs) (m :: ms) (T ++ U)
section
variable {B : Org} {C : Addr} {Γ : Ct} {S S' : Fp} {σ : L2.St} {F F' H H' : Hp} {Q : VK} {v : V} {x : Da} {te ta tb tl : TE} {A : AE} {D : Ends} {t u : TS} {Kf : PySem.W.Frag} {K : Ct → Rs → Prop} {xs : List Addr} {ms : List MO} {U T : List Addr} {m m' : MO} {a : Addr}
theorem Own.st (h : Own C F H xs ms U) (s : Same F F') (k : ∀ b ∈ U, ∀ o, H b = some o → H' b = some o) : Own C F' H' xs ms U := by
  induction h with
  | nil => exact .nil
  | cons h t n ih => exact .cons (MO.st _ h s fun b hb => k b (List.mem_append_left _ hb)) (ih fun b hb => k b (List.mem_append_right _ hb)) n
theorem Own.lv (h : Own C F H xs ms U) : ∀ b ∈ U, Mt (H b) := by
  induction h with
  | nil => exact fun _ z => by cases z
  | cons h t n ih =>
    intro b hb
    rcases List.mem_append.mp hb with z | z
    · exact MO.lv _ h b z
    · exact ih b z
theorem Own.len (h : Own C F H xs ms U) : xs.length = ms.length := by
  induction h with
  | nil => rfl
  | cons h t n ih => rw [List.length_cons, List.length_cons, ih]
theorem Own.snoc (h : Own C F H xs ms U) (k : m.p C F H a T) (n : ∀ b ∈ U, b ∉ T) : Own C F H (xs ++ [a]) (ms ++ [m]) (U ++ T) := by
  induction h with
  | nil =>
    have q := Own.cons k .nil (fun _ _ z => by cases z)
    rw [List.append_nil] at q
    exact q
  | cons h t n1 ih =>
    rw [List.append_assoc]
    exact .cons h (ih fun b hb => n b (List.mem_append_right _ hb)) fun b hb z => by
      rcases List.mem_append.mp z with y | y
      · exact n1 b hb y
      · exact n b (List.mem_append_left _ hb) y
theorem Own.get (h : Own C F H xs ms U) : ∀ {i : Nat}, ms[i]? = some m → ∃ x T, xs[i]? = some x ∧ m.p C F H x T ∧ ∀ b ∈ T, b ∈ U := by
  induction h with
  | nil => exact fun e => by cases e
  | @cons x T m2 xs ms U h t n ih =>
    intro i e
    cases i with
    | zero =>
      cases e
      exact ⟨x, T, rfl, h, fun b hb => List.mem_append_left _ hb⟩
    | succ i =>
      obtain ⟨y, W, h1, h2, h3⟩ := ih (i := i) (by simpa using e)
      exact ⟨y, W, by simpa using h1, h2, fun b hb => List.mem_append_right _ (h3 b hb)⟩
/-- one of them, a list, changes -/
theorem Own.setL {l l' : List Da} {ys : List V} (h : Own C F H xs ms U) : ∀ {i : Nat}, ms[i]? = some (ML l) → xs[i]? = some a → Ats C F ys l' → a ∈ U ∧ Own C F (upd H a (.lst ys)) xs (ms.set i (ML l')) U := by
  induction h with
  | nil => exact fun e => by cases e
  | @cons x T m2 xs ms U h t n ih =>
    intro i e ea k
    cases i with
    | zero =>
      cases e
      cases ea
      obtain ⟨hT, zs, h1, h2⟩ := h
      subst hT
      have ma : a ∈ [a] := List.mem_singleton.mpr rfl
      refine ⟨List.mem_append_left _ ma, .cons ⟨rfl, ys, upd_same, k⟩ (t.st (Same.refl F) fun b hb o q => ?_) n⟩
      rw [upd_ne (fun z => n a ma (by rw [← z]; exact hb))]
      exact q
    | succ i =>
      obtain ⟨h1, h2⟩ := ih (i := i) (by simpa using e) (by simpa using ea) k
      refine ⟨List.mem_append_right _ h1, .cons (m2.st h (Same.refl F) fun b hb o q => ?_) h2 n⟩
      rw [upd_ne (fun z => n b hb (by rw [z]; exact h1))]
      exact q
def MLs (ms : List MO) : MO where
  p := fun C F H a S => ∃ (xs U : List Addr), S = a :: U ∧ H a = some (.lst (xs.map V.ref)) ∧ Own C F H xs ms U ∧ a ∉ U
  st := fun ⟨xs, U, e, h, o, n⟩ s k => ⟨xs, U, e, k _ (by rw [e]; exact List.mem_cons_self) _ h, o.st s fun b hb => k b (by rw [e]; exact List.mem_cons_of_mem _ hb), n⟩
  lv := fun ⟨xs, U, e, h, o, n⟩ b hb => by
    rw [e] at hb
    rcases List.mem_cons.mp hb with rfl | hb
    · rw [h]
      exact .lst
    · exact o.lv b hb
/-- a comprehension whose elements are things of their own -/
theorem w_lcO {is vs : List Nat} {wi : TI} {g : TG} {tt : TT} (hv : ∀ i ∈ is, i ∈ vs) (h : WI B C Γ wi fun Γ1 es => es.length < sizeLine ∧ ∃ I : Nat → Ct → List MO → Prop, I 0 (wipeC Γ1 vs) [] ∧
    (∀ i x Γ2 acc, es[i]? = some x → acc.length ≤ i → I i Γ2 acc → UnAt Γ2 vs → WG C B is g Γ2 x fun Γ3 => WT B C Γ3 tt fun Γ4 b => (b = true → W B C Γ4 te fun Γ5 r => ∃ m, r = .mo m ∧ I (i + 1) (wipeC Γ5 vs) (acc ++ [m])) ∧ (b = false → I (i + 1) (wipeC Γ4 vs) acc)) ∧
    ∀ Γ2 acc, I es.length Γ2 acc → acc.length ≤ es.length → UnAt Γ2 vs → K Γ2 (.mo (MLs acc))) : W B C Γ (tLc wi g tt te vs) K := fun S σ F H Q e c =>
  h S σ F H _ e fun Γ1 S1 F1 H1 J es e1 m1 ⟨G, Y, w, hG, hY⟩ ⟨hes, I, i0, turn, fin⟩ D hD => by
    have h0D : B.H0 D = none := none_of e1.rel.al hD
    have hsD : H D = none := none_of m1.al hD
    have fF : F1 D = none := e1.sub.free hD
    refine lc_it w (fun i H2 => ∃ Γ2 S2 F2 acc xs U, Env B C Γ2 S2 (L2.wipe σ vs) F2 H2 ∧ Mv S F H S2 F2 H2 ∧ Same F1 F2 ∧ H2 D = some (.lst (xs.map V.ref)) ∧ Own C F2 H2 xs acc U ∧ F2 D = none ∧ (∀ j, D ∉ S2 j) ∧ D ∉ U ∧ (∀ b ∈ U, F2 b = none ∧ (∀ j, b ∉ S2 j) ∧ H b = none) ∧ UnAt Γ2 vs ∧ acc.length ≤ i ∧ I i Γ2 acc) ?_ ?_ ?_ ?_
    · obtain ⟨S2, e2, h2⟩ := e1.wipe vs
      have g := Gr4.of e1.sub (Same.new (o := .lst []) hD)
      refine ⟨wipeC Γ1 vs, S2, F1, [], [], [], e2.ext g, ⟨m1.fr, fun b o n q => g.h _ _ (m1.kp b o n q), fun b q z => m1.al b q (g.h.free z), m1.mu, fun b q => g.mt b (m1.mt b q), fun j b hb => m1.nw j b (h2 j b hb)⟩, Same.refl F1, upd_same, .nil, fF, fun j hj => (e1.lv (h2 j D hj)).1 hD, (fun z => by cases z), (fun _ z => by cases z), wipeC_un Γ1 vs, Nat.le_refl _, i0⟩
    · rintro i H2 _ ⟨Γ2, S2, F2, acc, xs, U, e2, _, s2, _⟩
      exact hG H2 (s2.trans e2.sub)
    · rintro i v H2 H3 hi ⟨Γ2, S2, F2, acc, xs, U, e2, m2, s2, hl, ha, hF, hS, nD, hU, hu, hacc, k⟩ y
      obtain ⟨F3, x, hx, g3, a⟩ := hY i F2 H2 v H3 hi s2 e2.sub y
      have e3 := e2.ext g3
      have m3 := m2.trans (.ext g3)
      have hl3 := g3.h _ _ hl
      have hF3 : F3 D = none := g3.mu D hF (by rw [hl]; exact .lst)
      have o3 : Own C F3 H3 xs acc U := ha.st g3.f fun b _ o q => g3.h _ _ q
      have hU3 : ∀ b ∈ U, F3 b = none ∧ (∀ j, b ∉ S2 j) ∧ H b = none := fun b hb => ⟨g3.mu b (hU b hb).1 (ha.lv b hb), (hU b hb).2⟩
      refine turn i x Γ2 acc hx hacc k hu S2 _ F3 H3 v _ e3 a fun Γ3 S3 σ3 e4 y4 w4 l4 k4 => ?_
      have ew : L2.wipe σ3 vs = L2.wipe σ vs := by rw [wipe_same l4 w4 hv, wipe_wipe]
      refine ⟨ew, ?_⟩
      have m4 : Mv S F H S3 F3 H3 := m3.trans ⟨Same.refl F3, fun _ _ _ h => h, fun _ h => h, fun _ h _ _ => h, fun _ h => h, fun j b hb => .inl (y4 j b hb)⟩
      have hS3 : ∀ j, D ∉ S3 j := fun j hj => hS j (y4 j D hj)
      have hUS3 : ∀ b ∈ U, ∀ j, b ∉ S3 j := fun b hb j hj => (hU b hb).2.1 j (y4 j b hj)
      have nmD : Mt (H3 D) := by rw [hl3]; exact .lst
      have stay : ∀ {S5 F5 H5}, Mv S3 F3 H3 S5 F5 H5 → H5 D = some (.lst (xs.map V.ref)) ∧ Own C F5 H5 xs acc U ∧ F5 D = none ∧ (∀ j, D ∉ S5 j) ∧ (∀ b ∈ U, F5 b = none ∧ (∀ j, b ∉ S5 j) ∧ H b = none) := fun {S5 F5 H5} m => by
        refine ⟨m.kp D _ hS3 hl3, o3.st m.fr fun b hb o q => m.kp b o (hUS3 b hb) q, m.mu D hF3 nmD hS3, fun j hj => ?_, fun b hb => ⟨m.mu b (hU3 b hb).1 (o3.lv b hb) (hUS3 b hb), fun j hj => ?_, (hU b hb).2.2⟩⟩
        · rcases m.nw j D hj with z | z
          · exact hS3 j z
          · exact nmD.1 z
        · rcases m.nw j b hj with z | z
          · exact hUS3 b hb j z
          · exact (o3.lv b hb).1 z
      refine k4 S3 σ3 F3 H3 _ e4 fun Γ4 S4 F4 H4 b e5 m5 ⟨kt, kf⟩ => ?_
      obtain ⟨d1, d2, d3, d4, d5⟩ := stay m5
      have m45 := m4.trans m5
      cases b with
      | false =>
        rw [if_neg Bool.false_ne_true]
        obtain ⟨S6, e6, h6⟩ := e5.wipe vs
        rw [ew] at e6
        exact ⟨_, S6, F4, acc, xs, U, e6, m45.trans ⟨Same.refl F4, fun _ _ _ h => h, fun _ h => h, fun _ h _ _ => h, fun _ h => h, fun j b hb => .inl (h6 j b hb)⟩, (s2.trans g3.f).trans m5.fr, d1, d2, d3, fun j hj => d4 j (h6 j D hj), nD, fun b hb => ⟨(d5 b hb).1, fun j hj => (d5 b hb).2.1 j (h6 j b hj), (d5 b hb).2.2⟩, wipeC_un Γ4 vs, Nat.le_succ_of_le hacc, kf rfl⟩
      | true =>
        rw [if_pos rfl]
        refine kt rfl S4 σ3 F4 H4 _ e5 fun Γ5 S5 F5 H5 r T w e7 m7 rv fr ⟨m, er, k5⟩ => ?_
        subst er
        obtain ⟨p, rfl, hp, hT⟩ := rv
        have m57 := m5.trans m7
        obtain ⟨f1, f2, f3, f4, f5⟩ := stay m57
        obtain ⟨S6, e6, h6⟩ := e7.wipe vs
        rw [ew] at e6
        have fS : ∀ j, D ∉ S6 j := fun j hj => f4 j (h6 j D hj)
        have hlx : (xs.map V.ref).length < sizeLine := by rw [List.length_map, f2.len]; omega
        have h4U : ∀ b ∈ U, H4 b ≠ none := fun b hb => (d2.lv b hb).1
        have h4D : H4 D ≠ none := by rw [d1]; exact fun z => nomatch z
        have DT : D ∉ T := fun z => h4D (fr D z)
        have HT : ∀ b ∈ T, H b = none := fun b hb => none_of m45.al (fr b hb)
        have o7 : Own C F5 H5 (xs ++ [p]) (acc ++ [m]) (U ++ T) := f2.snoc hp fun b hb z => h4U b hb (fr b z)
        have nU : ∀ b ∈ U ++ T, b ≠ D := fun b hb z => by
          rcases List.mem_append.mp hb with y | y
          · exact nD (z ▸ y)
          · exact DT (z ▸ y)
        refine ⟨xs.map V.ref, f1, hlx, wipeC Γ5 vs, S6, F5, acc ++ [m], xs ++ [p], U ++ T, e6.mutD f3 fS h0D, ?_, (s2.trans g3.f).trans m57.fr, by rw [upd_same, List.map_append] <;> rfl, o7.st (Same.refl F5) (fun b hb o q => by rw [upd_ne (nU b hb)]; exact q), f3, fS, fun z => nU D z rfl, fun b hb => ?_, wipeC_un Γ5 vs, by rw [List.length_append]; show acc.length + 1 ≤ i + 1; omega, k5⟩
        · have m8 := m4.trans m57
          refine ⟨m8.fr, fun b o n q => ?_, fun b q => ?_, m8.mu, fun b q => ?_, fun j b hb => m8.nw j b (h6 j b hb)⟩
          · rw [upd_ne (ne_of_none q hsD)]
            exact m8.kp b o n q
          · by_cases z : b = D
            · rw [z, upd_same]
              exact fun w => nomatch w
            · rw [upd_ne z]
              exact m8.al b q
          · rw [upd_ne (fun z => q.1 (by rw [z]; exact hsD))]
            exact m8.mt b q
        · rcases List.mem_append.mp hb with z | z
          · exact ⟨(f5 b z).1, fun j hj => (f5 b z).2.1 j (h6 j b hj), (f5 b z).2.2⟩
          · exact ⟨(hT b z).1, fun j hj => (hT b z).2 j (h6 j b hj), HT b z⟩
    · rintro H2 ⟨Γ2, S2, F2, acc, xs, U, e2, m2, s2, hl, ha, hF, hS, nD, hU, hu, hacc, k⟩
      refine c Γ2 S2 F2 H2 (.mo (MLs acc)) (D :: U) _ (e2.slots' hu (wipe_wipe σ vs).symm) m2 ⟨D, rfl, ⟨xs, U, rfl, hl, ha, nD⟩, fun b hb => ?_⟩ (fun b hb => ?_) (fin Γ2 acc k hacc hu)
      · rcases List.mem_cons.mp hb with rfl | hb
        · exact ⟨hF, hS⟩
        · exact ⟨(hU b hb).1, (hU b hb).2.1⟩
      · rcases List.mem_cons.mp hb with rfl | hb
        · exact hsD
        · exact (hU b hb).2.2
end
end My
/-! more rules of expressions -/
namespace My
open PySem PySem.Spec PyProof.Rows L2
section
variable {B : Org} {C : Addr} {Γ : Ct} {S S' : Fp} {σ : L2.St} {F F' H H' : Hp} {Q : VK} {v : V} {x : Da} {te ta tb tc to : TE} {A : AE} {D : Ends} {t u : TS} {Kf : PySem.W.Frag} {K : Ct → Rs → Prop} {r s : Rs} {l : List Da}
theorem w_chain {r r' : R2} (h : W B C Γ ta fun Γ1 x => W B C Γ1 tb fun Γ2 y => WR B C Γ2 r x y fun Γ3 z => ∃ k, z = .d (.bl k) ∧ (k = true → W B C Γ3 tc fun Γ4 w => WR B C Γ4 r' y w K) ∧ (k = false → K Γ3 (.d (.bl false)))) : W B C Γ (tChain r r' ta tb tc) K := fun S σ F H Q e c =>
  h S σ F H _ e fun Γ1 S1 F1 H1 x T v e1 m1 rx fx k1 => k1 S1 σ F1 H1 _ e1 fun Γ2 S2 F2 H2 y U w e2 m2 ry fy k2 => k2 S2 σ F2 H2 v w T U _ e2 (rx.mv m2) ry fun Γ3 S3 F3 H3 z V' b e3 m3 rz fz ⟨k, ez, kt, kf⟩ => by
    subst ez
    refine ⟨k, rz.2.blI, ?_⟩
    cases k with
    | true => exact kt rfl S3 σ F3 H3 _ e3 fun Γ4 S4 F4 H4 p W' q e4 m4 rp fp k4 => k4 S4 σ F4 H4 w q U W' Q e4 ((ry.mv m3).mv m4) rp (Cont.mv c (((m1.trans m2).trans m3).trans m4))
    | false => exact (Cont.mv c ((m1.trans m2).trans m3)).here e3 (.bl _) (kf rfl)
/-! flat items -/
def fv (d : Da) : V := (flatD d).getD .non
def Fl (l : List Da) : Prop := ∀ d ∈ l, ∃ u, flatD d = some u
theorem Fl.vs {xs : List V} (h : Fl l) (a : Ats C F xs l) : xs = l.map fv := by
  apply List.ext_getElem?
  intro i
  rw [List.getElem?_map]
  cases e : l[i]? with
  | none =>
    have : l.length ≤ i := by
      rcases Nat.lt_or_ge i l.length with z | z
      · rw [List.getElem?_eq_getElem z] at e; cases e
      · exact z
    rw [List.getElem?_eq_none (by rw [a.len]; exact this)] <;> rfl
  | some d =>
    obtain ⟨x, h1, h2⟩ := a.get e
    obtain ⟨u, hu⟩ := h d (List.mem_of_getElem? e)
    obtain rfl := at_flat hu h2
    rw [h1, Option.map_some, fv, hu] <;> rfl
theorem flat_v {u : V} (h : flatD x = some u) : flatV u = true := by
  cases x <;> first | (cases h; rfl) | (cases h)
theorem Fl.all (h : Fl l) : (l.map fv).all flatV = true := by
  rw [List.all_eq_true]
  intro v hv
  obtain ⟨d, hd, rfl⟩ := List.mem_map.mp hv
  obtain ⟨u, hu⟩ := h d hd
  rw [fv, hu]
  exact flat_v hu
theorem fl_nil : Fl [] := fun _ h => by cases h
theorem fl_cons {d : Da} {u : V} (h : flatD d = some u) (t : Fl l) : Fl (d :: l) := fun e he => by
  rcases List.mem_cons.mp he with rfl | he
  · exact ⟨u, h⟩
  · exact t e he
theorem fl_map {α : Type} {f : α → Da} {g : α → V} {xs : List α} (h : ∀ a, flatD (f a) = some (g a)) : Fl (xs.map f) := fun d hd => by
  obtain ⟨a, _, rfl⟩ := List.mem_map.mp hd
  exact ⟨_, h a⟩
theorem wr_inF {neg : Bool} {u : V} (hv : VwS Γ s l) (hl : Fl l) (hx : flatD x = some u) (k : K Γ (.d (.bl (if neg then !inV u (l.map fv) else inV u (l.map fv))))) : WR B C Γ (rIn Kf neg) (.d x) s K := fun S σ F H v w T U Q e rx ry c => by
  obtain rfl := at_flat hx rx.2
  rcases hv with hv | hv
  · obtain ⟨a, xs, rfl, h2, h3⟩ := e.vwL ry hv
    obtain rfl := hl.vs h3
    exact ⟨a, _, rfl, .inl (SqL.of h2), flat_v hx, hl.all, c.here e (.bl _) k⟩
  · obtain ⟨a, xs, rfl, h2, h3⟩ := e.vwT ry hv
    obtain rfl := hl.vs h3
    exact ⟨a, _, rfl, .inr (SqT.of h2), flat_v hx, hl.all, c.here e (.bl _) k⟩
theorem wr_inD (hv : VwL Γ s l) (px : Pl 60 x) (pl : Pl 60 (.lst l)) (k : K Γ (.d (.bl ((pys l).any fun z => PyData.eqv z (py x))))) : WR B C Γ (rInD Kf) (.d x) s K := fun S σ F H v w T U Q e rx ry c => by
  have h1 := (rx.2.same e.sub).dp (Kf := Kf) px
  have h2 := (e.vwD ry hv).dp (Kf := Kf) pl
  rw [show py (.lst l) = .list (pys l) by rw [py]] at h2
  have h3 := pl.sh.shaped (by decide)
  rw [show py (.lst l) = .list (pys l) by rw [py]] at h3
  exact ⟨_, _, h1, h2, px.sh.shaped (by decide), h3, c.here e (.bl _) k⟩
theorem wr_notInD (hv : VwL Γ s l) (px : Pl 60 x) (pl : Pl 60 (.lst l)) (k : K Γ (.d (.bl (!(pys l).any fun z => PyData.eqv z (py x))))) : WR B C Γ (rNotInD Kf) (.d x) s K := fun S σ F H v w T U Q e rx ry c => by
  have h1 := (rx.2.same e.sub).dp (Kf := Kf) px
  have h2 := (e.vwD ry hv).dp (Kf := Kf) pl
  rw [show py (.lst l) = .list (pys l) by rw [py]] at h2
  have h3 := pl.sh.shaped (by decide)
  rw [show py (.lst l) = .list (pys l) by rw [py]] at h3
  exact ⟨_, _, h1, h2, px.sh.shaped (by decide), h3, c.here e (.bl _) k⟩
/-- a sign in a text -/
theorem wr_inStr {i j : Str} (k : K Γ (.d (.bl (!(Builtin.Str.occurrences j i 0 j.length 1).isEmpty)))) : WR B C Γ (fun x y H Q => ∃ i j, x = .str i ∧ y = .str j ∧ Q (.bl (!(Builtin.Str.occurrences j i 0 j.length 1).isEmpty)) H) (.d (.str i)) (.d (.str j)) K := fun S σ F H v w T U Q e rx ry c => by
  obtain rfl := rx.2.strI
  obtain rfl := ry.2.strI
  exact ⟨i, j, rfl, rfl, c.here e (.bl _) k⟩
theorem wr_notInStr {i j : Str} (k : K Γ (.d (.bl (!!(Builtin.Str.occurrences j i 0 j.length 1).isEmpty)))) : WR B C Γ (fun x y H Q => ∃ i j, x = .str i ∧ y = .str j ∧ Q (.bl (!!(Builtin.Str.occurrences j i 0 j.length 1).isEmpty)) H) (.d (.str i)) (.d (.str j)) K := fun S σ F H v w T U Q e rx ry c => by
  obtain rfl := rx.2.strI
  obtain rfl := ry.2.strI
  exact ⟨i, j, rfl, rfl, c.here e (.bl _) k⟩
theorem wr_ixS {z : Str} {i : Int} {c : Nat} (hz : z.length ≤ sizeLine) (hi : atI z.cps.toList i = some c) (k : K Γ (.d (.str ⟨#[c]⟩))) : WR B C Γ rIxS (.d (.str z)) (.d (.int i)) K := fun S σ F H v w T U Q e rx ry c' => by
  obtain rfl := rx.2.strI
  obtain rfl := ry.2.intI
  exact ⟨z, i, c, rfl, rfl, hz, hi, c'.here e (.str _) k⟩
theorem wr_rep {n : Int} (hv : VwL Γ r l) (h1 : -2 ^ 63 ≤ n) (h2 : n < 2 ^ 63) (hs : l.length * n.toNat ≤ sizeLine) (k : K Γ (.mo (ML (List.replicate n.toNat l).flatten))) : WR B C Γ rRep r (.d (.int n)) K := fun S σ F H v w T U Q e rx ry c => by
  obtain rfl := ry.2.intI
  obtain ⟨a, xs, rfl, h3, h4⟩ := e.vwL rx hv
  refine ⟨a, n, xs, rfl, rfl, h3, h1, h2, by rw [h4.len]; exact hs, fun p hp => c.newL e hp ?_ k⟩
  generalize n.toNat = m
  induction m with
  | zero => exact .nil
  | succ m ih =>
    rw [List.replicate_succ, List.replicate_succ, List.flatten_cons, List.flatten_cons]
    exact h4.app ih
/-! calls of built-in functions -/
theorem wc_min2 {i j : Int} (k : K Γ (.d (.int (if j < i then j else i)))) : WC B C Γ (fun xs H Q => ∃ i j, xs = [V.int i, V.int j] ∧ Q (V.int (if j < i then j else i)) H) [.d (.int i), .d (.int j)] K := fun S σ F H vs T Q e rv c => by
  obtain ⟨v, w, T', U', rfl, r1, r2⟩ := vs2 rv
  obtain rfl := r1.2.intI
  obtain rfl := r2.2.intI
  exact ⟨i, j, rfl, c.here e (.int _) k⟩
def dIs (ns : List Int) : List Da := ns.map Da.int
theorem ats_ints {xs : List V} {ns : List Int} (a : Ats C F xs (dIs ns)) : xs = ns.map V.int := by
  have h := (show Fl (dIs ns) from fl_map (g := V.int) fun _ => rfl).vs a
  rw [h]
  unfold dIs
  rw [List.map_map] <;> rfl
theorem wc_sum {ns : List Int} (hv : VwL Γ r (dIs ns)) (k : K Γ (.d (.int ns.sum))) : WC B C Γ (rSum Kf) [r] K := fun S σ F H vs T Q e rv c => by
  obtain ⟨v, T', rfl, r1⟩ := vs1 rv
  obtain ⟨a, xs, rfl, h2, h3⟩ := e.vwL r1 hv
  obtain rfl := ats_ints h3
  exact ⟨a, ns, rfl, SqL.of h2, c.here e (.int _) k⟩
theorem wc_max {ns : List Int} {m : Int} (hv : VwL Γ r (dIs ns)) (hm : m ∈ ns) (hle : ∀ y ∈ ns, y ≤ m) (k : K Γ (.d (.int m))) : WC B C Γ (rMax Kf) [r] K := fun S σ F H vs T Q e rv c => by
  obtain ⟨v, T', rfl, r1⟩ := vs1 rv
  obtain ⟨a, xs, rfl, h2, h3⟩ := e.vwL r1 hv
  obtain rfl := ats_ints h3
  refine ⟨a, ns, rfl, SqL.of h2, List.length_pos_of_mem hm, fun m' h1 h2 => ?_⟩
  have : m' = m := Int.le_antisymm (hle m' h1) (h2 m hm)
  subst this
  exact c.here e (.int _) k
theorem wc_min {ns : List Int} {m : Int} (hv : VwL Γ r (dIs ns)) (hm : m ∈ ns) (hle : ∀ y ∈ ns, m ≤ y) (k : K Γ (.d (.int m))) : WC B C Γ (rMin Kf) [r] K := fun S σ F H vs T Q e rv c => by
  obtain ⟨v, T', rfl, r1⟩ := vs1 rv
  obtain ⟨a, xs, rfl, h2, h3⟩ := e.vwL r1 hv
  obtain rfl := ats_ints h3
  refine ⟨a, ns, rfl, SqL.of h2, List.length_pos_of_mem hm, fun m' h1 h2 => ?_⟩
  have : m' = m := Int.le_antisymm (h2 m hm) (hle m' h1)
  subst this
  exact c.here e (.int _) k
theorem wc_divmod {P : Int → Int → Prop} {i j : Int} (h : P i j) (k : K Γ (.d (.tup [.int (i / j), .int (i % j)]))) : WC B C Γ (fun xs H Q => ∃ i j, xs = [.int i, .int j] ∧ P i j ∧ ∀ p, H p = none → Q (.ref p) (upd H p (.tup [.int (i / j), .int (i % j)]))) [.d (.int i), .d (.int j)] K := fun S σ F H vs T Q e rv c => by
  obtain ⟨v, w, T', U', rfl, r1, r2⟩ := vs2 rv
  obtain rfl := r1.2.intI
  obtain rfl := r2.2.intI
  exact ⟨i, j, rfl, h, fun p hp => c.newT e hp (.cons (.int _) (.cons (.int _) .nil)) k⟩
/-! methods of lists -/
def WM (B : Org) (C : Addr) (Γ : Ct) (r : V → List V → Hp → VK → Prop) (o : Rs) (xs : List Rs) (K : Ct → Rs → Prop) : Prop := ∀ S σ F H v vs T U Q, Env B C Γ S σ F H → Rv C σ S F H v o T → Rvs C σ S F H vs xs U → Cont B C S σ F H K Q → r v vs H Q
theorem w_bm {rm : V → List V → Hp → VK → Prop} {t : TA} (h : W B C Γ to fun Γ1 o => (∃ l, VwL Γ1 o l) ∧ WA B C Γ1 t fun Γ2 xs => WM B C Γ2 rm o xs K) : W B C Γ (tBM Kf "list" rm to t) K := fun S σ F H Q e c =>
  h S σ F H _ e fun Γ1 S1 F1 H1 o T v e1 m1 ro fo ⟨⟨l, hl⟩, k⟩ => by
    obtain ⟨a, xs, rfl, h2, h3⟩ := e1.vwL ro hl
    exact ⟨.inl ⟨rfl, xs, SqL.of h2⟩, k S1 σ F1 H1 _ e1 fun Γ2 S2 F2 H2 rs U vs e2 m2 rv fr k2 => k2 S2 σ F2 H2 _ vs T U Q e2 (ro.mv m2) rv (Cont.mv c (m1.trans m2))⟩
theorem wm_count {o : Rs} {u : V} (hv : VwL Γ o l) (hl : Fl l) (hx : flatD x = some u) (k : K Γ (.d (.int ((l.countP fun z => eqV (fv z) u : Nat) : Int)))) : WM B C Γ (rCount Kf) o [.d x] K := fun S σ F H v vs T U Q e ro rv c => by
  obtain ⟨w, T', rfl, r1⟩ := vs1 rv
  obtain rfl := at_flat hx r1.2
  obtain ⟨a, xs, rfl, h2, h3⟩ := e.vwL ro hv
  obtain rfl := hl.vs h3
  refine ⟨a, _, _, rfl, rfl, SqL.of h2, flat_v hx, hl.all, ?_⟩
  rw [List.countP_map]
  exact c.here e (.int _) k
theorem wm_index {o : Rs} {u : V} {j : Nat} {z : Da} (hv : VwL Γ o l) (hl : Fl l) (hx : flatD x = some u) (hj : l[j]? = some z) (hz : eqV (fv z) u = true) (hn : ∀ (m : Nat) (z' : Da), m < j → l[m]? = some z' → eqV (fv z') u = false) (k : K Γ (.d (.int (j : Int)))) : WM B C Γ (rIndex Kf) o [.d x] K := fun S σ F H v vs T U Q e ro rv c => by
  obtain ⟨w, T', rfl, r1⟩ := vs1 rv
  obtain rfl := at_flat hx r1.2
  obtain ⟨a, xs, rfl, h2, h3⟩ := e.vwL ro hv
  obtain rfl := hl.vs h3
  refine ⟨a, _, _, j, fv z, rfl, rfl, SqL.of h2, flat_v hx, hl.all, by rw [List.getElem?_map, hj] <;> rfl, hz, fun m z' hm e' => ?_, c.here e (.int _) k⟩
  rw [List.getElem?_map] at e'
  cases q : l[m]? with
  | none => rw [q] at e'; cases e'
  | some d =>
    rw [q] at e'
    cases e'
    exact hn m d hm q
theorem pys_get : ∀ {l : List Da} {i : Nat} {z : Da}, l[i]? = some z → (pys l)[i]? = some (py z) := fun {l i z} h => by rw [pys_map, List.getElem?_map, h] <;> rfl
theorem wm_indexD {o : Rs} {j : Nat} {z : Da} (hv : VwL Γ o l) (px : Pl 60 x) (pl : Pl 60 (.lst l)) (hj : l[j]? = some z) (hz : (py z).eqv (py x) = true) (hn : ∀ (m : Nat) (z' : Da), m < j → l[m]? = some z' → (py z').eqv (py x) = false) (k : K Γ (.d (.int (j : Int)))) : WM B C Γ (rIndexD Kf) o [.d x] K := fun S σ F H v vs T U Q e ro rv c => by
  obtain ⟨w, T', rfl, r1⟩ := vs1 rv
  have d1 := (r1.2.same e.sub).dp (Kf := Kf) px
  have d2 := (e.vwD ro hv).dp (Kf := Kf) pl
  rw [show py (.lst l) = .list (pys l) by rw [py]] at d2
  have d3 := pl.sh.shaped (by decide)
  rw [show py (.lst l) = .list (pys l) by rw [py]] at d3
  obtain ⟨a, xs, rfl, h2, h3⟩ := e.vwL ro hv
  refine ⟨a, w, _, _, j, py z, rfl, rfl, d2, d1, d3, px.sh.shaped (by decide), pys_get hj, hz, fun m z' hm e' => ?_, c.here e (.int _) k⟩
  rw [pys_map, List.getElem?_map] at e'
  cases q : l[m]? with
  | none => rw [q] at e'; cases e'
  | some d =>
    rw [q] at e'
    cases e'
    exact hn m d hm q
/-! the same value is the same data -/
theorem at_tup1 {a : Addr} {d : Da} {ps : List Da} (h : At C F (.ref a) (.tup ps)) (k : At C F (.ref a) d) (hd : ∃ qs, d = .tup qs) : ∃ qs, d = .tup qs ∧ ∃ xs, Ats C F xs ps ∧ Ats C F xs qs := by
  obtain ⟨qs, rfl⟩ := hd
  obtain ⟨a1, xs, e1, h1, h2⟩ := h.tupI
  obtain ⟨a2, ys, e2, h3, h4⟩ := k.tupI
  cases e1
  cases e2
  rw [h1] at h3
  cases h3
  exact ⟨qs, rfl, xs, h2, h4⟩
/-- tuples of flat items -/
def TupF (d : Da) : Prop := ∃ l, d = .tup l ∧ Fl l
theorem flat_one {d e : Da} (hd : ∃ u, flatD d = some u) (he : ∃ u, flatD e = some u) (a : At C F v d) (b : At C F v e) : d = e := by
  obtain ⟨u, hd⟩ := hd
  obtain ⟨w, he⟩ := he
  cases a <;> first | (cases hd; done) | (cases b <;> first | rfl | cases he)
theorem tupF_one {a : Addr} {d e : Da} (hd : TupF d) (he : TupF e) (h : At C F (.ref a) d) (k : At C F (.ref a) e) : d = e := by
  obtain ⟨ps, rfl, fp⟩ := hd
  obtain ⟨qs, rfl, fq⟩ := he
  obtain ⟨_, e, xs, h1, h2⟩ := at_tup1 h k ⟨_, rfl⟩
  cases e
  congr 1
  apply List.ext_getElem?
  intro i
  cases e1 : ps[i]? with
  | none =>
    have : ps.length ≤ i := by
      rcases Nat.lt_or_ge i ps.length with z | z
      · rw [List.getElem?_eq_getElem z] at e1; cases e1
      · exact z
    rw [List.getElem?_eq_none (by rw [← h2.len, h1.len]; exact this)]
  | some p =>
    obtain ⟨y, h3, h4⟩ := h1.get e1
    have hi := (List.getElem?_eq_some_iff.mp h3).1
    have e2 : qs[i]? = some (qs[i]'(by rw [← h2.len]; exact hi)) := List.getElem?_eq_getElem _
    rw [e2, flat_one (fp p (List.mem_of_getElem? e1)) (fq _ (List.mem_of_getElem? e2)) h4 (h2.at_ i y _ h3 e2)]
open Classical in
theorem wm_countD {o : Rs} (hv : VwL Γ o l) (px : Pl 59 x) (pl : ∀ d ∈ l, Pl 59 d) (hl : ∀ d ∈ l, TupF d) (k : K Γ (.d (.int ((l.countP fun z => (py z).eqv (py x) : Nat) : Int)))) : WM B C Γ (rCountD Kf) o [.d x] K := fun S σ F H v vs T U Q e ro rv c => by
  obtain ⟨w, T', rfl, r1⟩ := vs1 rv
  obtain ⟨a, xs, rfl, h2, h3⟩ := e.vwL ro hv
  have d1 := (r1.2.same e.sub).dp (Kf := Kf) px
  have refs : ∃ bs : List Addr, xs = bs.map V.ref := by
    have : ∀ (xs : List V) (l : List Da), Ats C F xs l → (∀ d ∈ l, TupF d) → ∃ bs : List Addr, xs = bs.map V.ref := by
      intro xs
      induction xs with
      | nil => exact fun _ _ _ => ⟨[], rfl⟩
      | cons x xs ih =>
        intro l a hl
        cases l with
        | nil => exact absurd a.len (by simp)
        | cons d l =>
          obtain ⟨bs, rfl⟩ := ih l a.tl fun d hd => hl d (List.mem_cons_of_mem _ hd)
          obtain ⟨ps, rfl, _⟩ := hl d List.mem_cons_self
          obtain ⟨b, _, rfl, _⟩ := a.hd.tupI
          exact ⟨b :: bs, rfl⟩
    exact this xs l h3 hl
  obtain ⟨bs, rfl⟩ := refs
  have hlen : bs.length = l.length := by rw [← h3.len, List.length_map]
  let ef : Addr → Bool := fun b => if h : ∃ d, At C F (.ref b) d ∧ TupF d then (py (Classical.choose h)).eqv (py x) else false
  have hef : ∀ (i : Nat) (b : Addr) (d : Da), bs[i]? = some b → l[i]? = some d → (py d).eqv (py x) = ef b := fun i b d hb hd => by
    have hv : (bs.map V.ref)[i]? = some (.ref b) := by rw [List.getElem?_map, hb] <;> rfl
    have ad := h3.at_ i _ d hv hd
    have hx : ∃ d, At C F (.ref b) d ∧ TupF d := ⟨d, ad, hl d (List.mem_of_getElem? hd)⟩
    show _ = if h : _ then _ else _
    rw [dif_pos hx]
    have q := Classical.choose_spec hx
    rw [tupF_one q.2 (hl d (List.mem_of_getElem? hd)) q.1 ad]
  refine ⟨a, w, py x, bs, pys l, ef, rfl, rfl, SqL.of h2, dpAll_of (Kf := Kf) (H := H) (by rw [List.length_map]; exact hlen) (fun i y d e1 e2 => ((h3.at_ i y d e1 e2).same e.sub).dp (pl d (List.mem_of_getElem? e2))), d1, px.sh.shaped (by decide), fun z hz => ?_, fun i b z hb hz => ?_, ?_⟩
  · rw [pys_map] at hz
    obtain ⟨d, hd, rfl⟩ := List.mem_map.mp hz
    exact (pl d hd).sh.shaped (by decide)
  · rw [pys_map, List.getElem?_map] at hz
    cases q : l[i]? with
    | none => rw [q] at hz; cases hz
    | some d =>
      rw [q] at hz
      cases hz
      exact hef i b d hb q
  · have ec : bs.countP ef = l.countP fun z => (py z).eqv (py x) := by
      clear d1 h2 ro hv pl
      have : ∀ (bs : List Addr) (l : List Da), bs.length = l.length → (∀ (i : Nat) (b : Addr) (d : Da), bs[i]? = some b → l[i]? = some d → (py d).eqv (py x) = ef b) → bs.countP ef = l.countP fun z => (py z).eqv (py x) := by
        intro bs
        induction bs with
        | nil =>
          intro l hl _
          have : l = [] := List.length_eq_zero_iff.mp (by simpa using hl.symm)
          rw [this] <;> rfl
        | cons b bs ih =>
          intro l hl h
          cases l with
          | nil => exact absurd hl (by simp)
          | cons d l =>
            rw [List.countP_cons, List.countP_cons, ih l (by simpa using hl) fun i b d e1 e2 => h (i + 1) b d (by simpa using e1) (by simpa using e2), h 0 b d rfl rfl]
      exact this bs l hlen hef
    rw [ec]
    exact c.here e (.int _) k
/-! join -/
def dSs (zs : List Str) : List Da := zs.map Da.str
theorem ats_strs {xs : List V} {zs : List Str} (a : Ats C F xs (dSs zs)) : xs = zs.map V.str := by
  have h := (show Fl (dSs zs) from fl_map (g := V.str) fun _ => rfl).vs a
  rw [h]
  unfold dSs
  rw [List.map_map] <;> rfl
theorem w_join (h : W B C Γ to fun Γ1 o => ∃ a : Str, o = .d (.str a) ∧ W B C Γ1 te fun Γ2 r => ∃ zs, VwS Γ2 r (dSs zs) ∧ (zs.map (·.length)).sum + zs.length * a.length ≤ 16777216 ∧ K Γ2 (.d (.str (Txt.join a zs)))) :
    W B C Γ (tM1 (fun x xs H Q => ∃ (a : Str) (p : Addr) (ys : List Str), x = V.str a ∧ xs = [V.ref p] ∧ (SqL Kf H p (ys.map V.str) ∨ SqT Kf H p (ys.map V.str)) ∧ (ys.map (·.length)).sum + ys.length * a.length ≤ 16777216 ∧ Q (V.str (Txt.join a ys)) H) to te) K := fun S σ F H Q e c =>
  h S σ F H _ e fun Γ1 S1 F1 H1 o T v e1 m1 ro fo ⟨a, eo, k⟩ => by
    subst eo
    obtain rfl := ro.2.strI
    refine ⟨⟨a, rfl⟩, k S1 σ F1 H1 _ e1 fun Γ2 S2 F2 H2 r U w e2 m2 rv fr ⟨zs, hv, hz, k2⟩ => ?_⟩
    rcases hv with hv | hv
    · obtain ⟨b, xs, rfl, h2, h3⟩ := e2.vwL rv hv
      obtain rfl := ats_strs h3
      exact ⟨a, b, zs, rfl, rfl, .inl (SqL.of h2), hz, (Cont.mv c (m1.trans m2)).here e2 (.str _) k2⟩
    · obtain ⟨b, xs, rfl, h2, h3⟩ := e2.vwT rv hv
      obtain rfl := ats_strs h3
      exact ⟨a, b, zs, rfl, rfl, .inr (SqT.of h2), hz, (Cont.mv c (m1.trans m2)).here e2 (.str _) k2⟩
/-! a list of lists of one's own: x[i][j], and x[i][j] = y -/
theorem w_ix2 {n i j : Nat} {a b : Nat} {ms : List MO} (hn : Γ[n]? = some (.mo (MLs ms))) (hi : Γ[i]? = some (.d (.int (a : Int)))) (hj : Γ[j]? = some (.d (.int (b : Int)))) (h : ∃ (l : List Da) (x : Da), ms[a]? = some (ML l) ∧ l[b]? = some x ∧ K Γ (.d x)) : W B C Γ (tOp (rIxL Kf) (tOp (rIxL Kf) (tVar n) (tVar i)) (tVar j)) K := fun S σ F H Q e c => by
  obtain ⟨l, x, hm, hx, k⟩ := h
  obtain ⟨p, h1, xs, U, _, h2, own, _⟩ := e.sl n _ hn
  obtain ⟨_, vi, hi1, hi2⟩ := e.sl i _ hi
  obtain ⟨_, vj, hj1, hj2⟩ := e.sl j _ hj
  obtain rfl := hi2.intI
  obtain rfl := hj2.intI
  obtain ⟨y, T, h3, ⟨_, ys, h4, h5⟩, _⟩ := own.get hm
  obtain ⟨z, h6, h7⟩ := h5.get hx
  have g3 : (xs.map V.ref)[a]? = some (.ref y) := by rw [List.getElem?_map, h3] <;> rfl
  have nat : ∀ {α : Type} {ws : List α} {c : Nat} {w : α}, ws[c]? = some w → atI ws (c : Int) = some w := fun {α ws c w} h => by
    have hc := (List.getElem?_eq_some_iff.mp h).1
    unfold L2.atI ixN
    rw [if_pos (by omega), if_pos (by omega)]
    simpa using h
  exact ⟨_, h1, _, hi1, p, _, _, _, rfl, rfl, SqL.of h2, nat g3, _, hj1, y, ys, _, z, rfl, rfl, SqL.of h4, nat h6, c.here e h7 k⟩
theorem ws_put2 {n i j : Nat} (h : W B C Γ te fun Γ1 r => ∃ (a b : Nat) (ms : List MO) (l : List Da) (x : Da) (Γ2 : Ct), Frz r x ∧ Γ1[n]? = some (.mo (MLs ms)) ∧ Γ1[i]? = some (.d (.int (a : Int))) ∧ Γ1[j]? = some (.d (.int (b : Int))) ∧ ms[a]? = some (ML l) ∧ b < l.length ∧ Γ1.set n (.mo (MLs (ms.set a (ML (l.set b x))))) = Γ2 ∧ A.nx Γ2) :
    WS B C Γ (tAsg te (gSub (tOp (rIxL Kf) (tVar n) (tVar i)) (tVar j) rSetL)) A := fun S σ F H D e d => by
  refine w_fz (K := fun Γ1 r => ∃ (a b : Nat) (ms : List MO) (l : List Da) (x : Da) (Γ2 : Ct), r = .d x ∧ Γ1[n]? = some (.mo (MLs ms)) ∧ Γ1[i]? = some (.d (.int (a : Int))) ∧ Γ1[j]? = some (.d (.int (b : Int))) ∧ ms[a]? = some (ML l) ∧ b < l.length ∧ Γ1.set n (.mo (MLs (ms.set a (ML (l.set b x))))) = Γ2 ∧ A.nx Γ2) (h.mono fun Γ1 r ⟨a, b, ms, l, x, Γ2, q1, q⟩ => ⟨x, q1, a, b, ms, l, x, Γ2, rfl, q⟩) S σ F H _ e fun Γ1 S1 F1 H1 r T v e1 m1 rv fr ⟨a, b, ms, l, x, Γ2, er, hn, hi, hj, hm, hb, h2, k⟩ => ?_
  subst er
  subst h2
  obtain ⟨p, g1, xs, U, eU, g2, own, np⟩ := e1.sl n _ hn
  obtain ⟨_, vi, hi1, hi2⟩ := e1.sl i _ hi
  obtain ⟨_, vj, hj1, hj2⟩ := e1.sl j _ hj
  obtain rfl := hi2.intI
  obtain rfl := hj2.intI
  obtain ⟨y, T', h3, ⟨_, ys, h4, h5⟩, _⟩ := own.get hm
  have g3 : (xs.map V.ref)[a]? = some (.ref y) := by rw [List.getElem?_map, h3] <;> rfl
  have nat : ∀ {α : Type} {ws : List α} {c : Nat} {w : α}, ws[c]? = some w → atI ws (c : Int) = some w := fun {α ws c w} h => by
    have hc := (List.getElem?_eq_some_iff.mp h).1
    unfold L2.atI ixN
    rw [if_pos (by omega), if_pos (by omega)]
    simpa using h
  have hbl : b < ys.length := by rw [h5.len]; exact hb
  have ixb : ixN ys.length (b : Int) = some b := by
    unfold ixN
    rw [if_pos (by omega), if_pos (by omega)]
    simp
  refine ⟨_, g1, _, hi1, p, _, _, _, rfl, rfl, SqL.of g2, nat g3, _, hj1, y, ys, _, b, rfl, rfl, h4, ixb, ?_⟩
  have h6 : Ats C F1 (ys.set b v) (l.set b x) := by
    refine ⟨by rw [List.length_set, List.length_set, h5.len], fun q z w e1 e2 => ?_⟩
    rw [List.getElem?_set] at e1 e2
    by_cases hq : b = q
    · rw [if_pos hq, if_pos hbl] at e1
      rw [if_pos hq, if_pos hb] at e2
      cases e1
      cases e2
      exact rv.2
    · rw [if_neg hq] at e1 e2
      exact h5.at_ q z w e1 e2
  obtain ⟨yU, own2⟩ := own.setL (l' := l.set b x) hm h3 h6
  have yS : y ∈ S1 n := by rw [eU]; exact List.mem_cons_of_mem _ yU
  have yp : y ≠ p := fun z => np (z ▸ yU)
  have ch : Chg F1 H1 (S1 n) F1 (upd H1 y (.lst (ys.set b v))) (S1 n) := by
    have hF : F1 y = none := e1.fz n y yS
    refine ⟨Same.refl F1, fun b u q => ?_, fun b u nb q => ?_, fun b q _ => q, fun b hb => ?_, fun b hb => e1.fz n b hb, fun b hb => .inl hb⟩
    · rw [upd_ne (ne_of_none q hF)]
      exact e1.sub _ _ q
    · rw [upd_ne fun z => nb (by rw [z]; exact yS)]
      exact q
    · by_cases z : b = y
      · rw [z, upd_same]
        exact .lst
      · rw [upd_ne z]
        exact e1.lv hb
  obtain ⟨e2, m2⟩ := Env.chg (m' := MLs (ms.set a (ML (l.set b x)))) e1 hn g1 ch ⟨xs, U, eU, by rw [upd_ne yp.symm]; exact g2, own2, np⟩
  exact d.nx _ _ σ F1 _ m1.fr e2 k
theorem wc_lenO2 {ms : List MO} {i : Nat} (hi : Γ[i]? = some (.mo (MLs ms))) (k : K Γ (.d (.int (ms.length : Nat)))) : WC B C Γ (fun xs H Q => ∃ p ys, xs = [.ref p] ∧ (SqL Kf H p ys ∨ SqT Kf H p ys) ∧ Q (.int ys.length) H) [.al i] K := fun S σ F H vs T Q e rv c => by
  obtain ⟨v, T', rfl, rz⟩ := vs1 rv
  obtain ⟨a, h1, xs, U, _, h2, own, _⟩ := e.sl i _ hi
  rw [rz.2] at h1
  cases h1
  refine ⟨a, xs.map V.ref, rfl, .inl (SqL.of h2), ?_⟩
  rw [List.length_map, own.len]
  exact c.here e (.int _) k
/-- the lists of a list of one's own become what they are -/
theorem Own.dat {ls : List (List Da)} {xs U : List Addr} (h : Own C F H xs (ls.map ML) U) : ∃ zs : List (List V), zs.length = xs.length ∧ U = xs ∧ (∀ (i : Nat) (a : Addr), xs[i]? = some a → ∃ ys l, zs[i]? = some ys ∧ ls[i]? = some l ∧ H a = some (.lst ys) ∧ Ats C F ys l) ∧ (∀ (i j : Nat) (a : Addr), xs[i]? = some a → xs[j]? = some a → i = j) := by
  induction ls generalizing xs U with
  | nil =>
    cases h
    exact ⟨[], rfl, rfl, (fun i a e => by cases e), (fun i j a e => by cases e)⟩
  | cons l ls ih =>
    rw [List.map_cons] at h
    cases h with
    | @cons x T m xs ms U h t n =>
      obtain ⟨zs, h1, h2, h3, h4⟩ := ih t
      obtain ⟨hT, ys, g1, g2⟩ := h
      subst hT h2
      refine ⟨ys :: zs, by rw [List.length_cons, List.length_cons, h1], rfl, fun i a e => ?_, fun i j a e1 e2 => ?_⟩
      · cases i with
        | zero =>
          cases e
          exact ⟨ys, l, rfl, rfl, g1, g2⟩
        | succ i => exact h3 i a (by simpa using e)
      · have nx : ∀ k, U[k]? = some x → False := fun k q => n x (List.mem_singleton.mpr rfl) (List.mem_of_getElem? q)
        cases i with
        | zero =>
          cases e1
          cases j with
          | zero => rfl
          | succ j => exact (nx j (by simpa using e2)).elim
        | succ i =>
          cases j with
          | zero =>
            cases e2
            exact (nx i (by simpa using e1)).elim
          | succ j => rw [h4 i j a (by simpa using e1) (by simpa using e2)]
/-- things that are nobody's are frozen -/
theorem Env.fzs (ps : List Addr) (e : Env B C Γ S σ F H) (h : ∀ p ∈ ps, (∃ o, H p = some o) ∧ (∀ i, p ∉ S i) ∧ B.H0 p = none) : ∃ F', Env B C Γ S σ F' H ∧ Same F F' ∧ ∀ p ∈ ps, F' p = H p := by
  induction ps with
  | nil => exact ⟨F, e, Same.refl F, fun _ z => by cases z⟩
  | cons p ps ih =>
    obtain ⟨F1, e1, s1, h1⟩ := ih fun q hq => h q (List.mem_cons_of_mem _ hq)
    obtain ⟨⟨o, ho⟩, hn, h0⟩ := h p List.mem_cons_self
    cases z : F1 p with
    | none =>
      have s2 := fz_list (o := o) e1.sub z ho
      refine ⟨upd F1 p o, e1.fz1 z ho hn h0, s1.trans s2.1, fun q hq => ?_⟩
      rcases List.mem_cons.mp hq with y | y
      · rw [y, upd_same, ho]
      · by_cases w : q = p
        · rw [w, upd_same, ho]
        · rw [upd_ne w]
          exact h1 q y
    | some u =>
      refine ⟨F1, e1, s1, fun q hq => ?_⟩
      rcases List.mem_cons.mp hq with y | y
      · rw [y, z]
        exact (e1.sub _ _ z).symm
      · exact h1 q y
theorem ws_fz2 (n : Nat) {ls : List (List Da)} {t : TS} {A : AE} {Γ2 : Ct} (hn : Γ[n]? = some (.mo (MLs (ls.map ML)))) (hT : ∀ b, ¬ B.T n b) (h2 : Γ.set n (.d (.lst (ls.map Da.lst))) = Γ2) (h : WS B C Γ2 t A) : WS B C Γ t A := fun S σ F H D e d => by
  subst h2
  obtain ⟨a, ha, xs, U, eU, g1, own, na⟩ := e.sl n _ hn
  obtain ⟨zs, h1, rfl, h3, _⟩ := own.dat
  have il : n < Γ.length := (List.getElem?_eq_some_iff.mp hn).1
  have hl := own.len
  rw [List.length_map] at hl
  have e0 := e.un n (w := some (.ref a))
  have es : σ.set n (some (.ref a)) = σ := by
    apply List.ext_getElem?
    intro j
    by_cases z : j = n
    · rw [z, List.getElem?_set_self (by rw [e.len]; exact il), ha]
    · rw [List.getElem?_set_ne (Ne.symm z)]
  have mem : ∀ p ∈ a :: U, p ∈ S n := fun p hp => by rw [eU]; exact hp
  obtain ⟨F1, e1, s1, hF⟩ := e0.fzs (a :: U) fun p hp => ⟨by
      rcases List.mem_cons.mp hp with rfl | hp
      · exact ⟨_, g1⟩
      · obtain ⟨i, hi⟩ := List.mem_iff_getElem?.mp hp
        obtain ⟨ys, l, _, _, q, _⟩ := h3 i p hi
        exact ⟨_, q⟩, fun j hj => by
      by_cases z : j = n
      · rw [z, setS_i] at hj; cases hj
      · rw [setS_j z] at hj
        exact z (e.dis j n p hj (mem p hp)), (e.own n p (mem p hp)).resolve_left (hT p)⟩
  have ad : At C F1 (.ref a) (.lst (ls.map Da.lst)) := by
    refine .lst' (by rw [hF a List.mem_cons_self]; exact g1) ⟨by rw [List.length_map, List.length_map, hl], fun i x d e1 e2 => ?_⟩
    rw [List.getElem?_map] at e1 e2
    cases q1 : U[i]? with
    | none => rw [q1] at e1; cases e1
    | some y =>
      rw [q1] at e1
      cases e1
      obtain ⟨ys, l, _, q3, q4, q5⟩ := h3 i y q1
      rw [q3] at e2
      cases e2
      exact .lst' (by rw [hF y (List.mem_cons_of_mem _ (List.mem_of_getElem? q1))]; exact q4) (q5.same s1)
  have e2 := e1.putD (i := n) (v := .ref a) (by rw [List.length_set]; exact il) ad
  rw [List.set_set, List.set_set, es] at e2
  exact h _ σ _ H D e2 (d.at_ s1)
end
end My
/-! own dicts -/
namespace My
open PySem PySem.Spec PyProof.Rows L2
/-- an item of a written tuple -/
def tupE (e : Expr) (i : Nat) : Expr := match e with
  | .Tuple es _ _ => es.getD i e
  | .List es _ => es.getD i e
  | _ => e
section
variable {κ : Type} [DecidableEq κ]
def valD (l : List (κ × Da)) (k : κ) : Option Da := (l.find? fun e => decide (e.1 = k)).map (·.2)
def putD (l : List (κ × Da)) (k : κ) (x : Da) : List (κ × Da) := if (l.any fun e => decide (e.1 = k)) = true then l.map (fun e => if e.1 = k then (e.1, x) else e) else l ++ [(k, x)]
structure KvAt (C : Addr) (F : Hp) (kvs : List (κ × V)) (l : List (κ × Da)) : Prop where
  ks : kvs.map (·.1) = l.map (·.1)
  vs : Ats C F (kvs.map (·.2)) (l.map (·.2))
variable {C : Addr} {F F' : Hp} {kvs : List (κ × V)} {l : List (κ × Da)} {k : κ} {v : V} {x : Da}
theorem KvAt.same (s : Same F F') (h : KvAt C F kvs l) : KvAt C F' kvs l := ⟨h.ks, h.vs.same s⟩
theorem KvAt.nil : KvAt C F ([] : List (κ × V)) [] := ⟨rfl, .nil⟩
theorem KvAt.len (h : KvAt C F kvs l) : kvs.length = l.length := by
  have := congrArg List.length h.ks
  rw [List.length_map, List.length_map] at this
  exact this
theorem KvAt.rec' {P : List (κ × V) → List (κ × Da) → Prop} (n : P [] []) (c : ∀ (k : κ) (v : V) (x : Da) (kvs : List (κ × V)) (l : List (κ × Da)), At C F v x → KvAt C F kvs l → P kvs l → P ((k, v) :: kvs) ((k, x) :: l)) : ∀ {kvs l}, KvAt C F kvs l → P kvs l := by
  intro kvs
  induction kvs with
  | nil =>
    intro l h
    have : l = [] := List.length_eq_zero_iff.mp h.len.symm
    rw [this]
    exact n
  | cons e kvs ih =>
    intro l h
    cases l with
    | nil => exact absurd h.len (by simp)
    | cons f l =>
      obtain ⟨k, v⟩ := e
      obtain ⟨k', x⟩ := f
      have hk := h.ks
      rw [List.map_cons, List.map_cons] at hk
      injection hk with h1 h2
      have h1 : k = k' := h1
      subst h1
      have hv := h.vs
      rw [List.map_cons, List.map_cons] at hv
      exact c k v x kvs l hv.hd ⟨h2, hv.tl⟩ (ih ⟨h2, hv.tl⟩)
theorem KvAt.val (h : KvAt C F kvs l) (k : κ) : match valD l k with | none => valV kvs k = none | some x => ∃ v, valV kvs k = some v ∧ At C F v x := by
  refine KvAt.rec' (C := C) (F := F) (P := fun kvs l => match valD l k with | none => valV kvs k = none | some x => ∃ v, valV kvs k = some v ∧ At C F v x) rfl (fun k' v x kvs l a _ ih => ?_) h
  by_cases e : k' = k
  · have e1 : valD ((k', x) :: l) k = some x := by
      unfold valD
      rw [List.find?_cons_of_pos (by simpa using e)] <;> rfl
    rw [e1]
    exact ⟨v, valV_pos e, a⟩
  · have e1 : valD ((k', x) :: l) k = valD l k := by
      unfold valD
      rw [List.find?_cons_of_neg (by simpa using e)]
    rw [e1, valV_neg (p := (k', v)) e]
    exact ih
theorem KvAt.none (h : KvAt C F kvs l) (e : valD l k = Option.none) : valV kvs k = Option.none := by
  have := h.val k
  rw [e] at this
  exact this
theorem KvAt.some (h : KvAt C F kvs l) (e : valD l k = Option.some x) : ∃ v, valV kvs k = Option.some v ∧ At C F v x := by
  have := h.val k
  rw [e] at this
  exact this
theorem KvAt.isSome (h : KvAt C F kvs l) : (valV kvs k).isSome = (valD l k).isSome := by
  have := h.val k
  cases e : valD l k with
  | none =>
    rw [e] at this
    rw [this] <;> rfl
  | some x =>
    rw [e] at this
    obtain ⟨v, h1, _⟩ := this
    rw [h1] <;> rfl
theorem KvAt.put (h : KvAt C F kvs l) (a : At C F v x) : KvAt C F (putK kvs k v) (putD l k x) := by
  have ha : (kvs.any fun kv => decide (kv.1 = k)) = l.any fun e => decide (e.1 = k) := by
    have q := congrArg (fun ks : List κ => ks.any fun a => decide (a = k)) h.ks
    simp only [List.any_map] at q
    exact q
  unfold putK putD
  rw [ha]
  by_cases z : (l.any fun e => decide (e.1 = k)) = true
  · rw [if_pos z, if_pos z]
    refine KvAt.rec' (C := C) (F := F) (P := fun kvs l => KvAt C F (kvs.map fun kv => if kv.1 = k then (kv.1, v) else kv) (l.map fun e => if e.1 = k then (e.1, x) else e)) .nil (fun k' v' x' kvs l a' _ ih => ?_) h
    rw [List.map_cons, List.map_cons]
    by_cases e : k' = k
    · rw [if_pos e, if_pos e]
      exact ⟨by rw [List.map_cons, List.map_cons, ih.ks], .cons a ih.vs⟩
    · rw [if_neg e, if_neg e]
      exact ⟨by rw [List.map_cons, List.map_cons, ih.ks], .cons a' ih.vs⟩
  · rw [if_neg z, if_neg z]
    exact ⟨by rw [List.map_append, List.map_append, h.ks] <;> rfl, by rw [List.map_append, List.map_append]; exact h.vs.snoc a⟩
theorem valD_put (l : List (κ × Da)) (k j : κ) (x : Da) : valD (putD l k x) j = if j = k then Option.some x else valD l j := by
  unfold putD
  by_cases z : (l.any fun e => decide (e.1 = k)) = true
  · rw [if_pos z]
    induction l with
    | nil => cases z
    | cons e l ih =>
      obtain ⟨k', y⟩ := e
      rw [List.map_cons]
      by_cases e1 : k' = k
      · rw [if_pos e1]
        by_cases e2 : j = k
        · rw [if_pos e2]
          unfold valD
          rw [List.find?_cons_of_pos (by simp [e1, e2])] <;> rfl
        · rw [if_neg e2]
          have e3 : k' ≠ j := fun w => e2 (by rw [← w, e1])
          have g1 : valD ((k', x) :: l.map fun e => if e.1 = k then (e.1, x) else e) j = valD (l.map fun e => if e.1 = k then (e.1, x) else e) j := by
            unfold valD
            rw [List.find?_cons_of_neg (by simpa using e3)]
          have g2 : valD ((k', y) :: l) j = valD l j := by
            unfold valD
            rw [List.find?_cons_of_neg (by simpa using e3)]
          rw [g1, g2]
          by_cases z2 : (l.any fun e => decide (e.1 = k)) = true
          · rw [ih z2, if_neg e2]
          · have hid : (l.map fun e => if e.1 = k then (e.1, x) else e) = l := by
              have : ∀ e ∈ l, e.1 ≠ k := fun e he q => z2 (List.any_eq_true.mpr ⟨e, he, by simpa using q⟩)
              calc (l.map fun e => if e.1 = k then (e.1, x) else e) = l.map id := List.map_congr_left fun e he => if_neg (this e he)
                _ = l := List.map_id l
            rw [hid]
      · rw [if_neg e1]
        have z2 : (l.any fun e => decide (e.1 = k)) = true := by simpa [List.any_cons, e1] using z
        by_cases e3 : k' = j
        · have : j ≠ k := fun w => e1 (by rw [e3, w])
          rw [if_neg this]
          unfold valD
          rw [List.find?_cons_of_pos (by simpa using e3), List.find?_cons_of_pos (by simpa using e3)]
        · have g1 : ∀ m : List (κ × Da), valD ((k', y) :: m) j = valD m j := fun m => by
            unfold valD
            rw [List.find?_cons_of_neg (by simpa using e3)]
          rw [g1, g1]
          exact ih z2
  · rw [if_neg z]
    unfold valD
    rw [List.find?_append]
    have hn : ∀ e ∈ l, e.1 ≠ k := fun e he q => z (List.any_eq_true.mpr ⟨e, he, by simpa using q⟩)
    by_cases e2 : j = k
    · rw [if_pos e2]
      have : (l.find? fun e => decide (e.1 = j)) = Option.none := List.find?_eq_none.mpr fun e he => by
        have := hn e he
        simpa [e2] using this
      rw [this, Option.none_or, List.find?_cons_of_pos (by simpa using e2.symm)] <;> rfl
    · rw [if_neg e2, List.find?_cons_of_neg (by simpa using fun w : k = j => e2 w.symm), List.find?_nil, Option.or_none]
theorem putD_new {l : List (κ × Da)} {k : κ} {x : Da} (h : valD l k = Option.none) : putD l k x = l ++ [(k, x)] := by
  unfold putD
  rw [if_neg fun z => ?_]
  obtain ⟨e, he, h1⟩ := List.any_eq_true.mp z
  unfold valD at h
  rw [Option.map_eq_none_iff, List.find?_eq_none] at h
  exact h e he h1
theorem valD_none {l : List (κ × Da)} {k : κ} : valD l k = Option.none ↔ ∀ e ∈ l, e.1 ≠ k := by
  unfold valD
  rw [Option.map_eq_none_iff, List.find?_eq_none]
  exact ⟨fun h e he q => h e he (by simpa using q), fun h e he q => h e he (by simpa using q)⟩
def MDg (mk : List (κ × V) → HO) (hm : ∀ kvs, Mt (Option.some (mk kvs))) (l : List (κ × Da)) : MO where
  p := fun C F H a S => S = [a] ∧ ∃ kvs, H a = Option.some (mk kvs) ∧ KvAt C F kvs l
  st := fun ⟨e, kvs, h, k⟩ s t => ⟨e, kvs, t _ (by rw [e]; exact List.mem_singleton.mpr rfl) _ h, k.same s⟩
  lv := fun ⟨e, kvs, h, k⟩ b hb => by
    rw [e] at hb
    rw [List.mem_singleton.mp hb, h]
    exact hm kvs
end
theorem mt_dK (kvs : List (Key × V)) : Mt (some (HO.dK kvs)) := ⟨(fun z => by cases z), (fun _ z => by cases z)⟩
theorem mt_dT (kvs : List (List Key × V)) : Mt (some (HO.dT kvs)) := ⟨(fun z => by cases z), (fun _ z => by cases z)⟩
abbrev MD (l : List (Key × Da)) : MO := MDg HO.dK mt_dK l
abbrev MDT (l : List (List Key × Da)) : MO := MDg HO.dT mt_dT l
def kD : Key → Da
  | .inl i => .int i
  | .inr z => .str z
def kDs (k : List Key) : Da := .tup (k.map kD)
section
variable {B : Org} {C : Addr} {Γ : Ct} {S S' : Fp} {σ : L2.St} {F F' H H' : Hp} {Q : VK} {v : V} {x : Da} {te td ty tv tx : TE} {A : AE} {Kf : PySem.W.Frag} {K : Ct → Rs → Prop} {r s : Rs}
theorem kD_at {k : Key} (a : At C F v (kD k)) : v = kV k := by
  cases k with
  | inl i => exact a.intI
  | inr z => exact a.strI
theorem kDs_at {k : List Key} (a : At C F v (kDs k)) : ∃ b, v = .ref b ∧ F b = some (.tup (k.map kV)) := by
  obtain ⟨b, xs, rfl, h1, h2⟩ := a.tupI
  refine ⟨b, rfl, ?_⟩
  have : xs = k.map kV := by
    apply List.ext_getElem?
    intro i
    rw [List.getElem?_map]
    cases e : k[i]? with
    | none =>
      have hl := h2.len
      rw [List.length_map] at hl
      have : k.length ≤ i := by
        rcases Nat.lt_or_ge i k.length with z | z
        · rw [List.getElem?_eq_getElem z] at e; cases e
        · exact z
      rw [List.getElem?_eq_none (by omega)] <;> rfl
    | some q =>
      obtain ⟨y, h3, h4⟩ := h2.get (i := i) (d := kD q) (by rw [List.getElem?_map, e] <;> rfl)
      rw [h3, kD_at h4] <;> rfl
  rw [← this]
  exact h1
/-- a key of a dict with plain keys, or of one with tuples -/
structure Dk2 (κ : Type) [DecidableEq κ] where
  ob : List (κ × V) → HO
  mt : ∀ kvs, Mt (some (ob kvs))
  da : κ → Da
  get : ∀ {C : Addr} {F H : Hp} {v : V} {a : Addr} {k : κ} {kvs : List (κ × V)}, At C F v (da k) → Same F H → H a = some (ob kvs) → DGet H a v (valV kvs k)
  put : ∀ {C : Addr} {F H : Hp} {v w : V} {a : Addr} {k : κ} {kvs : List (κ × V)}, At C F v (da k) → Same F H → H a = some (ob kvs) → kvs.length < sizeLine → DPut H a v w (upd H a (ob (putK kvs k w)))
  isd : ∀ {H : Hp} {a : Addr} {kvs : List (κ × V)}, H a = some (ob kvs) → IsD H a
def DKk : Dk2 Key := ⟨HO.dK, mt_dK, kD, fun {C F H v a k kvs} h s e => by rw [kD_at h]; exact .k e, fun {C F H v w a k kvs} h s e l => by rw [kD_at h]; exact .k e l, fun e => .inl ⟨_, .inl e⟩⟩
def DKt : Dk2 (List Key) := ⟨HO.dT, mt_dT, kDs, fun {C F H v a k kvs} h s e => by
  obtain ⟨b, rfl, hb⟩ := kDs_at h
  exact .t e (s _ _ hb), fun {C F H v w a k kvs} h s e l => by
  obtain ⟨b, rfl, hb⟩ := kDs_at h
  exact .t e (s _ _ hb) l, fun e => .inr ⟨_, .inl e⟩⟩
variable {κ : Type} [DecidableEq κ] (Z : Dk2 κ)
abbrev MDz (l : List (κ × Da)) : MO := MDg Z.ob Z.mt l
theorem w_dnewK (k : K Γ (.mo (MDz DKk []))) : W B C Γ tDNewK K := fun S σ F H Q e c p hp => by
  have g := Gr4.of e.sub (Same.new (o := .dK []) hp)
  exact Cont.own1 (m := MDz DKk []) c e g hp (e.sub.free hp) ⟨rfl, [], upd_same, .nil⟩ k
theorem w_dnewT (k : K Γ (.mo (MDz DKt []))) : W B C Γ tDNewT K := fun S σ F H Q e c p hp => by
  have g := Gr4.of e.sub (Same.new (o := .dT []) hp)
  exact Cont.own1 (m := MDz DKt []) c e g hp (e.sub.free hp) ⟨rfl, [], upd_same, .nil⟩ k
theorem Env.dct {i : Nat} {l : List (κ × Da)} {T : List Addr} (e : Env B C Γ S σ F H) (hi : Γ[i]? = some (.mo (MDz Z l))) (rv : Rv C σ S F H v (.al i) T) : ∃ a kvs, v = .ref a ∧ H a = some (Z.ob kvs) ∧ KvAt C F kvs l ∧ S i = [a] := by
  obtain ⟨a, h1, h2, kvs, h3, h4⟩ := e.sl i _ hi
  rw [rv.2] at h1
  cases h1
  exact ⟨a, kvs, rfl, h3, h4, h2⟩
theorem w_dnotin (h : W B C Γ ty fun Γ1 r => ∃ (k : κ), r = .d (Z.da k) ∧ W B C Γ1 td fun Γ2 s => ∃ (i : Nat) (l : List (κ × Da)), s = .al i ∧ Γ2[i]? = some (.mo (MDz Z l)) ∧ K Γ2 (.d (.bl (!(valD l k).isSome)))) : W B C Γ (tDNotIn ty td) K := fun S σ F H Q e c =>
  h S σ F H _ e fun Γ1 S1 F1 H1 r T v e1 m1 rv fr ⟨k, er, k1⟩ => k1 S1 σ F1 H1 _ e1 fun Γ2 S2 F2 H2 s U w e2 m2 rs fs ⟨i, l, es, hi, k2⟩ => by
    subst er es
    obtain ⟨a, kvs, rfl, h1, h2, _⟩ := e2.dct Z hi rs
    refine ⟨a, _, rfl, Z.get (rv.2.same m2.fr) e2.sub h1, ?_⟩
    rw [h2.isSome]
    exact (Cont.mv c (m1.trans m2)).here e2 (.bl _) k2
theorem w_din (h : W B C Γ ty fun Γ1 r => ∃ (k : κ), r = .d (Z.da k) ∧ W B C Γ1 td fun Γ2 s => ∃ (i : Nat) (l : List (κ × Da)), s = .al i ∧ Γ2[i]? = some (.mo (MDz Z l)) ∧ K Γ2 (.d (.bl (valD l k).isSome))) : W B C Γ (tDIn ty td) K := fun S σ F H Q e c =>
  h S σ F H _ e fun Γ1 S1 F1 H1 r T v e1 m1 rv fr ⟨k, er, k1⟩ => k1 S1 σ F1 H1 _ e1 fun Γ2 S2 F2 H2 s U w e2 m2 rs fs ⟨i, l, es, hi, k2⟩ => by
    subst er es
    obtain ⟨a, kvs, rfl, h1, h2, _⟩ := e2.dct Z hi rs
    refine ⟨a, _, rfl, Z.get (rv.2.same m2.fr) e2.sub h1, ?_⟩
    rw [h2.isSome]
    exact (Cont.mv c (m1.trans m2)).here e2 (.bl _) k2
theorem w_dget (h : W B C Γ td fun Γ1 s => ∃ i, s = .al i ∧ W B C Γ1 ty fun Γ2 r => ∃ (k : κ) (l : List (κ × Da)) (x : Da), r = .d (Z.da k) ∧ Γ2[i]? = some (.mo (MDz Z l)) ∧ valD l k = some x ∧ K Γ2 (.d x)) : W B C Γ (tDGet td ty) K := fun S σ F H Q e c =>
  h S σ F H _ e fun Γ1 S1 F1 H1 s T v e1 m1 rs fs ⟨i, es, k1⟩ => k1 S1 σ F1 H1 _ e1 fun Γ2 S2 F2 H2 r U w e2 m2 rv fr ⟨k, l, x, er, hi, hx, k2⟩ => by
    subst er es
    obtain ⟨a, kvs, rfl, h1, h2, _⟩ := e2.dct Z hi (rs.mv m2)
    obtain ⟨y, h3, h4⟩ := h2.some hx
    refine ⟨a, y, rfl, ?_, (Cont.mv c (m1.trans m2)).here e2 h4 k2⟩
    rw [← h3]
    exact Z.get rv.2 e2.sub h1
theorem w_dget1 (h : W B C Γ td fun Γ1 s => ∃ (i : Nat) (l0 : List (κ × Da)), s = .al i ∧ Γ1[i]? = some (.mo (MDz Z l0)) ∧ W B C Γ1 ty fun Γ2 r => ∃ (k : κ) (l : List (κ × Da)), r = .d (Z.da k) ∧ Γ2[i]? = some (.mo (MDz Z l)) ∧ K Γ2 (.d ((valD l k).getD .non))) : W B C Γ (tDGet1 td ty) K := fun S σ F H Q e c =>
  h S σ F H _ e fun Γ1 S1 F1 H1 s T v e1 m1 rs fs ⟨i, l0, es, h0, k1⟩ => by
    subst es
    obtain ⟨a, kvs0, rfl, g1, _⟩ := e1.dct Z h0 rs
    refine ⟨a, rfl, Z.isd g1, k1 S1 σ F1 H1 _ e1 fun Γ2 S2 F2 H2 r U w e2 m2 rv fr ⟨k, l, er, hi, k2⟩ => ?_⟩
    subst er
    obtain ⟨a', kvs, ea, h1, h2, _⟩ := e2.dct Z hi (rs.mv m2)
    cases ea
    refine ⟨_, Z.get rv.2 e2.sub h1, ?_⟩
    cases q : valD l k with
    | none =>
      rw [q] at k2
      rw [h2.none q]
      exact (Cont.mv c (m1.trans m2)).here e2 .non k2
    | some x =>
      rw [q] at k2
      obtain ⟨y, h3, h4⟩ := h2.some q
      rw [h3]
      exact (Cont.mv c (m1.trans m2)).here e2 h4 k2
theorem w_dget2 (h : W B C Γ td fun Γ1 s => ∃ (i : Nat) (l0 : List (κ × Da)), s = .al i ∧ Γ1[i]? = some (.mo (MDz Z l0)) ∧ W B C Γ1 ty fun Γ2 r => W B C Γ2 tx fun Γ3 z => ∃ (k : κ) (l : List (κ × Da)) (y : Da), r = .d (Z.da k) ∧ z = .d y ∧ Γ3[i]? = some (.mo (MDz Z l)) ∧ K Γ3 (.d ((valD l k).getD y))) : W B C Γ (tDGet2 td ty tx) K := fun S σ F H Q e c =>
  h S σ F H _ e fun Γ1 S1 F1 H1 s T v e1 m1 rs fs ⟨i, l0, es, h0, k1⟩ => by
    subst es
    obtain ⟨a, kvs0, rfl, g1, _⟩ := e1.dct Z h0 rs
    refine ⟨a, rfl, Z.isd g1, k1 S1 σ F1 H1 _ e1 fun Γ2 S2 F2 H2 r U w e2 m2 rv fr k2 => k2 S2 σ F2 H2 _ e2 fun Γ3 S3 F3 H3 z T' u e3 m3 rz fz ⟨k, l, y, er, ez, hi, k3⟩ => ?_⟩
    subst er ez
    obtain ⟨a', kvs, ea, h1, h2, _⟩ := e3.dct Z hi ((rs.mv m2).mv m3)
    cases ea
    refine ⟨_, Z.get (rv.2.same m3.fr) e3.sub h1, ?_⟩
    cases q : valD l k with
    | none =>
      rw [q] at k3
      rw [h2.none q]
      exact (Cont.mv c ((m1.trans m2).trans m3)).here e3 rz.2 k3
    | some x =>
      rw [q] at k3
      obtain ⟨y, h3, h4⟩ := h2.some q
      rw [h3]
      exact (Cont.mv c ((m1.trans m2).trans m3)).here e3 h4 k3
theorem ws_dput {i : Nat} (h : W B C Γ tv fun Γ1 r => ∃ (x : Da) (l0 : List (κ × Da)), Frz r x ∧ Γ1[i]? = some (.mo (MDz Z l0)) ∧ W B C Γ1 ty fun Γ2 s => ∃ (k : κ) (l : List (κ × Da)) (Γ3 : Ct), s = .d (Z.da k) ∧ Γ2[i]? = some (.mo (MDz Z l)) ∧ l.length < 1000000 ∧ Γ2.set i (.mo (MDz Z (putD l k x))) = Γ3 ∧ A.nx Γ3) : WS B C Γ (sDPut (tVar i) ty tv) A := fun S σ F H D e d => by
  refine w_fz (K := fun Γ1 r => ∃ (x : Da) (l0 : List (κ × Da)), r = .d x ∧ Γ1[i]? = some (.mo (MDz Z l0)) ∧ W B C Γ1 ty fun Γ2 s => ∃ (k : κ) (l : List (κ × Da)) (Γ3 : Ct), s = .d (Z.da k) ∧ Γ2[i]? = some (.mo (MDz Z l)) ∧ l.length < 1000000 ∧ Γ2.set i (.mo (MDz Z (putD l k x))) = Γ3 ∧ A.nx Γ3) (h.mono fun Γ1 r ⟨x, l0, q1, q⟩ => ⟨x, q1, x, l0, rfl, q⟩) S σ F H _ e fun Γ1 S1 F1 H1 r T v e1 m1 rv fr ⟨x, l0, er, h0, k1⟩ => ?_
  subst er
  obtain ⟨a, ha, _⟩ := e1.sl i _ h0
  refine ⟨_, ha, k1 S1 σ F1 H1 _ e1 fun Γ2 S2 F2 H2 s U w e2 m2 rs fs ⟨k, l, Γ3, es, hi, hl, h3, k2⟩ => ?_⟩
  subst es h3
  obtain ⟨a', kvs, ea, h1, h2, hS⟩ := e2.dct (T := []) Z hi ⟨rfl, ha⟩
  cases ea
  have hF : F2 a = none := e2.fz i a (by rw [hS]; exact List.mem_singleton.mpr rfl)
  have ch := Chg.one (o := Z.ob (putK kvs k v)) e2.sub hF (Z.mt _)
  rw [← hS] at ch
  obtain ⟨e3, m3⟩ := Env.chg (m' := MDz Z (putD l k x)) (T := S2 i) e2 hi ha ch ⟨hS, _, upd_same, h2.put (rv.2.same m2.fr)⟩
  exact ⟨a, _, rfl, Z.put rs.2 e2.sub h1 (Nat.lt_of_lt_of_le (show kvs.length < 1000000 by rw [h2.len]; exact hl) (by decide)), d.nx _ _ σ F2 _ ((m1.fr.trans m2.fr)) e3 k2⟩
theorem wc_lenD {l : List (Key × Da)} {i : Nat} (hi : Γ[i]? = some (.mo (MDz DKk l))) (k : K Γ (.d (.int (l.length : Nat)))) : WC B C Γ (fun xs H Q => ∃ a kvs, xs = [V.ref a] ∧ H a = some (.dK kvs) ∧ Q (.int kvs.length) H) [.al i] K := fun S σ F H vs T Q e rv c => by
  obtain ⟨v, T', rfl, rz⟩ := vs1 rv
  obtain ⟨a, kvs, rfl, h1, h2, _⟩ := e.dct DKk hi rz
  refine ⟨a, kvs, rfl, h1, ?_⟩
  rw [h2.len]
  exact c.here e (.int _) k
end
end My
/-! comprehensions of a known result; small things -/
namespace My
open PySem PySem.Spec PyProof.Rows L2
def sp_law (K : PySem.W.Frag) (P0 : Addr) : Sp := fun vs H Q _ => ∃ (a : Addr) (ns : List Int), vs = [.ref a] ∧ ns.length ≤ 63 ∧ SqL K H a (ns.map V.int) ∧ H P0 = some (.tbl #[]) ∧ ∀ H', Q (.bl true) H'
theorem noStop0 {K : PySem.W.Frag} : NoStop K E0 := fun _ _ _ h => by cases h
theorem set_gm {Γ : Ct} {i : Nat} {s : Sl} (h : Γ[i]? = some s) : Γ.set i s = Γ := by
  apply List.ext_getElem?
  intro j
  rw [List.getElem?_set]
  by_cases e : i = j
  · subst e
    rw [if_pos rfl, if_pos (List.getElem?_eq_some_iff.mp h).1, h]
  · rw [if_neg e]
theorem take_snoc {α : Type} {l : List α} {i : Nat} {x : α} (h : l[i]? = some x) : l.take (i + 1) = l.take i ++ [x] := by
  have hi := (List.getElem?_eq_some_iff.mp h).1
  rw [List.take_succ_eq_append_getElem hi, (List.getElem?_eq_some_iff.mp h).2]
section
variable {B : Org} {C : Addr} {Γ : Ct} {te : TE} {K : Ct → Rs → Prop} {Kf : PySem.W.Frag}
theorem WI.mono {wi : TI} {K K' : Ct → List Da → Prop} (w : WI B C Γ wi K') (h : ∀ Γ r, K' Γ r → K Γ r) : WI B C Γ wi K := fun S σ F H R e c => w S σ F H R e fun Γ1 S1 F1 H1 J es e1 m1 a k => c Γ1 S1 F1 H1 J es e1 m1 a (h _ _ k)
/-- its items one by one are L's -/
theorem w_lcL {is vs : List Nat} {wi : TI} {g : TG} (L : List Da) (hv : ∀ i ∈ is, i ∈ vs) (h : WI B C Γ wi fun Γ1 es => wipeC Γ1 vs = Γ1 ∧ es.length < sizeLine ∧ L.length = es.length ∧
    (∀ (i : Nat) (x d : Da), es[i]? = some x → L[i]? = some d → WG C B is g Γ1 x fun Γ3 => W B C Γ3 te fun Γ5 r => Frz r d ∧ wipeC Γ5 vs = Γ1) ∧ K Γ1 (.mo (ML L))) : W B C Γ (tLc wi g tYes te vs) K :=
  w_lc hv (h.mono fun Γ1 es ⟨hw, h1, h2, h3, h4⟩ => by
    refine ⟨h1, fun k Γ acc => Γ = Γ1 ∧ acc = L.take k, ⟨hw, rfl⟩, ?_, ?_⟩
    · rintro i x Γ2 acc hx _ ⟨rfl, rfl⟩ hu
      have hi : i < L.length := by rw [h2]; exact (List.getElem?_eq_some_iff.mp hx).1
      have hd : L[i]? = some L[i] := List.getElem?_eq_getElem hi
      intro S σ F H v Q e a q
      refine h3 i x _ hx hd S σ F H v Q e a fun Γ3 S3 σ3 e3 y3 w3 l3 k3 => q Γ3 S3 σ3 e3 y3 w3 l3 (wt_yes ⟨fun _ => k3.mono fun Γ5 r ⟨h5, h6⟩ => ⟨_, h5, h6, (take_snoc hd).symm⟩, fun z => by cases z⟩)
    · rintro Γ2 acc ⟨rfl, rfl⟩ _ _
      rw [← h2, List.take_length]
      exact h4)
/-- those of its items that pass a test -/
theorem w_lcF {is vs : List Nat} {wi : TI} {g : TG} {tt : TT} (P : Nat → List Da) (hv : ∀ i ∈ is, i ∈ vs) (h : WI B C Γ wi fun Γ1 es => wipeC Γ1 vs = Γ1 ∧ es.length < sizeLine ∧ P 0 = [] ∧
    (∀ (i : Nat) (x : Da), es[i]? = some x → WG C B is g Γ1 x fun Γ3 => WT B C Γ3 tt fun Γ4 b => (b = true → W B C Γ4 te fun Γ5 r => ∃ d, Frz r d ∧ wipeC Γ5 vs = Γ1 ∧ P (i + 1) = P i ++ [d]) ∧ (b = false → wipeC Γ4 vs = Γ1 ∧ P (i + 1) = P i)) ∧ K Γ1 (.mo (ML (P es.length)))) : W B C Γ (tLc wi g tt te vs) K :=
  w_lc hv (h.mono fun Γ1 es ⟨hw, h1, h2, h3, h4⟩ => by
    refine ⟨h1, fun k Γ acc => Γ = Γ1 ∧ acc = P k, ⟨hw, h2.symm⟩, ?_, ?_⟩
    · rintro i x Γ2 acc hx _ ⟨rfl, rfl⟩ hu
      intro S σ F H v Q e a q
      refine h3 i x hx S σ F H v Q e a fun Γ3 S3 σ3 e3 y3 w3 l3 k3 => q Γ3 S3 σ3 e3 y3 w3 l3 fun S σ F H Q' e' c => k3 S σ F H Q' e' fun Γ4 S4 F4 H4 b e4 m4 ⟨kt, kf⟩ => c Γ4 S4 F4 H4 b e4 m4 ⟨fun z => (kt z).mono fun Γ5 r ⟨d, h5, h6, h7⟩ => ⟨d, h5, h6, h7.symm⟩, fun z => ⟨(kf z).1, (kf z).2.symm⟩⟩
    · rintro Γ2 acc ⟨rfl, rfl⟩ _ _
      exact h4)
/-- its items one by one are ms's, things of their own -/
theorem w_lcOL {is vs : List Nat} {wi : TI} {g : TG} (ms : List MO) (hv : ∀ i ∈ is, i ∈ vs) (h : WI B C Γ wi fun Γ1 es => wipeC Γ1 vs = Γ1 ∧ es.length < sizeLine ∧ ms.length = es.length ∧
    (∀ (i : Nat) (x : Da) (m : MO), es[i]? = some x → ms[i]? = some m → WG C B is g Γ1 x fun Γ3 => W B C Γ3 te fun Γ5 r => r = .mo m ∧ wipeC Γ5 vs = Γ1) ∧ K Γ1 (.mo (MLs ms))) : W B C Γ (tLc wi g tYes te vs) K :=
  w_lcO hv (h.mono fun Γ1 es ⟨hw, h1, h2, h3, h4⟩ => by
    refine ⟨h1, fun k Γ acc => Γ = Γ1 ∧ acc = ms.take k, ⟨hw, rfl⟩, ?_, ?_⟩
    · rintro i x Γ2 acc hx _ ⟨rfl, rfl⟩ hu
      have hi : i < ms.length := by rw [h2]; exact (List.getElem?_eq_some_iff.mp hx).1
      have hd : ms[i]? = some ms[i] := List.getElem?_eq_getElem hi
      intro S σ F H v Q e a q
      refine h3 i x _ hx hd S σ F H v Q e a fun Γ3 S3 σ3 e3 y3 w3 l3 k3 => q Γ3 S3 σ3 e3 y3 w3 l3 (wt_yes ⟨fun _ => k3.mono fun Γ5 r ⟨h5, h6⟩ => ⟨_, h5, h6, (take_snoc hd).symm⟩, fun z => by cases z⟩)
    · rintro Γ2 acc ⟨rfl, rfl⟩ _ _
      rw [← h2, List.take_length]
      exact h4)
theorem ws_cutS {t u : TS} {A : AE} (h : WS B C Γ t { A with nx := fun Γ1 => WS B C Γ1 u A }) : WS B C Γ (C8.tCut t u) A := ws_cut _ h fun _ k => k
/-- a list of one's own that is walked becomes what it is -/
theorem wi_fzA {i : Nat} {l : List Da} {Γ2 : Ct} {K : Ct → List Da → Prop} (hi : Γ[i]? = some (.mo (ML l))) (hT : ∀ b, ¬ B.T i b) (h2 : Γ.set i (.d (.lst l)) = Γ2) (k : K Γ2 l) : WI B C Γ (iList Kf (tVar i)) K := fun S σ F H R e c => by
  subst h2
  obtain ⟨a, ha, hS, xs, h1, h2⟩ := e.sl i _ hi
  have il : i < Γ.length := (List.getElem?_eq_some_iff.mp hi).1
  have ma : a ∈ S i := by rw [hS]; exact List.mem_singleton.mpr rfl
  have hF : F a = none := e.fz i a ma
  have h0 : B.H0 a = none := (e.own i a ma).resolve_left (hT a)
  obtain ⟨s1, s2⟩ := fz_list (o := .lst xs) e.sub hF h1
  have es : σ.set i (some (.ref a)) = σ := by
    apply List.ext_getElem?
    intro j
    by_cases z : j = i
    · rw [z, List.getElem?_set_self (by rw [e.len]; exact il), ha]
    · rw [List.getElem?_set_ne (Ne.symm z)]
  have e1 := (e.un i (w := some (.ref a))).fz1 (p := a) (o := .lst xs) hF h1 (fun j hj => by
    by_cases z : j = i
    · rw [z, setS_i] at hj; cases hj
    · rw [setS_j z] at hj
      exact z (e.dis j i a hj ma)) h0
  have at1 : At C (upd F a (.lst xs)) (.ref a) (.lst l) := .lst' upd_same (h2.same s1)
  have e2 := e1.putD (i := i) (v := .ref a) (x := .lst l) (by rw [List.length_set]; exact il) at1
  rw [List.set_set, List.set_set, es] at e2
  refine wi_list (K := K) (w_var (by rw [List.getElem?_set_self il]) ⟨l, .d _, k⟩) _ σ _ H R e2 fun Γ' S' F' H' J es e' m a' k' => c Γ' S' F' H' J es e' ?_ a' k'
  have nS : ∀ (j : Nat) (b : Addr), b ∈ setS (setS S i []) i [] j → b ∈ S j := fun j b hb => by
    by_cases z : j = i
    · rw [z, setS_i] at hb
      cases hb
    · rw [setS_j z, setS_j z] at hb
      exact hb
  refine ⟨s1.trans m.fr, fun b o n h => m.kp b o (fun j hj => n j (nS j b hj)) h, m.al, fun b h1 h2 n => ?_, m.mt, fun j b hb => ?_⟩
  · exact m.mu b (by rw [upd_ne (fun z => n i (by rw [z]; exact ma))]; exact h1) h2 (fun j hj => n j (nS j b hj))
  · rcases m.nw j b hb with z | z
    · exact .inl (nS j b z)
    · exact .inr z
/-- x[i] = y -/
theorem ws_putL {n i : Nat} {A : AE} (h : W B C Γ te fun Γ1 r => ∃ (b : Nat) (l : List Da) (x : Da) (Γ2 : Ct), Frz r x ∧ Γ1[n]? = some (.mo (ML l)) ∧ Γ1[i]? = some (.d (.int (b : Int))) ∧ b < l.length ∧ Γ1.set n (.mo (ML (l.set b x))) = Γ2 ∧ A.nx Γ2) :
    WS B C Γ (tAsg te (gSub (tVar n) (tVar i) rSetL)) A := fun S σ F H D e d => by
  refine w_fz (K := fun Γ1 r => ∃ (b : Nat) (l : List Da) (x : Da) (Γ2 : Ct), r = .d x ∧ Γ1[n]? = some (.mo (ML l)) ∧ Γ1[i]? = some (.d (.int (b : Int))) ∧ b < l.length ∧ Γ1.set n (.mo (ML (l.set b x))) = Γ2 ∧ A.nx Γ2) (h.mono fun Γ1 r ⟨b, l, x, Γ2, q1, q⟩ => ⟨x, q1, b, l, x, Γ2, rfl, q⟩) S σ F H _ e fun Γ1 S1 F1 H1 r T v e1 m1 rv fr ⟨b, l, x, Γ2, er, hn, hi, hb, h2, k⟩ => ?_
  subst er
  subst h2
  obtain ⟨p, g1, hS, ys, g2, g3⟩ := e1.sl n _ hn
  obtain ⟨_, vi, hi1, hi2⟩ := e1.sl i _ hi
  obtain rfl := hi2.intI
  have hbl : b < ys.length := by rw [g3.len]; exact hb
  have ixb : ixN ys.length (b : Int) = some b := by
    unfold ixN
    rw [if_pos (by omega), if_pos (by omega)]
    simp
  refine ⟨_, g1, _, hi1, p, ys, _, b, rfl, rfl, g2, ixb, ?_⟩
  have h6 : Ats C F1 (ys.set b v) (l.set b x) := by
    refine ⟨by rw [List.length_set, List.length_set, g3.len], fun q z w e1 e2 => ?_⟩
    rw [List.getElem?_set] at e1 e2
    by_cases hq : b = q
    · rw [if_pos hq, if_pos hbl] at e1
      rw [if_pos hq, if_pos hb] at e2
      cases e1
      cases e2
      exact rv.2
    · rw [if_neg hq] at e1 e2
      exact g3.at_ q z w e1 e2
  have hF : F1 p = none := e1.fz n p (by rw [hS]; exact List.mem_singleton.mpr rfl)
  have ch := Chg.one (o := .lst (ys.set b v)) e1.sub hF .lst
  rw [← hS] at ch
  obtain ⟨e2, m2⟩ := Env.chg (m' := ML (l.set b x)) (T := S1 n) e1 hn g1 ch ⟨hS, _, upd_same, h6⟩
  exact d.nx _ _ σ F1 _ m1.fr e2 k
theorem ws_raise {U : Addr} {E : XK} {KE : KX} {t : TS} {A : AE} (ht : ∀ D σ H, E (.ref U) none H → t D σ H) (hE : XOk B C E KE) (k : KE Γ ⟨U, none⟩) : WS B C Γ t A := fun S σ F H D e d => ht D σ H (hE Γ S σ F H ⟨U, none⟩ none e rfl k)
/-- the length of a list of a list of one's own -/
theorem w_lenIx {n : Nat} {i : Nat} {ms : List MO} {l : List Da} (hn : Γ[n]? = some (.mo (MLs ms))) (hm : ms[i]? = some (ML l)) (k : K Γ (.d (.int (l.length : Nat)))) :
    W B C Γ (tCB (fun xs H Q => ∃ p ys, xs = [.ref p] ∧ (SqL Kf H p ys ∨ SqT Kf H p ys) ∧ Q (.int ys.length) H) (tCons (tOp (rIxL Kf) (tVar n) (tC (.int (i : Int)))) tNil)) K := fun S σ F H Q e c => by
  obtain ⟨p, h1, xs, U, _, h2, own, _⟩ := e.sl n _ hn
  obtain ⟨y, T, h3, ⟨_, ys, h4, h5⟩, _⟩ := own.get hm
  have g3 : (xs.map V.ref)[i]? = some (.ref y) := by rw [List.getElem?_map, h3] <;> rfl
  have hc := (List.getElem?_eq_some_iff.mp g3).1
  have at_ : L2.atI (xs.map V.ref) (i : Int) = some (.ref y) := by
    unfold L2.atI ixN
    rw [if_pos (by omega), if_pos (by omega)]
    simpa using g3
  refine ⟨_, h1, p, _, _, _, rfl, rfl, SqL.of h2, at_, y, ys, rfl, .inl (SqL.of h4), ?_⟩
  rw [h5.len]
  exact c.here e (.int _) k
end
end My
/-! methods of own objects; the bench -/
namespace My
open PySem PySem.Spec PyProof.Rows L2
structure GM (P : Program) (w : World) (K : PySem.W.Frag) (mg : Str → Option Value) (base : Heap) (C : Addr) (m : Str) (k : Nat) (sp : Sp) : Prop where
  ex : ∃ (f : Addr) (fd : FuncData) (ps : List Str), Meth K C m f ∧ FnOk P w K mg base (L2.CX P w) k f fd ps sp ∧ Binds K fd ps []
structure GMk (P : Program) (w : World) (K : PySem.W.Frag) (mg : Str → Option Value) (base : Heap) (C : Addr) (x : Str) (k : Nat) (sp : Sp) : Prop where
  ex : ∃ (f : Addr) (fd : FuncData) (ps : List Str), Mk K C f ∧ FnOk P w K mg base (L2.CX P w) k f fd ps sp ∧ Binds K fd ps []
  gm : mg x = some (.ref C)
section
variable {X : Cx} {k : Nat} {C : Addr} {m x : Str} {sp : Sp} {E : XK} {o e : Expr} {es : List Expr} {ta : TE} {t : TA} {apos pos p : Pos} {pl : Sem Bool}
theorem pe_gm (ho : PE X o ta) (c : Cls X.K C) (G : GM X.prog X.w X.K X.mg X.base C m k sp) (hr : Room k X.A) (hx : Passes (L2.CX X.prog X.w) X E) (ha : PA X (e :: es) t) (hs : starEach (e :: es) X.env = (false, eval e X.env) :: starEach es X.env := by rfl) (hp : (backTo pos (starEach es X.env)).any (·.1) = false := by rfl)
    (he : eval (.Call (.Attribute o m apos) (e :: es) [] pos) X.env = (do
      let ov ← eval o X.env
      standAt apos.atName
      let (f, first) ← holding [ov] (getMethod ov m pl)
      callWith pos f first (backTo pos (starEach (e :: es) X.env)) (backToKw pos (keywordEach [] X.env))) := by rfl) : PE X (.Call (.Attribute o m apos) (e :: es) [] pos) (tMethR C m sp E ta t) := by
  obtain ⟨f, fd, ps, M, F, hb⟩ := G.ex
  exact pe_methR ho c M (FnR.imp (F.raw hb .nil) fun vs H Q E h => by rw [List.append_nil]; exact h) hr hx ha hs hp he
theorem pe_gm0 (ho : PE X o ta) (c : Cls X.K C) (G : GM X.prog X.w X.K X.mg X.base C m k sp) (hr : Room k X.A) (hx : Passes (L2.CX X.prog X.w) X E)
    (he : eval (.Call (.Attribute o m apos) [] [] pos) X.env = (do
      let ov ← eval o X.env
      standAt apos.atName
      let (f, first) ← holding [ov] (getMethod ov m pl)
      callWith pos f first (backTo pos (starEach [] X.env)) (backToKw pos (keywordEach [] X.env))) := by rfl) : PE X (.Call (.Attribute o m apos) [] [] pos) (tMethR C m sp E ta tNil) := by
  obtain ⟨f, fd, ps, M, F, hb⟩ := G.ex
  exact pe_meth0 ho c M F hr hb .nil hx he
theorem pe_gmk (G : GMk X.prog X.w X.K X.mg X.base C x k sp) (hr : Room (k + 1) X.A) (hx : Passes (L2.CX X.prog X.w) X E) (ha : PA X (e :: es) t) (hg : Gl X x := by rfl) (hd : (x == ("__debug__" : Str)) = false := by decide)
    (hs : starEach (e :: es) X.env = (false, eval e X.env) :: starEach es X.env := by rfl) (hp : (backTo pos (starEach es X.env)).any (·.1) = false := by rfl) : PE X (.Call (.Name x p) (e :: es) [] pos) (tMake C sp [] E t) := by
  obtain ⟨f, fd, ps, M, F, hb⟩ := G.ex
  exact pe_make M F hr hg G.gm hb .nil hx ha hd hs hp
end
section
variable {B : Org} {C CB : Addr} {Γ : Ct} {S S' : Fp} {σ : L2.St} {F F' H H' : Hp} {Q : VK} {v : V} {x : Da} {ta : TE} {t : TA} {K : Ct → Rs → Prop} {E : XK} {m : Str}
/-- where the object is an instance with its own fields -/
def InsOf {ι : Type} (M : Fam ι) (CB : Addr) (m : Str) : Prop := ∀ {C : Addr} {F H : Hp} {a : Addr} {S : List Addr} {o : Option Addr} {s : ι}, (M.m o s).p C F H a S → ∃ dx fs, H a = some (.ins CB dx fs) ∧ fs.lookup m = none
theorem w_meth {ι : Type} {M : Fam ι} {sp : Sp} (hi : InsOf M CB m) (h : W B C Γ ta fun Γ1 r => ∃ i o s, r = .al i ∧ Γ1[i]? = some (.mo (M.m o s)) ∧ WA B C Γ1 t fun Γ2 rs => WF B C Γ2 sp E (.al i :: rs) K) : W B C Γ (tMethR CB m sp E ta t) K := fun S σ F H Q e c =>
  h S σ F H _ e fun Γ1 S1 F1 H1 r T v e1 m1 rv fr ⟨i, o, s, er, hj, k⟩ => by
    subst er
    obtain ⟨a, ha, hp⟩ := e1.sl i _ hj
    have ev := rv.2
    rw [ha] at ev
    cases ev
    obtain ⟨dx, fs, h1, h2⟩ := hi hp
    refine ⟨a, dx, fs, rfl, h1, h2, k S1 σ F1 H1 _ e1 fun Γ2 S2 F2 H2 rs U vs e2 m2 rs2 fr2 k2 => ?_⟩
    exact k2 S2 σ F2 H2 _ (T ++ U) Q e2 (.cons (rv.mv m2) rs2 fun b hb => by rw [rv.1] at hb; cases hb) (Cont.mv c (m1.trans m2))
theorem w_prM {ι : Type} {M : Fam ι} {sp : Sp} (hi : InsOf M CB m) (h : W B C Γ ta fun Γ1 r => ∃ i o s, r = .al i ∧ Γ1[i]? = some (.mo (M.m o s)) ∧ WF B C Γ1 sp E0 [.al i] K) : W B C Γ (tPr CB sp ta) K := fun S σ F H Q e c =>
  h S σ F H _ e fun Γ1 S1 F1 H1 r T v e1 m1 rv fr ⟨i, o, s, er, hj, k⟩ => by
    subst er
    obtain ⟨a, ha, hp⟩ := e1.sl i _ hj
    have ev := rv.2
    rw [ha] at ev
    cases ev
    obtain ⟨dx, fs, h1, _⟩ := hi hp
    exact ⟨a, dx, fs, rfl, h1, k S1 σ F1 H1 _ _ Q e1 (Rvs.one rv) (Cont.mv c m1)⟩
end
/-! what changes when objects of one's own are written anew, and new ones come -/
theorem Chg.of {F H H' F' : Hp} {S T : List Addr} (f : Same F F') (s : Same F' H') (kp : ∀ b o, b ∉ S → H b = some o → H' b = some o) (mu : ∀ b, F b = none → Mt (H b) → F' b = none) (mt : ∀ b ∈ S, Mt (H' b)) (fT : ∀ b ∈ T, F' b = none) (nw : ∀ b ∈ T, b ∈ S ∨ H b = none) : Chg F H S F' H' T := ⟨f, s, kp, mu, mt, fT, nw⟩
/-! the bench -/
abbrev Stp := Str × Gr × Nat
structure BSt where
  first : Gr
  done : List Stp
  undone : List Stp
  snaps : List (Str × List Stp × List Stp)
def stepD (s : Stp) : Da := .tup [.str s.1, .room s.2.1, .int (s.2.2 : Nat)]
def stD (p : List Stp × List Stp) : Da := .tup [.lst (p.1.map stepD), .lst (p.2.map stepD)]
def snD (l : List (Str × List Stp × List Stp)) : List (Key × Da) := l.map fun e => (.inr e.1, stD e.2)
def BSt.now (s : BSt) : Gr := match s.done.getLast? with
  | some e => e.2.1
  | none => s.first
def bfs (r d u sn : Addr) : List (Str × V) := putF "_snapshots" (V.ref sn) (putF "_undone" (V.ref u) (putF "_done" (V.ref d) (putF "_first_room" (V.ref r) [])))
theorem nq1 : ¬ (("_first_room" : Str) = "_done") := by decide +kernel
theorem nq2 : ¬ (("_first_room" : Str) = "_undone") := by decide +kernel
theorem nq3 : ¬ (("_done" : Str) = "_undone") := by decide +kernel
theorem nq4 : ¬ (("_first_room" : Str) = "_snapshots") := by decide +kernel
theorem nq5 : ¬ (("_done" : Str) = "_snapshots") := by decide +kernel
theorem nq6 : ¬ (("_undone" : Str) = "_snapshots") := by decide +kernel
section
variable (r d u sn : Addr)
theorem bfs_eq : bfs r d u sn = [(("_first_room" : Str), V.ref r), (("_done" : Str), V.ref d), (("_undone" : Str), V.ref u), (("_snapshots" : Str), V.ref sn)] := by
  simp only [bfs, putF, if_neg nq1, if_neg nq2, if_neg nq3, if_neg nq4, if_neg nq5, if_neg nq6]
theorem bfs_first : (bfs r d u sn).lookup ("_first_room" : Str) = some (.ref r) := by
  unfold bfs
  rw [lookup_putF, if_neg nq4, lookup_putF, if_neg nq2, lookup_putF, if_neg nq1, lookup_putF, if_pos rfl]
theorem bfs_done : (bfs r d u sn).lookup ("_done" : Str) = some (.ref d) := by
  unfold bfs
  rw [lookup_putF, if_neg nq5, lookup_putF, if_neg nq3, lookup_putF, if_pos rfl]
theorem bfs_undone : (bfs r d u sn).lookup ("_undone" : Str) = some (.ref u) := by
  unfold bfs
  rw [lookup_putF, if_neg nq6, lookup_putF, if_pos rfl]
theorem bfs_snaps : (bfs r d u sn).lookup ("_snapshots" : Str) = some (.ref sn) := by
  unfold bfs
  rw [lookup_putF, if_pos rfl]
theorem bfs_none {m : Str} (h1 : ¬ m = "_first_room") (h2 : ¬ m = "_done") (h3 : ¬ m = "_undone") (h4 : ¬ m = "_snapshots") : (bfs r d u sn).lookup m = none := by
  unfold bfs
  rw [lookup_putF, if_neg h4, lookup_putF, if_neg h3, lookup_putF, if_neg h2, lookup_putF, if_neg h1] <;> rfl
theorem put_done (e : Addr) : putF "_done" (V.ref e) (bfs r d u sn) = bfs r e u sn := by
  rw [bfs_eq, bfs_eq]
  simp only [putF, if_neg nq1, if_pos]
theorem put_undone (e : Addr) : putF "_undone" (V.ref e) (bfs r d u sn) = bfs r d e sn := by
  rw [bfs_eq, bfs_eq]
  simp only [putF, if_neg nq2, if_neg nq3, if_pos]
theorem bfs_len : (bfs r d u sn).length < 1000 := by
  rw [bfs_eq]
  show 4 < 1000
  decide
end
/-- a bench at a -/
structure BenchAt (CB C : Addr) (F H : Hp) (a dx r d u sn : Addr) (xs ys : List V) (kvs : List (Key × V)) (s : BSt) : Prop where
  ins : H a = some (.ins CB dx (bfs r d u sn))
  first : At C F (.ref r) (.room s.first)
  hd : H d = some (.lst xs)
  done : Ats C F xs (s.done.map stepD)
  hu : H u = some (.lst ys)
  undone : Ats C F ys (s.undone.map stepD)
  hs : H sn = some (.dK kvs)
  snaps : KvAt C F kvs (snD s.snaps)
  nd : [a, d, u, sn].Nodup
def MBe (CB : Addr) (o : Option Addr) (s : BSt) : MO where
  p := fun C F H a S => (∃ dx r d u sn xs ys kvs, S = [a, d, u, sn] ∧ BenchAt CB C F H a dx r d u sn xs ys kvs s) ∧ ∀ x, o = some x → a = x
  st := fun {C F F' H H' a S} ⟨⟨dx, r, d, u, sn, xs, ys, kvs, e, b⟩, q⟩ sF k => ⟨⟨dx, r, d, u, sn, xs, ys, kvs, e, by
    have k : ∀ b ∈ [a, d, u, sn], ∀ o, H b = some o → H' b = some o := by rw [← e]; exact k
    exact ⟨k a (by simp) _ b.ins, b.first.same sF, k d (by simp) _ b.hd, b.done.same sF, k u (by simp) _ b.hu, b.undone.same sF, k sn (by simp) _ b.hs, b.snaps.same sF, b.nd⟩⟩, q⟩
  lv := fun {C F H a S} ⟨⟨dx, r, d, u, sn, xs, ys, kvs, e, b⟩, q⟩ x hx => by
    rw [e] at hx
    simp only [List.mem_cons, List.not_mem_nil, or_false] at hx
    rcases hx with rfl | rfl | rfl | rfl
    · rw [b.ins]
      exact ⟨(fun z => by cases z), (fun _ z => by cases z)⟩
    · rw [b.hd]
      exact .lst
    · rw [b.hu]
      exact .lst
    · rw [b.hs]
      exact mt_dK _
  pn := o
  pk := fun h => h.2
def FBe (CB : Addr) : Fam BSt := ⟨MBe CB, fun _ _ => rfl, fun h q => ⟨h.1, q⟩⟩
theorem ins_bench {CB : Addr} {m : Str} (h1 : ¬ m = "_first_room") (h2 : ¬ m = "_done") (h3 : ¬ m = "_undone") (h4 : ¬ m = "_snapshots") : InsOf (FBe CB) CB m := fun {C F H a S o s} ⟨⟨dx, r, d, u, sn, xs, ys, kvs, e, b⟩, q⟩ => ⟨dx, _, b.ins, bfs_none r d u sn h1 h2 h3 h4⟩
theorem nd4 {a d u sn : Addr} (h : [a, d, u, sn].Nodup) : a ≠ d ∧ a ≠ u ∧ a ≠ sn ∧ d ≠ u ∧ d ≠ sn ∧ u ≠ sn := by
  simp only [List.nodup_cons, List.mem_cons, List.not_mem_nil, or_false, not_or, List.nodup_nil, and_true, not_false_eq_true] at h
  obtain ⟨⟨h1, h2, h3⟩, ⟨h4, h5⟩, h6⟩ := h
  exact ⟨h1, h2, h3, h4, h5, h6⟩
section
variable {CB C : Addr} {F F' H H' : Hp} {a dx r d u sn : Addr} {xs ys : List V} {kvs : List (Key × V)} {s : BSt}
theorem BenchAt.mv (b : BenchAt CB C F H a dx r d u sn xs ys kvs s) (sF : Same F F') (k : ∀ x ∈ [a, d, u, sn], ∀ o, H x = some o → H' x = some o) : BenchAt CB C F' H' a dx r d u sn xs ys kvs s :=
  ⟨k a (by simp) _ b.ins, b.first.same sF, k d (by simp) _ b.hd, b.done.same sF, k u (by simp) _ b.hu, b.undone.same sF, k sn (by simp) _ b.hs, b.snaps.same sF, b.nd⟩
end
def words (l : List Stp) : List Da := l.map fun e => .str e.1
def passes (l : List Stp) : Nat := (l.map fun e => e.2.2).sum
abbrev SpB := MP BSt
def PNow : SpB := fun s ds R _ => ds = [] ∧ R s (.d (.room s.now))
def PPasses : SpB := fun s ds R _ => ds = [] ∧ s.done.length ≤ 1000000 ∧ R s (.d (.int (passes s.done : Nat)))
def POps : SpB := fun s ds R _ => ds = [] ∧ s.done.length ≤ 1000000 ∧ R s (.mo (ML (words s.done)))
def PStep : SpB := fun s ds R _ => ∃ (w : Str) (g : Gr) (n : Nat), ds = [.str w, .room g, .int (n : Nat)] ∧ s.done.length < 1000000 ∧ R { s with done := s.done ++ [(w, g, n)], undone := [] } (.d .non)
def PUndo : SpB := fun s ds R _ => ds = [] ∧ s.undone.length < 1000000 ∧ match s.done.getLast? with
  | none => R s (.d (.bl false))
  | some e => R { s with done := s.done.dropLast, undone := s.undone ++ [e] } (.d (.bl true))
def PRedo : SpB := fun s ds R _ => ds = [] ∧ s.done.length < 1000000 ∧ match s.undone.getLast? with
  | none => R s (.d (.bl false))
  | some e => R { s with undone := s.undone.dropLast, done := s.done ++ [e] } (.d (.bl true))
def PState : SpB := fun s ds R _ => ds = [] ∧ R s (.d (stD (s.done, s.undone)))
def PBack : SpB := fun s ds R _ => ∃ d u, ds = [stD (d, u)] ∧ R { s with done := d, undone := u } (.d .non)
end My
namespace My
open PySem PySem.Spec PyProof.Rows L2
/-! ### turned, thrown -/
def sp_turned : Sp := fun vs H Q _ => ∃ s : Sg, vs = [.str s.str] ∧ Q (.str s.turn.str) H
def sp_thrown : Sp := fun vs H Q _ => ∃ (s : Sg) (a b : Int), vs = [.str s.str, .int a, .int b] ∧ ∀ p, H p = none → Q (.ref p) (upd H p (.tup [.int (s.thr a b).1, .int (s.thr a b).2]))
abbrev s_turned : Stmt := (top 20)
abbrev N_turned : List Str := ["sign"]
theorem sc_turned : FnScope N_turned ["sign"] (defScope s_turned) := ⟨rfl, rfl, rfl, by decide +kernel, rfl, by decide +kernel, by decide +kernel⟩

abbrev s_thrown : Stmt := (top 19)
abbrev N_thrown : List Str := ["sign", "down", "right"]
theorem sc_thrown : FnScope N_thrown ["sign", "down", "right"] (defScope s_thrown) := ⟨rfl, rfl, rfl, by decide +kernel, rfl, by decide +kernel, by decide +kernel⟩

section
variable {P : Program} {w : World} {K : PySem.W.Frag} {mg : Str → Option Value} {base : Heap}
theorem ok_turned {f : Addr} {fd : FuncData} (F : Fun K "turned" "turned" s_turned f fd) : FnOk P w K mg base CX0 1 f fd ["sign"] sp_turned := by
  refine F.ok sc_turned (fun vs H Q E h => ?_) (fun cdv A outer s H vs Q E hr h => ?_)
  · obtain ⟨s, rfl, _⟩ := h
    rfl
  · obtain ⟨s, rfl, q⟩ := h
    refine ⟨_, (pss_cons (ps_if (pt_cmpR op_eq (pv 0) pe_str (nomark _))
      (pss_one (ps_ret pe_str))
      pss_nil)
    (pss_cons (ps_if (pt_cmpR op_eq (pv 0) pe_str (nomark _))
      (pss_one (ps_ret pe_str))
      pss_nil)
    (pss_one (ps_ret (pv 0))))), ?_⟩
    refine ⟨_, rfl, rfl, _, rfl, ?_⟩
    cases s
    case r => exact ifT (by decide +kernel) q
    case f =>
      refine ifF (by decide +kernel) ⟨_, rfl, rfl, _, rfl, ?_⟩
      exact ifT (by decide +kernel) q
    all_goals
      refine ifF (by decide +kernel) ⟨_, rfl, rfl, _, rfl, ?_⟩
      exact ifF (by decide +kernel) ⟨_, rfl, q⟩
theorem ok_thrown {f : Addr} {fd : FuncData} (F : Fun K "thrown" "thrown" s_thrown f fd) (T : Txt mg) : FnOk P w K mg base CX0 1 f fd ["sign", "down", "right"] sp_thrown := by
  refine F.ok sc_thrown (fun vs H Q E h => ?_) (fun cdv A outer s H vs Q E hr h => ?_)
  · obtain ⟨s, a, b, rfl, _⟩ := h
    rfl
  · obtain ⟨s, a, b, rfl, q⟩ := h
    refine ⟨_, (pss_cons (ps_if (pt_cmpR op_in_str (pv 0) (pe_gs T.v_RISING) (by rfl))
      (pss_one (ps_ret (pe_tup (pa_cons (pe_un un_neg (pv 2)) (pa_cons (pe_un un_neg (pv 1)) pa_nil)))))
      pss_nil)
    (pss_cons (ps_if (pt_cmpR op_in_str (pv 0) (pe_gs T.v_FALLING) (by rfl))
      (pss_one (ps_ret (pe_tup (pa_cons (pv 2) (pa_cons (pv 1) pa_nil)))))
      pss_nil)
    (pss_one (ps_ret (pe_tup (pa_cons (pv 1) (pa_cons (pv 2) pa_nil))))))), ?_⟩
    refine ⟨_, rfl, _, _, rfl, rfl, _, rfl, ?_⟩
    cases s
    case r => exact ifT (by decide +kernel) ⟨_, rfl, _, rfl, _, rfl, _, rfl, by show 2 ≤ sizeLine; decide, q⟩
    case R => exact ifT (by decide +kernel) ⟨_, rfl, _, rfl, _, rfl, _, rfl, by show 2 ≤ sizeLine; decide, q⟩
    case f =>
      refine ifF (by decide +kernel) ⟨_, rfl, _, _, rfl, rfl, _, rfl, ?_⟩
      exact ifT (by decide +kernel) ⟨_, rfl, _, rfl, by show 2 ≤ sizeLine; decide, q⟩
    case F =>
      refine ifF (by decide +kernel) ⟨_, rfl, _, _, rfl, rfl, _, rfl, ?_⟩
      exact ifT (by decide +kernel) ⟨_, rfl, _, rfl, by show 2 ≤ sizeLine; decide, q⟩
    case d =>
      refine ifF (by decide +kernel) ⟨_, rfl, _, _, rfl, rfl, _, rfl, ?_⟩
      exact ifF (by decide +kernel) ⟨_, rfl, _, rfl, by show 2 ≤ sizeLine; decide, q⟩
end
end My
namespace My
open PySem PySem.Spec PyProof.Rows L2
/-! ### the source of numbers -/
theorem at_0 {α : Type} {x : α} {r : List α} : atI (x :: r) 0 = some x := atI_nat (j := 0) rfl
theorem at_1 {α : Type} {x y : α} {r : List α} : atI (x :: y :: r) 1 = some y := atI_nat (j := 1) rfl
theorem ixN0 {n : Nat} : ixN (n + 1) 0 = some 0 := by
  unfold ixN
  rw [if_pos (by omega), if_pos (by omega)] <;> rfl
theorem ixN1 {n : Nat} : ixN (n + 2) 1 = some 1 := by
  unfold ixN
  rw [if_pos (by omega), if_pos (by omega)] <;> rfl
theorem seq2 {n : Nat} : seqIndex? 2 (n + 3) = some 2 := by
  unfold seqIndex?
  simp
  omega
def sp_below : Sp := fun vs H Q _ => ∃ (a : Addr) (n : Int), vs = [.ref a, .int n] ∧ DOk H a ∧ 0 < n ∧ n < 1152921504606846976 ∧ ∀ (r : Int) H', 0 ≤ r → r < n → Kp a H H' → DOk H' a → Q (.int r) H'
abbrev s_l_below : Stmt := (top 41)
abbrev N_l_below : List Str := ["_law_d", "_law_limit", "_law_result"]
theorem sc_l_below : FnScope N_l_below ["_law_d", "_law_limit"] (defScope s_l_below) := ⟨rfl, rfl, rfl, by decide +kernel, rfl, by decide +kernel, by decide +kernel⟩

section
variable {P : Program} {w : World} {K : PySem.W.Frag} {mg : Str → Option Value} {base : Heap}
theorem ok_below {f : Addr} {fd : FuncData} (F : Fun K "_law_below" "_law_below" s_l_below f fd) (T : Txt mg) : FnOk P w K mg base CX0 1 f fd ["_law_d", "_law_limit"] sp_below := by
  refine F.ok sc_l_below (fun vs H Q E h => ?_) (fun cdv A outer s H vs Q E hr h => ?_)
  · obtain ⟨a, n, rfl, _⟩ := h
    rfl
  · obtain ⟨a, n, rfl, ⟨sd, c, rest, hd, s0, s1, c0, r0, rl⟩, n0, n1, q⟩ := h
    refine ⟨_, (C8.pss_cut (ps_if (PW.pt (pw_and (pt_cmpR op_eq (pe_ix ix_list (pv 0) pe_int (fun _ _ => rfl)) pe_int (nomark _)) (pw_and1 (pt_cmpR op_gt (pe_callB call_len_seq (by rfl) T.b_len PySem.boot_len (pa_cons (pv 0) pa_nil)) pe_int (nomark _)))))
      (pss_one (ps_asg (pe_bm PySem.F.plainAttrs_list PySem.F.slot_list_pop PySem.F.type_list_pop mt_popAt (pv 0) (pa_cons pe_int pa_nil)) (pg_sub (pv 0) pe_int set_list)))
      pss_nil)
    (pss_cons (ps_if (pt_cmpR op_gt (pe_ix ix_list (pv 0) pe_int (fun _ _ => rfl)) pe_int (nomark _))
      (pss_cons (ps_set (i := 2) sc_l_below.nd rfl (Or.inl rfl) (pe_op op_mod (pe_ix ix_list (pv 0) pe_int (fun _ _ => rfl)) (pv 1)))
      (pss_cons (ps_asg (pe_op op_fdivW (pe_ix ix_list (pv 0) pe_int (fun _ _ => rfl)) (pv 1)) (pg_sub (pv 0) pe_int set_list))
      (pss_one (ps_ret (pv 2)))))
      pss_nil)
    (pss_cons (ps_asg (pe_op op_mod (pe_op op_add (pe_op op_mul (pe_ix ix_list (pv 0) pe_int (fun _ _ => rfl)) pe_int) pe_int) pe_int) (pg_sub (pv 0) pe_int set_list))
    (pss_one (ps_ret (pe_op op_mod (pe_op op_fdivW (pe_ix ix_list (pv 0) pe_int (fun _ _ => rfl)) pe_int) (pv 1))))))), ?_⟩
    refine ⟨fun σ H1 => σ = [some (.ref a), some (.int n), none] ∧ Kp a H H1 ∧ DOk H1 a, ?_, ?_⟩
    · refine ⟨_, rfl, a, _, _, _, rfl, rfl, SqL.of hd, at_1, rfl, _, rfl, ?_⟩
      refine if2 (fun hc => ?_) (fun hc => ?_)
      · refine ⟨_, rfl, a, _, rfl, .inl (SqL.of hd), _, _, rfl, rfl, _, rfl, ?_⟩
        refine if2 (fun hl => ?_) (fun hl => ?_)
        · cases rest with
          | nil => exact absurd (of_decide_eq_true hl) (by simp)
          | cons x rest =>
            refine ⟨_, rfl, .inl ⟨rfl, _, SqL.of hd⟩, a, _, 2, 2, .int x, rfl, rfl, hd, by decide, by decide, ?_, rfl, ?_⟩
            · show seqIndex? 2 ((rest.map V.int).length + 3) = _
              exact seq2
            refine ⟨_, rfl, a, _, 1, 1, rfl, rfl, upd_same, ?_, ?_⟩
            · show ixN ((rest.map V.int).length + 2) 1 = _
              exact ixN1
            refine ⟨rfl, (Kp.refl H).upd.upd, sd, x, rest, ?_, s0, s1, Int.le_of_lt (r0 x (List.mem_cons_self ..)), fun y hy => r0 y (List.mem_cons_of_mem _ hy), by simp at rl; omega⟩
            rw [upd_same] <;> rfl
        · exact ⟨rfl, Kp.refl H, sd, c, rest, hd, s0, s1, c0, r0, rl⟩
      · refine ifF rfl ?_
        exact ⟨rfl, Kp.refl H, sd, c, rest, hd, s0, s1, c0, r0, rl⟩
    · rintro σ H1 ⟨rfl, kp, sd, c, rest, hd, s0, s1, c0, r0, rl⟩
      refine ⟨_, rfl, a, _, _, _, rfl, rfl, SqL.of hd, at_1, _, _, rfl, rfl, _, rfl, ?_⟩
      refine if2 (fun hc => ?_) (fun hc => ?_)
      · have hc1 : 0 < c := of_decide_eq_true hc
        refine ⟨_, rfl, a, _, _, _, rfl, rfl, SqL.of hd, at_1, _, rfl, _, _, rfl, rfl, n0, ?_⟩
        refine ⟨_, rfl, a, _, _, _, rfl, rfl, SqL.of hd, at_1, _, rfl, _, _, rfl, rfl, wide_div (b := 60) n0 (by omega) (by omega) (by omega), ?_⟩
        refine ⟨_, rfl, a, _, 1, 1, rfl, rfl, hd, ?_, ?_⟩
        · show ixN ((rest.map V.int).length + 2) 1 = _
          exact ixN1
        refine ⟨_, rfl, ?_⟩
        refine q _ _ (Int.emod_nonneg _ (by omega)) (Int.emod_lt_of_pos _ n0) kp.upd ⟨sd, c / n, rest, ?_, s0, s1, Int.ediv_nonneg c0 (by omega), r0, rl⟩
        rw [upd_same] <;> rfl
      · refine ⟨_, rfl, a, _, _, _, rfl, rfl, SqL.of hd, at_0, _, _, rfl, rfl, .inr (by decide), _, _, rfl, rfl, _, _, rfl, rfl, (by show (0 : Int) < 2147483647; decide), ?_⟩
        refine ⟨_, rfl, a, _, 0, 0, rfl, rfl, hd, ?_, ?_⟩
        · show ixN ((rest.map V.int).length + 1 + 1) 0 = _
          exact ixN0
        refine ⟨_, rfl, a, _, _, _, rfl, rfl, SqL.of upd_same, at_0, _, _, rfl, rfl, wide_div (b := 60) (by decide) (by decide) (by omega) (by omega), _, rfl, _, _, rfl, rfl, n0, ?_⟩
        refine q _ _ (Int.emod_nonneg _ (by omega)) (Int.emod_lt_of_pos _ n0) kp.upd ⟨(sd * 48271 + 11) % 2147483647, c, rest, ?_, Int.emod_nonneg _ (by decide), Int.emod_lt_of_pos _ (by decide), c0, r0, rl⟩
        rw [upd_same] <;> rfl
end
end My
namespace My
open PySem PySem.Spec PyProof.Rows L2
def sp_random (K : PySem.W.Frag) : Sp := fun vs H Q _ => ∃ (a : Addr) (ns : List Int) (z : Int), vs = [.ref a, .int z] ∧ SqL K H a (ns.map V.int) ∧ ns.length ≤ 63 ∧ 0 ≤ z ∧ z < 2147483647 ∧ ∀ p H', H p = none → Same H H' → DOk H' p → Q (.ref p) H'
abbrev s_l_random : Stmt := (top 40)
abbrev N_l_random : List Str := ["_law_script", "_law_salt", "_law_seed", "_law_cell"]
theorem sc_l_random : FnScope N_l_random ["_law_script", "_law_salt"] (defScope s_l_random) := ⟨rfl, rfl, rfl, by decide +kernel, rfl, by decide +kernel, by decide +kernel⟩

section
variable {P : Program} {w : World} {K : PySem.W.Frag} {mg : Str → Option Value} {base : Heap}
theorem abs_nn (i : Int) : 0 ≤ if i < 0 then -i else i := by split <;> omega
theorem ok_random {f : Addr} {fd : FuncData} (F : Fun K "_law_random" "_law_random" s_l_random f fd) (T : Txt mg) : FnOk P w K mg base CX0 1 f fd ["_law_script", "_law_salt"] (sp_random K) := by
  refine F.ok sc_l_random (fun vs H Q E h => ?_) (fun cdv A outer s H vs Q E hr h => ?_)
  · obtain ⟨a, ns, z, rfl, _⟩ := h
    rfl
  · obtain ⟨a, ns, z, rfl, hS, hn, z0, z1, q⟩ := h
    refine ⟨_, (pss_cons (ps_set (i := 2) sc_l_random.nd rfl (Or.inl rfl) (pv 1))
    (pss_cons (ps_for PassesOwn.never rfl (pi_list (pv 0)) (pg_name (i := 3) sc_l_random.nd rfl (Or.inl rfl))
      (pss_one (ps_set (i := 2) sc_l_random.nd rfl (Or.inl rfl) (pe_op op_mod (pe_op op_add (pe_op op_mul (pv 2) pe_int) (pe_callB call_abs (by rfl) T.b_abs (by decide +kernel) (pa_cons (pv 3) pa_nil))) pe_int))))
    (pss_one (ps_ret (pe_op op_cat (pe_lst (pa_cons (pv 2) (pa_cons pe_int pa_nil))) (pe_lcG (own := [("_law_cell", 3)]) (g := gName 3)  rfl sc_l_random.nd (pi_list (pv 0)) (blkOk_by (N := N_l_random) (sc := defScope s_l_random) (by decide +kernel)) (fun _ _ _ _ _ => (pg_name (i := 3) sc_l_random.nd rfl (Or.inl rfl))) (fun _ _ _ _ _ => pts_one (pt_cmpR op_ge (pv 3) (pe_op op_pow pe_int pe_int) (nomark _))) (fun _ _ _ _ _ => (pv 3)))))))), ?_⟩
    refine ⟨_, rfl, _, rfl, a, rfl, ⟨_, hS⟩, for_list (K := K) (a := a) (xs := ns.map V.int) (fun i σ H' => ∃ (y : Int) (v : Option V), σ = [some (.ref a), some (.int z), some (.int y), v] ∧ H' = H ∧ 0 ≤ y ∧ y < 2147483647)
      ⟨z, none, rfl, rfl, z0, z1⟩ (fun i σ H' _ ⟨_, _, _, e, _⟩ => by rw [e]; exact hS) ?_ ?_⟩
    · rintro i x σ H' hi ⟨y, v, rfl, rfl, y0, y1⟩
      obtain ⟨u, rfl⟩ : ∃ u, x = V.int u := by
        rw [List.getElem?_map] at hi
        cases e : ns[i]? with
        | none => rw [e] at hi; cases hi
        | some u => rw [e] at hi; exact ⟨u, (Option.some.inj hi).symm⟩
      refine ⟨_, rfl, _, _, rfl, rfl, .inl ⟨by omega, by omega⟩, _, rfl, _, rfl, _, _, rfl, rfl, _, _, rfl, rfl, (by show (0 : Int) < 2147483647; decide), ?_⟩
      exact ⟨_, _, rfl, rfl, Int.emod_nonneg _ (by decide), Int.emod_lt_of_pos _ (by decide)⟩
    · rintro σ H' ⟨y, v, rfl, rfl, y0, y1⟩
      refine ⟨_, rfl, by show 2 ≤ sizeLine; decide, fun p hp => ?_⟩
      have s1 : Same H' (upd H' p (.lst [.int y, .int 0])) := Same.new hp
      refine ⟨_, rfl, a, rfl, ⟨_, s1.seq hS⟩, fun D hD => lc_list (K := K) (a := a) (xs := ns.map V.int) (fun i H2 => ∃ rest : List Int, H2 = upd (upd H' p (.lst [.int y, .int 0])) D (.lst (rest.map V.int)) ∧ (∀ x ∈ rest, 0 < x) ∧ rest.length ≤ i)
        ⟨[], rfl, fun _ h => (nomatch h), Nat.le_refl _⟩ ?_ ?_ ?_⟩
      · rintro i H2 _ ⟨rest, rfl, _⟩
        exact (Same.new' s1 hD).seq hS
      · rintro i x H2 hi ⟨rest, rfl, r0, rl⟩
        have hi2 : i < ns.length := by
          have q := (List.getElem?_eq_some_iff.mp hi).1
          rw [List.length_map] at q
          exact q
        obtain ⟨u, rfl⟩ : ∃ u, x = V.int u := by
          rw [List.getElem?_map] at hi
          cases e : ns[i]? with
          | none => rw [e] at hi; cases hi
          | some u => rw [e] at hi; exact ⟨u, (Option.some.inj hi).symm⟩
        refine ⟨rfl, _, rfl, _, _, rfl, rfl, ⟨by decide, by decide, by decide⟩, _, _, rfl, rfl, _, rfl, if2 (fun hc => ?_) (fun hc => ?_)⟩
        · have h1 : (10 : Int) ^ 18 ≤ u := of_decide_eq_true hc
          refine ⟨_, rfl, _, upd_same, sz3 (by rw [List.length_map]; omega), rest ++ [u], ?_, fun x hx => ?_, by rw [List.length_append]; exact Nat.succ_le_succ rl⟩
          · rw [upd_upd, List.map_append] <;> rfl
          · rcases List.mem_append.mp hx with h | h
            · exact r0 x h
            · have e : x = u := by simpa using h
              rw [e]
              exact Int.lt_of_lt_of_le (by decide) h1
        · exact ⟨rest, rfl, r0, Nat.le_succ_of_le rl⟩
      · rintro H2 ⟨rest, rfl, r0, rl⟩
        have npD : p ≠ D := fun e => by rw [e, upd_same] at hD; cases hD
        refine ⟨p, D, _, _, rfl, rfl, by rw [upd_ne npD, upd_same], upd_same, sz2 ?_, fun q2 hq2 => ?_⟩
        · rw [List.length_map] at rl ⊢
          show 2 + rest.length ≤ 100000
          omega
        · have f2 : H' q2 = none := (Same.new' s1 hD).free hq2
          refine q q2 _ f2 (Same.new' (Same.new' s1 hD) hq2) ⟨y, 0, rest, upd_same, y0, y1, Int.le_refl _, r0, by rw [List.length_map] at rl; omega⟩
end
end My
namespace My
open PySem PySem.Spec PyProof.Rows L2
def sp_lines : Sp := fun vs H Q _ => ∃ (a : Addr) (m t : Nat), vs = [.ref a, .int m, .int t] ∧ DOk H a ∧ 0 < m ∧ m ≤ 8 ∧ t ≤ 10 ∧ ∀ g w p H', Grid m t g w → H p = none → Kp a H H' → DOk H' a → H' p = some (.lst (g.map lineV)) → Q (.ref p) H'
theorem menu6 (r : Int) (h0 : 0 ≤ r) (h1 : r < 6) : ∃ s : Sg, atI ("rfrfRF" : Str).cps.toList r = some s.cp := by
  have h : r = 0 ∨ r = 1 ∨ r = 2 ∨ r = 3 ∨ r = 4 ∨ r = 5 := by omega
  rcases h with h | h | h | h | h | h <;> subst h
  · exact ⟨.r, by decide +kernel⟩
  · exact ⟨.f, by decide +kernel⟩
  · exact ⟨.r, by decide +kernel⟩
  · exact ⟨.f, by decide +kernel⟩
  · exact ⟨.R, by decide +kernel⟩
  · exact ⟨.F, by decide +kernel⟩
theorem menu2 (r : Int) (h0 : 0 ≤ r) (h1 : r < 2) : ∃ s : Sg, atI ("RF" : Str).cps.toList r = some s.cp ∧ s.tur = false := by
  have h : r = 0 ∨ r = 1 := by omega
  rcases h with h | h <;> subst h
  · exact ⟨.R, by decide +kernel, rfl⟩
  · exact ⟨.F, by decide +kernel, rfl⟩
theorem in_rf (s : Sg) : (!(Builtin.Str.occurrences ("rf" : Str) s.str 0 ("rf" : Str).length 1).isEmpty) = s.tur := by
  cases s <;> decide +kernel
abbrev s_l_lines : Stmt := (top 42)
abbrev N_l_lines : List Str := ["_law_d", "_law_most", "_law_turning", "_law_height", "_law_width", "_law_lines_here", "_law_left", "_law_dense", "_law_row", "_law_line", "_law_column", "_law_sign"]
theorem sc_l_lines : FnScope N_l_lines ["_law_d", "_law_most", "_law_turning"] (defScope s_l_lines) := ⟨rfl, rfl, rfl, by decide +kernel, rfl, by decide +kernel, by decide +kernel⟩

section
variable {P : Program} {w : World} {K : PySem.W.Frag} {mg : Str → Option Value} {base : Heap}
theorem ok_lines {f : Addr} {fd : FuncData} (F : Fun K "_law_lines" "_law_lines" s_l_lines f fd) (T : Txt mg) (g_l_below : GF P w K mg base "_law_below" 1 sp_below) : FnOk P w K mg base CX0 2 f fd ["_law_d", "_law_most", "_law_turning"] sp_lines := by
  refine F.ok sc_l_lines (fun vs H Q E h => ?_) (fun cdv A outer s H vs Q E hr h => ?_)
  · obtain ⟨a, m, t, rfl, _⟩ := h
    rfl
  · obtain ⟨a, m, t, rfl, hd, m0, m8, t10, q⟩ := h
    refine ⟨_, (pss_cons (ps_asg (pe_tup (pa_cons (pe_op op_add pe_int (pe_c g_l_below (hr.mono (by decide)) passL (pa_cons (pv 0) (pa_cons (pv 1) pa_nil)))) (pa_cons (pe_op op_add pe_int (pe_c g_l_below (hr.mono (by decide)) passL (pa_cons (pv 0) (pa_cons (pv 1) pa_nil)))) (pa_cons (pe_lst pa_nil) (pa_cons (pv 2) pa_nil))))) (pg_tup rfl (pgs_cons (pg_name (i := 3) sc_l_lines.nd rfl (Or.inl rfl)) (pgs_cons (pg_name (i := 4) sc_l_lines.nd rfl (Or.inl rfl)) (pgs_cons (pg_name (i := 5) sc_l_lines.nd rfl (Or.inl rfl)) (pgs_cons (pg_name (i := 6) sc_l_lines.nd rfl (Or.inl rfl)) pgs_nil))))))
    (pss_cons (ps_set (i := 7) sc_l_lines.nd rfl (Or.inl rfl) (pe_op op_add pe_int (pe_c g_l_below (hr.mono (by decide)) passL (pa_cons (pv 0) (pa_cons pe_int pa_nil)))))
    (pss_cons (ps_for PassesOwn.never rfl (pi_range1 (by rfl) T.b_range (pa_cons (pv 3) pa_nil)) (pg_name (i := 8) sc_l_lines.nd rfl (Or.inl rfl))
      (pss_cons (ps_set (i := 9) sc_l_lines.nd rfl (Or.inl rfl) pe_str)
      (pss_cons (ps_for PassesOwn.never rfl (pi_range1 (by rfl) T.b_range (pa_cons (pv 4) pa_nil)) (pg_name (i := 10) sc_l_lines.nd rfl (Or.inl rfl))
        (C8.pss_cut (ps_set (i := 11) sc_l_lines.nd rfl (Or.inl rfl) (pe_ifExp (pt_cmpR op_lt (pe_c g_l_below (hr.mono (by decide)) passL (pa_cons (pv 0) (pa_cons pe_int pa_nil))) (pv 7) (nomark _)) pe_str (pe_ix ix_str pe_str (pe_c g_l_below (hr.mono (by decide)) passL (pa_cons (pv 0) (pa_cons pe_int pa_nil))) (fun _ _ => rfl))))
        (C8.pss_cut (ps_if (pt_cmpR op_in_str (pv 11) pe_str (by rfl))
          (pss_one (ps_asg (pe_ifExp (pt_cmpR op_gt (pv 6) pe_int (nomark _)) (pe_tup (pa_cons (pv 11) (pa_cons (pe_op op_sub (pv 6) pe_int) pa_nil))) (pe_tup (pa_cons (pe_ix ix_str pe_str (pe_c g_l_below (hr.mono (by decide)) passL (pa_cons (pv 0) (pa_cons pe_int pa_nil))) (fun _ _ => rfl)) (pa_cons pe_int pa_nil)))) (pg_tup rfl (pgs_cons (pg_name (i := 11) sc_l_lines.nd rfl (Or.inl rfl)) (pgs_cons (pg_name (i := 6) sc_l_lines.nd rfl (Or.inl rfl)) pgs_nil)))))
          pss_nil)
        (pss_one (ps_set (i := 9) sc_l_lines.nd rfl (Or.inl rfl) (pe_op op_add_str (pv 9) (pv 11)))))))
      (pss_one (ps_expr (pe_bm PySem.F.plainAttrs_list PySem.F.slot_list_append PySem.F.type_list_append mt_append (pv 5) (pa_cons (pv 9) pa_nil)))))))
    (pss_one (ps_ret (pv 5)))))), ?_⟩
    refine ⟨_, rfl, _, rfl, a, _, rfl, hd, by omega, by omega, fun r1 H1 r10 r11 k1 d1 => ⟨_, _, rfl, rfl, ?_⟩⟩
    refine ⟨_, rfl, _, rfl, a, _, rfl, d1, by omega, by omega, fun r2 H2 r20 r21 k2 d2 => ⟨_, _, rfl, rfl, Nat.zero_le _, fun p hp => ?_⟩⟩
    have npa : p ≠ a := (d2.ne hp).symm
    have fp : H p = none := k1.free npa (k2.free npa hp)
    refine ⟨_, rfl, by show 4 ≤ sizeLine; decide, fun q4 hq4 => ?_⟩
    refine ⟨q4, _, rfl, SqT.of upd_same, rfl, _, _, rfl, _, _, rfl, _, _, rfl, _, _, rfl, rfl, ?_⟩
    have nqp : p ≠ q4 := fun e => by rw [← e, upd_same] at hq4; cases hq4
    have f4 : H2 q4 = none := (Same.new hp).free hq4
    have d3 := (d2.upd (o := .lst []) npa.symm).upd (o := .tup [.int (1 + r1), .int (1 + r2), .ref p, .int t]) (d2.ne f4)
    have k3 : Kp a H _ := ((k1.trans k2).mut fp (o := .lst [])).mut (k1.free (d2.ne f4).symm (k2.free (d2.ne f4).symm f4)) (o := .tup [.int (1 + r1), .int (1 + r2), .ref p, .int t])
    have e3 : upd (upd H2 p (.lst [])) q4 (.tup [.int (1 + r1), .int (1 + r2), .ref p, .int t]) p = some (.lst []) := by rw [upd_ne nqp, upd_same]
    generalize upd (upd H2 p (.lst [])) q4 (.tup [.int (1 + r1), .int (1 + r2), .ref p, .int t]) = H3 at d3 k3 e3
    refine ⟨_, rfl, a, 4, rfl, d3, by omega, by omega, fun dn H4 dn0 dn1 k4 d4 => ⟨_, _, rfl, rfl, ?_⟩⟩
    have e4 : H4 p = some (.lst []) := k4 p _ npa e3
    have hh : ((1 + r1).toNat : Int) = 1 + r1 := by omega
    have hw : ((1 + r2).toNat : Int) = 1 + r2 := by omega
    refine ⟨_, rfl, _, rfl, by omega, by omega, for_range (lo := 0) (n := (1 + r1).toNat) (fun i σ H' => ∃ (g : List (List Sg)) (left : Nat) (v1 v2 v3 v4 : Option V), σ = [some (.ref a), some (.int m), some (.int t), some (.int (1 + r1)), some (.int (1 + r2)), some (.ref p), some (.int left), some (.int (1 + dn)), v1, v2, v3, v4] ∧
      Kp a H H' ∧ DOk H' a ∧ H' p = some (.lst (g.map lineV)) ∧ g.length = i ∧ (∀ l ∈ g, l.length = (1 + r2).toNat) ∧ gcount g + left ≤ t)
      ⟨[], t, none, none, none, none, rfl, k3.trans k4, d4, e4, rfl, fun _ h => (nomatch h), by show 0 + t ≤ t; omega⟩ ?_ ?_⟩
    · rintro i σ H5 hi ⟨g, left, v1, v2, v3, v4, rfl, k5, d5, e5, gl, gw, gc⟩
      refine ⟨_, rfl, _, rfl, by omega, by omega, for_range (lo := 0) (n := (1 + r2).toNat) (fun j σ H' => ∃ (l : List Sg) (left : Nat) (v1 v3 v4 : Option V), σ = [some (.ref a), some (.int m), some (.int t), some (.int (1 + r1)), some (.int (1 + r2)), some (.ref p), some (.int left), some (.int (1 + dn)), v1, some (.str (lstr l)), v3, v4] ∧
        Kp a H H' ∧ DOk H' a ∧ H' p = some (.lst (g.map lineV)) ∧ l.length = j ∧ gcount g + lcount l + left ≤ t)
        ⟨[], left, _, v3, v4, rfl, k5, d5, e5, rfl, by show gcount g + 0 + left ≤ t; omega⟩ ?_ ?_⟩
      · rintro j σ H6 hj ⟨l, left, v1, v3, v4, rfl, k6, d6, e6, ll, gc⟩
        refine ⟨fun σ H' => ∃ (s : Sg), σ = [some (.ref a), some (.int m), some (.int t), some (.int (1 + r1)), some (.int (1 + r2)), some (.ref p), some (.int left), some (.int (1 + dn)), v1, some (.str (lstr l)), some (.int (0 + (j : Int))), some (.str s.str)] ∧ Kp a H H' ∧ DOk H' a ∧ H' p = some (.lst (g.map lineV)), ?_, ?_⟩
        · refine ⟨_, rfl, a, 5, rfl, d6, by omega, by omega, fun x H7 x0 x1 k7 d7 => ⟨_, rfl, _, _, rfl, rfl, _, rfl, if2 (fun hc => ?_) (fun hc => ?_)⟩⟩
          · exact ⟨.d, rfl, k6.trans k7, d7, k7 p _ npa e6⟩
          · refine ⟨_, rfl, a, 6, rfl, d7, by omega, by omega, fun y H8 y0 y1 k8 d8 => ?_⟩
            obtain ⟨s, hs⟩ := menu6 y y0 y1
            exact ⟨_, _, _, rfl, rfl, by decide +kernel, hs, s, rfl, (k6.trans k7).trans k8, d8, k8 p _ npa (k7 p _ npa e6)⟩
        · rintro σ H7 ⟨s, rfl, k7, d7, e7⟩
          refine ⟨fun σ H' => ∃ (s : Sg) (left : Nat), σ = [some (.ref a), some (.int m), some (.int t), some (.int (1 + r1)), some (.int (1 + r2)), some (.ref p), some (.int left), some (.int (1 + dn)), v1, some (.str (lstr l)), some (.int (0 + (j : Int))), some (.str s.str)] ∧ Kp a H H' ∧ DOk H' a ∧ H' p = some (.lst (g.map lineV)) ∧ gcount g + lcount (l ++ [s]) + left ≤ t, ?_, ?_⟩
          · refine ⟨_, rfl, _, _, rfl, rfl, _, rfl, ?_⟩
            refine if2 (fun hc => ?_) (fun hc => ?_)
            · have hs : s.tur = true := (in_rf s).symm.trans hc
              refine ⟨_, rfl, _, _, rfl, rfl, _, rfl, if2 (fun hl => ?_) (fun hl => ?_)⟩
              · have h0 : (0 : Int) < left := of_decide_eq_true hl
                refine ⟨_, rfl, _, rfl, _, _, rfl, rfl, by show 2 ≤ sizeLine; decide, fun x hx => ?_⟩
                have fx : H x = none := k7.free (d7.ne hx).symm hx
                refine ⟨x, _, rfl, SqT.of upd_same, rfl, _, _, rfl, _, _, rfl, rfl, s, left - 1, ?_, k7.mut fx, d7.upd (d7.ne hx), by rw [upd_ne (ne_of_none e7 hx)]; exact e7, ?_⟩
                · have e : ((left : Int) - 1) = ((left - 1 : Nat) : Int) := by omega
                  rw [← e] <;> rfl
                · rw [lcount_app, hs]
                  simp only [if_true]
                  omega
              · refine ⟨_, rfl, a, 2, rfl, d7, by omega, by omega, fun y H8 y0 y1 k8 d8 => ?_⟩
                obtain ⟨s2, hs2, ht2⟩ := menu2 y y0 y1
                have e8 := k8 p _ npa e7
                refine ⟨_, _, _, rfl, rfl, by decide +kernel, hs2, by show 2 ≤ sizeLine; decide, fun x hx => ?_⟩
                have k78 := k7.trans k8
                have fx : H x = none := k78.free (d8.ne hx).symm hx
                refine ⟨x, _, rfl, SqT.of upd_same, rfl, _, _, rfl, _, _, rfl, rfl, s2, 0, rfl, k78.mut fx, d8.upd (d8.ne hx), by rw [upd_ne (ne_of_none e8 hx)]; exact e8, ?_⟩
                rw [lcount_app, ht2]
                simp
                omega
            · have hs : s.tur = false := (in_rf s).symm.trans hc
              refine ⟨s, left, rfl, k7, d7, e7, ?_⟩
              rw [lcount_app, hs]
              simpa using gc
          · rintro σ H8 ⟨s, left, rfl, k8, d8, e8, gc8⟩
            refine ⟨_, rfl, _, rfl, _, _, rfl, rfl, sz2 ?_, l ++ [s], left, v1, some (.int (0 + (j : Int))), some (.str s.str), ?_, k8, d8, e8, by rw [List.length_append, ll] <;> rfl, gc8⟩
            · rw [lstr_len]
              show l.length + 1 ≤ 100000
              omega
            · rw [lstr_app] <;> rfl
      · rintro σ H6 ⟨l, left, v1, v3, v4, rfl, k6, d6, e6, ll, gc⟩
        refine ⟨_, rfl, .inl ⟨rfl, _, SqL.of e6⟩, _, rfl, p, _, _, rfl, rfl, e6, sz3 (by rw [List.length_map]; omega), ?_⟩
        refine ⟨g ++ [l], left, _, _, _, _, rfl, k6.mut fp, d6.upd npa.symm, ?_, by rw [List.length_append, gl] <;> rfl, fun x hx => ?_, by rw [gcount_app]; exact gc⟩
        · rw [upd_same, List.map_append] <;> rfl
        · rcases List.mem_append.mp hx with h | h
          · exact gw x h
          · have e : x = l := by simpa using h
            rw [e]
            exact ll
    · rintro σ H5 ⟨g, left, v1, v2, v3, v4, rfl, k5, d5, e5, gl, gw, gc⟩
      refine ⟨_, rfl, q g (1 + r2).toNat p H5 ⟨by omega, by omega, by omega, by omega, gw, by omega⟩ fp k5 d5 e5⟩
end
end My
namespace My
open PySem PySem.Spec PyProof.Rows L2
def inS (z : Str) (s : Sg) : Bool := !(Builtin.Str.occurrences z s.str 0 z.length 1).isEmpty
def sp_tiles (K : PySem.W.Frag) : Sp := fun vs H Q _ => ∃ (a : Addr) (z : Str) (g : List (List Sg)) (f : Sg → Bool), vs = [.ref a, .str z] ∧ (SqL K H a (g.map lineV) ∨ SqT K H a (g.map lineV)) ∧ g.length ≤ 100 ∧ (∀ l ∈ g, l.length ≤ 100) ∧ (∀ s, inS z s = f s) ∧
  ∀ p ws H', H p = none → Same H H' → H' p = some (.lst ws) → PrsAt H' ws (tiles f g) → Q (.ref p) H'
abbrev s_tiles_with : Stmt := (top 21)
abbrev N_tiles_with : List Str := ["rows", "signs", "row", "line", "column", "sign"]
theorem sc_tiles_with : FnScope N_tiles_with ["rows", "signs"] (defScope s_tiles_with) := ⟨rfl, rfl, rfl, by decide +kernel, rfl, by decide +kernel, by decide +kernel⟩

section
variable {P : Program} {w : World} {K : PySem.W.Frag} {mg : Str → Option Value} {base : Heap}
theorem sameT {K : PySem.W.Frag} {H H' : Hp} {a : Addr} {xs : List V} (s : Same H H') (h : SqT K H a xs) : SqT K H' a xs := by
  rcases h with (h | ⟨o, h⟩) | h
  · exact .inl (.inl (s _ _ h))
  · exact .inl (.inr ⟨o, s _ _ h⟩)
  · exact .inr h
theorem seqA {K : PySem.W.Frag} {H H' : Hp} {a : Addr} {xs : List V} (s : Same H H') (h : SqL K H a xs ∨ SqT K H a xs) : SqL K H' a xs ∨ SqT K H' a xs := by
  rcases h with h | h
  · exact .inl (s.seq h)
  · rcases h with (h | ⟨o, h⟩) | h
    · exact .inr (.inl (.inl (s _ _ h)))
    · exact .inr (.inl (.inr ⟨o, s _ _ h⟩))
    · exact .inr (.inr h)
/-- a list at D in the making, of pairs; H: what stood ahead -/
def Mkg (H : Hp) (D : Addr) (ps : List (Int × Int)) (H' : Hp) : Prop := Same H H' ∧ H D = none ∧ ∃ ws, H' D = some (.lst ws) ∧ PrsAt H' ws ps
theorem Mkg.new {H H' : Hp} {D : Addr} {ps : List (Int × Int)} {p : Addr} {o : HO} (m : Mkg H D ps H') (h : H' p = none) : Mkg H D ps (upd H' p o) :=
  let ⟨s, d, ws, e, q⟩ := m
  ⟨Same.new' s h, d, ws, by rw [upd_ne (ne_of_none e h)]; exact e, q.tx (Tx.new h)⟩
theorem Mkg.add {H H' : Hp} {D : Addr} {ps : List (Int × Int)} {acc : List V} {v : V} {p : Int × Int} (m : Mkg H D ps H') (h : H' D = some (.lst acc)) (y : PrAt H' v p) : Mkg H D (ps ++ [p]) (upd H' D (.lst (acc ++ [v]))) := by
  obtain ⟨s, d, ws, e, q⟩ := m
  rw [h] at e
  cases e
  exact ⟨Same.mut s d, d, _, upd_same, (q.snoc y).tx (Tx.lst h)⟩
theorem Mkg.len {H H' : Hp} {D : Addr} {ps : List (Int × Int)} (m : Mkg H D ps H') : ∃ ws, H' D = some (.lst ws) ∧ ws.length = ps.length := let ⟨_, _, ws, e, q⟩ := m; ⟨ws, e, q.len⟩
theorem lstr_size (l : List Sg) : (lstr l).cps.size = l.length := lstr_len l
theorem ok_tiles {f : Addr} {fd : FuncData} (F : Fun K "tiles_with" "tiles_with" s_tiles_with f fd) (T : Txt mg) : FnOk P w K mg base CX0 1 f fd ["rows", "signs"] (sp_tiles K) := by
  refine F.ok sc_tiles_with (fun vs H Q E h => ?_) (fun cdv A outer s H vs Q E hr h => ?_)
  · obtain ⟨a, z, g, f, rfl, _⟩ := h
    rfl
  · obtain ⟨a, z, g, fz, rfl, hS, hg, hl, hz, q⟩ := h
    refine ⟨_, (pss_one (ps_ret (pe_lc2 (own := [("row", 2), ("line", 3), ("column", 4), ("sign", 5)]) (vs1 := [4, 5]) (g := gTup K 2 (gCons (gName 2) (gCons (gName 3) gNil))) (g1 := gTup K 2 (gCons (gName 4) (gCons (gName 5) gNil))) (tt := tYes) rfl sc_tiles_with.nd (pi_enumA (by rfl) T.b_enumerate (pa_cons (pv 0) pa_nil)) (blkOk_by (N := N_tiles_with) (sc := defScope s_tiles_with) (by decide +kernel)) (by decide +kernel) (fun _ _ _ _ _ => (pg_tup rfl (pgs_cons (pg_name (i := 2) sc_tiles_with.nd rfl (Or.inl rfl)) (pgs_cons (pg_name (i := 3) sc_tiles_with.nd rfl (Or.inl rfl)) pgs_nil)))) (fun _ _ _ _ _ => pts_nil) (fun _ _ _ _ _ => (pi_enumS (by rfl) T.b_enumerate (pa_cons (pv 3) pa_nil))) (fun _ _ _ _ _ => (pg_tup rfl (pgs_cons (pg_name (i := 4) sc_tiles_with.nd rfl (Or.inl rfl)) (pgs_cons (pg_name (i := 5) sc_tiles_with.nd rfl (Or.inl rfl)) pgs_nil)))) (fun _ _ _ _ _ => pts_one (pt_cmpR op_in_str (pv 5) (pv 1) (by rfl))) (fun _ _ _ _ _ => (pe_tup (pa_cons (pv 2) (pa_cons (pv 4) pa_nil))))))), ?_⟩
    have turn : ∀ (D : Addr) (i : Nat) (T0 : Addr) (v : V) (H2 : Hp) (Nx : Hp → Prop), i < g.length → Mkg H D (tilesTo fz g i) H2 → H2 T0 = none → (g.map lineV)[i]? = some v → (∀ H3, Mkg H D (tilesTo fz g (i + 1)) H3 → Nx H3) →
        (gTup K 2 (gCons (gName 2) (gCons (gName 3) gNil))) (.ref T0) (wipe (start N_tiles_with [V.ref a, V.str z]) [2, 3, 4, 5]) (upd H2 T0 (.tup [.int (i : Nat), v])) fun σ2 H3 =>
          wipe σ2 [2, 3, 4, 5] = wipe (start N_tiles_with [V.ref a, V.str z]) [2, 3, 4, 5] ∧ tYes σ2 H3 fun b H4 => if b = true then
            iEnumS (tCons (tVar 3) tNil) σ2 H4 fun J1 H5 => ∃ W1 : Nat → Nat → Hp → Prop, (∃ m, W1 0 m H5) ∧ ∀ j k H, W1 j k H →
              (J1.stop j H ∧ Nx H) ∨ (J1.go j H ∧ ∃ Nx1 : Hp → Prop, (∀ H', Nx1 H' → ∃ k', k' < k ∧ W1 (j + 1) k' H') ∧ ∀ x H', J1.yld j H x H' →
                (gTup K 2 (gCons (gName 4) (gCons (gName 5) gNil))) x (wipe σ2 [4, 5]) H' fun σ3 H5 => wipe σ3 [4, 5] = wipe σ2 [4, 5] ∧ tTest (tOp (fun x y H Q => ∃ i j, x = .str i ∧ y = .str j ∧ Q (.bl (!(Builtin.Str.occurrences j i 0 j.length 1).isEmpty)) H) (tVar 5) (tVar 1)) σ3 H5 fun b H6 =>
                  if b = true then tTup (tCons (tVar 2) (tCons (tVar 4) tNil)) σ3 H6 fun y H7 => ∃ acc, H7 D = some (.lst acc) ∧ acc.length < sizeLine ∧ Nx1 (upd H7 D (.lst (acc ++ [y]))) else Nx1 H6)
          else Nx H4 := by
      intro D i T0 v H2 Nx hi m hT hv hN
      obtain ⟨l, hgl⟩ : ∃ l, g[i]? = some l := ⟨g[i], by simp [hi]⟩
      have ev : v = lineV l := by
        rw [List.getElem?_map, hgl] at hv
        exact (Option.some.inj hv).symm
      subst ev
      have egl : g.getD i [] = l := by rw [List.getD_eq_getElem?_getD, hgl] <;> rfl
      have lm : l.length ≤ 100 := hl l (List.mem_of_getElem? hgl)
      refine ⟨T0, _, rfl, SqT.of upd_same, rfl, _, _, rfl, _, _, rfl, rfl, rfl, _, rfl, lstr l, rfl, it_gen (walk_enumS (z := lstr l)) (fun j H' => Mkg H D (tilesTo fz g i ++ rowTiles fz g i j) H') ?_ (fun _ _ _ _ => trivial) ?_ ?_⟩
      · have e0 : rowTiles fz g i 0 = [] := rfl
        rw [e0, List.append_nil]
        exact m.new hT
      · rintro j x H3 H4 hj mj ⟨T1, u, v, rfl, hT1, rfl, eu, ev⟩
        cases eu
        rw [lstr_size] at hj
        obtain ⟨sg, hsg⟩ : ∃ sg, l[j]? = some sg := ⟨l[j], by simp [hj]⟩
        have ev : ((lstr l).cps[j]?).map (fun c => V.str ⟨#[c]⟩) = some v := ev
        rw [lstr_get, hsg] at ev
        have ev2 : V.str sg.str = v := Option.some.inj ev
        subst ev2
        have hh : hit fz g i j = fz sg := by
          unfold hit
          rw [egl, hsg] <;> rfl
        have m2 := mj.new (o := .tup [.int (j : Nat), .str sg.str]) hT1
        refine ⟨T1, _, rfl, SqT.of upd_same, rfl, _, _, rfl, _, _, rfl, rfl, rfl, _, rfl, _, rfl, _, _, rfl, rfl, _, rfl, if2 (fun hc => ?_) (fun hc => ?_)⟩
        · have hy : hit fz g i j = true := hh.trans ((hz sg).symm.trans hc)
          refine ⟨_, rfl, _, rfl, by show 2 ≤ sizeLine; decide, fun p hp => ?_⟩
          have m3 := m2.new (o := .tup [.int (i : Nat), .int (j : Nat)]) hp
          obtain ⟨ws, e, el⟩ := m3.len
          refine ⟨ws, e, sz3 ?_, ?_⟩
          · rw [el, List.length_append]
            have h1 := tilesTo_len fz g 100 hl i
            have h2 := rowTiles_len fz g i j
            have h3 : i * 100 ≤ 100 * 100 := Nat.mul_le_mul_right _ (by omega)
            omega
          · have m4 := m3.add e (v := .ref p) (p := ((i : Int), (j : Int))) ⟨p, rfl, upd_same⟩
            rw [List.append_assoc, ← rowTiles_yes hy] at m4
            exact m4
        · have hy : hit fz g i j = false := hh.trans ((hz sg).symm.trans hc)
          show Mkg H D (tilesTo fz g i ++ rowTiles fz g i (j + 1)) _
          rw [rowTiles_no hy]
          exact m2
      · intro H3 m3
        refine hN H3 ?_
        rw [tilesTo_succ, egl, ← lstr_size]
        exact m3
    refine ⟨_, rfl, a, rfl, ?_⟩
    have fin : ∀ D H', H D = none → Mkg H D (tilesTo fz g (g.map lineV).length) H' → Q (.ref D) H' := fun D H' hD m => by
      obtain ⟨s, d, ws, e, pr⟩ := m
      rw [List.length_map] at pr
      exact q D ws H' d s e pr
    have m0 : ∀ D, H D = none → Mkg H D (tilesTo fz g 0) (upd H D (.lst [])) := fun D hD => ⟨Same.new hD, hD, [], upd_same, .nil⟩
    rcases hS with hS | hS
    · refine .inl ⟨_, hS, fun D hD => it_gen (walk_enum (xs := g.map lineV)) (fun i H' => Mkg H D (tilesTo fz g i) H') (m0 D hD) (fun i H' _ m => m.1.seq hS) ?_ (fun H' m => fin D H' hD m)⟩
      rintro i x H2 H3 hi m ⟨T1, u, v, rfl, hT1, rfl, eu, ev⟩
      cases eu
      rw [List.length_map] at hi
      exact turn D i T1 v H2 _ hi m hT1 ev fun _ z => z
    · refine .inr ⟨_, hS, fun D hD => it_gen (walk_enumT (xs := g.map lineV)) (fun i H' => Mkg H D (tilesTo fz g i) H') (m0 D hD) (fun i H' _ m => sameT m.1 hS) ?_ (fun H' m => fin D H' hD m)⟩
      rintro i x H2 H3 hi m ⟨T1, u, v, rfl, hT1, rfl, eu, ev⟩
      cases eu
      rw [List.length_map] at hi
      exact turn D i T1 v H2 _ hi m hT1 ev fun _ z => z
end
end My
namespace My
open PySem PySem.Spec PyProof.Rows L2
def sp_places : Sp := fun vs H Q _ => ∃ (h w : Nat), vs = [.int h, .int w] ∧ h ≤ 100 ∧ w ≤ 100 ∧ ∀ p ws H', H p = none → Same H H' → H' p = some (.lst ws) → PrsAt H' ws (places h w) → Q (.ref p) H'
abbrev s_port_places : Stmt := (top 23)
abbrev N_port_places : List Str := ["height", "width", "over", "right", "under", "left", "column", "row"]
theorem sc_port_places : FnScope N_port_places ["height", "width"] (defScope s_port_places) := ⟨rfl, rfl, rfl, by decide +kernel, rfl, by decide +kernel, by decide +kernel⟩

section
variable {P : Program} {w : World} {K : PySem.W.Frag} {mg : Str → Option Value} {base : Heap}
theorem mkg0 {H : Hp} {D : Addr} (hD : H D = none) : Mkg H D [] (upd H D (.lst [])) := ⟨Same.new hD, hD, [], upd_same, .nil⟩
theorem ok_places {f : Addr} {fd : FuncData} (F : Fun K "port_places" "port_places" s_port_places f fd) (T : Txt mg) : FnOk P w K mg base CX0 1 f fd ["height", "width"] sp_places := by
  refine F.ok sc_port_places (fun vs H Q E h => ?_) (fun cdv A outer s H vs Q E hr h => ?_)
  · obtain ⟨hh, ww, rfl, _⟩ := h
    rfl
  · obtain ⟨hh, ww, rfl, h1, w1, q⟩ := h
    have eh : ((hh : Int)).toNat = hh := by omega
    have ew : ((ww : Int)).toNat = ww := by omega
    refine ⟨_, (pss_cons (ps_setLcG (i := 2) (own := [("column", 6)]) (g := gName 6)  rfl sc_port_places.nd rfl rfl (sw_true rfl rfl rfl (by decide +kernel)) (pi_range1 (by rfl) T.b_range (pa_cons (pv 1) pa_nil)) (blkOk_by (N := N_port_places) (sc := defScope s_port_places) (by decide +kernel)) (fun _ _ _ _ _ => (pg_name (i := 6) sc_port_places.nd rfl (Or.inl rfl))) (fun _ _ _ _ _ => pts_nil) (fun _ _ _ _ _ => (pe_tup (pa_cons (pe_un un_neg pe_int) (pa_cons (pv 6) pa_nil)))))
    (pss_cons (ps_setLcG (i := 3) (own := [("row", 7)]) (g := gName 7)  rfl sc_port_places.nd rfl rfl (sw_true rfl rfl rfl (by decide +kernel)) (pi_range1 (by rfl) T.b_range (pa_cons (pv 0) pa_nil)) (blkOk_by (N := N_port_places) (sc := defScope s_port_places) (by decide +kernel)) (fun _ _ _ _ _ => (pg_name (i := 7) sc_port_places.nd rfl (Or.inl rfl))) (fun _ _ _ _ _ => pts_nil) (fun _ _ _ _ _ => (pe_tup (pa_cons (pv 7) (pa_cons (pv 1) pa_nil)))))
    (pss_cons (ps_setLcG (i := 4) (own := [("column", 6)]) (g := gName 6)  rfl sc_port_places.nd rfl rfl (sw_true rfl rfl rfl (by decide +kernel)) (pi_range1 (by rfl) T.b_range (pa_cons (pv 1) pa_nil)) (blkOk_by (N := N_port_places) (sc := defScope s_port_places) (by decide +kernel)) (fun _ _ _ _ _ => (pg_name (i := 6) sc_port_places.nd rfl (Or.inl rfl))) (fun _ _ _ _ _ => pts_nil) (fun _ _ _ _ _ => (pe_tup (pa_cons (pv 0) (pa_cons (pv 6) pa_nil)))))
    (pss_cons (ps_setLcG (i := 5) (own := [("row", 7)]) (g := gName 7)  rfl sc_port_places.nd rfl rfl (sw_true rfl rfl rfl (by decide +kernel)) (pi_range1 (by rfl) T.b_range (pa_cons (pv 0) pa_nil)) (blkOk_by (N := N_port_places) (sc := defScope s_port_places) (by decide +kernel)) (fun _ _ _ _ _ => (pg_name (i := 7) sc_port_places.nd rfl (Or.inl rfl))) (fun _ _ _ _ _ => pts_nil) (fun _ _ _ _ _ => (pe_tup (pa_cons (pv 7) (pa_cons (pe_un un_neg pe_int) pa_nil)))))
    (pss_one (ps_ret (pe_op op_cat (pe_op op_cat (pe_op op_cat (pv 2) (pv 3)) (pv 4)) (pv 5)))))))), ?_⟩
    refine ⟨_, rfl, _, rfl, by omega, by omega, fun D1 hD1 => it_gen walk_range (fun i H' => Mkg H D1 (pfx pUp i) H') (mkg0 hD1) (fun _ _ _ _ => trivial) ?_ fun H1 m1 => ?_⟩
    · rintro i x H1 H2 hi m ⟨rfl, rfl⟩
      refine ⟨rfl, _, rfl, _, rfl, by show 2 ≤ sizeLine; decide, fun p hp => ?_⟩
      have m3 := m.new (o := .tup [.int (-1), .int (0 + (i : Int))]) hp
      obtain ⟨ws, e, el⟩ := m3.len
      refine ⟨ws, e, sz3 (by rw [el, pfx_len]; omega), ?_⟩
      have m4 := m3.add e (v := .ref p) (p := pUp i) ⟨p, rfl, by rw [upd_same, Int.zero_add] <;> rfl⟩
      rw [← pfx_succ] at m4
      exact m4
    rw [ew] at m1
    obtain ⟨s1, d1, ws1, e1, p1⟩ := m1
    refine ⟨_, rfl, _, rfl, by omega, by omega, fun D2 hD2 => it_gen walk_range (fun i H' => Mkg H1 D2 (pfx (pRt ww) i) H') (mkg0 hD2) (fun _ _ _ _ => trivial) ?_ fun H2 m2 => ?_⟩
    · rintro i x H1 H2 hi m ⟨rfl, rfl⟩
      refine ⟨rfl, _, rfl, _, rfl, by show 2 ≤ sizeLine; decide, fun p hp => ?_⟩
      have m3 := m.new (o := .tup [.int (0 + (i : Int)), .int ww]) hp
      obtain ⟨ws, e, el⟩ := m3.len
      refine ⟨ws, e, sz3 (by rw [el, pfx_len]; omega), ?_⟩
      have m4 := m3.add e (v := .ref p) (p := pRt ww i) ⟨p, rfl, by rw [upd_same, Int.zero_add] <;> rfl⟩
      rw [← pfx_succ] at m4
      exact m4
    rw [eh] at m2
    obtain ⟨s2, d2, ws2, e2, p2⟩ := m2
    refine ⟨_, rfl, _, rfl, by omega, by omega, fun D3 hD3 => it_gen walk_range (fun i H' => Mkg H2 D3 (pfx (pDn hh) i) H') (mkg0 hD3) (fun _ _ _ _ => trivial) ?_ fun H3 m3 => ?_⟩
    · rintro i x H1 H2 hi m ⟨rfl, rfl⟩
      refine ⟨rfl, _, rfl, _, rfl, by show 2 ≤ sizeLine; decide, fun p hp => ?_⟩
      have m3 := m.new (o := .tup [.int hh, .int (0 + (i : Int))]) hp
      obtain ⟨ws, e, el⟩ := m3.len
      refine ⟨ws, e, sz3 (by rw [el, pfx_len]; omega), ?_⟩
      have m4 := m3.add e (v := .ref p) (p := pDn hh i) ⟨p, rfl, by rw [upd_same, Int.zero_add] <;> rfl⟩
      rw [← pfx_succ] at m4
      exact m4
    rw [ew] at m3
    obtain ⟨s3, d3, ws3, e3, p3⟩ := m3
    refine ⟨_, rfl, _, rfl, by omega, by omega, fun D4 hD4 => it_gen walk_range (fun i H' => Mkg H3 D4 (pfx pLf i) H') (mkg0 hD4) (fun _ _ _ _ => trivial) ?_ fun H4 m4 => ?_⟩
    · rintro i x H1 H2 hi m ⟨rfl, rfl⟩
      refine ⟨rfl, _, rfl, _, rfl, by show 2 ≤ sizeLine; decide, fun p hp => ?_⟩
      have m3 := m.new (o := .tup [.int (0 + (i : Int)), .int (-1)]) hp
      obtain ⟨ws, e, el⟩ := m3.len
      refine ⟨ws, e, sz3 (by rw [el, pfx_len]; omega), ?_⟩
      have m4 := m3.add e (v := .ref p) (p := pLf i) ⟨p, rfl, by rw [upd_same, Int.zero_add] <;> rfl⟩
      rw [← pfx_succ] at m4
      exact m4
    rw [eh] at m4
    obtain ⟨s4, d4, ws4, e4, p4⟩ := m4
    have l1 := p1.len
    have l2 := p2.len
    have l3 := p3.len
    have l4 := p4.len
    rw [pfx_len] at l1 l2 l3 l4
    have a1 := s4 _ _ (s3 _ _ (s2 _ _ e1))
    have a2 := s4 _ _ (s3 _ _ e2)
    have a3 := s4 _ _ e3
    refine ⟨_, rfl, _, rfl, D1, D2, ws1, ws2, rfl, rfl, a1, a2, sz2 (by omega), fun r1 hr1 => ?_⟩
    have n1 := Same.new (o := .lst (ws1 ++ ws2)) hr1
    refine ⟨_, rfl, r1, D3, _, ws3, rfl, rfl, upd_same, n1 _ _ a3, sz2 (by rw [List.length_append]; omega), fun r2 hr2 => ?_⟩
    have n2 := Same.new' n1 (o := .lst (ws1 ++ ws2 ++ ws3)) hr2
    refine ⟨_, rfl, r2, D4, _, ws4, rfl, rfl, upd_same, n2 _ _ e4, sz2 (by rw [List.length_append, List.length_append]; omega), fun r3 hr3 => ?_⟩
    have n3 := Same.new' n2 (o := .lst (ws1 ++ ws2 ++ ws3 ++ ws4)) hr3
    have s04 := ((s1.trans s2).trans s3).trans s4
    refine q r3 _ _ ((s04.trans n2).free hr3) (s04.trans n3) upd_same ?_
    have t4 := Tx.of n3
    have t3 := (Tx.of s4).trans t4
    have t2 := (Tx.of s3).trans t3
    have t1 := (Tx.of s2).trans t2
    exact Paired.app (Paired.app (Paired.app (p1.tx t1) (p2.tx t2)) (p3.tx t3)) (p4.tx t4)
end
end My
namespace My
open PySem PySem.Spec PyProof.Rows L2
/-- the class Room, as far as its constants go -/
structure RoomC (K : PySem.W.Frag) (mg : Str → Option Value) (C : Addr) : Prop where
  g_Room : mg "Room" = some (.ref C)
  rd : ∃ mc, ClX.CRead K C mc ∧ (∃ u, ClX.CVal K C mc "MAX_SIZE" (.int 8) u) ∧ (∃ u, ClX.CVal K C mc "MAX_TURNING" (.int 10) u)
structure TxtC (K : PySem.W.Frag) (mg : Str → Option Value) (C : Addr) : Prop extends Txt mg, RoomC K mg C
def sp_fault (K : PySem.W.Frag) : Sp := fun vs H Q _ => ∃ (a : Addr) (i al w : Nat) (g : List (List Sg)) (l : List Sg), vs = [.ref a, .int i, .int al] ∧ SqT K H a (g.map lineV) ∧ Grid 8 10 g w ∧ g[i]? = some l ∧ lcount l ≤ al ∧ ∀ H', Same H H' → Q .non H'
def sp_check (K : PySem.W.Frag) : Sp := fun vs H Q _ => ∃ (a : Addr) (w : Nat) (g : List (List Sg)), vs = [.ref a] ∧ SqT K H a (g.map lineV) ∧ Grid 8 10 g w ∧ ∀ H', Same H H' → Q .non H'
theorem inS_all (s : Sg) : inS ".rfRF" s = true := by cases s <;> decide +kernel
theorem inS_rf (s : Sg) : inS "rf" s = s.tur := in_rf s
abbrev s_fault_in_row : Stmt := (top 27)
abbrev N_fault_in_row : List Str := ["rows", "number", "allowed", "row", "width", "column", "sign"]
theorem sc_fault_in_row : FnScope N_fault_in_row ["rows", "number", "allowed"] (defScope s_fault_in_row) := ⟨rfl, rfl, rfl, by decide +kernel, rfl, by decide +kernel, by decide +kernel⟩

abbrev s_check_rows : Stmt := (top 28)
abbrev N_check_rows : List Str := ["rows", "allowed", "number", "row", "column"]
theorem sc_check_rows : FnScope N_check_rows ["rows"] (defScope s_check_rows) := ⟨rfl, rfl, rfl, by decide +kernel, rfl, by decide +kernel, by decide +kernel⟩

section
variable {P : Program} {w : World} {K : PySem.W.Frag} {mg : Str → Option Value} {base : Heap}
theorem ok_fault {f C : Addr} {fd : FuncData} (F : Fun K "fault_in_row" "fault_in_row" s_fault_in_row f fd) (T : TxtC K mg C) : FnOk P w K mg base CX0 1 f fd ["rows", "number", "allowed"] (sp_fault K) := by
  refine F.ok sc_fault_in_row (fun vs H Q E h => ?_) (fun cdv A outer s H vs Q E hr h => ?_)
  · obtain ⟨a, i, al, ww, g, l, rfl, _⟩ := h
    rfl
  · obtain ⟨a, i, al, ww, g, l, rfl, hS, G, hi, hal, q⟩ := h
    obtain ⟨mc, cr, ⟨u8, c8⟩, ⟨u10, c10⟩⟩ := T.rd
    have hig := (List.getElem?_eq_some_iff.mp hi).1
    have lw := G.ln l (List.mem_of_getElem? hi)
    have hgm := G.hm
    have hwm := G.wm
    have hw0 := G.w0
    have hm : (g.map lineV)[i]? = some (lineV l) := by rw [List.getElem?_map, hi] <;> rfl
    obtain ⟨l0, hl0⟩ : ∃ l0, g[0]? = some l0 := ⟨g[0]'(G.h0), by simp [G.h0]⟩
    have lw0 := G.ln l0 (List.mem_of_getElem? hl0)
    have hm0 : (g.map lineV)[0]? = some (lineV l0) := by rw [List.getElem?_map, hl0] <;> rfl
    refine ⟨_, (pss_cons (ps_set (i := 3) sc_fault_in_row.nd rfl (Or.inl rfl) (pe_ix ix_tup (pv 0) (pv 1) (fun _ _ => rfl)))
    (pss_cons (ps_if (PW.pt (pw_or (pt_cmpR op_eq (pv 1) (ClX.pe_cval (pe_gr T.g_Room)) (nomark _)) (pw_or (pt_not (pt_val (pe_callB call_isi (by rfl) T.b_isinstance (by decide +kernel) (pa_cons (pv 3) (pa_cons (pe_bltn (v := .ty "str") (u := .type "str") (by rfl) T.b_str (by decide +kernel) rfl) pa_nil))))) (pw_or1 (pt_not (pt_truth (pv 3) (by intro _; rfl)))))))
      (pss_one (ps_ret pe_int))
      pss_nil)
    (pss_cons (ps_set (i := 4) sc_fault_in_row.nd rfl (Or.inl rfl) (pe_callB (call_min2 rfl) (by rfl) T.b_min (by decide +kernel) (pa_cons (pe_callB call_len_str (by rfl) T.b_len PySem.boot_len (pa_cons (pe_ix ix_tup (pv 0) pe_int (fun _ _ => rfl)) pa_nil)) (pa_cons (ClX.pe_cval (pe_gr T.g_Room)) pa_nil))))
    (pss_cons (ps_for PassesOwn.never rfl (pi_enumS (by rfl) T.b_enumerate (pa_cons (pv 3) pa_nil)) (pg_tup rfl (pgs_cons (pg_name (i := 5) sc_fault_in_row.nd rfl (Or.inl rfl)) (pgs_cons (pg_name (i := 6) sc_fault_in_row.nd rfl (Or.inl rfl)) pgs_nil)))
      (pss_cons (ps_if (PW.pt (pw_or (pt_cmpR op_eq (pv 5) (pv 4) (nomark _)) (pw_or1 (pt_cmpR op_notIn_str (pv 6) (pe_gs T.v_SIGNS) (by rfl)))))
        (pss_one (ps_ret (pv 5)))
        pss_nil)
      (pss_one (ps_if (pt_cmpR op_in_str (pv 6) (pe_gs T.v_TURNING) (by rfl))
        (pss_cons (ps_if (pt_cmpR op_eq (pv 2) pe_int (nomark _))
          (pss_one (ps_ret (pv 5)))
          pss_nil)
        (pss_one (ps_set (i := 2) sc_fault_in_row.nd rfl (Or.inl rfl) (pe_op op_sub (pv 2) pe_int))))
        pss_nil))))
    (pss_cons (ps_if (pt_cmpR op_lt (pe_callB call_len_str (by rfl) T.b_len PySem.boot_len (pa_cons (pv 3) pa_nil)) (pv 4) (nomark _))
      (pss_one (ps_ret (pe_callB call_len_str (by rfl) T.b_len PySem.boot_len (pa_cons (pv 3) pa_nil))))
      pss_nil)
    (pss_one (ps_ret pe_non))))))), ?_⟩
    refine ⟨_, rfl, _, rfl, a, _, _, _, rfl, rfl, hS, atI_nat hm, ?_⟩
    refine ⟨_, rfl, C, mc, _, _, rfl, cr, c8, rfl, _, rfl, ?_⟩
    refine ifF (dF (by intro z; injection z with z; omega)) ?_
    refine ⟨_, rfl, _, _, _, _, true, rfl, .ty "str", .base (.str _), kit_ty (by decide +kernel), _, rfl, ?_⟩
    refine ifF rfl ?_
    refine ⟨_, rfl, true, ⟨sz2 (by rw [lstr_len]; omega), ?_⟩, ?_⟩
    · rw [lstr_len, lw]
      symm
      simp
      omega
    refine ifF rfl ?_
    refine ⟨_, rfl, a, _, _, _, rfl, rfl, hS, atI_nat hm0, lstr l0, rfl, sz2 (by rw [lstr_len]; omega), C, mc, _, _, rfl, cr, c8, _, _, rfl, ?_⟩
    have e8 : (if (8 : Int) < ((lstr l0).length : Nat) then (8 : Int) else ((lstr l0).length : Nat)) = (ww : Int) := by
      rw [lstr_len, lw0]
      split <;> omega
    rw [e8]
    refine ⟨_, rfl, lstr l, rfl, for_it (walk_enumS (z := lstr l)) (fun j σ H' => ∃ v1 v2, σ = [some (.ref a), some (.int i), some (.int ((al - lcount (l.take j) : Nat) : Int)), some (lineV l), some (.int ww), v1, v2] ∧ Same H H') ⟨none, none, ?_, Same.refl H⟩ (fun _ _ _ _ _ => trivial) ?_ ?_⟩
    · show _ = [some (V.ref a), some (.int i), some (.int ((al - 0 : Nat) : Int)), some (lineV l), some (.int ww), none, none]
      rfl
    · rintro j x σ H2 H3 hj ⟨v1, v2, rfl, s2⟩ ⟨T1, u, v, rfl, hT1, rfl, eu, ev⟩
      cases eu
      rw [lstr_size] at hj
      obtain ⟨sg, hsg⟩ : ∃ sg, l[j]? = some sg := ⟨l[j], by simp [hj]⟩
      have ev : ((lstr l).cps[j]?).map (fun c => V.str ⟨#[c]⟩) = some v := ev
      rw [lstr_get, hsg] at ev
      have ev2 : V.str sg.str = v := Option.some.inj ev
      subst ev2
      have ct := lcount_take hsg
      have cl := lcount_take_le l (j + 1)
      have s3 := Same.new' s2 (o := .tup [.int (j : Nat), .str sg.str]) hT1
      refine ⟨T1, _, rfl, SqT.of upd_same, rfl, _, _, rfl, _, _, rfl, rfl, ?_⟩
      refine ⟨_, rfl, _, rfl, rfl, _, rfl, ifF (dF (by intro z; injection z with z; omega)) ?_⟩
      refine ⟨_, rfl, _, _, rfl, rfl, _, rfl, ifF (by rw [show (!(Builtin.Str.occurrences (".rfRF" : Str) sg.str 0 (".rfRF" : Str).length 1).isEmpty) = true from inS_all sg] <;> rfl) ?_⟩
      refine ⟨_, rfl, _, _, rfl, rfl, _, rfl, if2 (fun hc => ?_) (fun hc => ?_)⟩
      · have ht : sg.tur = true := (in_rf sg).symm.trans hc
        rw [ht] at ct
        simp only [if_true] at ct
        refine ⟨_, rfl, rfl, _, rfl, ifF (dF (by intro z; injection z with z; omega)) ?_⟩
        refine ⟨_, rfl, _, _, rfl, rfl, some (.int (j : Nat)), some (.str sg.str), ?_, s3⟩
        have e : ((al - lcount (l.take j) : Nat) : Int) - 1 = ((al - lcount (l.take (j + 1)) : Nat) : Int) := by omega
        rw [← e] <;> rfl
      · have ht : sg.tur = false := (in_rf sg).symm.trans hc
        rw [ht] at ct
        have e : lcount (l.take (j + 1)) = lcount (l.take j) := by simpa using ct
        rw [e]
        exact ⟨_, _, rfl, s3⟩
    · rintro σ H2 ⟨v1, v2, rfl, s2⟩
      refine ⟨_, rfl, lstr l, rfl, sz2 (by rw [lstr_len]; omega), _, rfl, _, _, rfl, rfl, _, rfl, ifF (dF (by rw [lstr_len, lw]; omega)) ?_⟩
      exact q H2 s2
theorem ok_check {f C : Addr} {fd : FuncData} (F : Fun K "check_rows" "check_rows" s_check_rows f fd) (T : TxtC K mg C) (g_fault_in_row : GF P w K mg base "fault_in_row" 1 (sp_fault K)) (g_tiles_with : GF P w K mg base "tiles_with" 1 (sp_tiles K)) : FnOk P w K mg base CX0 2 f fd ["rows"] (sp_check K) := by
  refine F.ok sc_check_rows (fun vs H Q E h => ?_) (fun cdv A outer s H vs Q E hr h => ?_)
  · obtain ⟨a, ww, g, rfl, _⟩ := h
    rfl
  · obtain ⟨a, ww, g, rfl, hS, G, q⟩ := h
    obtain ⟨mc, cr, ⟨u8, c8⟩, ⟨u10, c10⟩⟩ := T.rd
    have hgm := G.hm
    have htu := G.tu
    have hwm := G.wm
    refine ⟨_, (pss_cons (ps_if (pt_not (pt_truth (pv 0) (by intro _; rfl)))
      (pss_one ps_never)
      pss_nil)
    (pss_cons (ps_set (i := 1) sc_check_rows.nd rfl (Or.inl rfl) (ClX.pe_cval (pe_gr T.g_Room)))
    (pss_one (ps_for PassesOwn.never rfl (pi_enumT (by rfl) T.b_enumerate (pa_cons (pv 0) pa_nil)) (pg_tup rfl (pgs_cons (pg_name (i := 2) sc_check_rows.nd rfl (Or.inl rfl)) (pgs_cons (pg_name (i := 3) sc_check_rows.nd rfl (Or.inl rfl)) pgs_nil)))
      (pss_cons (ps_set (i := 4) sc_check_rows.nd rfl (Or.inl rfl) (pe_c g_fault_in_row (hr.mono (by decide)) passL (pa_cons (pv 0) (pa_cons (pv 2) (pa_cons (pv 1) pa_nil)))))
      (pss_cons (ps_if (pt_cmpR op_notN (pv 4) pe_non (nomark _))
        (pss_one ps_never)
        pss_nil)
      (pss_one (ps_set (i := 1) sc_check_rows.nd rfl (Or.inl rfl) (pe_op op_sub (pv 1) (pe_callB call_len_seq (by rfl) T.b_len PySem.boot_len (pa_cons (pe_c g_tiles_with (hr.mono (by decide)) passL (pa_cons (pe_lst (pa_cons (pv 3) pa_nil)) (pa_cons (pe_gs T.v_TURNING) pa_nil))) pa_nil))))))))))), ?_⟩
    refine ⟨_, rfl, true, .inr (.inl ⟨_, hS, ?_⟩), ?_⟩
    · cases g with
      | nil => exact absurd G.h0 (by simp)
      | cons x r => rfl
    refine ifF rfl ?_
    refine ⟨C, mc, _, _, rfl, cr, c10, ?_⟩
    refine ⟨_, rfl, a, _, rfl, hS, for_it (walk_enumT (xs := g.map lineV)) (fun i σ H' => ∃ v1 v2 v3, σ = [some (.ref a), some (.int ((10 - gcount (g.take i) : Nat) : Int)), v1, v2, v3] ∧ Same H H') ⟨none, none, none, rfl, Same.refl H⟩ (fun i σ H' _ ⟨_, _, _, _, s2⟩ => sameT s2 hS) ?_ ?_⟩
    · rintro i x σ H2 H3 hi ⟨v1, v2, v3, rfl, s2⟩ ⟨T1, u, v, rfl, hT1, rfl, eu, ev⟩
      cases eu
      rw [List.length_map] at hi
      obtain ⟨l, hl⟩ : ∃ l, g[i]? = some l := ⟨g[i], by simp [hi]⟩
      have ev : (g.map lineV)[i]? = some v := ev
      rw [List.getElem?_map, hl] at ev
      have ev2 : lineV l = v := Option.some.inj ev
      subst ev2
      have ct := gcount_take hl
      have cl := gcount_take_le g (i + 1)
      have lw := G.ln l (List.mem_of_getElem? hl)
      have s3 := Same.new' s2 (o := .tup [.int (i : Nat), lineV l]) hT1
      refine ⟨T1, _, rfl, SqT.of upd_same, rfl, _, _, rfl, _, _, rfl, rfl, ?_⟩
      refine ⟨_, rfl, _, rfl, _, rfl, a, i, 10 - gcount (g.take i), ww, g, l, rfl, sameT s3 hS, G, hl, by omega, fun H4 s4 => ?_⟩
      have s5 := s3.trans s4
      refine ⟨_, rfl, rfl, _, rfl, ifF (by simp) ?_⟩
      have hl1 : ∀ x ∈ [l], x.length ≤ 100 := fun x hx => by
        have e : x = l := by simpa using hx
        rw [e]
        omega
      refine ⟨_, rfl, _, rfl, by show 1 ≤ sizeLine; decide, fun p hp => ?_⟩
      have s6 := Same.new' s5 (o := .lst [lineV l]) hp
      refine ⟨p, "rf", [l], Sg.tur, rfl, .inl (SqL.of upd_same), by simp, hl1, inS_rf, fun p2 ws H5 hp2 s7 e7 pr => ?_⟩
      have hlen : ws.length = lcount l := by rw [pr.len, tiles_one]
      refine ⟨p2, ws, rfl, .inl (SqL.of e7), _, _, rfl, rfl, some (.int (i : Nat)), some (lineV l), some .non, ?_, s6.trans s7⟩
      have e : ((10 - gcount (g.take i) : Nat) : Int) - (ws.length : Nat) = ((10 - gcount (g.take (i + 1)) : Nat) : Int) := by omega
      rw [← e] <;> rfl
    · rintro σ H2 ⟨v1, v2, v3, rfl, s2⟩
      exact q H2 s2
end
end My
namespace My
open PySem PySem.Spec PyProof.Rows L2
/-- the class Room, as far as its rows, its making go -/
structure RoomT (K : PySem.W.Frag) (mg : Str → Option Value) (C fI : Addr) : Prop extends TxtC K mg C where
  cl : Cls K C
  nR : NoAttr K C "_rows"
  nP : NoAttr K C "_places"
  mkR : Mk K C fI
def sp_init (C : Addr) : Sp := fun vs H Q _ => ∃ (x t dx w : Nat) (g : List (List Sg)), vs = [.ref x, .ref t] ∧ H x = some (.ins C dx []) ∧ H t = some (.tup (g.map lineV)) ∧ Grid 8 10 g w ∧ ∀ H' dx pl ws, Kp x H H' → H' x = some (.ins C dx (rfs t pl)) → H' t = some (.tup (g.map lineV)) → H pl = none → H' pl = some (.lst ws) → PrsAt H' ws (places g.length (gw g)) → Q .non H'
/-- Room( *rows) -/
def sp_star (C : Addr) : Sp := fun vs H Q E => ∃ ws rest, vs = ws ++ rest ∧ ws.length = (["self"] : List Str).length ∧ rest.length ≤ sizeLine ∧ ∀ p, H p = Option.none → sp_init C (ws ++ [V.ref p]) (upd H p (.tup rest)) Q E
def sp_parse (C : Addr) : Sp := fun vs H Q _ => ∃ (w : Nat) (g : List (List Sg)), vs = [.ref C, .str (gtext g)] ∧ Grid 8 10 g w ∧ ∀ x H', H x = none → Same H H' → RoomN C H H' x g → Q (.ref x) H'
abbrev s_Room___init__ : Stmt := (inClass (top 29) 2)
abbrev N_Room___init__ : List Str := ["self", "rows"]
theorem sc_Room___init__ : FnScope N_Room___init__ ["self", "rows"] (defScope s_Room___init__) := ⟨rfl, rfl, rfl, by decide +kernel, rfl, by decide +kernel, by decide +kernel⟩

abbrev s_Room_parse : Stmt := (inClass (top 29) 3)
abbrev N_Room_parse : List Str := ["cls", "text", "rows"]
theorem sc_Room_parse : FnScope N_Room_parse ["cls", "text"] (defScope s_Room_parse) := ⟨rfl, rfl, rfl, by decide +kernel, rfl, by decide +kernel, by decide +kernel⟩

section
variable {P : Program} {w : World} {K : PySem.W.Frag} {mg : Str → Option Value} {base : Heap}
theorem putF1 (v : V) : (putF "_rows" v []).length = 1 := rfl
theorem ok_init {f C fI : Addr} {fd : FuncData} (F : Fun K "__init__" "Room.__init__" s_Room___init__ f fd) (T : RoomT K mg C fI) (g_check_rows : GF P w K mg base "check_rows" 2 (sp_check K)) (g_port_places : GF P w K mg base "port_places" 1 sp_places) :
    FnR P w K mg base (L2.CX P w) 3 f (sp_star C) := by
  obtain ⟨oc, od, kV, doc, pm, an, cdv, ct, osl, rfl, lk, hcd⟩ := F.ex
  refine StX.fn_star (ps := ["self"]) (pv := "rows") (sp := sp_init C) lk hcd sc_Room___init__ StX.cxUp (StX.bind_star1 (B := fun us => bindArgs _ ⟨us, []⟩) (fun _ => rfl) fun _ _ _ => rfl) (fun A outer s H vs Q E hr h => ?_)
  obtain ⟨x, t, dx, ww, g, rfl, hx, ht, G, q⟩ := h
  have nxt : t ≠ x := fun z => by rw [z, hx] at ht; cases ht
  obtain ⟨l0, hl0⟩ : ∃ l0, g[0]? = some l0 := ⟨g[0]'(G.h0), by simp [G.h0]⟩
  have lw0 := G.ln l0 (List.mem_of_getElem? hl0)
  have hm0 : (g.map lineV)[0]? = some (lineV l0) := by rw [List.getElem?_map, hl0] <;> rfl
  have hgm := G.hm
  have hwm := G.wm
  refine ⟨_, (pss_cons (ps_expr (pe_c g_check_rows (hr.mono (by decide)) passL (pa_cons (pv 1) pa_nil)))
    (pss_cons (ps_fld (pv 0) (pv 1) rfl)
    (pss_one (ps_fld (pv 0) (pe_c g_port_places (hr.mono (by decide)) passL (pa_cons (pe_callB call_len_seq (by rfl) T.b_len PySem.boot_len (pa_cons (pv 1) pa_nil)) (pa_cons (pe_callB call_len_str (by rfl) T.b_len PySem.boot_len (pa_cons (pe_ix ix_tup (pv 1) pe_int (fun _ _ => rfl)) pa_nil)) pa_nil))) rfl)))), ?_⟩
  refine ⟨_, rfl, t, ww, g, rfl, SqT.of ht, G, fun H1 s1 => ?_⟩
  have hx1 := s1 _ _ hx
  have ht1 := s1 _ _ ht
  refine ⟨_, rfl, _, rfl, x, C, dx, _, rfl, hx1, T.cl, T.nR, (by show 0 < 1000; decide), ?_⟩
  have ht2 : upd H1 x (.ins C dx (putF "_rows" (.ref t) [])) t = some (.tup (g.map lineV)) := by rw [upd_ne nxt]; exact ht1
  refine ⟨_, rfl, t, _, rfl, .inr (SqT.of ht2), _, rfl, t, _, _, _, rfl, rfl, SqT.of ht2, atI_nat hm0, lstr l0, rfl, sz2 (by rw [lstr_len]; omega), ?_⟩
  refine ⟨g.length, ww, ?_, by omega, by omega, fun pl ws H3 hpl s3 e3 pr => ?_⟩
  · rw [List.length_map, lstr_len, lw0]
  refine ⟨_, rfl, x, C, dx, _, rfl, s3 _ _ upd_same, T.cl, T.nP, (by show 1 < 1000; decide), ?_⟩
  have nplx : pl ≠ x := fun z => by rw [z, upd_same] at hpl; cases hpl
  refine q _ dx pl ws ?_ upd_same ?_ ((Kp.of s1).free nplx (by rw [upd_ne nplx] at hpl; exact hpl)) ?_ ?_
  · exact ((Kp.of s1).upd.trans (Kp.of s3)).upd
  · rw [upd_ne nxt]
    exact s3 _ _ ht2
  · rw [upd_ne nplx]
    exact e3
  · rw [G.gw]
    refine pr.tx fun a xs ha => ?_
    have nax : a ≠ x := fun z => by rw [z, s3 _ _ upd_same] at ha; cases ha
    rw [upd_ne nax]
    exact ha
/-- what Room( *rows) makes, told of its caller's heap -/
theorem made {C : Addr} {H : Hp} {Q : VK} {E : XK} {ww : Nat} {g : List (List Sg)} (G : Grid 8 10 g ww) (q : ∀ x H', H x = none → Same H H' → RoomN C H H' x g → Q (.ref x) H') (x dx : Addr) (hx : H x = none) (hdx : H dx = none) (hne : dx ≠ x) :
    sp_star C (V.ref x :: g.map lineV) (upd (upd H dx (.own x)) x (.ins C dx [])) (fun v H2 => v = .non ∧ Q (.ref x) H2) E := by
  refine ⟨[.ref x], g.map lineV, rfl, rfl, sz2 (by rw [List.length_map]; have := G.hm; omega), fun p hp => ?_⟩
  have npx : p ≠ x := fun z => by rw [z, upd_same] at hp; cases hp
  have hp2 : upd H dx (.own x) p = none := by rw [upd_ne npx] at hp; exact hp
  refine ⟨x, p, dx, ww, g, rfl, by rw [upd_ne npx.symm, upd_same], upd_same, G, fun H' dx' pl ws k k1 k2 k3 k4 k5 => ⟨rfl, ?_⟩⟩
  have nplx : pl ≠ x := fun z => by rw [z, upd_ne npx.symm, upd_same] at k3; cases k3
  have nplp : pl ≠ p := fun z => by rw [z, upd_same] at k3; cases k3
  have hpl : H pl = none := by
    rw [upd_ne nplp, upd_ne nplx] at k3
    exact (Same.new (H := H) (o := .own x) hdx).free k3
  refine q x H' hx (fun b o e => ?_) ⟨dx', p, pl, ws, by rw [nw_new hx]; exact k1, nw_tup k2, by rw [nw_new hpl]; exact k4, k5.tx fun _ _ h => nw_tup h⟩
  have nbx : b ≠ x := ne_of_none e hx
  refine k b o nbx ?_
  have s0 := Same.new (H := H) (o := .own x) hdx
  have nbp : b ≠ p := ne_of_none (s0 _ _ e) hp2
  rw [upd_ne nbp, upd_ne nbx]
  exact s0 _ _ e
theorem ok_parse {f C fI : Addr} {fd : FuncData} (F : Fun K "parse" "Room.parse" s_Room_parse f fd) (T : RoomT K mg C fI) (g_init : FnR P w K mg base (L2.CX P w) 3 fI (sp_star C)) : FnOk P w K mg base (L2.CX P w) 5 f fd ["cls", "text"] (sp_parse C) := by
  refine F.okX sc_Room_parse (fun vs H Q E h => ?_) (fun cdv A outer s H vs Q E hr h => ?_)
  · obtain ⟨ww, g, rfl, _⟩ := h
    rfl
  · obtain ⟨ww, g, rfl, G, q⟩ := h
    have hgm := G.hm
    have hwm := G.wm
    have hl9 : (gt g).length ≤ 8 * (8 + 1) := Nat.le_trans (gt_len g 8 (fun l hl => by rw [G.ln l hl]; exact G.wm)) (Nat.mul_le_mul_right _ hgm)
    have hgn : g ≠ [] := fun z => by rw [z] at G; exact absurd G.h0 (by simp)
    refine ⟨_, (pss_cons (ps_if (pt_not (pt_val (pe_callB call_isi (by rfl) T.b_isinstance (by decide +kernel) (pa_cons (pv 1) (pa_cons (pe_bltn (v := .ty "str") (u := .type "str") (by rfl) T.b_str (by decide +kernel) rfl) pa_nil)))))
      (pss_one ps_never)
      pss_nil)
    (pss_cons (ps_set (i := 2) sc_Room_parse.nd rfl (Or.inl rfl) (pe_split (pv 1) pe_str))
    (pss_one (ps_ret (pe_makeSL (i := 0) T.mkR g_init (hr.mono (by decide)) passL (pv 2)))))), ?_⟩
    refine ⟨_, rfl, _, _, _, _, true, rfl, .ty "str", .base (.str _), kit_ty (by decide +kernel), _, rfl, ?_⟩
    refine ifF rfl ?_
    refine ⟨_, rfl, ⟨_, rfl⟩, _, _, rfl, rfl, by decide +kernel, sz2 (by rw [gtext_len]; omega), fun p hp => ?_⟩
    rw [split_g hgn]
    refine ⟨rfl, _, rfl, p, g.map lineV, rfl, .inr (SqL.of (by rw [upd_same, lines_str])), fun x dx hx hdx hne => made G (fun x H' hx' s' r => ?_) x dx hx hdx hne⟩
    have s1 := Same.new (o := .lst ((g.map lstr).map V.str)) hp
    exact q x H' (s1.free hx') (s1.trans s') (r.mono s1 (Same.refl H'))
end
end My
namespace My
open PySem PySem.Spec PyProof.Rows L2
def sp_rows (C : Addr) : Sp := fun vs H Q _ => ∃ (x : Addr) (g : List (List Sg)), vs = [.ref x] ∧ RoomAt C H x g ∧ ∀ t, H t = some (.tup (g.map lineV)) → Q (.ref t) H
def sp_text (C : Addr) : Sp := fun vs H Q _ => ∃ (x w : Addr) (g : List (List Sg)), vs = [.ref x] ∧ RoomAt C H x g ∧ Grid 8 10 g w ∧ Q (.str (gtext g)) H
def sp_size (C : Addr) : Sp := fun vs H Q _ => ∃ (x w : Addr) (g : List (List Sg)), vs = [.ref x] ∧ RoomAt C H x g ∧ Grid 8 10 g w ∧ ∀ p, H p = none → Q (.ref p) (upd H p (.tup [.int g.length, .int w]))
def sp_turning (C : Addr) : Sp := fun vs H Q _ => ∃ (x w : Addr) (g : List (List Sg)), vs = [.ref x] ∧ RoomAt C H x g ∧ Grid 8 10 g w ∧ ∀ p ws H', H p = none → Same H H' → H' p = some (.lst ws) → PrsAt H' ws (tiles Sg.tur g) → Q (.ref p) H'
def sp_len (C : Addr) : Sp := fun vs H Q _ => ∃ (x w : Addr) (g : List (List Sg)), vs = [.ref x] ∧ RoomAt C H x g ∧ Grid 8 10 g w ∧ Q (.int ((2 * (g.length + w) : Nat) : Int)) H
def sp_bool (C : Addr) : Sp := fun vs H Q _ => ∃ (x w : Addr) (g : List (List Sg)), vs = [.ref x] ∧ RoomAt C H x g ∧ Grid 8 10 g w ∧ ∀ H', Same H H' → Q (.bl (!(tiles Sg.tur g).isEmpty)) H'
def sp_eq (C : Addr) : Sp := fun vs H Q _ => ∃ (x y : Addr) (g : List (List Sg)), vs = [.ref x, .ref y] ∧ RoomAt C H x g ∧ ((∃ h, RoomAt C H y h ∧ Q (.bl (decide (g = h))) H) ∨ (∃ ys, H y = some (.lst ys)) ∧ Q (.bl false) H)
def sp_invert (C : Addr) : Sp := fun vs H Q _ => ∃ (x w : Addr) (g : List (List Sg)), vs = [.ref x] ∧ RoomAt C H x g ∧ Grid 8 10 g w ∧ ∀ y H', H y = none → Same H H' → RoomN C H H' y (flipG g) → Q (.ref y) H'
/-- the class Room, as far as isinstance goes -/
structure RoomI (K : PySem.W.Frag) (C : Addr) : Prop where
  ha : PySem.W.findIn K (.ref C) "__class__" = some (some (.builtin "object.__class__"))
  hn : PySem.W.specialIn K (.builtin "object.__class__") "__get__" = some (some (.builtin "getset_descriptor.__get__"))
  htk : PySem.W.takesIn K (.builtin "object.__class__") = some true
  hm : PySem.W.mroIn K C (.type "object") = some true
  kO : PySem.W.kitOne K (.ref C) (.ref C) = some true
  kL : PySem.W.kitOne K (.type "list") (.ref C) = some false
abbrev s_Room_rows : Stmt := (inClass (top 29) 4)
abbrev N_Room_rows : List Str := ["self"]
theorem sc_Room_rows : FnScope N_Room_rows ["self"] (defScope s_Room_rows) := ⟨rfl, rfl, rfl, by decide +kernel, rfl, by decide +kernel, by decide +kernel⟩

abbrev s_Room_text : Stmt := (inClass (top 29) 5)
abbrev N_Room_text : List Str := ["self"]
theorem sc_Room_text : FnScope N_Room_text ["self"] (defScope s_Room_text) := ⟨rfl, rfl, rfl, by decide +kernel, rfl, by decide +kernel, by decide +kernel⟩

abbrev s_Room_size : Stmt := (inClass (top 29) 6)
abbrev N_Room_size : List Str := ["self"]
theorem sc_Room_size : FnScope N_Room_size ["self"] (defScope s_Room_size) := ⟨rfl, rfl, rfl, by decide +kernel, rfl, by decide +kernel, by decide +kernel⟩

abbrev s_Room___len__ : Stmt := (inClass (top 29) 9)
abbrev N_Room___len__ : List Str := ["self"]
theorem sc_Room___len__ : FnScope N_Room___len__ ["self"] (defScope s_Room___len__) := ⟨rfl, rfl, rfl, by decide +kernel, rfl, by decide +kernel, by decide +kernel⟩

abbrev s_Room___bool__ : Stmt := (inClass (top 29) 12)
abbrev N_Room___bool__ : List Str := ["self"]
theorem sc_Room___bool__ : FnScope N_Room___bool__ ["self"] (defScope s_Room___bool__) := ⟨rfl, rfl, rfl, by decide +kernel, rfl, by decide +kernel, by decide +kernel⟩

abbrev s_Room___eq__ : Stmt := (inClass (top 29) 13)
abbrev N_Room___eq__ : List Str := ["self", "other"]
theorem sc_Room___eq__ : FnScope N_Room___eq__ ["self", "other"] (defScope s_Room___eq__) := ⟨rfl, rfl, rfl, by decide +kernel, rfl, by decide +kernel, by decide +kernel⟩

abbrev s_Room___invert__ : Stmt := (inClass (top 29) 14)
abbrev N_Room___invert__ : List Str := ["self", "rows", "row", "sign"]
theorem sc_Room___invert__ : FnScope N_Room___invert__ ["self"] (defScope s_Room___invert__) := ⟨rfl, rfl, rfl, by decide +kernel, rfl, by decide +kernel, by decide +kernel⟩

section
variable {P : Program} {w : World} {K : PySem.W.Frag} {mg : Str → Option Value} {base : Heap}
theorem ok_rows {f C fI : Addr} {fd : FuncData} (F : Fun K "rows" "Room.rows" s_Room_rows f fd) (T : RoomT K mg C fI) : FnOk P w K mg base CX0 1 f fd ["self"] (sp_rows C) := by
  refine F.ok sc_Room_rows (fun vs H Q E h => ?_) (fun cdv A outer s H vs Q E hr h => ?_)
  · obtain ⟨x, g, rfl, _⟩ := h
    rfl
  · obtain ⟨x, g, rfl, ⟨dx, t, pl, ws, h1, h2, h3, h4⟩, q⟩ := h
    refine ⟨_, (pss_one (ps_ret (pe_fld (pv 0) rfl))), ?_⟩
    exact ⟨_, rfl, x, C, dx, _, _, rfl, h1, T.cl, T.nR, rfs_rows _ _, q t h2⟩
theorem ok_text {f C fI : Addr} {fd : FuncData} (F : Fun K "text" "Room.text" s_Room_text f fd) (T : RoomT K mg C fI) : FnOk P w K mg base CX0 1 f fd ["self"] (sp_text C) := by
  refine F.ok sc_Room_text (fun vs H Q E h => ?_) (fun cdv A outer s H vs Q E hr h => ?_)
  · obtain ⟨x, ww, g, rfl, _⟩ := h
    rfl
  · obtain ⟨x, ww, g, rfl, ⟨dx, t, pl, ws, h1, h2, h3, h4⟩, G, q⟩ := h
    have hgm := G.hm
    have hs := lines_sum g 8 (fun l hl => by rw [G.ln l hl]; exact G.wm)
    refine ⟨_, (pss_one (ps_ret (pe_join pe_str (pe_fld (pv 0) rfl)))), ?_⟩
    refine ⟨⟨_, rfl⟩, _, rfl, x, C, dx, _, _, rfl, h1, T.cl, T.nR, rfs_rows _ _, _, t, g.map lstr, rfl, rfl, .inr (SqT.of (by rw [← lines_str]; exact h2)), ?_, ?_⟩
    · have e1 : ("\n" : Str).length = 1 := by decide +kernel
      rw [List.length_map, e1]
      omega
    · rw [join_g]
      exact q
theorem ok_size {f C fI : Addr} {fd : FuncData} (F : Fun K "size" "Room.size" s_Room_size f fd) (T : RoomT K mg C fI) : FnOk P w K mg base CX0 1 f fd ["self"] (sp_size C) := by
  refine F.ok sc_Room_size (fun vs H Q E h => ?_) (fun cdv A outer s H vs Q E hr h => ?_)
  · obtain ⟨x, ww, g, rfl, _⟩ := h
    rfl
  · obtain ⟨x, ww, g, rfl, ⟨dx, t, pl, ws, h1, h2, h3, h4⟩, G, q⟩ := h
    have hwm := G.wm
    obtain ⟨l0, hl0⟩ : ∃ l0, g[0]? = some l0 := ⟨g[0]'(G.h0), by simp [G.h0]⟩
    have lw0 := G.ln l0 (List.mem_of_getElem? hl0)
    have hm0 : (g.map lineV)[0]? = some (lineV l0) := by rw [List.getElem?_map, hl0] <;> rfl
    refine ⟨_, (pss_one (ps_ret (pe_tup (pa_cons (pe_callB call_len_seq (by rfl) T.b_len PySem.boot_len (pa_cons (pe_fld (pv 0) rfl) pa_nil)) (pa_cons (pe_callB call_len_str (by rfl) T.b_len PySem.boot_len (pa_cons (pe_ix ix_tup (pe_fld (pv 0) rfl) pe_int (fun _ _ => rfl)) pa_nil)) pa_nil))))), ?_⟩
    refine ⟨_, rfl, x, C, dx, _, _, rfl, h1, T.cl, T.nR, rfs_rows _ _, t, _, rfl, .inr (SqT.of h2), ?_⟩
    refine ⟨_, rfl, x, C, dx, _, _, rfl, h1, T.cl, T.nR, rfs_rows _ _, t, _, _, _, rfl, rfl, SqT.of h2, atI_nat hm0, lstr l0, rfl, sz2 (by rw [lstr_len]; omega), by show 2 ≤ sizeLine; decide, fun p hp => ?_⟩
    rw [List.length_map, lstr_len, lw0]
    exact q p hp
theorem ok_len {f C fI : Addr} {fd : FuncData} (F : Fun K "__len__" "Room.__len__" s_Room___len__ f fd) (T : RoomT K mg C fI) : FnOk P w K mg base CX0 1 f fd ["self"] (sp_len C) := by
  refine F.ok sc_Room___len__ (fun vs H Q E h => ?_) (fun cdv A outer s H vs Q E hr h => ?_)
  · obtain ⟨x, ww, g, rfl, _⟩ := h
    rfl
  · obtain ⟨x, ww, g, rfl, ⟨dx, t, pl, ws, h1, h2, h3, h4⟩, G, q⟩ := h
    refine ⟨_, (pss_one (ps_ret (pe_callB call_len_seq (by rfl) T.b_len PySem.boot_len (pa_cons (pe_fld (pv 0) rfl) pa_nil)))), ?_⟩
    refine ⟨_, rfl, x, C, dx, _, _, rfl, h1, T.cl, T.nP, rfs_places _ _, pl, _, rfl, .inl (SqL.of h3), ?_⟩
    rw [h4.len, places_len, G.gw]
    exact q
theorem ok_bool {f C fI : Addr} {fd : FuncData} (F : Fun K "__bool__" "Room.__bool__" s_Room___bool__ f fd) (T : RoomT K mg C fI) (g_tiles_with : GF P w K mg base "tiles_with" 1 (sp_tiles K)) : FnOk P w K mg base (L2.CX P w) 2 f fd ["self"] (sp_bool C) := by
  refine F.okX sc_Room___bool__ (fun vs H Q E h => ?_) (fun cdv A outer s H vs Q E hr h => ?_)
  · obtain ⟨x, ww, g, rfl, _⟩ := h
    rfl
  · obtain ⟨x, ww, g, rfl, ⟨dx, t, pl, ws, h1, h2, h3, h4⟩, G, q⟩ := h
    have hwm := G.wm
    have hgm := G.hm
    refine ⟨_, (pss_one (ps_ret (pe_callTy call_boolL (by rfl) T.b_bool (by decide +kernel) (pa_cons (pe_c g_tiles_with (hr.mono (by decide)) passL (pa_cons (pe_fld (pv 0) rfl) (pa_cons (pe_gs T.v_TURNING) pa_nil))) pa_nil)))), ?_⟩
    refine ⟨_, rfl, x, C, dx, _, _, rfl, h1, T.cl, T.nR, rfs_rows _ _, t, _, g, Sg.tur, rfl, .inr (SqT.of h2), by omega, (fun l hl => by rw [G.ln l hl]; omega), inS_rf, fun p ws H' hp s' e' pr => ?_⟩
    refine ⟨p, ws, rfl, SqL.of e', ?_⟩
    have e : ws.isEmpty = (tiles Sg.tur g).isEmpty := by
      have := pr.len
      cases ws <;> cases h : tiles Sg.tur g <;> simp_all
    rw [e]
    exact q H' s'
theorem ok_eq {f C fI : Addr} {fd : FuncData} (F : Fun K "__eq__" "Room.__eq__" s_Room___eq__ f fd) (T : RoomT K mg C fI) (R : RoomI K C) : FnOk P w K mg base CX0 1 f fd ["self", "other"] (sp_eq C) := by
  refine F.ok sc_Room___eq__ (fun vs H Q E h => ?_) (fun cdv A outer s H vs Q E hr h => ?_)
  · obtain ⟨x, y, g, rfl, _⟩ := h
    rfl
  · obtain ⟨x, y, g, rfl, ⟨dx, t, pl, ws, h1, h2, h3, h4⟩, q⟩ := h
    refine ⟨_, (pss_one (ps_ret (pe_and (pe_callB call_isi (by rfl) T.b_isinstance (by decide +kernel) (pa_cons (pv 1) (pa_cons (pe_gr T.g_Room) pa_nil))) (pe_one (pe_cmpR (op_eqD hr.units) (pe_fld (pv 0) rfl) (pe_fld (pv 1) rfl) (nomark _)))))), ?_⟩
    rcases q with ⟨h, ⟨dy, t', pl', ws', y1, y2, y3, y4⟩, q⟩ | ⟨⟨ys, hy⟩, q⟩
    · refine ⟨_, rfl, _, _, _, _, true, rfl, .own C, .base (.ins y1 T.cl R.ha R.hn R.htk R.hm), R.kO, true, rfl, ?_⟩
      refine ifT rfl ?_
      refine ⟨_, rfl, x, C, dx, _, _, rfl, h1, T.cl, T.nR, rfs_rows _ _, _, rfl, y, C, dy, _, _, rfl, y1, T.cl, T.nR, rfs_rows _ _, dRowsT g, dRowsT h, dp_rowsT (SqT.of h2), dp_rowsT (SqT.of y2), (sh_rowsT g).shaped (by omega), (sh_rowsT h).shaped (by omega), ?_⟩
      rw [eqv_rowsT]
      exact q
    · refine ⟨_, rfl, _, _, _, _, false, rfl, .own C, .base (.lst hy), R.kL, false, rfl, ?_⟩
      exact ifF rfl q
end
end My
namespace My
open PySem PySem.Spec PyProof.Rows L2
section
variable {P : Program} {w : World} {K : PySem.W.Frag} {mg : Str → Option Value} {base : Heap}
theorem ok_invert {f C fI : Addr} {fd : FuncData} (F : Fun K "__invert__" "Room.__invert__" s_Room___invert__ f fd) (T : RoomT K mg C fI) (g_turned : GF P w K mg base "turned" 1 sp_turned) (g_init : FnR P w K mg base (L2.CX P w) 3 fI (sp_star C)) : FnOk P w K mg base (L2.CX P w) 5 f fd ["self"] (sp_invert C) := by
  refine F.okX sc_Room___invert__ (fun vs H Q E h => ?_) (fun cdv A outer s H vs Q E hr h => ?_)
  · obtain ⟨x, ww, g, rfl, _⟩ := h
    rfl
  · obtain ⟨x, ww, g, rfl, ⟨dx, t, pl, ws, h1, h2, h3, h4⟩, G, q⟩ := h
    refine ⟨_, (pss_cons (ps_setLcG (i := 1) (own := [("row", 2)]) (g := gName 2)  rfl sc_Room___invert__.nd rfl rfl (sw_true rfl rfl rfl (by decide +kernel)) (pi_tup (pe_fld (pv 0) rfl)) (blkOk_by (N := N_Room___invert__) (sc := defScope s_Room___invert__) (by decide +kernel)) (fun _ _ _ _ _ => (pg_name (i := 2) sc_Room___invert__.nd rfl (Or.inl rfl))) (fun _ _ _ _ _ => pts_nil) (fun _ _ _ _ _ => (pe_join pe_str (pe_lcG (own := [("sign", 3)]) (g := gName 3)  rfl sc_Room___invert__.nd (pi_str (pv 2)) (blkOk_by (N := N_Room___invert__) (sc := lcSc (asgV ((defBody s_Room___invert__).getD 0 (.Pass ⟨0, 0, 0, 0⟩)))) (by decide +kernel)) (fun _ _ _ _ _ => (pg_name (i := 3) sc_Room___invert__.nd rfl (Or.inl rfl))) (fun _ _ _ _ _ => pts_nil) (fun _ _ _ _ _ => (pe_c g_turned (hr.mono (by decide)) passL (pa_cons (pv 3) pa_nil)))))))
    (pss_one (ps_ret (pe_makeS T.mkR g_init (hr.mono (by decide)) T.g_Room passL (pv 1))))), ?_⟩
    refine ⟨_, rfl, x, C, dx, _, _, rfl, h1, T.cl, T.nR, rfs_rows _ _, t, rfl, ⟨_, SqT.of h2⟩, fun D hD => it_gen (walk_tup (xs := g.map lineV)) (fun i H' => H D = none ∧ Same H H' ∧ H' D = some (.lst ((flipG (g.take i)).map lineV))) ⟨hD, Same.new hD, upd_same⟩ (fun i H' _ m => SqT.of (m.2.1 _ _ h2)) ?_ ?_⟩
    · rintro i v H2 H3 hi ⟨_, s2, e2⟩ ⟨rfl, hv⟩
      rw [List.length_map] at hi
      obtain ⟨l, hl⟩ : ∃ l, g[i]? = some l := ⟨g[i], by simp [hi]⟩
      rw [List.getElem?_map, hl] at hv
      obtain rfl : lineV l = v := Option.some.inj hv
      have lw := G.ln l (List.mem_of_getElem? hl)
      have hwm := G.wm
      have hgm := G.hm
      refine ⟨rfl, ⟨_, rfl⟩, _, rfl, lstr l, rfl, fun D2 hD2 => it_gen (walk_str (z := lstr l)) (fun j H' => H3 D2 = none ∧ Same H3 H' ∧ H' D2 = some (.lst ((((l.take j).map Sg.turn).map Sg.str).map V.str))) ⟨hD2, Same.new hD2, upd_same⟩ (fun _ _ _ _ => trivial) ?_ ?_⟩
      · rintro j v H4 H5 hj ⟨_, s4, e4⟩ ⟨rfl, c, hc, rfl⟩
        rw [lstr_size] at hj
        obtain ⟨sg, hsg⟩ : ∃ sg, l[j]? = some sg := ⟨l[j], by simp [hj]⟩
        rw [lstr_get, hsg] at hc
        obtain rfl : sg.cp = c := Option.some.inj hc
        refine ⟨rfl, _, rfl, sg, rfl, _, e4, sz3 ?_, hD2, Same.mut s4 hD2, ?_⟩
        · simp only [List.length_map, List.length_take]
          omega
        · rw [upd_same, List.take_succ_eq_append_getElem hj, (List.getElem?_eq_some_iff.mp hsg).2]
          simp only [List.map_append, List.map_cons, List.map_nil]
      · rintro H4 ⟨_, s4, e4⟩
        rw [lstr_size, List.take_length] at e4
        refine ⟨"", D2, (l.map Sg.turn).map Sg.str, rfl, rfl, .inl (SqL.of e4), ?_, _, s4 _ _ e2, sz3 ?_, hD, ?_, ?_⟩
        · have e0 : ("" : Str).length = 0 := by decide +kernel
          rw [signs_sum, e0, List.length_map]
          omega
        · unfold flipG
          simp only [List.length_map, List.length_take]
          omega
        · exact Same.mut (s2.trans s4) hD
        · rw [upd_same, join_signs, List.take_succ_eq_append_getElem hi, (List.getElem?_eq_some_iff.mp hl).2]
          unfold flipG
          simp only [List.map_append, List.map_cons, List.map_nil]
          rfl
    · rintro H2 ⟨_, s2, e2⟩
      rw [List.length_map, List.take_length] at e2
      exact ⟨_, rfl, D, _, rfl, .inr (SqL.of e2), fun y dy hy hdy hne => made G.flip (fun y H' hy' s' r => q y H' (s2.free hy') (s2.trans s') (r.mono s2 (Same.refl H'))) y dy hy hdy hne⟩
end
end My
namespace My
open PySem PySem.Spec PyProof.Rows L2
/-- an own error class under ValueError, at C, by its name -/
structure ErrC (K : PySem.W.Frag) (mg : Str → Option Value) (x : Str) (C : Addr) : Prop where
  g : mg x = some (.ref C)
  x : PySem.W.excIn K C [.type "ValueError", .type "Exception", .type "BaseException", .type "object"] "ValueError.__new__" = true
  k : PySem.W.keepIn K (.ref C) = true
  b : PySem.W.subIn K (.ref C) (.type "BaseException") = some true
  t : PySem.W.typeIn K (.ref C) = some (.type "type")
/-- values that may stand for a number -/
inductive PV (H : Hp) : V → Prop where
  | non : PV H .non
  | bl (b : Bool) : PV H (.bl b)
  | int (i : Int) : PV H (.int i)
  | str (z : Str) : PV H (.str z)
  | tup {a : Addr} {xs : List V} (h : H a = some (.tup xs)) : PV H (.ref a)
  | lst {a : Addr} {xs : List V} (h : H a = some (.lst xs)) : PV H (.ref a)
theorem PV.same {H H' : Hp} {v : V} (p : PV H v) (s : Same H H') : PV H' v := by
  cases p with
  | non => exact .non
  | bl b => exact .bl b
  | int i => exact .int i
  | str z => exact .str z
  | tup h => exact .tup (s _ _ h)
  | lst h => exact .lst (s _ _ h)
def isNum (v : V) (lo hi : Int) : Bool := match v with
  | .int i => decide (lo ≤ i) && decide (i ≤ hi)
  | _ => false
def sp_isnum : Sp := fun vs H Q _ => ∃ (v : V) (lo hi : Int), vs = [v, .int lo, .int hi] ∧ PV H v ∧ Q (.bl (isNum v lo hi)) H
abbrev s_is_number : Stmt := (top 9)
abbrev N_is_number : List Str := ["value", "lowest", "highest"]
theorem sc_is_number : FnScope N_is_number ["value", "lowest", "highest"] (defScope s_is_number) := ⟨rfl, rfl, rfl, by decide +kernel, rfl, by decide +kernel, by decide +kernel⟩

section
variable {P : Program} {w : World} {K : PySem.W.Frag} {mg : Str → Option Value} {base : Heap}
theorem ok_isnum {f : Addr} {fd : FuncData} (F : Fun K "is_number" "is_number" s_is_number f fd) (T : Txt mg) : FnOk P w K mg base CX0 1 f fd ["value", "lowest", "highest"] sp_isnum := by
  refine F.ok sc_is_number (fun vs H Q E h => ?_) (fun cdv A outer s H vs Q E hr h => ?_)
  · obtain ⟨v, lo, hi, rfl, _⟩ := h
    rfl
  · obtain ⟨v, lo, hi, rfl, pv1, q⟩ := h
    refine ⟨_, (pss_cons (ps_if (PW.pt (pw_or (pt_val (pe_callB call_isi (by rfl) T.b_isinstance (by decide +kernel) (pa_cons (pv 0) (pa_cons (pe_bltn (v := .ty "bool") (u := .type "bool") (by rfl) T.b_bool (by decide +kernel) rfl) pa_nil)))) (pw_or1 (pt_not (pt_val (pe_callB call_isi (by rfl) T.b_isinstance (by decide +kernel) (pa_cons (pv 0) (pa_cons (pe_bltn (v := .ty "int") (u := .type "int") (by rfl) T.b_int (by decide +kernel) rfl) pa_nil))))))))
      (pss_one (ps_ret pe_bl))
      pss_nil)
    (pss_one (ps_ret (pe_chain op_le op_le (pv 1) (pv 0) (pv 2))))), ?_⟩
    cases pv1 with
    | non =>
      refine ⟨_, rfl, _, _, _, _, false, rfl, .ty "bool", .base .non, kit_ty (by decide +kernel), _, rfl, ifF rfl ?_⟩
      exact ⟨_, rfl, _, _, _, _, false, rfl, .ty "int", .base .non, kit_ty (by decide +kernel), _, rfl, ifT rfl q⟩
    | bl b => exact ⟨_, rfl, _, _, _, _, true, rfl, .ty "bool", .base (.bl b), kit_ty (by decide +kernel), _, rfl, ifT rfl q⟩
    | str z =>
      refine ⟨_, rfl, _, _, _, _, false, rfl, .ty "bool", .base (.str z), kit_ty (by decide +kernel), _, rfl, ifF rfl ?_⟩
      exact ⟨_, rfl, _, _, _, _, false, rfl, .ty "int", .base (.str z), kit_ty (by decide +kernel), _, rfl, ifT rfl q⟩
    | tup h =>
      refine ⟨_, rfl, _, _, _, _, false, rfl, .ty "bool", .base (.tup h), kit_ty (by decide +kernel), _, rfl, ifF rfl ?_⟩
      exact ⟨_, rfl, _, _, _, _, false, rfl, .ty "int", .base (.tup h), kit_ty (by decide +kernel), _, rfl, ifT rfl q⟩
    | lst h =>
      refine ⟨_, rfl, _, _, _, _, false, rfl, .ty "bool", .base (.lst h), kit_ty (by decide +kernel), _, rfl, ifF rfl ?_⟩
      exact ⟨_, rfl, _, _, _, _, false, rfl, .ty "int", .base (.lst h), kit_ty (by decide +kernel), _, rfl, ifT rfl q⟩
    | int i =>
      refine ⟨_, rfl, _, _, _, _, false, rfl, .ty "bool", .base (.int i), kit_ty (by decide +kernel), _, rfl, ifF rfl ?_⟩
      refine ⟨_, rfl, _, _, _, _, true, rfl, .ty "int", .base (.int i), kit_ty (by decide +kernel), _, rfl, ifF rfl ?_⟩
      refine ⟨_, rfl, _, rfl, _, _, rfl, rfl, _, rfl, if2 (fun hc => ?_) (fun hc => ?_)⟩
      · refine ⟨_, rfl, _, _, rfl, rfl, ?_⟩
        have e : isNum (.int i) lo hi = decide (i ≤ hi) := by
          show (decide (lo ≤ i) && decide (i ≤ hi)) = _
          rw [hc] <;> rfl
        rw [e] at q
        exact q
      · have e : isNum (.int i) lo hi = false := by
          show (decide (lo ≤ i) && decide (i ≤ hi)) = _
          rw [hc] <;> rfl
        rw [e] at q
        exact q
end
/-- an index of a room: a tuple of two such values, or another thing -/
inductive AtV (H : Hp) : V → Option (V × V) → Prop where
  | two {a : Addr} {u v : V} (h : H a = some (.tup [u, v])) (hu : PV H u) (hv : PV H v) : AtV H (.ref a) (some (u, v))
  | tup {a : Addr} {xs : List V} (h : H a = some (.tup xs)) (hl : xs.length ≠ 2) (hs : xs.length ≤ 100) : AtV H (.ref a) none
  | lst {a : Addr} {xs : List V} (h : H a = some (.lst xs)) : AtV H (.ref a) none
  | non : AtV H .non none
  | int (i : Int) : AtV H (.int i) none
  | str (z : Str) : AtV H (.str z) none
def okAt (h w : Nat) : Option (V × V) → Bool
  | some (u, v) => isNum u 0 ((h : Int) - 1) && isNum v 0 ((w : Int) - 1)
  | none => false
def sp_tile (C U : Addr) : Sp := fun vs H Q E => ∃ (x : Addr) (at_ : V) (w : Nat) (g : List (List Sg)) (o : Option (V × V)), vs = [.ref x, at_] ∧ RoomAt C H x g ∧ Grid 8 10 g w ∧ AtV H at_ o ∧
  (okAt g.length w o = true → ∀ H', Same H H' → Q .non H') ∧ (okAt g.length w o = false → ∀ H', Same H H' → E (.ref U) none H')
abbrev s_check_tile : Stmt := (top 11)
abbrev N_check_tile : List Str := ["room", "at", "height", "width"]
theorem sc_check_tile : FnScope N_check_tile ["room", "at"] (defScope s_check_tile) := ⟨rfl, rfl, rfl, by decide +kernel, rfl, by decide +kernel, by decide +kernel⟩

section
variable {P : Program} {w : World} {K : PySem.W.Frag} {mg : Str → Option Value} {base : Heap}
theorem ok_tile {f C fI U0 : Addr} {fd : FuncData} (F : Fun K "check_tile" "check_tile" s_check_tile f fd) (T : RoomT K mg C fI) (U : ErrC K mg "UnknownTile" U0) (g_is_number : GF P w K mg base "is_number" 1 sp_isnum) (p_size : PR P w K mg base C "size" 1 (sp_size C)) :
    FnOk P w K mg base (L2.CX P w) 3 f fd ["room", "at"] (sp_tile C U0) := by
  refine F.okX sc_check_tile (fun vs H Q E h => ?_) (fun cdv A outer s H vs Q E hr h => ?_)
  · obtain ⟨x, at_, ww, g, o, rfl, _⟩ := h
    rfl
  · obtain ⟨x, at_, ww, g, o, rfl, R, G, hat, q1, q2⟩ := h
    refine ⟨_, (pss_cons (ps_asg (pe_pr (pv 0) T.cl p_size (hr.mono (by decide))) (pg_tup rfl (pgs_cons (pg_name (i := 2) sc_check_tile.nd rfl (Or.inl rfl)) (pgs_cons (pg_name (i := 3) sc_check_tile.nd rfl (Or.inl rfl)) pgs_nil))))
    (pss_cons (ps_if (PW.pt (pw_or (pt_not (pt_val (pe_callB call_isi (by rfl) T.b_isinstance (by decide +kernel) (pa_cons (pv 1) (pa_cons (pe_bltn (v := .ty "tuple") (u := .type "tuple") (by rfl) T.b_tuple (by decide +kernel) rfl) pa_nil))))) (pw_or1 (pt_cmpR op_ne (pe_callB call_len_seq (by rfl) T.b_len PySem.boot_len (pa_cons (pv 1) pa_nil)) pe_int (nomark _)))))
      (pss_one (ps_raise rfl (takes_of rfl rfl rfl rfl) (pmk_own PySem.F.excBase_ValueError U.x U.g U.k (raises_own U.b U.t) rfl)))
      pss_nil)
    (pss_one (ps_if (PW.pt (pw_or (pt_not (pt_val (pe_c g_is_number (hr.mono (by decide)) passL (pa_cons (pe_ix ix_tup (pv 1) pe_int (fun _ _ => rfl)) (pa_cons pe_int (pa_cons (pe_op op_sub (pv 2) pe_int) pa_nil)))))) (pw_or1 (pt_not (pt_val (pe_c g_is_number (hr.mono (by decide)) passL (pa_cons (pe_ix ix_tup (pv 1) pe_int (fun _ _ => rfl)) (pa_cons pe_int (pa_cons (pe_op op_sub (pv 3) pe_int) pa_nil)))))))))
      (pss_one (ps_raise rfl (takes_of rfl rfl rfl rfl) (pmk_own PySem.F.excBase_ValueError U.x U.g U.k (raises_own U.b U.t) rfl)))
      pss_nil)))), ?_⟩
    obtain ⟨dx, fs, hx⟩ := R.ins
    refine ⟨_, rfl, x, dx, fs, rfl, hx, x, ww, g, rfl, R, G, fun p hp => ?_⟩
    have s1 := Same.new (o := .tup [.int g.length, .int ww]) hp
    refine ⟨p, _, rfl, SqT.of upd_same, rfl, _, _, rfl, _, _, rfl, rfl, ?_⟩
    cases hat with
    | non => exact ⟨_, rfl, _, _, _, _, false, rfl, .ty "tuple", .base .non, kit_ty (by decide +kernel), _, rfl, ifT rfl (q2 rfl _ s1)⟩
    | int i => exact ⟨_, rfl, _, _, _, _, false, rfl, .ty "tuple", .base (.int i), kit_ty (by decide +kernel), _, rfl, ifT rfl (q2 rfl _ s1)⟩
    | str z => exact ⟨_, rfl, _, _, _, _, false, rfl, .ty "tuple", .base (.str z), kit_ty (by decide +kernel), _, rfl, ifT rfl (q2 rfl _ s1)⟩
    | lst h => exact ⟨_, rfl, _, _, _, _, false, rfl, .ty "tuple", .base (.lst (s1 _ _ h)), kit_ty (by decide +kernel), _, rfl, ifT rfl (q2 rfl _ s1)⟩
    | @tup a xs h hl hs =>
      refine ⟨_, rfl, _, _, _, _, true, rfl, .ty "tuple", .base (.tup (s1 _ _ h)), kit_ty (by decide +kernel), _, rfl, ifF rfl ?_⟩
      refine ⟨_, rfl, a, xs, rfl, .inr (SqT.of (s1 _ _ h)), rfl, _, rfl, ?_⟩
      refine ifT ?_ (q2 rfl _ s1)
      rw [dF (by intro z; injection z with z; omega)] <;> rfl
    | @two a u v h hu hv =>
      have h1 := s1 _ _ h
      refine ⟨_, rfl, _, _, _, _, true, rfl, .ty "tuple", .base (.tup h1), kit_ty (by decide +kernel), _, rfl, ifF rfl ?_⟩
      refine ⟨_, rfl, a, _, rfl, .inr (SqT.of h1), rfl, _, rfl, ifF (by simp) ?_⟩
      refine ⟨_, rfl, a, _, _, _, rfl, rfl, SqT.of h1, at_0, _, rfl, _, _, rfl, rfl, u, _, _, rfl, hu.same s1, _, rfl, if2 (fun hc => ?_) (fun hc => ?_)⟩
      · refine q2 ?_ _ s1
        show (isNum u 0 ((g.length : Int) - 1) && isNum v 0 ((ww : Int) - 1)) = false
        have hc : (!isNum u 0 ((g.length : Int) - 1)) = true := hc
        cases hn : isNum u 0 ((g.length : Int) - 1) with
        | true => rw [hn] at hc; cases hc
        | false => rfl
      · have hc : (!isNum u 0 ((g.length : Int) - 1)) = false := hc
        have hn : isNum u 0 ((g.length : Int) - 1) = true := by
          cases hn : isNum u 0 ((g.length : Int) - 1) with
          | true => rfl
          | false => rw [hn] at hc; cases hc
        refine ⟨_, rfl, a, _, _, _, rfl, rfl, SqT.of h1, at_1, _, rfl, _, _, rfl, rfl, v, _, _, rfl, hv.same s1, _, rfl, if2 (fun hd => ?_) (fun hd => ?_)⟩
        · refine q2 ?_ _ s1
          show (isNum u 0 ((g.length : Int) - 1) && isNum v 0 ((ww : Int) - 1)) = false
          have hd : (!isNum v 0 ((ww : Int) - 1)) = true := hd
          rw [hn]
          cases hm : isNum v 0 ((ww : Int) - 1) with
          | true => rw [hm] at hd; cases hd
          | false => rfl
        · refine q1 ?_ _ s1
          show (isNum u 0 ((g.length : Int) - 1) && isNum v 0 ((ww : Int) - 1)) = true
          have hd : (!isNum v 0 ((ww : Int) - 1)) = false := hd
          rw [hn]
          cases hm : isNum v 0 ((ww : Int) - 1) with
          | true => rfl
          | false => rw [hm] at hd; cases hd
end
end My
namespace My
open PySem PySem.Spec PyProof.Rows L2
/-- room[at]: the sign, or UnknownTile -/
def sp_get (C U : Addr) : Sp := fun vs H Q E => ∃ (x : Addr) (at_ : V) (w : Nat) (g : List (List Sg)), vs = [.ref x, at_] ∧ RoomAt C H x g ∧ Grid 8 10 g w ∧
  ((∃ (a i j : Nat) (l : List Sg) (sg : Sg), at_ = .ref a ∧ H a = some (.tup [.int i, .int j]) ∧ g[i]? = some l ∧ l[j]? = some sg ∧ ∀ H', Same H H' → Q (.str sg.str) H') ∨
   (∃ o, AtV H at_ o ∧ okAt g.length w o = false ∧ ∀ H', Same H H' → E (.ref U) none H'))
abbrev s_Room___getitem__ : Stmt := (inClass (top 29) 10)
abbrev N_Room___getitem__ : List Str := ["self", "at", "row", "column"]
theorem sc_Room___getitem__ : FnScope N_Room___getitem__ ["self", "at"] (defScope s_Room___getitem__) := ⟨rfl, rfl, rfl, by decide +kernel, rfl, by decide +kernel, by decide +kernel⟩

section
variable {P : Program} {w : World} {K : PySem.W.Frag} {mg : Str → Option Value} {base : Heap}
theorem isNum_nat {i n : Nat} (h : i < n) : isNum (.int i) 0 ((n : Int) - 1) = true := by
  show (decide ((0 : Int) ≤ (i : Int)) && decide ((i : Int) ≤ (n : Int) - 1)) = true
  rw [decide_eq_true (by omega), decide_eq_true (by omega)]
  rfl
theorem ok_get {f C fI U0 : Addr} {fd : FuncData} (F : Fun K "__getitem__" "Room.__getitem__" s_Room___getitem__ f fd) (T : RoomT K mg C fI) (g_check_tile : GF P w K mg base "check_tile" 3 (sp_tile C U0)) :
    FnOk P w K mg base (L2.CX P w) 4 f fd ["self", "at"] (sp_get C U0) := by
  refine F.okX sc_Room___getitem__ (fun vs H Q E h => ?_) (fun cdv A outer s H vs Q E hr h => ?_)
  · obtain ⟨x, at_, ww, g, rfl, _⟩ := h
    rfl
  · obtain ⟨x, at_, ww, g, rfl, R, G, h⟩ := h
    refine ⟨_, (pss_cons (ps_expr (pe_c g_check_tile (hr.mono (by decide)) (passes_call (takes_of rfl rfl rfl rfl) (fun _ _ _ _ h => h)) (pa_cons (pv 0) (pa_cons (pv 1) pa_nil))))
    (pss_cons (ps_asg (pv 1) (pg_tup rfl (pgs_cons (pg_name (i := 2) sc_Room___getitem__.nd rfl (Or.inl rfl)) (pgs_cons (pg_name (i := 3) sc_Room___getitem__.nd rfl (Or.inl rfl)) pgs_nil))))
    (pss_one (ps_ret (pe_ix ix_str (pe_ix ix_tup (pe_fld (pv 0) rfl) (pv 2) (fun _ _ => rfl)) (pv 3) (fun _ _ => rfl)))))), ?_⟩
    rcases h with ⟨a, i, j, l, sg, rfl, ha, hl, hsg, q⟩ | ⟨o, hat, hno, q⟩
    · have il : i < g.length := (List.getElem?_eq_some_iff.mp hl).1
      have lw := G.ln l (List.mem_of_getElem? hl)
      have jl : j < ww := by rw [← lw]; exact (List.getElem?_eq_some_iff.mp hsg).1
      have ok : okAt g.length ww (some (.int i, .int j)) = true := by
        show (isNum (.int i) 0 ((g.length : Int) - 1) && isNum (.int j) 0 ((ww : Int) - 1)) = true
        rw [isNum_nat il, isNum_nat jl] <;> rfl
      refine ⟨_, rfl, _, rfl, x, _, ww, g, _, rfl, R, G, .two ha (.int i) (.int j), fun _ H1 s1 => ?_, fun z => absurd (ok.symm.trans z) (by decide)⟩
      obtain ⟨dx, t, pl, ws, h1, h2, h3, h4⟩ := R.same s1
      have hm0 : (g.map lineV)[i]? = some (lineV l) := by rw [List.getElem?_map, hl] <;> rfl
      have hc : (lstr l).cps.toList[j]? = some sg.cp := by rw [lstr_toList, List.getElem?_map, hsg] <;> rfl
      have hwm := G.wm
      refine ⟨_, rfl, a, _, rfl, SqT.of (s1 _ _ ha), rfl, _, _, rfl, _, _, rfl, rfl, ?_⟩
      refine ⟨_, rfl, x, C, dx, _, _, rfl, h1, T.cl, T.nR, rfs_rows _ _, _, rfl, t, _, _, _, rfl, rfl, SqT.of h2, atI_nat hm0, _, rfl, _, _, _, rfl, rfl, sz2 (by rw [lstr_len]; omega), ?_, q _ s1⟩
      exact atI_nat hc
    · exact ⟨_, rfl, _, rfl, x, _, ww, g, o, rfl, R, G, hat, fun z => absurd (hno.symm.trans z) (by decide), fun _ H1 s1 => q _ s1⟩
end
end My
namespace My
open PySem PySem.Spec PyProof.Rows L2
theorem signs_line (l : List Sg) : signsV (lstr l) = (l.map Sg.str).map V.str := by
  unfold signsV
  rw [lstr_toList, List.map_map, List.map_map] <;> rfl
theorem ixN_nat {n j : Nat} (h : j < n) : ixN n (j : Int) = some j := by
  unfold ixN
  rw [if_pos (by omega), if_pos (by omega)]
  simp
/-- a grid of signs as a list of lists at S, all made since H0 -/
structure Cells (H0 H : Hp) (S : Addr) (as : List Addr) (g : Gr) : Prop where
  top : H S = some (.lst (as.map V.ref))
  len : as.length = g.length
  row : ∀ (i : Nat) (a : Addr) (l : List Sg), as[i]? = some a → g[i]? = some l → H a = some (.lst (signsV (lstr l)))
  inj : ∀ (i j : Nat) (a : Addr), as[i]? = some a → as[j]? = some a → i = j
  fr : ∀ a ∈ as, H0 a = none
  fS : H0 S = none
  nS : ∀ a ∈ as, a ≠ S
theorem Cells.same {H0 H H' : Hp} {S : Addr} {as : List Addr} {g : Gr} (c : Cells H0 H S as g) (s : ∀ b, (b = S ∨ b ∈ as) → ∀ o, H b = some o → H' b = some o) : Cells H0 H' S as g :=
  ⟨s _ (.inl rfl) _ c.top, c.len, fun i a l h1 h2 => s _ (.inr (List.mem_of_getElem? h1)) _ (c.row i a l h1 h2), c.inj, c.fr, c.fS, c.nS⟩
theorem Cells.new {H0 H : Hp} {S p : Addr} {as : List Addr} {g : Gr} {o : HO} (c : Cells H0 H S as g) (h : H p = none) : Cells H0 (upd H p o) S as g := c.same fun b _ u e => by rw [upd_ne (ne_of_none e h)]; exact e
theorem Cells.snoc {H0 H : Hp} {S a i : Nat} {as : List Addr} {g : Gr} {l : List Sg} (c : Cells H0 H S as (g.take i)) (hl : g[i]? = some l) (ha : H a = none) (ha0 : H0 a = none) :
    Cells H0 (upd (upd H a (.lst (signsV (lstr l)))) S (.lst (as.map V.ref ++ [.ref a]))) S (as ++ [a]) (g.take (i + 1)) := by
  have hi := (List.getElem?_eq_some_iff.mp hl).1
  have lt : (g.take i).length = i := by rw [List.length_take]; omega
  have la : as.length = i := by rw [c.len, lt]
  have naS : a ≠ S := (ne_of_none c.top ha).symm
  have nin : ∀ b ∈ as, b ≠ a := fun b hb => by
    obtain ⟨j, hj⟩ := List.mem_iff_getElem?.mp hb
    have jl := (List.getElem?_eq_some_iff.mp hj).1
    exact ne_of_none (c.row j b _ hj (List.getElem?_eq_getElem (by rw [lt]; omega))) ha
  have et : g.take (i + 1) = g.take i ++ [l] := by rw [List.take_succ_eq_append_getElem hi, (List.getElem?_eq_some_iff.mp hl).2]
  refine ⟨by rw [upd_same, List.map_append] <;> rfl, by rw [et, List.length_append, List.length_append, c.len] <;> rfl, fun j b m h1 h2 => ?_, fun j k b h1 h2 => ?_, fun b hb => ?_, c.fS, fun b hb => ?_⟩
  · rw [et] at h2
    by_cases hj : j < i
    · rw [List.getElem?_append_left (by omega)] at h1
      rw [List.getElem?_append_left (by omega)] at h2
      have hb := List.mem_of_getElem? h1
      rw [upd_ne (c.nS b hb), upd_ne (nin b hb)]
      exact c.row j b m h1 h2
    · have ji : j = i := by
        have := (List.getElem?_eq_some_iff.mp h1).1
        rw [List.length_append] at this
        have : j < as.length + 1 := this
        omega
      subst ji
      rw [List.getElem?_append_right (by omega)] at h1 h2
      simp only [la, lt, Nat.sub_self, List.getElem?_cons_zero, Option.some.injEq] at h1 h2
      subst h1 h2
      rw [upd_ne naS, upd_same]
  · have key : ∀ j, (as ++ [a])[j]? = some b → (j < i ∧ as[j]? = some b) ∨ (j = i ∧ b = a) := fun j h => by
      by_cases hj : j < i
      · rw [List.getElem?_append_left (by omega)] at h
        exact .inl ⟨hj, h⟩
      · have ji : j = i := by
          have := (List.getElem?_eq_some_iff.mp h).1
          rw [List.length_append] at this
          have : j < as.length + 1 := this
          omega
        subst ji
        rw [List.getElem?_append_right (by omega)] at h
        simp only [la, Nat.sub_self, List.getElem?_cons_zero, Option.some.injEq] at h
        exact .inr ⟨rfl, h.symm⟩
    rcases key j h1 with ⟨_, q1⟩ | ⟨q1, r1⟩ <;> rcases key k h2 with ⟨_, q2⟩ | ⟨q2, r2⟩
    · exact c.inj j k b q1 q2
    · exact absurd r2 (nin b (List.mem_of_getElem? q1))
    · exact absurd r1 (nin b (List.mem_of_getElem? q2))
    · omega
  · rcases List.mem_append.mp hb with h | h
    · exact c.fr b h
    · rw [List.mem_singleton.mp h]
      exact ha0
  · rcases List.mem_append.mp hb with h | h
    · exact c.nS b h
    · rw [List.mem_singleton.mp h]
      exact naS
/-- a mirror turns -/
theorem Cells.put {H0 H : Hp} {S a h w r c : Nat} {as : List Addr} {g : Gr} (k : Cells H0 H S as g) (s : Shp h w g) (hr : r < h) (hc : c < w) (ha : as[r]? = some a) :
    Cells H0 (upd H a (.lst ((signsV (lstr (rowAt g r))).set c (.str (sgAt g r c).turn.str)))) S as (putAt g r c) := by
  have hg : r < g.length := by rw [s.1]; exact hr
  refine ⟨by rw [upd_ne (k.nS a (List.mem_of_getElem? ha)).symm]; exact k.top, by unfold putAt; rw [List.length_set]; exact k.len, fun j b m h1 h2 => ?_, k.inj, k.fr, k.fS, k.nS⟩
  unfold putAt at h2
  rw [List.getElem?_set] at h2
  by_cases hj : r = j
  · subst hj
    rw [if_pos rfl, if_pos hg] at h2
    rw [ha] at h1
    cases h1
    cases h2
    rw [upd_same, signs_line, signs_line, List.map_set, List.map_set]
  · rw [if_neg hj] at h2
    have nb : b ≠ a := fun z => hj (k.inj r j b (by rw [z]; exact ha) h1)
    rw [upd_ne nb]
    exact k.row j b m h1 h2
end My
namespace My
open PySem PySem.Spec PyProof.Rows L2
/-- the step inward from a place beside the room -/
def dirIn (h : Nat) (r c : Int) : Int × Int := if r < 0 then (1, 0) else if r = h then (-1, 0) else if c < 0 then (0, 1) else (0, -1)
def sp_inward : Sp := fun vs H Q _ => ∃ (a : Addr) (h w : Nat) (r c : Int), vs = [.ref a, .int h, .int w] ∧ H a = some (.tup [.int r, .int c]) ∧
  ∀ p, H p = none → Q (.ref p) (upd H p (.tup [.int (dirIn h r c).1, .int (dirIn h r c).2]))
abbrev s_step_inward : Stmt := (top 24)
abbrev N_step_inward : List Str := ["place", "height", "width", "row", "column"]
theorem sc_step_inward : FnScope N_step_inward ["place", "height", "width"] (defScope s_step_inward) := ⟨rfl, rfl, rfl, by decide +kernel, rfl, by decide +kernel, by decide +kernel⟩

abbrev s_run_beam : Stmt := (top 25)
abbrev N_run_beam : List Str := ["rows", "place", "height", "width", "signs", "down", "right", "row", "column", "tiles", "sign", "line"]
theorem sc_run_beam : FnScope N_run_beam ["rows", "place"] (defScope s_run_beam) := ⟨rfl, rfl, rfl, by decide +kernel, rfl, by decide +kernel, by decide +kernel⟩

section
variable {P : Program} {w : World} {K : PySem.W.Frag} {mg : Str → Option Value} {base : Heap}
theorem ok_inward {f : Addr} {fd : FuncData} (F : Fun K "step_inward" "step_inward" s_step_inward f fd) : FnOk P w K mg base CX0 1 f fd ["place", "height", "width"] sp_inward := by
  refine F.ok sc_step_inward (fun vs H Q E h => ?_) (fun cdv A outer s H vs Q E hr h => ?_)
  · obtain ⟨a, hh, ww, r, c, rfl, _⟩ := h
    rfl
  · obtain ⟨a, hh, ww, r, c, rfl, ha, q⟩ := h
    refine ⟨_, (pss_cons (ps_asg (pv 0) (pg_tup rfl (pgs_cons (pg_name (i := 3) sc_step_inward.nd rfl (Or.inl rfl)) (pgs_cons (pg_name (i := 4) sc_step_inward.nd rfl (Or.inl rfl)) pgs_nil))))
    (pss_cons (ps_if (pt_cmpR op_lt (pv 3) pe_int (nomark _))
      (pss_one (ps_ret (pe_tup (pa_cons pe_int (pa_cons pe_int pa_nil)))))
      pss_nil)
    (pss_cons (ps_if (pt_cmpR op_eq (pv 3) (pv 1) (nomark _))
      (pss_one (ps_ret (pe_tup (pa_cons (pe_un un_neg pe_int) (pa_cons pe_int pa_nil)))))
      pss_nil)
    (pss_cons (ps_if (pt_cmpR op_lt (pv 4) pe_int (nomark _))
      (pss_one (ps_ret (pe_tup (pa_cons pe_int (pa_cons pe_int pa_nil)))))
      pss_nil)
    (pss_one (ps_ret (pe_tup (pa_cons pe_int (pa_cons (pe_un un_neg pe_int) pa_nil))))))))), ?_⟩
    refine ⟨_, rfl, a, _, rfl, SqT.of ha, rfl, _, _, rfl, _, _, rfl, rfl, ?_⟩
    refine ⟨_, rfl, _, _, rfl, rfl, _, rfl, if2 (fun h1 => ?_) (fun h1 => ?_)⟩
    · have e : dirIn hh r c = (1, 0) := if_pos (of_decide_eq_true h1)
      rw [e] at q
      exact ⟨by show 2 ≤ sizeLine; decide, q⟩
    have n1 : ¬ r < 0 := of_decide_eq_false h1
    refine ⟨_, rfl, _, rfl, rfl, _, rfl, if2 (fun h2 => ?_) (fun h2 => ?_)⟩
    · have e2 : V.int r = V.int hh := of_decide_eq_true h2
      injection e2 with e2
      have e : dirIn hh r c = (-1, 0) := by
        unfold dirIn
        rw [if_neg n1, if_pos e2]
      rw [e] at q
      exact ⟨_, rfl, by show 2 ≤ sizeLine; decide, q⟩
    have n2 : ¬ r = hh := fun z => (of_decide_eq_false h2) (by rw [z])
    refine ⟨_, rfl, _, _, rfl, rfl, _, rfl, if2 (fun h3 => ?_) (fun h3 => ?_)⟩
    · have e : dirIn hh r c = (0, 1) := by
        unfold dirIn
        rw [if_neg n1, if_neg n2, if_pos (of_decide_eq_true h3)]
      rw [e] at q
      exact ⟨by show 2 ≤ sizeLine; decide, q⟩
    · have e : dirIn hh r c = (0, -1) := by
        unfold dirIn
        rw [if_neg n1, if_neg n2, if_neg (of_decide_eq_false h3)]
      rw [e] at q
      exact ⟨_, rfl, by show 2 ≤ sizeLine; decide, q⟩
/-- a place beside a room -/
def Beside (h w : Nat) (r c : Int) : Prop := (r = -1 ∧ 0 ≤ c ∧ c < w) ∨ (r = h ∧ 0 ≤ c ∧ c < w) ∨ (c = -1 ∧ 0 ≤ r ∧ r < h) ∨ (c = w ∧ 0 ≤ r ∧ r < h)
/-- the beam that comes in there -/
def enter (g : Gr) (r c : Int) : BS := ⟨g, r + (dirIn g.length r c).1, c + (dirIn g.length r c).2, (dirIn g.length r c).1, (dirIn g.length r c).2⟩
theorem enter_dir (g : Gr) (r c : Int) : Dir (enter g r c).a (enter g r c).b := by
  unfold enter dirIn Dir
  dsimp only
  split
  · exact .inl ⟨rfl, rfl⟩
  · split
    · exact .inr (.inl ⟨rfl, rfl⟩)
    · split
      · exact .inr (.inr (.inl ⟨rfl, rfl⟩))
      · exact .inr (.inr (.inr ⟨rfl, rfl⟩))
theorem enter_out {g : Gr} {w : Nat} {r c : Int} (b : Beside g.length w r c) : ¬ Inn g.length w (enter g r c).back := by
  intro ⟨h1, h2, h3, h4⟩
  have e1 : (enter g r c).back.r = r := by
    show r + (dirIn g.length r c).1 - (dirIn g.length r c).1 = r
    omega
  have e2 : (enter g r c).back.c = c := by
    show c + (dirIn g.length r c).2 - (dirIn g.length r c).2 = c
    omega
  rw [e1] at h1 h2
  rw [e2] at h3 h4
  rcases b with ⟨z, _⟩ | ⟨z, _⟩ | ⟨z, _⟩ | ⟨z, _⟩ <;> omega
/-- how a beam goes: n steps within, the last leads out -/
def Goes (h w : Nat) (x : BS) (n : Nat) : Prop := ¬ Inn h w (bst x n) ∧ ∀ i, i < n → Inn h w (bst x i)
theorem Goes.one {h w : Nat} {x : BS} {n m : Nat} (a : Goes h w x n) (b : Goes h w x m) : n = m := by
  rcases Nat.lt_trichotomy n m with z | z | z
  · exact absurd (b.2 n z) a.1
  · exact z
  · exact absurd (a.2 m z) b.1
def trail (x : BS) (n : Nat) : List (Int × Int) := (List.range n).map fun i => ((bst x i).r, (bst x i).c)
theorem trail_succ (x : BS) (n : Nat) : trail x (n + 1) = trail x n ++ [((bst x n).r, (bst x n).c)] := by
  unfold trail
  rw [List.range_succ, List.map_append] <;> rfl
theorem trail_len (x : BS) (n : Nat) : (trail x n).length = n := by
  unfold trail
  rw [List.length_map, List.length_range]
theorem goes_ex {g : Gr} {w : Nat} {r c : Int} (G : Grid 8 10 g w) (b : Beside g.length w r c) : ∃ n, Goes g.length w (enter g r c) n ∧ n ≤ 262144 := by
  obtain ⟨n, h1, h2, h3⟩ := leaves (h := g.length) (w := w) (x := enter g r c) ⟨rfl, G.ln⟩ (enter_dir g r c) (enter_out b)
  refine ⟨n, ⟨h2, h3⟩, Nat.le_trans h1 ?_⟩
  have e : gcount (enter g r c).g = gcount g := rfl
  rw [e]
  have a1 : 2 ^ gcount g ≤ 2 ^ 10 := Nat.pow_le_pow_right (by omega) G.tu
  have a2 : w * 4 ≤ 32 := by have := G.wm; omega
  have a3 : g.length * (w * 4) ≤ 8 * 32 := Nat.mul_le_mul G.hm a2
  exact Nat.le_trans (Nat.mul_le_mul a1 a3) (by decide)
/-- the test of the loop: is it in the room? -/
theorem rd_inn {σ : L2.St} {H : Hp} {Q : Bool → Hp → Prop} {i1 i2 i3 i4 : Nat} {r c : Int} {h w : Nat} (e1 : σ[i1]? = some (some (.int r))) (e2 : σ[i2]? = some (some (.int h))) (e3 : σ[i3]? = some (some (.int c))) (e4 : σ[i4]? = some (some (.int w)))
    (y : 0 ≤ r ∧ r < h ∧ 0 ≤ c ∧ c < w → Q true H) (z : ¬ (0 ≤ r ∧ r < h ∧ 0 ≤ c ∧ c < w) → Q false H) :
    tAnd (tTest (tChain (rI0 fun i j => V.bl (decide (i ≤ j))) (rI0 fun i j => V.bl (decide (i < j))) (tC (V.int 0)) (tVar i1) (tVar i2))) (tTest (tChain (rI0 fun i j => V.bl (decide (i ≤ j))) (rI0 fun i j => V.bl (decide (i < j))) (tC (V.int 0)) (tVar i3) (tVar i4))) σ H Q := by
  refine ⟨_, e1, _, _, rfl, rfl, _, rfl, if2 (fun t1 => ?_) (fun t1 => ?_)⟩
  · refine ⟨_, e2, _, _, rfl, rfl, _, rfl, if2 (fun t2 => ?_) (fun t2 => ?_)⟩
    · refine ⟨_, e3, _, _, rfl, rfl, _, rfl, if2 (fun t3 => ?_) (fun t3 => ?_)⟩
      · refine ⟨_, e4, _, _, rfl, rfl, _, rfl, ?_⟩
        by_cases t4 : c < w
        · rw [decide_eq_true t4]
          exact y ⟨of_decide_eq_true t1, of_decide_eq_true t2, of_decide_eq_true t3, t4⟩
        · rw [decide_eq_false t4]
          exact z fun k => t4 k.2.2.2
      · exact ⟨_, rfl, z fun k => of_decide_eq_false t3 k.2.2.1⟩
    · exact z fun k => of_decide_eq_false t2 k.2.1
  · exact ⟨_, rfl, ifF rfl (z fun k => of_decide_eq_false t1 k.1)⟩
def sp_run (K : PySem.W.Frag) : Sp := fun vs H Q _ => ∃ (a pl w : Nat) (g : Gr) (r c : Int), vs = [.ref a, .ref pl] ∧ SqT K H a (g.map lineV) ∧ Grid 8 10 g w ∧ H pl = some (.tup [.int r, .int c]) ∧ Beside g.length w r c ∧
  ∀ (n : Nat) (p t o l : Addr) (ws : List V) (H' : Hp), Goes g.length w (enter g r c) n → n ≤ 262144 → H p = none → Same H H' → H' p = some (.tup [.ref t, .ref o, .ref l]) → H' t = some (.lst ws) → PrsAt H' ws (trail (enter g r c) n) →
    H' o = some (.tup [.int (bst (enter g r c) n).r, .int (bst (enter g r c) n).c]) → H' l = some (.lst ((bst (enter g r c) n).g.map lineV)) → Q (.ref p) H'
theorem ok_run {f : Addr} {fd : FuncData} (F : Fun K "run_beam" "run_beam" s_run_beam f fd) (T : Txt mg) (g_step_inward : GF P w K mg base "step_inward" 1 sp_inward) (g_thrown : GF P w K mg base "thrown" 1 sp_thrown) (g_turned : GF P w K mg base "turned" 1 sp_turned) :
    FnOk P w K mg base CX0 2 f fd ["rows", "place"] (sp_run K) := by
  refine F.ok sc_run_beam (fun vs H Q E h => ?_) (fun cdv A outer s H vs Q E hr h => ?_)
  · obtain ⟨a, pl, ww, g, r, c, rfl, _⟩ := h
    rfl
  · obtain ⟨a, pl, ww, g, r, c, rfl, hS, G, hpl, hb, q⟩ := h
    refine ⟨_, (pss_cons (ps_set (i := 2) sc_run_beam.nd rfl (Or.inl rfl) (pe_callB call_len_seq (by rfl) T.b_len PySem.boot_len (pa_cons (pv 0) pa_nil)))
    (pss_cons (ps_set (i := 3) sc_run_beam.nd rfl (Or.inl rfl) (pe_callB call_len_str (by rfl) T.b_len PySem.boot_len (pa_cons (pe_ix ix_tup (pv 0) pe_int (fun _ _ => rfl)) pa_nil)))
    (pss_cons (ps_setLcG (i := 4) (own := [("line", 11)]) (g := gName 11)  rfl sc_run_beam.nd rfl rfl (sw_true rfl rfl rfl (by decide +kernel)) (pi_tup (pv 0)) (blkOk_by (N := N_run_beam) (sc := defScope s_run_beam) (by decide +kernel)) (fun _ _ _ _ _ => (pg_name (i := 11) sc_run_beam.nd rfl (Or.inl rfl))) (fun _ _ _ _ _ => pts_nil) (fun _ _ _ _ _ => (pe_callTy (call_listS rfl) (by rfl) T.b_list (by decide +kernel) (pa_cons (pv 11) pa_nil))))
    (pss_cons (ps_asg (pe_c g_step_inward (hr.mono (by decide)) passL (pa_cons (pv 1) (pa_cons (pv 2) (pa_cons (pv 3) pa_nil)))) (pg_tup rfl (pgs_cons (pg_name (i := 5) sc_run_beam.nd rfl (Or.inl rfl)) (pgs_cons (pg_name (i := 6) sc_run_beam.nd rfl (Or.inl rfl)) pgs_nil))))
    (pss_cons (ps_set (i := 7) sc_run_beam.nd rfl (Or.inl rfl) (pe_op op_add (pe_ix ix_tup (pv 1) pe_int (fun _ _ => rfl)) (pv 5)))
    (pss_cons (ps_set (i := 8) sc_run_beam.nd rfl (Or.inl rfl) (pe_op op_add (pe_ix ix_tup (pv 1) pe_int (fun _ _ => rfl)) (pv 6)))
    (pss_cons (ps_set (i := 9) sc_run_beam.nd rfl (Or.inl rfl) (pe_lst pa_nil))
    (pss_cons (ps_while PassesOwn.never (PW.pt (pw_and (pt_chain op_le op_lt pe_int (pv 7) (pv 2)) (pw_and1 (pt_chain op_le op_lt pe_int (pv 8) (pv 3)))))
      (pss_cons (ps_expr (pe_bm PySem.F.plainAttrs_list PySem.F.slot_list_append PySem.F.type_list_append mt_append (pv 9) (pa_cons (pe_tup (pa_cons (pv 7) (pa_cons (pv 8) pa_nil))) pa_nil)))
      (pss_cons (ps_set (i := 10) sc_run_beam.nd rfl (Or.inl rfl) (pe_ix ix_list (pe_ix ix_list (pv 4) (pv 7) (fun _ _ => rfl)) (pv 8) (fun _ _ => rfl)))
      (pss_cons (ps_asg (pe_c g_thrown (hr.mono (by decide)) passL (pa_cons (pv 10) (pa_cons (pv 5) (pa_cons (pv 6) pa_nil)))) (pg_tup rfl (pgs_cons (pg_name (i := 5) sc_run_beam.nd rfl (Or.inl rfl)) (pgs_cons (pg_name (i := 6) sc_run_beam.nd rfl (Or.inl rfl)) pgs_nil))))
      (pss_cons (ps_asg (pe_c g_turned (hr.mono (by decide)) passL (pa_cons (pv 10) pa_nil)) (pg_sub (pe_ix ix_list (pv 4) (pv 7) (fun _ _ => rfl)) (pv 8) set_list))
      (pss_cons (ps_set (i := 7) sc_run_beam.nd rfl (Or.inl rfl) (pe_op op_add (pv 7) (pv 5)))
      (pss_one (ps_set (i := 8) sc_run_beam.nd rfl (Or.inl rfl) (pe_op op_add (pv 8) (pv 6))))))))))
    (pss_one (ps_ret (pe_tup (pa_cons (pv 9) (pa_cons (pe_tup (pa_cons (pv 7) (pa_cons (pv 8) pa_nil))) (pa_cons (pe_lcG (own := [("line", 11)]) (g := gName 11)  rfl sc_run_beam.nd (pi_list (pv 4)) (blkOk_by (N := N_run_beam) (sc := defScope s_run_beam) (by decide +kernel)) (fun _ _ _ _ _ => (pg_name (i := 11) sc_run_beam.nd rfl (Or.inl rfl))) (fun _ _ _ _ _ => pts_nil) (fun _ _ _ _ _ => (pe_join pe_str (pv 11)))) pa_nil)))))))))))))), ?_⟩
    have hgm := G.hm
    have hwm := G.wm
    have hg0 := G.h0
    have hw0 := G.w0
    have shp : Shp g.length ww g := ⟨rfl, G.ln⟩
    obtain ⟨n, hn, n9⟩ := goes_ex G hb
    obtain ⟨l0, hl0⟩ : ∃ l0, g[0]? = some l0 := ⟨g[0]'(G.h0), by simp [G.h0]⟩
    have lw0 := G.ln l0 (List.mem_of_getElem? hl0)
    have hm0 : (g.map lineV)[0]? = some (lineV l0) := by rw [List.getElem?_map, hl0] <;> rfl
    have e0 : (((lstr l0).length : Nat) : Int) = (ww : Int) := by rw [lstr_len, lw0]
    have eh0 : (((g.map lineV).length : Nat) : Int) = (g.length : Int) := by rw [List.length_map]
    refine ⟨_, rfl, a, _, rfl, .inr hS, ?_⟩
    rw [eh0]
    refine ⟨_, rfl, a, _, _, _, rfl, rfl, hS, atI_nat hm0, _, rfl, sz2 (by rw [lstr_len]; omega), ?_⟩
    rw [e0]
    refine ⟨_, rfl, a, rfl, ⟨_, hS⟩, fun S hS0 => it_gen (walk_tup (xs := g.map lineV)) (fun i H' => ∃ as, Cells H H' S as (g.take i) ∧ Same H H') ⟨[], ⟨upd_same, rfl, fun _ _ _ h => (nomatch h), fun _ _ _ h => (nomatch h), fun _ h => (nomatch h), hS0, fun _ h => (nomatch h)⟩, Same.new hS0⟩ (fun i H' _ ⟨_, _, s⟩ => sameT s hS) ?_ ?_⟩
    · rintro i v H1 H2 hi ⟨as, k, s1⟩ ⟨rfl, hv⟩
      rw [List.length_map] at hi
      obtain ⟨l, hl⟩ : ∃ l, g[i]? = some l := ⟨g[i], by simp [hi]⟩
      rw [List.getElem?_map, hl] at hv
      obtain rfl : lineV l = v := Option.some.inj hv
      have lw := G.ln l (List.mem_of_getElem? hl)
      have la : as.length ≤ 8 := by rw [k.len, List.length_take]; omega
      refine ⟨rfl, _, rfl, lstr l, rfl, sz2 (by rw [lstr_len]; omega), fun b hb => ⟨as.map V.ref, (k.new hb).top, sz3 (by rw [List.length_map]; omega), as ++ [b], k.snoc hl hb (s1.free hb), Same.mut (Same.new' s1 hb) hS0⟩⟩
    · rintro H1 ⟨as, k, s1⟩
      rw [List.length_map, List.take_length] at k
      have hpl1 := s1 _ _ hpl
      refine ⟨_, rfl, _, rfl, _, rfl, pl, g.length, ww, r, c, rfl, hpl1, fun p1 hp1 => ?_⟩
      refine ⟨p1, _, rfl, SqT.of upd_same, rfl, _, _, rfl, _, _, rfl, rfl, ?_⟩
      have k := k.new (o := .tup [.int (dirIn g.length r c).1, .int (dirIn g.length r c).2]) hp1
      have s1 := Same.new' s1 (o := .tup [.int (dirIn g.length r c).1, .int (dirIn g.length r c).2]) hp1
      generalize upd H1 p1 (.tup [.int (dirIn g.length r c).1, .int (dirIn g.length r c).2]) = H2 at k s1 ⊢
      have hpl2 := s1 _ _ hpl
      refine ⟨_, rfl, pl, _, _, _, rfl, rfl, SqT.of hpl2, at_0, _, rfl, _, _, rfl, rfl, ?_⟩
      refine ⟨_, rfl, pl, _, _, _, rfl, rfl, SqT.of hpl2, at_1, _, rfl, _, _, rfl, rfl, ?_⟩
      refine ⟨Nat.zero_le _, fun Tt hT => ?_⟩
      have kT := k.new (o := .lst []) hT
      have sT := Same.new' s1 (o := .lst []) hT
      have nTas : ∀ b ∈ as, b ≠ Tt := fun b hb => by
        obtain ⟨j, hj⟩ := List.mem_iff_getElem?.mp hb
        have jl := (List.getElem?_eq_some_iff.mp hj).1
        exact ne_of_none (k.row j b _ hj (List.getElem?_eq_getElem (by rw [← k.len]; exact jl))) hT
      have nST : S ≠ Tt := ne_of_none k.top hT
      have hT0 := s1.free hT
      generalize hx0 : enter g r c = x0 at hn q
      have xg : x0.g = g := by rw [← hx0] <;> rfl
      have way : ∀ i, i ≤ n → Way g.length ww g (bst x0 i) := fun i hi => Way.at_ (x := x0) ⟨by rw [xg]; exact shp, by rw [xg], by rw [← hx0]; exact enter_dir g r c⟩ i fun j hj => hn.2 j (by omega)
      refine ⟨fun m σ H' => ∃ (i : Nat) (ws : List V) (v10 v11 : Option V), m = n - i ∧ i ≤ n ∧ σ = [some (.ref a), some (.ref pl), some (.int g.length), some (.int ww), some (.ref S), some (.int (bst x0 i).a), some (.int (bst x0 i).b), some (.int (bst x0 i).r), some (.int (bst x0 i).c), some (.ref Tt), v10, v11] ∧
        Same H H' ∧ Cells H H' S as (bst x0 i).g ∧ H' Tt = some (.lst ws) ∧ PrsAt H' ws (trail x0 i), ⟨n, 0, [], none, none, by omega, by omega, by rw [← hx0] <;> rfl, sT, by rw [show (bst x0 0).g = g from xg]; exact kT, upd_same, .nil⟩, ?_⟩
      rintro m σ H3 ⟨i, ws, v10, v11, rfl, hi, rfl, s3, k3, eT, pT⟩
      generalize hx : bst x0 i = x at k3
      have nsteps : Inn g.length ww x → i < n := fun z => by
        rcases Nat.lt_or_ge i n with h | h
        · exact h
        · have e : i = n := by omega
          rw [e] at hx
          exact absurd (hx ▸ z) hn.1
      have stays : ¬ Inn g.length ww x → i = n := fun z => by
        rcases Nat.lt_or_ge i n with h | h
        · exact absurd (hx ▸ hn.2 i h) z
        · omega
      refine rd_inn (r := x.r) (c := x.c) (h := g.length) (w := ww) rfl rfl rfl rfl (fun ti => ifT rfl ?_) (fun ti => ifF rfl ?_)
      · have hin := nsteps ti
        have wx : Way g.length ww g x := hx ▸ way i hi
        obtain ⟨t1, t2, t3, t4⟩ := ti
        obtain ⟨rn, er⟩ : ∃ k : Nat, x.r = k := ⟨x.r.toNat, by omega⟩
        obtain ⟨cn, ec⟩ : ∃ k : Nat, x.c = k := ⟨x.c.toNat, by omega⟩
        have er2 : x.r.toNat = rn := by omega
        have ec2 : x.c.toNat = cn := by omega
        have hrn : rn < g.length := by omega
        have hcn : cn < ww := by omega
        obtain ⟨ar, har⟩ : ∃ b, as[rn]? = some b := ⟨as[rn]'(by rw [k3.len, wx.shp.1]; exact hrn), by simp [k3.len, wx.shp.1, hrn]⟩
        have hS4 : (as.map V.ref)[rn]? = some (.ref ar) := by rw [List.getElem?_map, har] <;> rfl
        have hrow := (wx.shp.row hrn).1
        have hsg := wx.shp.sg hrn hcn
        have hlr := (wx.shp.row hrn).2
        have hA := k3.row rn ar _ har hrow
        have nAT : ar ≠ Tt := nTas ar (List.mem_of_getElem? har)
        have nTS := nST
        refine ⟨fun σ' H' => ∃ (ws : List V) (v10 v11 : Option V), σ' = [some (.ref a), some (.ref pl), some (.int g.length), some (.int ww), some (.ref S), some (.int (bst x0 (i + 1)).a), some (.int (bst x0 (i + 1)).b), some (.int (bst x0 (i + 1)).r), some (.int (bst x0 (i + 1)).c), some (.ref Tt), v10, v11] ∧
          Same H H' ∧ Cells H H' S as (bst x0 (i + 1)).g ∧ H' Tt = some (.lst ws) ∧ PrsAt H' ws (trail x0 (i + 1)), fun σ' H' ⟨ws, v10, v11, z1, z2⟩ => ⟨n - (i + 1), by omega, i + 1, ws, v10, v11, rfl, hin, z1, z2⟩, ?_⟩
        have ex : bst x0 (i + 1) = x.step := by
          show (bst x0 i).step = x.step
          rw [hx]
        rw [ex]
        refine ⟨_, rfl, .inl ⟨rfl, _, SqL.of eT⟩, _, rfl, _, rfl, by show 2 ≤ sizeLine; decide, fun p2 hp2 => ?_⟩
        have nTp : Tt ≠ p2 := ne_of_none eT hp2
        have eT2 : upd H3 p2 (.tup [.int x.r, .int x.c]) Tt = some (.lst ws) := by rw [upd_ne nTp]; exact eT
        have lws : ws.length = i := by rw [pT.len, trail_len]
        refine ⟨Tt, ws, _, rfl, rfl, eT2, Nat.lt_of_le_of_lt (show ws.length ≤ 262144 by omega) (by decide), ?_⟩
        have s4 : Same H (upd (upd H3 p2 (.tup [.int x.r, .int x.c])) Tt (.lst (ws ++ [.ref p2]))) := Same.mut (Same.new' s3 hp2) hT0
        have k4 : Cells H (upd (upd H3 p2 (.tup [.int x.r, .int x.c])) Tt (.lst (ws ++ [.ref p2]))) S as x.g := (k3.new hp2).same fun b hb u e => by
          rw [upd_ne (by
            rcases hb with z | z
            · rw [z]; exact nST
            · exact nTas b z)]
          exact e
        have eT4 : upd (upd H3 p2 (.tup [.int x.r, .int x.c])) Tt (.lst (ws ++ [.ref p2])) Tt = some (.lst (ws ++ [.ref p2])) := upd_same
        have pT4 : PrsAt (upd (upd H3 p2 (.tup [.int x.r, .int x.c])) Tt (.lst (ws ++ [.ref p2]))) (ws ++ [.ref p2]) (trail x0 (i + 1)) := by
          rw [trail_succ, hx]
          exact ((pT.tx (Tx.new hp2)).tx (Tx.lst eT2)).snoc ⟨p2, rfl, by rw [upd_ne nTp.symm, upd_same]⟩
        generalize upd (upd H3 p2 (.tup [.int x.r, .int x.c])) Tt (.lst (ws ++ [.ref p2])) = H4 at s4 k4 eT4 pT4 ⊢
        have hA4 := k4.row rn ar _ har hrow
        have hc4 : (signsV (lstr (rowAt x.g rn)))[cn]? = some (.str (sgAt x.g rn cn).str) := by
          rw [signs_line, List.getElem?_map, List.getElem?_map, hsg] <;> rfl
        refine ⟨_, rfl, _, rfl, S, _, _, _, rfl, rfl, SqL.of k4.top, by rw [er]; exact atI_nat hS4, _, rfl, ar, _, _, _, rfl, rfl, SqL.of hA4, by rw [ec]; exact atI_nat hc4, ?_⟩
        refine ⟨_, rfl, _, rfl, _, rfl, sgAt x.g rn cn, x.a, x.b, rfl, fun p3 hp3 => ?_⟩
        refine ⟨p3, _, rfl, SqT.of upd_same, rfl, _, _, rfl, _, _, rfl, rfl, ?_⟩
        have s5 := Same.new' s4 (o := .tup [.int ((sgAt x.g rn cn).thr x.a x.b).1, .int ((sgAt x.g rn cn).thr x.a x.b).2]) hp3
        have k5 := k4.new (o := .tup [.int ((sgAt x.g rn cn).thr x.a x.b).1, .int ((sgAt x.g rn cn).thr x.a x.b).2]) hp3
        have eT5 := Same.new (o := .tup [.int ((sgAt x.g rn cn).thr x.a x.b).1, .int ((sgAt x.g rn cn).thr x.a x.b).2]) hp3 _ _ eT4
        have pT5 := pT4.tx (Tx.new (o := .tup [.int ((sgAt x.g rn cn).thr x.a x.b).1, .int ((sgAt x.g rn cn).thr x.a x.b).2]) hp3)
        generalize upd H4 p3 (.tup [.int ((sgAt x.g rn cn).thr x.a x.b).1, .int ((sgAt x.g rn cn).thr x.a x.b).2]) = H5 at s5 k5 eT5 pT5 ⊢
        have hA5 := k5.row rn ar _ har hrow
        have har0 := k5.fr ar (List.mem_of_getElem? har)
        have hlen5 : (signsV (lstr (rowAt x.g rn))).length = ww := by rw [signs_line, List.length_map, List.length_map]; exact hlr
        refine ⟨_, rfl, sgAt x.g rn cn, rfl, _, rfl, _, rfl, S, _, _, _, rfl, rfl, SqL.of k5.top, by rw [er]; exact atI_nat hS4, _, rfl, ar, _, _, cn, rfl, rfl, hA5, by rw [ec]; exact ixN_nat (by rw [hlen5]; exact hcn), ?_⟩
        have k6 := k5.put wx.shp hrn hcn har
        have s6 : Same H (upd H5 ar (.lst ((signsV (lstr (rowAt x.g rn))).set cn (.str (sgAt x.g rn cn).turn.str)))) := Same.mut s5 har0
        have eT6 : upd H5 ar (.lst ((signsV (lstr (rowAt x.g rn))).set cn (.str (sgAt x.g rn cn).turn.str))) Tt = some (.lst (ws ++ [.ref p2])) := by rw [upd_ne nAT.symm]; exact eT5
        have pT6 := pT5.tx (Tx.lst hA5 (o := .lst ((signsV (lstr (rowAt x.g rn))).set cn (.str (sgAt x.g rn cn).turn.str))))
        refine ⟨_, rfl, _, rfl, _, _, rfl, rfl, _, rfl, _, rfl, _, _, rfl, rfl, ws ++ [.ref p2], some (.str (sgAt x.g rn cn).str), v11, ?_, s6, ?_, eT6, pT6⟩
        · unfold BS.step
          rw [er2, ec2] <;> rfl
        · unfold BS.step
          rw [er2, ec2]
          exact k6
      · obtain rfl := stays ti
        have wx : Way g.length ww g x := hx ▸ way i hi
        refine ⟨_, rfl, _, rfl, _, rfl, by show 2 ≤ sizeLine; decide, fun po hpo => ?_⟩
        have s4 := Same.new (o := .tup [.int x.r, .int x.c]) hpo
        have k4 := k3.new (o := .tup [.int x.r, .int x.c]) hpo
        have eo : upd H3 po (.tup [.int x.r, .int x.c]) po = some (.tup [.int x.r, .int x.c]) := upd_same
        have eT4 := s4 _ _ eT
        have pT4 := pT.tx (Tx.of s4)
        have s5 := s3.trans s4
        generalize upd H3 po (.tup [.int x.r, .int x.c]) = H4 at s4 k4 eo eT4 pT4 s5 ⊢
        have las : as.length = x.g.length := k4.len
        have hxg : x.g.length = g.length := wx.shp.1
        refine ⟨_, rfl, S, rfl, ⟨_, SqL.of k4.top⟩, fun D hD => it_gen (walk_list (xs := as.map V.ref)) (fun j H' => H4 D = none ∧ Same H4 H' ∧ H' D = some (.lst ((x.g.take j).map lineV))) ⟨hD, Same.new hD, upd_same⟩ (fun j H' _ m => m.2.1.seq (SqL.of k4.top)) ?_ ?_⟩
        · rintro j v H5 H6 hj ⟨_, s6, e6⟩ ⟨rfl, hv⟩
          rw [List.length_map] at hj
          obtain ⟨b, hbj⟩ : ∃ b, as[j]? = some b := ⟨as[j], by simp [hj]⟩
          rw [List.getElem?_map, hbj] at hv
          obtain rfl : V.ref b = v := Option.some.inj hv
          have hj2 : j < x.g.length := by omega
          have hgj : x.g[j]? = some x.g[j] := List.getElem?_eq_getElem hj2
          have lwj : (x.g[j]).length = ww := wx.shp.2 _ (List.getElem_mem _)
          have hrow := s6 _ _ (k4.row j b _ hbj hgj)
          rw [signs_line] at hrow
          refine ⟨rfl, ⟨_, rfl⟩, _, rfl, "", b, (x.g[j]).map Sg.str, rfl, rfl, .inl (SqL.of hrow), ?_, _, e6, sz3 ?_, hD, Same.mut s6 hD, ?_⟩
          · have e0' : ("" : Str).length = 0 := by decide +kernel
            rw [signs_sum, e0', List.length_map]
            omega
          · rw [List.length_map, List.length_take]
            omega
          · rw [upd_same, join_signs, List.take_succ_eq_append_getElem hj2, List.map_append] <;> rfl
        · rintro H5 ⟨_, s6, e6⟩
          rw [List.length_map, las, List.take_length] at e6
          refine ⟨by show 3 ≤ sizeLine; decide, fun p hp => ?_⟩
          have s7 := s6.trans (Same.new (o := .tup [.ref Tt, .ref po, .ref D]) hp)
          have n7 := Same.new (o := .tup [.ref Tt, .ref po, .ref D]) hp
          have s8 := s5.trans s7
          refine q i p Tt po D ws _ hn n9 ((s5.trans s6).free hp) s8 upd_same (s7 _ _ eT4) (pT4.tx (Tx.of s7)) ?_ ?_
          · rw [hx]
            exact s7 _ _ eo
          · rw [hx]
            exact n7 _ _ e6
end
end My
namespace My
open PySem PySem.Spec PyProof.Rows L2
theorem isNum_true {v : V} {lo hi : Int} (h : isNum v lo hi = true) : ∃ i : Int, v = .int i ∧ lo ≤ i ∧ i ≤ hi := by
  cases v with
  | int i =>
    have h : (decide (lo ≤ i) && decide (i ≤ hi)) = true := h
    rw [Bool.and_eq_true] at h
    exact ⟨i, rfl, of_decide_eq_true h.1, of_decide_eq_true h.2⟩
  | _ => cases h
def isPort (h w : Nat) (v : V) : Bool := isNum v 0 (((2 * (h + w) : Nat) : Int) - 1)
def sp_port (C U : Addr) : Sp := fun vs H Q E => ∃ (x : Addr) (v : V) (w : Nat) (g : Gr), vs = [.ref x, v] ∧ RoomAt C H x g ∧ Grid 8 10 g w ∧ PV H v ∧
  (isPort g.length w v = true → Q .non H) ∧ (isPort g.length w v = false → E (.ref U) none H)
/-- the first place of x in a list -/
def First {α : Type} (L : List α) (x : α) (j : Nat) : Prop := L[j]? = some x ∧ ∀ m, m < j → L[m]? ≠ some x
theorem First.one {α : Type} {L : List α} {x : α} {i j : Nat} (a : First L x i) (b : First L x j) : i = j := by
  rcases Nat.lt_trichotomy i j with z | z | z
  · exact absurd a.1 (b.2 i z)
  · exact z
  · exact absurd b.1 (a.2 j z)
theorem first_ex {α : Type} [DecidableEq α] : ∀ {L : List α} {x : α}, x ∈ L → ∃ j, First L x j
  | a :: L, x, h => by
    by_cases e : a = x
    · exact ⟨0, by rw [e] <;> rfl, fun m hm => absurd hm (by omega)⟩
    · have h2 : x ∈ L := by
        rcases List.mem_cons.mp h with z | z
        · exact absurd z.symm e
        · exact z
      obtain ⟨j, h1, h3⟩ := first_ex h2
      refine ⟨j + 1, h1, fun m hm => ?_⟩
      cases m with
      | zero =>
        intro z
        exact e (Option.some.inj z)
      | succ m => exact h3 m (by omega)
theorem pfx_mem {f : Nat → Int × Int} {n k : Nat} (h : k < n) : f k ∈ pfx f n := List.mem_map.mpr ⟨k, List.mem_range.mpr h, rfl⟩
theorem places_mem {h w : Nat} {r c : Int} (b : Beside h w r c) : (r, c) ∈ places h w := by
  unfold places
  rcases b with ⟨rfl, h1, h2⟩ | ⟨rfl, h1, h2⟩ | ⟨rfl, h1, h2⟩ | ⟨rfl, h1, h2⟩
  · obtain ⟨k, rfl⟩ : ∃ k : Nat, c = k := ⟨c.toNat, by omega⟩
    exact List.mem_append_left _ (List.mem_append_left _ (List.mem_append_left _ (pfx_mem (f := pUp) (by omega))))
  · obtain ⟨k, rfl⟩ : ∃ k : Nat, c = k := ⟨c.toNat, by omega⟩
    exact List.mem_append_left _ (List.mem_append_right _ (pfx_mem (f := pDn h) (by omega)))
  · obtain ⟨k, rfl⟩ : ∃ k : Nat, r = k := ⟨r.toNat, by omega⟩
    exact List.mem_append_right _ (pfx_mem (f := pLf) (by omega))
  · obtain ⟨k, rfl⟩ : ∃ k : Nat, r = k := ⟨r.toNat, by omega⟩
    exact List.mem_append_left _ (List.mem_append_left _ (List.mem_append_right _ (pfx_mem (f := pRt w) (by omega))))
theorem places_beside {h w : Nat} {r c : Int} (m : (r, c) ∈ places h w) : Beside h w r c := by
  unfold places at m
  have key : ∀ {f : Nat → Int × Int} {n : Nat}, (r, c) ∈ pfx f n → ∃ k, k < n ∧ f k = (r, c) := fun {f n} hm => by
    obtain ⟨k, hk, e⟩ := List.mem_map.mp hm
    exact ⟨k, List.mem_range.mp hk, e⟩
  rcases List.mem_append.mp m with m | m
  · rcases List.mem_append.mp m with m | m
    · rcases List.mem_append.mp m with m | m
      · obtain ⟨k, hk, e⟩ := key m
        unfold pUp at e
        cases e
        exact .inl ⟨rfl, by omega, by omega⟩
      · obtain ⟨k, hk, e⟩ := key m
        unfold pRt at e
        cases e
        exact .inr (.inr (.inr ⟨rfl, by omega, by omega⟩))
    · obtain ⟨k, hk, e⟩ := key m
      unfold pDn at e
      cases e
      exact .inr (.inl ⟨rfl, by omega, by omega⟩)
  · obtain ⟨k, hk, e⟩ := key m
    unfold pLf at e
    cases e
    exact .inr (.inr (.inl ⟨rfl, by omega, by omega⟩))
/-- a beam comes in on a tile -/
theorem enter_in {g : Gr} {w : Nat} {r c : Int} (h0 : 0 < g.length) (w0 : 0 < w) (b : Beside g.length w r c) : Inn g.length w (enter g r c) := by
  unfold Inn enter dirIn
  dsimp only
  rcases b with ⟨rfl, h1, h2⟩ | ⟨rfl, h1, h2⟩ | ⟨rfl, h1, h2⟩ | ⟨rfl, h1, h2⟩
  · rw [if_pos (by omega)]
    dsimp only
    omega
  · rw [if_neg (by omega), if_pos rfl]
    dsimp only
    omega
  · rw [if_neg (by omega), if_neg (by omega), if_pos (by omega)]
    dsimp only
    omega
  · rw [if_neg (by omega), if_neg (by omega), if_neg (by omega)]
    dsimp only
    omega
/-- it leaves beside the room -/
theorem exit_beside {h w : Nat} {x : BS} (i : Inn h w x) (d : Dir x.a x.b) (o : ¬ Inn h w x.step) : Beside h w x.step.r x.step.c := by
  obtain ⟨i1, i2, i3, i4⟩ := i
  have d2 := d.thr (sgAt x.g x.r.toNat x.c.toNat)
  have e1 : x.step.r = x.r + ((sgAt x.g x.r.toNat x.c.toNat).thr x.a x.b).1 := rfl
  have e2 : x.step.c = x.c + ((sgAt x.g x.r.toNat x.c.toNat).thr x.a x.b).2 := rfl
  unfold Inn at o
  rw [e1, e2] at o ⊢
  generalize ((sgAt x.g x.r.toNat x.c.toNat).thr x.a x.b).1 = u at d2 o ⊢
  generalize ((sgAt x.g x.r.toNat x.c.toNat).thr x.a x.b).2 = v at d2 o ⊢
  unfold Beside
  rcases d2 with ⟨rfl, rfl⟩ | ⟨rfl, rfl⟩ | ⟨rfl, rfl⟩ | ⟨rfl, rfl⟩ <;> omega
theorem lcount_bas : ∀ {l m : List Sg}, l.map Sg.base = m.map Sg.base → lcount l = lcount m
  | [], [], _ => rfl
  | [], _ :: _, h => by simp at h
  | _ :: _, [], h => by simp at h
  | s :: l, t :: m, h => by
    simp only [List.map_cons, List.cons.injEq] at h
    have ih := lcount_bas h.2
    have e : s.tur = t.tur := by
      have := h.1
      cases s <;> cases t <;> simp [Sg.base, Sg.tur] at this ⊢
    unfold lcount at ih ⊢
    rw [List.filter_cons, List.filter_cons, e]
    cases t.tur <;> simp [ih]
theorem gcount_bas : ∀ {g k : Gr}, Bas g = Bas k → gcount g = gcount k
  | [], [], _ => rfl
  | [], _ :: _, h => by simp [Bas] at h
  | _ :: _, [], h => by simp [Bas] at h
  | l :: g, m :: k, h => by
    unfold Bas at h
    simp only [List.map_cons, List.cons.injEq] at h
    have ih := gcount_bas h.2
    unfold gcount at ih ⊢
    rw [List.map_cons, List.map_cons, List.sum_cons, List.sum_cons, ih, lcount_bas h.1]
theorem Way.grid {g : Gr} {w : Nat} {x : BS} (G : Grid 8 10 g w) (k : Way g.length w g x) : Grid 8 10 x.g w ∧ x.g.length = g.length :=
  ⟨⟨by rw [k.shp.1]; exact G.h0, by rw [k.shp.1]; exact G.hm, G.w0, G.wm, k.shp.2, by rw [← gcount_bas k.bas]; exact G.tu⟩, k.shp.1⟩
/-- all of a beam: from a place, n steps, the place behind it, its number -/
structure Ray (g : Gr) (w p : Nat) (n j : Nat) (y : BS) : Prop where
  ex : ∃ r c, (places g.length w)[p]? = some (r, c) ∧ Goes g.length w (enter g r c) n ∧ y = bst (enter g r c) n
  first : First (places g.length w) (y.r, y.c) j
theorem Ray.one {g : Gr} {w p n m j i : Nat} {y z : BS} (a : Ray g w p n j y) (b : Ray g w p m i z) : n = m ∧ j = i ∧ y = z := by
  obtain ⟨r, c, h1, h2, rfl⟩ := a.ex
  obtain ⟨r', c', k1, k2, rfl⟩ := b.ex
  rw [h1] at k1
  cases k1
  obtain rfl := h2.one k2
  exact ⟨rfl, a.first.one b.first, rfl⟩
theorem ray_ex {g : Gr} {w p : Nat} (G : Grid 8 10 g w) (hp : p < 2 * (g.length + w)) : ∃ n j y, Ray g w p n j y ∧ n ≤ 262144 ∧ 0 < n ∧ Way g.length w g y := by
  obtain ⟨rc, hrc⟩ : ∃ rc, (places g.length w)[p]? = some rc := ⟨(places g.length w)[p]'(by rw [places_len]; exact hp), List.getElem?_eq_getElem _⟩
  obtain ⟨r, c⟩ := rc
  have b := places_beside (List.mem_of_getElem? hrc)
  obtain ⟨n, hn, n9⟩ := goes_ex G b
  have w0 : Way g.length w g (enter g r c) := ⟨⟨rfl, G.ln⟩, rfl, enter_dir g r c⟩
  have hn0 : 0 < n := by
    rcases Nat.eq_zero_or_pos n with z | z
    · rw [z] at hn
      exact absurd (enter_in G.h0 G.w0 b) hn.1
    · exact z
  obtain ⟨k, rfl⟩ : ∃ k, n = k + 1 := ⟨n - 1, by omega⟩
  have wk := w0.at_ k fun i hi => hn.2 i (by omega)
  have bs := exit_beside (hn.2 k (by omega)) wk.dir hn.1
  obtain ⟨j, hj⟩ := first_ex (places_mem bs)
  exact ⟨k + 1, j, bst (enter g r c) (k + 1), ⟨⟨r, c, hrc, hn, rfl⟩, hj⟩, n9, hn0, w0.at_ (k + 1) hn.2⟩
def sp_call (C U : Addr) : Sp := fun vs H Q E => ∃ (x : Addr) (v : V) (w : Nat) (g : Gr), vs = [.ref x, v] ∧ RoomAt C H x g ∧ Grid 8 10 g w ∧ PV H v ∧
  (∀ (p n j : Nat) (y : BS), v = .int p → Ray g w p n j y → ∀ (q z : Addr) (H' : Hp), H q = none → H z = none → Same H H' → H' q = some (.tup [.int j, .ref z]) → RoomN C H H' z y.g → Q (.ref q) H') ∧
  (isPort g.length w v = false → ∀ H', Same H H' → E (.ref U) none H')
abbrev s_check_port : Stmt := (top 10)
abbrev N_check_port : List Str := ["room", "port"]
theorem sc_check_port : FnScope N_check_port ["room", "port"] (defScope s_check_port) := ⟨rfl, rfl, rfl, by decide +kernel, rfl, by decide +kernel, by decide +kernel⟩

abbrev s_Room___call__ : Stmt := (inClass (top 29) 8)
abbrev N_Room___call__ : List Str := ["self", "port", "_", "place", "rows"]
theorem sc_Room___call__ : FnScope N_Room___call__ ["self", "port"] (defScope s_Room___call__) := ⟨rfl, rfl, rfl, by decide +kernel, rfl, by decide +kernel, by decide +kernel⟩

section
variable {P : Program} {w : World} {K : PySem.W.Frag} {mg : Str → Option Value} {base : Heap}
theorem ok_port {f C fI U0 fl : Addr} {fd : FuncData} (F : Fun K "check_port" "check_port" s_check_port f fd) (T : RoomT K mg C fI) (U : ErrC K mg "UnknownPort" U0) (g_is_number : GF P w K mg base "is_number" 1 sp_isnum) (m_len : MOf K C "__len__" fl) (f_len : FnR P w K mg base (L2.CX P w) 1 fl (sp_len C)) :
    FnOk P w K mg base (L2.CX P w) 3 f fd ["room", "port"] (sp_port C U0) := by
  refine F.okX sc_check_port (fun vs H Q E h => ?_) (fun cdv A outer s H vs Q E hr h => ?_)
  · obtain ⟨x, v, ww, g, rfl, _⟩ := h
    rfl
  · obtain ⟨x, v, ww, g, rfl, R, G, hv, q1, q2⟩ := h
    have hgm := G.hm
    have hwm := G.wm
    refine ⟨_, (pss_one (ps_if (pt_not (pt_val (pe_c g_is_number (hr.mono (by decide)) passL (pa_cons (pv 1) (pa_cons pe_int (pa_cons (pe_op op_sub (pe_callB (call_lenO m_len f_len (hr.mono (by decide))) (by rfl) T.b_len PySem.boot_len (pa_cons (pv 0) pa_nil)) pe_int) pa_nil))))))
      (pss_one (ps_raise rfl (takes_of rfl rfl rfl rfl) (pmk_own PySem.F.excBase_ValueError U.x U.g U.k (raises_own U.b U.t) rfl)))
      pss_nil)), ?_⟩
    obtain ⟨dx, fs, hx⟩ := R.ins
    refine ⟨_, rfl, _, rfl, x, dx, fs, rfl, hx, x, ww, g, rfl, R, G, _, rfl, by omega, by omega, _, _, rfl, rfl, ?_⟩
    refine ⟨v, _, _, rfl, hv, _, rfl, if2 (fun hc => q2 ?_) (fun hc => q1 ?_)⟩
    · have hc : (!isNum v 0 (((2 * (g.length + ww) : Nat) : Int) - 1)) = true := hc
      simpa [isPort] using hc
    · have hc : (!isNum v 0 (((2 * (g.length + ww) : Nat) : Int) - 1)) = false := hc
      simpa [isPort] using hc
theorem ok_call {f C fI U0 : Addr} {fd : FuncData} (F : Fun K "__call__" "Room.__call__" s_Room___call__ f fd) (T : RoomT K mg C fI) (g_check_port : GF P w K mg base "check_port" 3 (sp_port C U0)) (g_run_beam : GF P w K mg base "run_beam" 2 (sp_run K)) (g_init : FnR P w K mg base (L2.CX P w) 3 fI (sp_star C)) :
    FnOk P w K mg base (L2.CX P w) 5 f fd ["self", "port"] (sp_call C U0) := by
  refine F.okX sc_Room___call__ (fun vs H Q E h => ?_) (fun cdv A outer s H vs Q E hr h => ?_)
  · obtain ⟨x, v, ww, g, rfl, _⟩ := h
    rfl
  · obtain ⟨x, v, ww, g, rfl, R, G, hv, q1, q2⟩ := h
    have hu : (A.deeper (envOfC "Room.__call__" (defScope s_Room___call__) s.heap.objs.size f cdv)).units + 65 < cLine := by
      have := hr.un
      omega
    refine ⟨_, (pss_cons (ps_expr (pe_c g_check_port (hr.mono (by decide)) (passes_call (takes_of rfl rfl rfl rfl) (fun _ _ _ _ h => h)) (pa_cons (pv 0) (pa_cons (pv 1) pa_nil))))
    (pss_cons (ps_asg (pe_c g_run_beam (hr.mono (by decide)) passL (pa_cons (pe_fld (pv 0) rfl) (pa_cons (pe_ix ix_list (pe_fld (pv 0) rfl) (pv 1) (fun _ _ => rfl)) pa_nil))) (pg_tup rfl (pgs_cons (pg_name (i := 2) sc_Room___call__.nd rfl (Or.inl rfl)) (pgs_cons (pg_name (i := 3) sc_Room___call__.nd rfl (Or.inl rfl)) (pgs_cons (pg_name (i := 4) sc_Room___call__.nd rfl (Or.inl rfl)) pgs_nil)))))
    (pss_one (ps_ret (pe_tup (pa_cons (pe_bm PySem.F.plainAttrs_list PySem.F.slot_list_index PySem.F.type_list_index (mt_indexD hu) (pe_fld (pv 0) rfl) (pa_cons (pv 3) pa_nil)) (pa_cons (pe_makeS T.mkR g_init (hr.mono (by decide)) T.g_Room passL (pv 4)) pa_nil))))))), ?_⟩
    refine ⟨_, rfl, _, rfl, x, v, ww, g, rfl, R, G, hv, fun hp => ?_, fun hp => q2 hp _ (Same.refl H)⟩
    obtain ⟨i, rfl, i0, i1⟩ := isNum_true hp
    obtain ⟨p, rfl⟩ : ∃ p : Nat, i = p := ⟨i.toNat, by omega⟩
    have hpp : p < 2 * (g.length + ww) := by omega
    obtain ⟨n, j, y, ray, n9, hn0, wy⟩ := ray_ex G hpp
    obtain ⟨r, c, hrc, hn, ey⟩ := ray.ex
    obtain ⟨dx, t, pl, ws, h1, h2, h3, h4⟩ := R
    rw [G.gw] at h4
    obtain ⟨wv, hwv, a0, rfl, ha0⟩ := Paired.nth2 h4 hrc
    have hb := places_beside (List.mem_of_getElem? hrc)
    refine ⟨_, rfl, x, C, dx, _, _, rfl, h1, T.cl, T.nR, rfs_rows _ _, _, rfl, x, C, dx, _, _, rfl, h1, T.cl, T.nP, rfs_places _ _, _, rfl, pl, _, _, _, rfl, rfl, SqL.of h3, atI_nat hwv, t, a0, ww, g, r, c, rfl, SqT.of h2, G, ha0, hb, fun n' pr tt o l wt H1 hn' n9' hpr s1 e1 e2 pt e4 e5 => ?_⟩
    obtain rfl := hn'.one hn
    rw [← ey] at e4 e5
    refine ⟨pr, _, rfl, SqT.of e1, rfl, _, _, rfl, _, _, rfl, _, _, rfl, rfl, ?_⟩
    have h11 := s1 _ _ h1
    have h31 := s1 _ _ h3
    have h41 := h4.tx (Tx.of s1)
    obtain ⟨f1, f2⟩ := ray.first
    refine ⟨_, rfl, x, C, dx, _, _, rfl, h11, T.cl, T.nP, rfs_places _ _, .inl ⟨rfl, _, SqL.of h31⟩, _, rfl, pl, .ref o, dPair (y.r, y.c), (places g.length ww).map dPair, j, dPair (y.r, y.c), rfl, rfl, dp_pairs (SqL.of h31) h41, dp_pair ⟨o, rfl, e4⟩, (sh_pairs _).shaped (by omega), (sh_pair _).shaped (by omega), ?_, ?_, fun m z hm hz => ?_, ?_⟩
    · rw [List.getElem?_map, f1] <;> rfl
    · rw [eqv_pair, dT rfl]
    · rw [List.getElem?_map] at hz
      cases hq : (places g.length ww)[m]? with
      | none => rw [hq] at hz; cases hz
      | some u =>
        rw [hq] at hz
        cases hz
        rw [eqv_pair]
        refine dF fun e => f2 m hm ?_
        rw [hq, e]
    obtain ⟨G2, _⟩ := wy.grid G
    refine ⟨_, rfl, l, _, rfl, .inr (SqL.of e5), fun z dz hz hdz hne => made (Q := fun u H2 => 2 ≤ sizeLine ∧ ∀ q, H2 q = none → Q (.ref q) (upd H2 q (.tup [.int j, u]))) G2 (fun z' H2 hz' s2 r2 => ?_) z dz hz hdz hne⟩
    refine ⟨by decide, fun q hq => ?_⟩
    have s3 := Same.new (o := .tup [.int j, .ref z']) hq
    exact q1 p n' j y rfl ray q z' _ ((s1.trans s2).free hq) (s1.free hz') ((s1.trans s2).trans s3) upd_same (r2.mono s1 s3)
end
end My
namespace My
open PySem PySem.Spec PyProof.Rows L2
/-- beams one after another: ports, exits, the room afterwards -/
inductive Sent (w : Nat) : Gr → List Nat → List Nat → Gr → Prop where
  | nil (g : Gr) : Sent w g [] [] g
  | cons {g k : Gr} {p n j : Nat} {y : BS} {ps js : List Nat} (r : Ray g w p n j y) (t : Sent w y.g ps js k) : Sent w g (p :: ps) (j :: js) k
theorem Sent.snoc {w : Nat} {g k : Gr} {ps js : List Nat} {p n j : Nat} {y : BS} (s : Sent w g ps js k) (r : Ray k w p n j y) : Sent w g (ps ++ [p]) (js ++ [j]) y.g := by
  induction s with
  | nil g => exact .cons r (.nil _)
  | cons r0 t ih => exact .cons r0 (ih r)
theorem Sent.one {w : Nat} {g k : Gr} {ps js : List Nat} (a : Sent w g ps js k) : ∀ {ls : List Nat} {m : Gr}, Sent w g ps ls m → js = ls ∧ k = m := by
  induction a with
  | nil g =>
    intro ls m b
    cases b
    exact ⟨rfl, rfl⟩
  | cons r t ih =>
    intro ls m b
    cases b with
    | cons r2 t2 =>
      obtain ⟨_, rfl, rfl⟩ := r.one r2
      obtain ⟨rfl, rfl⟩ := ih t2
      exact ⟨rfl, rfl⟩
def natsV (ps : List Nat) : List V := ps.map fun (p : Nat) => V.int (p : Int)
theorem ports_nats {h w : Nat} : ∀ {vs : List V}, (∀ v ∈ vs, isPort h w v = true) → ∃ ps : List Nat, vs = natsV ps ∧ ∀ p ∈ ps, p < 2 * (h + w)
  | [], _ => ⟨[], rfl, fun _ h => nomatch h⟩
  | v :: vs, k => by
    obtain ⟨ps, rfl, hp⟩ := ports_nats (vs := vs) fun u hu => k u (List.mem_cons_of_mem _ hu)
    obtain ⟨i, rfl, i0, i1⟩ := isNum_true (k v List.mem_cons_self)
    obtain ⟨p, rfl⟩ : ∃ p : Nat, i = p := ⟨i.toNat, by omega⟩
    refine ⟨p :: ps, rfl, fun u hu => ?_⟩
    rcases List.mem_cons.mp hu with rfl | hu
    · omega
    · exact hp u hu
theorem Ray.grid {g : Gr} {w p n j : Nat} {y : BS} (r : Ray g w p n j y) (G : Grid 8 10 g w) : Grid 8 10 y.g w ∧ y.g.length = g.length := by
  obtain ⟨a, c, h1, h2, rfl⟩ := r.ex
  have k : Way g.length w g (enter g a c) := ⟨⟨rfl, G.ln⟩, rfl, enter_dir g a c⟩
  exact (k.at_ n h2.2).grid G
/-- a list of numbers is no part of a room -/
theorem RoomAt.beside {C : Addr} {H : Hp} {x l w : Addr} {g : Gr} {js : List Nat} {o : HO} (r : RoomAt C H x g) (G : Grid 8 10 g w) (hl : H l = some (.lst (natsV js))) : RoomAt C (upd H l o) x g := by
  obtain ⟨dx, t, pl, ws, h1, h2, h3, h4⟩ := r
  have n1 : x ≠ l := fun z => by rw [z, hl] at h1; cases h1
  have n2 : t ≠ l := fun z => by rw [z, hl] at h2; cases h2
  have n3 : pl ≠ l := fun z => by
    rw [z, hl] at h3
    have e : natsV js = ws := by
      cases h3
      rfl
    have hlen := h4.len
    rw [places_len] at hlen
    have hg := G.h0
    cases ws with
    | nil => rw [List.length_nil] at hlen; omega
    | cons u ws =>
      obtain ⟨y, _, b, rfl, _⟩ := Paired.nth h4 (i := 0) (x := u) rfl
      cases js with
      | nil => cases e
      | cons j js => cases e
  exact ⟨dx, t, pl, ws, by rw [upd_ne n1]; exact h1, by rw [upd_ne n2]; exact h2, by rw [upd_ne n3]; exact h3, h4.tx (Tx.lst hl)⟩
theorem RoomN.beside {C : Addr} {H0 H : Hp} {x l w : Addr} {g : Gr} {js : List Nat} {o : HO} (r : RoomN C H0 H x g) (G : Grid 8 10 g w) (h0 : H0 l = none) (hl : H l = some (.lst (natsV js))) : RoomN C H0 (upd H l o) x g := by
  refine RoomAt.same (RoomAt.beside (o := o) (C := C) (H := Nw H0 H) r G (by rw [nw_new h0]; exact hl)) fun b u h => ?_
  by_cases z : b = l
  · rw [z, upd_same] at h
    rw [z, nw_new h0, upd_same]
    exact h
  · rw [upd_ne z] at h
    obtain ⟨h1, h2⟩ := nw_some h
    rcases h2 with h2 | ⟨xs, rfl⟩
    · rw [nw_new h2, upd_ne z]
      exact h1
    · exact nw_tup (by rw [upd_ne z]; exact h1)
/-- send(room, *ports), the ports in a tuple -/
def sp_send (C U : Addr) : Sp := fun as H Q E => ∃ (x tp w : Nat) (g : Gr) (vs : List V), as = [.ref x, .ref tp] ∧ H tp = some (.tup vs) ∧ RoomAt C H x g ∧ Grid 8 10 g w ∧ vs.length ≤ 1000 ∧ (∀ v ∈ vs, PV H v) ∧
  (∀ (ps js : List Nat) (k : Gr) (q l z : Addr) (H' : Hp), vs = natsV ps → Sent w g ps js k → H q = none → Same H H' → H' q = some (.tup [.ref l, .ref z]) → H l = none → H' l = some (.lst (natsV js)) → RoomAt C H' z k → (z = x ∧ k = g ∨ RoomN C H H' z k) → Grid 8 10 k w → k.length = g.length → Q (.ref q) H') ∧
  ((∃ v ∈ vs, isPort g.length w v = false) → ∀ H', Same H H' → E (.ref U) none H')
def sp_sendS (C U : Addr) : Sp := fun vs H Q E => ∃ ws rest, vs = ws ++ rest ∧ ws.length = (["room"] : List Str).length ∧ rest.length ≤ sizeLine ∧ ∀ p, H p = Option.none → sp_send C U (ws ++ [V.ref p]) (upd H p (.tup rest)) Q E
end My
namespace My
open PySem PySem.Spec PyProof.Rows L2
theorem flip_len (g : Gr) : (flipG g).length = g.length := by
  unfold flipG
  rw [List.length_map]
theorem nats_rev (ps : List Nat) : (natsV ps).reverse = natsV ps.reverse := by
  unfold natsV
  rw [List.map_reverse]
/-- unsent(room, *exits), valid ones: k the room with all turned, sent the other way -/
def sp_unsent (C U : Addr) : Sp := fun as H Q E => ∃ (x tp w : Nat) (g : Gr) (vs : List V), as = [.ref x, .ref tp] ∧ H tp = some (.tup vs) ∧ RoomAt C H x g ∧ Grid 8 10 g w ∧ vs.length ≤ 1000 ∧ (∀ v ∈ vs, PV H v) ∧
  (∀ (ps js : List Nat) (k : Gr) (q l z : Addr) (H' : Hp), vs = natsV ps → Sent w (flipG g) ps.reverse js k → H q = none → Same H H' → H' q = some (.tup [.ref l, .ref z]) → H l = none → H' l = some (.lst (natsV js.reverse)) → H z = none → RoomN C H H' z (flipG k) → Grid 8 10 k w → k.length = g.length → Q (.ref q) H') ∧
  ((∃ v ∈ vs, isPort g.length w v = false) → ∀ H', Same H H' → E (.ref U) none H')
def sp_unsentS (C U : Addr) : Sp := fun vs H Q E => ∃ ws rest, vs = ws ++ rest ∧ ws.length = (["room"] : List Str).length ∧ rest.length ≤ sizeLine ∧ ∀ p, H p = Option.none → sp_unsent C U (ws ++ [V.ref p]) (upd H p (.tup rest)) Q E
end My
namespace My
open PySem PySem.Spec PyProof.Rows L2
/-- the tiles of a beam from the port p -/
def Trl (g : Gr) (w p : Nat) (L : List (Int × Int)) : Prop := ∃ r c n, (places g.length w)[p]? = some (r, c) ∧ Goes g.length w (enter g r c) n ∧ L = trail (enter g r c) n
theorem Trl.one {g : Gr} {w p : Nat} {L M : List (Int × Int)} (a : Trl g w p L) (b : Trl g w p M) : L = M := by
  obtain ⟨r, c, n, h1, h2, rfl⟩ := a
  obtain ⟨r', c', n', k1, k2, rfl⟩ := b
  rw [h1] at k1
  cases k1
  rw [h2.one k2]
def sp_path (C U : Addr) : SpG := fun vs H cont E => ∃ (x : Addr) (v : V) (w : Nat) (g : Gr), vs = [.ref x, v] ∧ RoomAt C H x g ∧ Grid 8 10 g w ∧ PV H v ∧
  (∀ (p : Nat) (L : List (Int × Int)) (ws : List V) (H' : Hp), v = .int p → Trl g w p L → L.length ≤ 262144 → Same H H' → PrsAt H' ws L → cont ws H') ∧
  (isPort g.length w v = false → ∀ H', Same H H' → E (.ref U) none H')
/-- a loop over a walk in a generator -/
theorem gfor_gen {J : It} {n : Nat} {G : Hp → Prop} {Y : Nat → Hp → V → Hp → Prop} (w : Walk J n G Y) {B : (List V → L2.St → Hp → Prop) → List V → L2.St → V → Hp → Prop} {Qd : List V → L2.St → Hp → Prop} {ys : List V} {σ : L2.St} {H1 : Hp} (Pv : Nat → List V → L2.St → Hp → Prop) (h0 : Pv 0 ys σ H1) (hG : ∀ i ys σ H, i ≤ n → Pv i ys σ H → G H)
    (hs : ∀ i ys σ x H H', i < n → Pv i ys σ H → Y i H x H' → B (Pv (i + 1)) ys σ x H') (hd : ∀ ys σ H, Pv n ys σ H → Qd ys σ H) :
    ∃ W : Nat → Nat → List V → L2.St → Hp → Prop, (∃ m, W 0 m ys σ H1) ∧ ∀ i m ys σ H, W i m ys σ H → (J.stop i H ∧ Qd ys σ H) ∨ (J.go i H ∧ ∃ N : List V → L2.St → Hp → Prop, (∀ ys' σ' H', N ys' σ' H' → ∃ m', m' < m ∧ W (i + 1) m' ys' σ' H') ∧ ∀ x H', J.yld i H x H' → B N ys σ x H') := by
  refine ⟨fun i m ys σ H => m = n - i ∧ i ≤ n ∧ Pv i ys σ H, ⟨n, by simp, Nat.zero_le _, h0⟩, ?_⟩
  rintro i m ys σ H ⟨rfl, hi, p⟩
  have q := hG i ys σ H hi p
  by_cases hlt : i < n
  · exact .inr ⟨w.goes i H hlt q, Pv (i + 1), fun ys' σ' H' p' => ⟨n - (i + 1), by omega, rfl, hlt, p'⟩, fun x H' y => hs i ys σ x H H' hlt p (w.yields i H x H' hlt q y)⟩
  · have e : i = n := by omega
    subst e
    exact .inl ⟨w.stops H q, hd ys σ H p⟩
abbrev s_path : Stmt := (top 30)
abbrev N_path : List Str := ["room", "port", "height", "width", "places", "tiles", "_", "tile"]
theorem sc_path : GScope N_path ["room", "port"] (defScope s_path) := ⟨rfl, rfl, rfl, by decide +kernel, rfl, by decide +kernel, by decide +kernel⟩

section
variable {P : Program} {w : World} {K : PySem.W.Frag} {mg : Str → Option Value} {base : Heap}
theorem ok_path {f C fI U0 : Addr} {fd : FuncData} (F : Fun K "path" "path" s_path f fd) (T : RoomT K mg C fI) (g_check_port : GF P w K mg base "check_port" 3 (sp_port C U0)) (g_port_places : GF P w K mg base "port_places" 1 sp_places) (g_run_beam : GF P w K mg base "run_beam" 2 (sp_run K))
    (p_rows : PR P w K mg base C "rows" 1 (sp_rows C)) (p_size : PR P w K mg base C "size" 1 (sp_size C)) : GFn P w K mg base 4 f fd ["room", "port"] (sp_path C U0) := by
  obtain ⟨oc, od, kV, doc, pm, an, cdv, ct, osl, rfl, lk, hcd⟩ := F.ex
  refine gfn_of lk hcd sc_path (fun vs H Q E h => ?_) (fun A outer s H vs Q E pn hr h => ?_)
  · obtain ⟨x, v, ww, g, rfl, _⟩ := h
    rfl
  · obtain ⟨x, v, ww, g, rfl, R, G, hv, q1, q2⟩ := h
    refine ⟨_, (gss_cons (gs_ps (ps_expr (pe_c g_check_port (hr.mono (by decide)) (passes_call takes_gcx (fun _ _ _ _ h => h)) (pa_cons (pv 0) (pa_cons (pv 1) pa_nil)))))
    (gss_cons (gs_ps (ps_asg (pe_pr (pv 0) T.cl p_size (hr.mono (by decide))) (pg_tup rfl (pgs_cons (pg_name (i := 2) sc_path.nd rfl (Or.inl rfl)) (pgs_cons (pg_name (i := 3) sc_path.nd rfl (Or.inl rfl)) pgs_nil)))))
    (gss_cons (gs_ps (ps_set (i := 4) sc_path.nd rfl (Or.inl rfl) (pe_c g_port_places (hr.mono (by decide)) passL (pa_cons (pv 2) (pa_cons (pv 3) pa_nil)))))
    (gss_cons (gs_ps (ps_asg (pe_c g_run_beam (hr.mono (by decide)) passL (pa_cons (pe_pr (pv 0) T.cl p_rows (hr.mono (by decide))) (pa_cons (pe_ix ix_list (pv 4) (pv 1) (fun _ _ => rfl)) pa_nil))) (pg_tup rfl (pgs_cons (pg_name (i := 5) sc_path.nd rfl (Or.inl rfl)) (pgs_cons (pg_name (i := 6) sc_path.nd rfl (Or.inl rfl)) (pgs_cons (pg_name (i := 6) sc_path.nd rfl (Or.inl rfl)) pgs_nil))))))
    (gss_cons (gs_for owns_gcx rfl (pi_list (pv 5)) (pg_name (i := 7) sc_path.nd rfl (Or.inl rfl)) (gss_cons (gs_yield (pv 7)) gss_nil))
    gss_nil))))), ?_⟩
    have hgm := G.hm
    have hwm := G.wm
    refine ⟨_, rfl, _, rfl, x, v, ww, g, rfl, R, G, hv, fun hp => ?_, fun hp => q2 hp _ (Same.refl H)⟩
    obtain ⟨i, rfl, i0, i1⟩ := isNum_true hp
    obtain ⟨p, rfl⟩ : ∃ p : Nat, i = p := ⟨i.toNat, by omega⟩
    have hpp : p < 2 * (g.length + ww) := by omega
    obtain ⟨rc, hrc⟩ : ∃ rc, (places g.length ww)[p]? = some rc := ⟨(places g.length ww)[p]'(by rw [places_len]; exact hpp), List.getElem?_eq_getElem _⟩
    obtain ⟨r, c⟩ := rc
    have hb := places_beside (List.mem_of_getElem? hrc)
    obtain ⟨dx, fs, hx⟩ := R.ins
    refine ⟨_, rfl, x, dx, fs, rfl, hx, x, ww, g, rfl, R, G, fun a1 ha1 => ?_⟩
    have s1 := Same.new (o := .tup [.int g.length, .int ww]) ha1
    refine ⟨a1, _, rfl, SqT.of upd_same, rfl, _, _, rfl, _, _, rfl, rfl, ?_⟩
    refine ⟨_, rfl, _, rfl, g.length, ww, rfl, by omega, by omega, fun pp ws H2 hpp2 s2 e2 pr2 => ?_⟩
    have s12 := s1.trans s2
    obtain ⟨wv, hwv, a0, rfl, ha0⟩ := Paired.nth2 pr2 hrc
    refine ⟨_, rfl, x, dx, fs, rfl, s12 _ _ hx, x, g, rfl, R.same s12, fun t ht => ?_⟩
    refine ⟨_, rfl, _, rfl, pp, _, _, _, rfl, rfl, SqL.of e2, atI_nat hwv, t, a0, ww, g, r, c, rfl, SqT.of ht, G, ha0, hb, fun n pr tt o l wt H3 hn n9 hpr s3 e1 et pt eo el => ?_⟩
    refine ⟨pr, _, rfl, SqT.of e1, rfl, _, _, rfl, _, _, rfl, _, _, rfl, rfl, ?_⟩
    have lwt : wt.length = n := by rw [pt.len, trail_len]
    refine ⟨_, rfl, tt, rfl, ⟨_, SqL.of et⟩, gfor_gen (walk_list (xs := wt)) (fun i ys σ H' => ys = wt.take i ∧ H' = H3 ∧ ∃ v7, σ = [some (.ref x), some (.int p), some (.int g.length), some (.int ww), some (.ref pp), some (.ref tt), some (.ref l), v7]) ⟨rfl, rfl, none, rfl⟩ (fun i ys σ H' _ m => by rw [m.2.1]; exact SqL.of et) ?_ ?_⟩
    · rintro i ys σ u H4 H5 hi ⟨rfl, rfl, v7, rfl⟩ ⟨rfl, hu⟩
      refine ⟨Nat.lt_of_le_of_lt (show (wt.take i).length ≤ 262144 by rw [List.length_take]; omega) (by decide), _, rfl, ?_, rfl, _, rfl⟩
      rw [List.take_succ_eq_append_getElem hi, (List.getElem?_eq_some_iff.mp hu).2]
    · rintro ys σ H4 ⟨rfl, rfl, v7, rfl⟩
      rw [List.take_length]
      exact q1 p _ wt _ rfl ⟨r, c, n, hrc, hn, rfl⟩ (by rw [trail_len]; exact n9) (s12.trans s3) pt
end
end My
namespace My
open PySem PySem.Spec PyProof.Rows L2
/-! a beam sent back in the room with all mirrors turned goes its way back -/
def BS.rev (x : BS) : BS := ⟨flipG x.g, x.r - x.a, x.c - x.b, -x.a, -x.b⟩
theorem thr_neg (s : Sg) (a b : Int) : (s.thr (-a) (-b)) = (-(s.thr a b).1, -(s.thr a b).2) := by
  cases s <;> simp [Sg.thr]
theorem rowAt_flip (g : Gr) (r : Nat) : rowAt (flipG g) r = (rowAt g r).map Sg.turn := by
  unfold rowAt flipG
  rw [List.getD_eq_getElem?_getD, List.getD_eq_getElem?_getD, List.getElem?_map]
  cases g[r]? <;> rfl
theorem sgAt_flip {h w r c : Nat} {g : Gr} (s : Shp h w g) (hr : r < h) (hc : c < w) : sgAt (flipG g) r c = (sgAt g r c).turn := by
  have e := s.sg hr hc
  unfold sgAt at e ⊢
  rw [rowAt_flip, List.getD_eq_getElem?_getD, List.getElem?_map, e] <;> rfl
theorem Shp.flip {h w : Nat} {g : Gr} (s : Shp h w g) : Shp h w (flipG g) := by
  refine ⟨by rw [flip_len]; exact s.1, fun l hl => ?_⟩
  obtain ⟨m, hm, rfl⟩ := List.mem_map.mp hl
  rw [List.length_map]
  exact s.2 m hm
theorem flip_put {h w r c : Nat} {g : Gr} (s : Shp h w g) (hr : r < h) (hc : c < w) : putAt (flipG g) r c = flipG (putAt g r c) := by
  unfold putAt
  rw [sgAt_flip s hr hc, rowAt_flip]
  unfold flipG
  rw [List.map_set, List.map_set]
theorem rev_step {h w : Nat} {x : BS} (s : Shp h w x.g) (i : Inn h w x) : x.step.rev.step = x.rev := by
  obtain ⟨g, r, c, a, b⟩ := x
  obtain ⟨i1, i2, i3, i4⟩ := i
  dsimp only at i1 i2 i3 i4 s
  have hr : r.toNat < h := by omega
  have hc : c.toNat < w := by omega
  unfold BS.rev BS.step
  dsimp only
  have e1 : r + ((sgAt g r.toNat c.toNat).thr a b).1 - ((sgAt g r.toNat c.toNat).thr a b).1 = r := by omega
  have e2 : c + ((sgAt g r.toNat c.toNat).thr a b).2 - ((sgAt g r.toNat c.toNat).thr a b).2 = c := by omega
  rw [e1, e2, sgAt_flip (s.put hr) hr hc, sgAt_put s hr hc, Sg.turn_turn, flip_put (s.put hr) hr hc, put_put s hr hc, thr_neg, Sg.thr_thr]
  congr 1
theorem rev_way {h w : Nat} {g : Gr} {x : BS} (k : Way h w g x) {n : Nat} (hi : ∀ i, i < n → Inn h w (bst x i)) : ∀ i, i ≤ n → bst (bst x n).rev i = (bst x (n - i)).rev
  | 0, _ => rfl
  | i + 1, h1 => by
    have ih := rev_way k hi i (by omega)
    obtain ⟨m, hm⟩ : ∃ m, n - i = m + 1 := ⟨n - i - 1, by omega⟩
    have e : n - (i + 1) = m := by omega
    show (bst (bst x n).rev i).step = _
    rw [ih, e, hm]
    have kw := k.at_ m fun j hj => hi j (by omega)
    exact rev_step kw.shp (hi m (by omega))
/-- the ports' places are all different -/
def pidx (h w : Nat) (x : Int × Int) : Nat := if x.1 = -1 then x.2.toNat else if x.2 = w then w + x.1.toNat else if x.1 = h then w + h + x.2.toNat else w + h + w + x.1.toNat
theorem pfx_get {f : Nat → Int × Int} {n i : Nat} {x : Int × Int} (h : (pfx f n)[i]? = some x) : i < n ∧ x = f i := by
  unfold pfx at h
  rw [List.getElem?_map] at h
  have hi : i < n := by
    rcases Nat.lt_or_ge i n with z | z
    · exact z
    · rw [List.getElem?_eq_none (by rw [List.length_range]; exact z)] at h
      cases h
  rw [List.getElem?_range hi] at h
  exact ⟨hi, (Option.some.inj h).symm⟩
theorem places_idx {h w i : Nat} {x : Int × Int} (e : (places h w)[i]? = some x) : pidx h w x = i := by
  unfold places at e
  have l1 := pfx_len pUp w
  have l2 := pfx_len (pRt w) h
  have l3 := pfx_len (pDn h) w
  rw [List.getElem?_append, List.length_append, List.length_append, l1, l2, l3] at e
  split at e
  · rw [List.getElem?_append, List.length_append, l1, l2] at e
    split at e
    · rw [List.getElem?_append, l1] at e
      split at e
      · obtain ⟨h1, rfl⟩ := pfx_get e
        unfold pidx pUp
        rw [if_pos rfl]
        dsimp only
        omega
      · obtain ⟨h1, rfl⟩ := pfx_get e
        unfold pidx pRt
        rw [if_neg (by dsimp only; omega), if_pos rfl]
        dsimp only
        omega
    · obtain ⟨h1, rfl⟩ := pfx_get e
      unfold pidx pDn
      rw [if_neg (by dsimp only; omega), if_neg (by dsimp only; omega), if_pos rfl]
      dsimp only
      omega
  · obtain ⟨h1, rfl⟩ := pfx_get e
    unfold pidx pLf
    rw [if_neg (by dsimp only; omega), if_neg (by dsimp only; omega), if_neg (by dsimp only; omega)]
    dsimp only
    omega
theorem first_places {h w p : Nat} {x : Int × Int} (e : (places h w)[p]? = some x) : First (places h w) x p :=
  ⟨e, fun m hm z => by have := places_idx z; have := places_idx e; omega⟩
theorem dir_out {h w : Nat} {x : BS} (h0 : 0 < h) (w0 : 0 < w) (i : Inn h w x) (d : Dir x.a x.b) (o : ¬ Inn h w x.step) : dirIn h x.step.r x.step.c = (-x.step.a, -x.step.b) := by
  obtain ⟨i1, i2, i3, i4⟩ := i
  have d2 := d.thr (sgAt x.g x.r.toNat x.c.toNat)
  have e1 : x.step.r = x.r + x.step.a := rfl
  have e2 : x.step.c = x.c + x.step.b := rfl
  have d3 : Dir x.step.a x.step.b := d2
  unfold Inn at o
  rw [e1, e2] at o ⊢
  generalize x.step.a = u at d3 o ⊢
  generalize x.step.b = v at d3 o ⊢
  unfold dirIn
  rcases d3 with ⟨rfl, rfl⟩ | ⟨rfl, rfl⟩ | ⟨rfl, rfl⟩ | ⟨rfl, rfl⟩
  · rw [if_neg (by omega), if_pos (by omega)]
    rfl
  · rw [if_pos (by omega)]
    rfl
  · rw [if_neg (by omega), if_neg (by omega), if_neg (by omega)]
    rfl
  · rw [if_neg (by omega), if_neg (by omega), if_pos (by omega)]
    rfl
/-- THE WAY BACK: in the room afterwards, turned, from the port where it left, a beam leaves where it came in, on the same tiles backwards, and leaves the room before, turned -/
theorem Ray.back {g : Gr} {w p n j : Nat} {y : BS} (G : Grid 8 10 g w) (r : Ray g w p n j y) : ∃ z, Ray (flipG y.g) w j n p z ∧ z.g = flipG g ∧ ∀ L, Trl g w p L → Trl (flipG y.g) w j L.reverse := by
  obtain ⟨a, c, h1, h2, ey⟩ := r.ex
  have fj := r.first
  have hb := places_beside (List.mem_of_getElem? h1)
  have k : Way g.length w g (enter g a c) := ⟨⟨rfl, G.ln⟩, rfl, enter_dir g a c⟩
  have n0 : 0 < n := by
    rcases Nat.eq_zero_or_pos n with z | z
    · rw [z] at h2
      exact absurd (enter_in G.h0 G.w0 hb) h2.1
    · exact z
  obtain ⟨m, rfl⟩ : ∃ m, n = m + 1 := ⟨n - 1, by omega⟩
  have km := k.at_ m fun i hi => h2.2 i (by omega)
  have hl : y.g.length = g.length := by
    rw [ey]
    exact (k.at_ (m + 1) h2.2).shp.1
  have hout : dirIn g.length y.r y.c = (-y.a, -y.b) := by
    rw [ey]
    exact dir_out G.h0 G.w0 (h2.2 m (by omega)) km.dir h2.1
  have fl : (flipG y.g).length = g.length := by rw [flip_len, hl]
  have ez : enter (flipG y.g) y.r y.c = y.rev := by
    unfold enter BS.rev
    rw [fl, hout]
    dsimp only
    congr 1
  have back := rev_way k (n := m + 1) h2.2
  rw [← ey] at back
  have pos : ∀ i, i < m + 1 → (bst y.rev i).r = (bst (enter g a c) (m - i)).r ∧ (bst y.rev i).c = (bst (enter g a c) (m - i)).c := fun i hi => by
    rw [back i (by omega)]
    have e : m + 1 - i = (m - i) + 1 := by omega
    rw [e]
    constructor
    · show (bst (enter g a c) (m - i)).step.r - (bst (enter g a c) (m - i)).step.a = _
      have : (bst (enter g a c) (m - i)).step.r = (bst (enter g a c) (m - i)).r + (bst (enter g a c) (m - i)).step.a := rfl
      omega
    · show (bst (enter g a c) (m - i)).step.c - (bst (enter g a c) (m - i)).step.b = _
      have : (bst (enter g a c) (m - i)).step.c = (bst (enter g a c) (m - i)).c + (bst (enter g a c) (m - i)).step.b := rfl
      omega
  have last : bst y.rev (m + 1) = (enter g a c).rev := by
    rw [back (m + 1) (by omega), Nat.sub_self] <;> rfl
  have lr : (bst y.rev (m + 1)).r = a ∧ (bst y.rev (m + 1)).c = c := by
    rw [last]
    constructor
    · show a + (dirIn g.length a c).1 - (dirIn g.length a c).1 = a
      omega
    · show c + (dirIn g.length a c).2 - (dirIn g.length a c).2 = c
      omega
  have goes : Goes g.length w y.rev (m + 1) := by
    refine ⟨fun z => ?_, fun i hi => ?_⟩
    · unfold Inn at z
      rw [lr.1, lr.2] at z
      rcases hb with ⟨q, _⟩ | ⟨q, _⟩ | ⟨q, _⟩ | ⟨q, _⟩ <;> omega
    · have := h2.2 (m - i) (by omega)
      unfold Inn at this ⊢
      rw [(pos i hi).1, (pos i hi).2]
      exact this
  refine ⟨bst y.rev (m + 1), ⟨⟨y.r, y.c, by rw [fl]; exact fj.1, by rw [fl, ez]; exact goes, by rw [ez]⟩, ?_⟩, ?_, fun L hL => ?_⟩
  · rw [fl, lr.1, lr.2]
    exact first_places h1
  · rw [last] <;> rfl
  · obtain ⟨a', c', n', q1, q2, rfl⟩ := hL
    rw [h1] at q1
    cases q1
    obtain rfl := q2.one h2
    refine ⟨y.r, y.c, m + 1, by rw [fl]; exact fj.1, by rw [fl, ez]; exact goes, ?_⟩
    rw [ez]
    apply List.ext_getElem?
    intro i
    unfold trail
    by_cases hi : i < m + 1
    · rw [List.getElem?_reverse (by rw [List.length_map, List.length_range]; exact hi), List.length_map, List.length_range, List.getElem?_map, List.getElem?_map, List.getElem?_range (by omega), List.getElem?_range hi]
      have e : m + 1 - 1 - i = m - i := by omega
      rw [e]
      show some ((bst (enter g a c) (m - i)).r, (bst (enter g a c) (m - i)).c) = some ((bst y.rev i).r, (bst y.rev i).c)
      rw [(pos i hi).1, (pos i hi).2]
    · rw [List.getElem?_eq_none (by rw [List.length_reverse, List.length_map, List.length_range]; omega), List.getElem?_eq_none (by rw [List.length_map, List.length_range]; omega)]
theorem Sent.grid {w : Nat} {g k : Gr} {ps js : List Nat} (s : Sent w g ps js k) (G : Grid 8 10 g w) : Grid 8 10 k w ∧ k.length = g.length := by
  induction s with
  | nil g => exact ⟨G, rfl⟩
  | cons r t ih =>
    obtain ⟨G2, e⟩ := r.grid G
    obtain ⟨G3, e3⟩ := ih G2
    exact ⟨G3, e3.trans e⟩
/-- beams undone: in the room afterwards, turned, from the exits backwards -/
theorem Sent.back {w : Nat} {g k : Gr} {ps js : List Nat} (s : Sent w g ps js k) (G : Grid 8 10 g w) : Sent w (flipG k) js.reverse ps.reverse (flipG g) := by
  induction s with
  | nil g => exact .nil _
  | @cons g k p n j y ps js r t ih =>
    obtain ⟨z, hz, e, _⟩ := r.back G
    have i := ih (r.grid G).1
    rw [List.reverse_cons, List.reverse_cons, ← e]
    exact i.snoc hz
theorem Sent.len {w : Nat} {g k : Gr} {ps js : List Nat} (s : Sent w g ps js k) : ps.length = js.length := by
  induction s with
  | nil g => rfl
  | cons r t ih => rw [List.length_cons, List.length_cons, ih]
theorem sent_ex {w : Nat} : ∀ {g : Gr} {ps : List Nat}, Grid 8 10 g w → (∀ p ∈ ps, p < 2 * (g.length + w)) → ∃ js k, Sent w g ps js k
  | g, [], _, _ => ⟨[], g, .nil g⟩
  | g, p :: ps, G, h => by
    obtain ⟨n, j, y, r, _⟩ := ray_ex G (h p List.mem_cons_self)
    obtain ⟨G2, e⟩ := r.grid G
    obtain ⟨js, k, t⟩ := sent_ex (ps := ps) G2 fun q hq => by rw [e]; exact h q (List.mem_cons_of_mem _ hq)
    exact ⟨j :: js, k, .cons r t⟩
end My
namespace My
open PySem PySem.Spec PyProof.Rows L2
/-- Room.parse, as the law calls it -/
structure ParseM (P : Program) (w : World) (K : PySem.W.Frag) (mg : Str → Option Value) (base : Heap) (C : Addr) : Prop where
  ex : ∃ (mc : Value) (p g : Addr), ClX.CRead K C mc ∧ ClX.CMet K C mc "parse" p g ∧ FnR P w K mg base (L2.CX P w) 5 g (sp_parse C)
def sp_lroom (K : PySem.W.Frag) (C : Addr) : Sp := fun vs H Q _ => ∃ (a w : Nat) (g : List (List Sg)), vs = [.ref a] ∧ SqL K H a (g.map lineV) ∧ Grid 8 10 g w ∧ ∀ x H', H x = none → Same H H' → RoomN C H H' x g → Q (.ref x) H'
abbrev s_l_room : Stmt := (top 43)
abbrev N_l_room : List Str := ["_law_lines_here"]
theorem sc_l_room : FnScope N_l_room ["_law_lines_here"] (defScope s_l_room) := ⟨rfl, rfl, rfl, by decide +kernel, rfl, by decide +kernel, by decide +kernel⟩

section
variable {P : Program} {w : World} {K : PySem.W.Frag} {mg : Str → Option Value} {base : Heap}
theorem ok_lroom {f C fI : Addr} {fd : FuncData} (F : Fun K "_law_room" "_law_room" s_l_room f fd) (T : RoomT K mg C fI) (PM : ParseM P w K mg base C) : FnOk P w K mg base (L2.CX P w) 6 f fd ["_law_lines_here"] (sp_lroom K C) := by
  refine F.okX sc_l_room (fun vs H Q E h => ?_) (fun cdv A outer s H vs Q E hr h => ?_)
  · obtain ⟨a, ww, g, rfl, _⟩ := h
    rfl
  · obtain ⟨a, ww, g, rfl, hS, G, q⟩ := h
    obtain ⟨mc, p, fp, cr, cm, cF⟩ := PM.ex
    refine ⟨_, (pss_one (ps_ret (ClX.pe_cmeth (pe_gr T.g_Room) cr cm cF (hr.mono (by decide)) passL (pa_cons (pe_join pe_str (pv 0)) pa_nil)))), ?_⟩
    have hgm := G.hm
    have hgn : g ≠ [] := fun z => by rw [z] at G; exact absurd G.h0 (by simp)
    have hs := lines_sum g 8 (fun l hl => by rw [G.ln l hl]; exact G.wm)
    refine ⟨rfl, ⟨_, rfl⟩, _, rfl, _, a, g.map lstr, rfl, rfl, .inl (by rw [← lines_str]; exact hS), ?_, ?_⟩
    · have e1 : ("\n" : Str).length = 1 := by decide +kernel
      rw [List.length_map, e1]
      omega
    · rw [join_g]
      exact ⟨ww, g, rfl, G, q⟩
end
end My
namespace My
open PySem PySem.Spec PyProof.Rows L2
/-! the program's and the law's defs, over data -/
def Ov (F H H' : Hp) : Hp := fun b => match H b with
  | none => H' b
  | some _ => match H' b with
    | some (.tup xs) => some (.tup xs)
    | _ => F b
section
variable {B : Org} {C U : Addr} {Γ : Ct} {S S' : Fp} {σ : L2.St} {F F' H H' : Hp} {Q : VK} {v : V} {x : Da} {te ta tb : TE} {Kf : PySem.W.Frag} {K : Ct → Rs → Prop} {E : XK}
theorem ov_new {b : Addr} (h : H b = none) : Ov F H H' b = H' b := by
  unfold Ov
  rw [h]
theorem ov_tup {b : Addr} {xs : List V} (h : H' b = some (.tup xs)) : Ov F H H' b = some (.tup xs) := by
  unfold Ov
  cases H b with
  | none => exact h
  | some o =>
    dsimp only
    rw [h]
theorem ov_gr (s : Same F H) (t : Same H H') : Gr4 F H (Ov F H H') H' := by
  refine ⟨fun b o h => ?_, fun b o h => ?_, t, fun b h m => ?_⟩
  · have h1 := s _ _ h
    have h2 := t _ _ h1
    unfold Ov
    rw [h1]
    dsimp only
    rw [h2]
    cases o <;> first | rfl | exact h
  · unfold Ov at h
    cases e : H b with
    | none =>
      rw [e] at h
      exact h
    | some u =>
      rw [e] at h
      have h2 := t _ _ e
      rw [h2] at h ⊢
      cases u <;> first | exact h | (have := s _ _ h; rw [e] at this; exact this)
  · unfold Ov
    cases e : H b with
    | none => exact absurd e m.1
    | some u =>
      have h2 := t _ _ e
      rw [e] at m
      dsimp only
      rw [h2]
      cases u <;> first | exact h | exact absurd rfl (m.2 _)
theorem nw_ov : Same (Nw H H') (Ov F H H') := fun b o h => by
  obtain ⟨h1, h2⟩ := nw_some h
  rcases h2 with z | ⟨xs, rfl⟩
  · rw [ov_new z]
    exact h1
  · exact ov_tup h1
theorem RoomN.ov {z : Addr} {g : Gr} (r : RoomN C H H' z g) : RoomAt C (Ov F H H') z g := RoomAt.same r nw_ov
theorem PrsAt.ov {vs : List V} {ps : List (Int × Int)} (r : PrsAt H' vs ps) : PrsAt (Ov F H H') vs ps := r.tx fun _ _ h => ov_tup h
theorem w_pr {sp : Sp} (h : W B C Γ ta fun Γ1 r => ∃ g, r = .d (.room g) ∧ WF B C Γ1 sp E0 [r] K) : W B C Γ (tPr C sp ta) K := fun S σ F H Q e c =>
  h S σ F H _ e fun Γ1 S1 F1 H1 r T v e1 m1 rv fr ⟨g, er, k⟩ => by
    subst er
    have rv1 := Rvs.one rv
    obtain ⟨x, w, rfl, R, G⟩ := rv.2.roomI
    obtain ⟨dx, fs, hx⟩ := (R.same e1.sub).ins
    exact ⟨x, dx, fs, rfl, hx, k S1 σ F1 H1 _ T Q e1 rv1 (Cont.mv c m1)⟩
theorem w_callO {sp : Sp} {tf : TE} {t : TA} (h : W B C Γ tf fun Γ1 r => ∃ g, r = .d (.room g) ∧ WA B C Γ1 t fun Γ2 rs => WF B C Γ2 sp E (r :: rs) K) : W B C Γ (tCO C sp E tf t) K := fun S σ F H Q e c =>
  h S σ F H _ e fun Γ1 S1 F1 H1 r T v e1 m1 rv fr ⟨g, er, k⟩ => by
    subst er
    obtain ⟨x, w, rfl, R, G⟩ := rv.2.roomI
    refine ⟨x, rfl, k S1 σ F1 H1 _ e1 fun Γ2 S2 F2 H2 rs U vs e2 m2 rs2 fr2 k2 => ?_⟩
    obtain ⟨dx, fs, hx⟩ := (R.same (m2.fr.trans e2.sub)).ins
    refine ⟨⟨dx, fs, hx⟩, k2 S2 σ F2 H2 _ (T ++ U) Q e2 (.cons (rv.mv m2) rs2 fun b hb => ?_) (Cont.mv c (m1.trans m2))⟩
    rw [rv.1] at hb
    cases hb
/-! the law's source -/
theorem src_env {o : Option Addr} {i : Nat} {a : Addr} (e : Env B C Γ S σ F H) (hi : Γ[i]? = some (.mo (MSo o))) (ha : σ[i]? = some (some (.ref a))) (k : Kp a H H') (d : DOk H' a) : DOk H a ∧ S i = [a] ∧ Env B C Γ S σ F H' ∧ Mv S F H S F H' := by
  obtain ⟨a', ha', hS, hd, hpn⟩ := e.sl i _ hi
  rw [ha] at ha'
  cases ha'
  have hF : F a = none := e.fz i a (by rw [hS]; exact List.mem_singleton.mpr rfl)
  have ch : Chg F H (S i) F H' (S i) := by
    refine ⟨Same.refl F, k.same e.sub hF, fun b o n q => k b o (fun z => n (by rw [hS, z]; exact List.mem_singleton.mpr rfl)) q, fun _ q _ => q, fun b hb => ?_, fun b hb => e.fz i b hb, fun b hb => .inl hb⟩
    rw [hS] at hb
    rw [List.mem_singleton.mp hb]
    obtain ⟨xs, hx⟩ := d.some
    rw [hx]
    exact .lst
  obtain ⟨e2, m2⟩ := Env.chg (m' := MSo o) e hi ha ch ⟨hS, d, hpn⟩
  have eΓ : Γ.set i (.mo (MSo o)) = Γ := by
    apply List.ext_getElem?
    intro j
    by_cases z : j = i
    · rw [z, hi, List.getElem?_set_self (List.getElem?_eq_some_iff.mp hi).1]
    · rw [List.getElem?_set_ne (Ne.symm z)]
  have eS : setS S i (S i) = S := by
    funext j
    by_cases z : j = i
    · rw [z, setS_i]
    · rw [setS_j z]
  rw [eΓ, eS] at e2
  rw [eS] at m2
  exact ⟨hd, hS, e2, m2⟩
theorem wf_below {o : Option Addr} {i : Nat} {n : Int} (hi : Γ[i]? = some (.mo (MSo o))) (n0 : 0 < n) (n1 : n < 1152921504606846976) (k : ∀ r : Nat, (r : Int) < n → K Γ (.d (.int r))) : WF B C Γ sp_below E [.al i, .d (.int n)] K := fun S σ F H vs T Q e rv c => by
  obtain ⟨v, w, T', U', rfl, r1, r2⟩ := vs2 rv
  obtain rfl := r2.2.intI
  obtain ⟨a, ha, hS, hd, hpn⟩ := e.sl i _ hi
  rw [r1.2] at ha
  cases ha
  refine ⟨a, n, rfl, hd, n0, n1, fun r H' h0 h1 kp d => ?_⟩
  obtain ⟨_, _, e2, m2⟩ := src_env e hi r1.2 kp d
  obtain ⟨m, rfl⟩ : ∃ m : Nat, r = m := ⟨r.toNat, by omega⟩
  exact c Γ S F H' (.d (.int m)) [] _ e2 m2 ⟨rfl, .int _⟩ (fun _ h => nomatch h) (k m h1)
def dLn (l : List Sg) : Da := .str (lstr l)
def dLns (g : Gr) : List Da := g.map dLn
theorem dLns_len {g : Gr} : (dLns g).length = g.length := by
  unfold dLns
  rw [List.length_map]
theorem dLns_inv {g : Gr} {i : Nat} (h : (dLns g)[i]? = some x) : ∃ l, g[i]? = some l ∧ x = .str (lstr l) := by
  unfold dLns at h
  rw [List.getElem?_map] at h
  cases e : g[i]? with
  | none => rw [e] at h; cases h
  | some l =>
    rw [e] at h
    exact ⟨l, rfl, (Option.some.inj h).symm⟩
theorem ats_lines {g : Gr} : Ats C F (g.map lineV) (dLns g) := by
  unfold dLns
  refine ⟨by rw [List.length_map, List.length_map], fun i x d h1 h2 => ?_⟩
  rw [List.getElem?_map] at h1 h2
  cases e : g[i]? with
  | none => rw [e] at h1; cases h1
  | some l =>
    rw [e] at h1 h2
    cases h1
    cases h2
    exact .str _
theorem ats_lines_inv {xs : List V} {g : Gr} (h : Ats C F xs (dLns g)) : xs = g.map lineV := by
  apply List.ext_getElem?
  intro i
  rw [List.getElem?_map]
  have hl := h.len
  unfold dLns at hl
  rw [List.length_map] at hl
  cases e : g[i]? with
  | none =>
    have : g.length ≤ i := by
      rcases Nat.lt_or_ge i g.length with z | z
      · rw [List.getElem?_eq_getElem z] at e; cases e
      · exact z
    rw [List.getElem?_eq_none (by omega)] <;> rfl
  | some l =>
    have e2 : (dLns g)[i]? = some (dLn l) := by
      unfold dLns
      rw [List.getElem?_map, e] <;> rfl
    obtain ⟨x, h1, h2⟩ := h.get e2
    rw [h1, h2.strI] <;> rfl
theorem wf_lines {o : Option Addr} {i : Nat} {m t : Nat} (hi : Γ[i]? = some (.mo (MSo o))) (m0 : 0 < m) (m1 : m ≤ 8) (t1 : t ≤ 10) (k : ∀ g w, Grid m t g w → K Γ (.mo (ML (dLns g)))) : WF B C Γ sp_lines E [.al i, .d (.int m), .d (.int t)] K := fun S σ F H vs T Q e rv c => by
  obtain ⟨v, w, z, T', U', V', rfl, r1, r2, r3⟩ := vs3 rv
  obtain rfl := r2.2.intI
  obtain rfl := r3.2.intI
  obtain ⟨a, ha, hS, hd, hpn⟩ := e.sl i _ hi
  rw [r1.2] at ha
  cases ha
  refine ⟨a, m, t, rfl, hd, m0, m1, t1, fun g w p H' G hp kp d hl => ?_⟩
  obtain ⟨_, _, e2, m2⟩ := src_env e hi r1.2 kp d
  refine c Γ S F H' (.mo (ML (dLns g))) [p] _ e2 m2 ⟨p, rfl, ⟨rfl, _, hl, ats_lines⟩, fun b hb => ?_⟩ (fun b hb => by rw [List.mem_singleton.mp hb]; exact hp) (k g w G)
  rw [List.mem_singleton.mp hb]
  exact ⟨e.sub.free hp, fun j hj => (e.lv hj).1 hp⟩
theorem wf_lroom {r : Rs} {w : Nat} {g : Gr} (hr : VwL Γ r (dLns g)) (G : Grid 8 10 g w) (k : K Γ (.d (.room g))) : WF B C Γ (sp_lroom Kf C) E [r] K := fun S σ F H vs T Q e rv c => by
  obtain ⟨v, T', rfl, r1⟩ := vs1 rv
  obtain ⟨a, xs, rfl, h2, h3⟩ := e.vwL r1 hr
  obtain rfl := ats_lines_inv h3
  refine ⟨a, w, g, rfl, SqL.of h2, G, fun x H' hx s rn => ?_⟩
  exact c.ext e (ov_gr e.sub s) (.room rn.ov G) k
theorem wc_lenO {g : Gr} {w : Nat} (G : Grid 8 10 g w) (k : K Γ (.d (.int ((2 * (g.length + w) : Nat) : Int)))) : WC B C Γ (fun xs H Q => ∃ (a dx : Addr) (fs : List (Str × V)), xs = [.ref a] ∧ H a = some (.ins C dx fs) ∧ sp_len C [.ref a] H (fun v H' => ∃ n : Int, v = .int n ∧ 0 ≤ n ∧ n < 2 ^ 63 ∧ Q (.int n) H') E0) [.d (.room g)] K := fun S σ F H vs T Q e rv c => by
  obtain ⟨v, T', rfl, r1⟩ := vs1 rv
  obtain ⟨x, w', rfl, R, G'⟩ := r1.2.roomI
  have R := R.same e.sub
  obtain ⟨dx, fs, hx⟩ := R.ins
  have h1 := G.hm
  have h2 := G.wm
  exact ⟨x, dx, fs, rfl, hx, x, w, g, rfl, R, G, _, rfl, by omega, by omega, c.here e (.int _) k⟩
end
end My
namespace My
open PySem PySem.Spec PyProof.Rows L2
/-! beams, over data -/
def dP (p : Int × Int) : Da := .tup [.int p.1, .int p.2]
def dPs (ps : List (Int × Int)) : List Da := ps.map dP
def dNs (ps : List Nat) : List Da := ps.map fun (n : Nat) => .int n
/-- two values, the same data, not deep -/
inductive Dk : Nat → Da → Prop where
  | non {n : Nat} : Dk n .non
  | bl {n : Nat} (b : Bool) : Dk n (.bl b)
  | int {n : Nat} (i : Int) : Dk n (.int i)
  | str {n : Nat} (z : Str) : Dk n (.str z)
  | room {n : Nat} (g : Gr) : Dk n (.room g)
  | tup {n : Nat} {l : List Da} (h : ∀ d ∈ l, Dk n d) : Dk (n + 1) (.tup l)
  | lst {n : Nat} {l : List Da} (h : ∀ d ∈ l, Dk n d) : Dk (n + 1) (.lst l)
def DDa (C : Addr) (n : Nat) : L2.Eqv := fun x y H => ∃ d, At C H x d ∧ At C H y d ∧ Dk n d
def RRm (C : Addr) (a b : Addr) (H : Hp) : Prop := ∃ g, RoomAt C H a g ∧ RoomAt C H b g
theorem mon_da {C : Addr} {n : Nat} : L2.Mon (DDa C n) := fun x y H H' e ⟨d, h1, h2, h3⟩ => ⟨d, h1.same e, h2.same e, h3⟩
theorem eqG_da {X : Cx} {C : Addr} {m : Nat} (h : L2.EqG X m (L2.DIns C (RRm C))) : ∀ n, L2.EqG X (m + n) (DDa C n)
  | 0 => fun A pins s σ H x y u v sb I rx ry ⟨d, a, b, k⟩ => by
    have fl : flatV x = true → eqV x y = true → flatV y = true → _ := fun h1 h2 h3 => (L2.eqG_flat.mono (Nat.zero_le (m + 0))) A pins s σ H x y u v sb I rx ry ⟨h1, h3, h2⟩
    cases k with
    | non => cases a; cases b; exact fl rfl rfl rfl
    | bl q => cases a; cases b; exact fl rfl (by simp [eqV]) rfl
    | int q => cases a; cases b; exact fl rfl (by simp [eqV]) rfl
    | str q => cases a; cases b; exact fl rfl (by simp [eqV]) rfl
    | room g =>
      obtain ⟨p, w, rfl, R, _⟩ := a.roomI
      obtain ⟨q, w', rfl, R', _⟩ := b.roomI
      obtain ⟨dx, fs, hx⟩ := R.ins
      obtain ⟨dy, gs, hy⟩ := R'.ins
      exact h A pins s σ H _ _ u v sb I rx ry ⟨p, q, dx, dy, fs, gs, rfl, rfl, hx, hy, g, R, R'⟩
  | n + 1 => fun A pins s σ H x y u v sb I rx ry ⟨d, a, b, k⟩ => by
    have ih := eqG_da h n
    have fl : flatV x = true → eqV x y = true → flatV y = true → _ := fun h1 h2 h3 => (L2.eqG_flat.mono (Nat.zero_le (m + (n + 1)))) A pins s σ H x y u v sb I rx ry ⟨h1, h3, h2⟩
    cases k with
    | non => cases a; cases b; exact fl rfl rfl rfl
    | bl q => cases a; cases b; exact fl rfl (by simp [eqV]) rfl
    | int q => cases a; cases b; exact fl rfl (by simp [eqV]) rfl
    | str q => cases a; cases b; exact fl rfl (by simp [eqV]) rfl
    | room g =>
      obtain ⟨p, w, rfl, R, _⟩ := a.roomI
      obtain ⟨q, w', rfl, R', _⟩ := b.roomI
      obtain ⟨dx, fs, hx⟩ := R.ins
      obtain ⟨dy, gs, hy⟩ := R'.ins
      exact (h.mono (Nat.le_add_right m (n + 1))) A pins s σ H _ _ u v sb I rx ry ⟨p, q, dx, dy, fs, gs, rfl, rfl, hx, hy, g, R, R'⟩
    | tup k =>
      obtain ⟨p, xs, rfl, h1, h2⟩ := a.tupI
      obtain ⟨q, ys, rfl, h3, h4⟩ := b.tupI
      refine L2.eqG_tup mon_da ih A pins s σ H _ _ u v sb I rx ry ⟨p, q, xs, ys, rfl, rfl, SqT.of h1, SqT.of h3, h2.len.trans h4.len.symm, fun i x y e1 e2 => ?_⟩
      have hi := (List.getElem?_eq_some_iff.mp e1).1
      rw [h2.len] at hi
      have hd := List.getElem?_eq_getElem hi
      exact ⟨_, h2.at_ i x _ e1 hd, h4.at_ i y _ e2 hd, k _ (List.mem_of_getElem? hd)⟩
    | lst k =>
      obtain ⟨p, xs, rfl, h1, h2⟩ := a.lstI
      obtain ⟨q, ys, rfl, h3, h4⟩ := b.lstI
      refine L2.eqG_list mon_da ih A pins s σ H _ _ u v sb I rx ry ⟨p, q, xs, ys, rfl, rfl, h1, h3, h2.len.trans h4.len.symm, fun i x y e1 e2 => ?_⟩
      have hi := (List.getElem?_eq_some_iff.mp e1).1
      rw [h2.len] at hi
      have hd := List.getElem?_eq_getElem hi
      exact ⟨_, h2.at_ i x _ e1 hd, h4.at_ i y _ e2 hd, k _ (List.mem_of_getElem? hd)⟩
/-- the own == of Room, for the items of tuples -/
theorem eqG_room {X : Cx} {C f : Addr} {fd : FuncData} (F : FnOk X.prog X.w X.K X.mg X.base (L2.CX X.prog X.w) 1 f fd ["self", "other"] (sp_eq C)) (m : MOf X.K C "__eq__" f) (hf : PySem.W.isFn X.K (.ref f) = true) (hb : Binds X.K fd ["self", "other"] []) : L2.EqG X 1 (L2.DIns C (RRm C)) :=
  L2.eqG_ins (E := E0) (F.imp (sp' := L2.spEq (RRm C)) fun vs H Q E ⟨a, b, e, ⟨g, h1, h2⟩, q⟩ => ⟨a, b, g, e, h1, .inl ⟨g, h2, by rw [decide_eq_true rfl]; exact q H fun _ _ h => h⟩⟩) m.at_ hf hb passL
theorem op_neT {X : Cx} {C f : Addr} {fd : FuncData} (F : FnOk X.prog X.w X.K X.mg X.base (L2.CX X.prog X.w) 1 f fd ["self", "other"] (sp_eq C)) (m : MOf X.K C "__eq__" f) (hf : PySem.W.isFn X.K (.ref f) = true) (hb : Binds X.K fd ["self", "other"] []) (hr : Room 8 X.A) :
    OpR X (compareOp .NotEq) (rNeG (L2.DTup X.K (DDa C 6))) := op_neG mon_da (eqG_da (eqG_room F m hf hb) 6) hr
theorem op_eqT {X : Cx} {C f : Addr} {fd : FuncData} (F : FnOk X.prog X.w X.K X.mg X.base (L2.CX X.prog X.w) 1 f fd ["self", "other"] (sp_eq C)) (m : MOf X.K C "__eq__" f) (hf : PySem.W.isFn X.K (.ref f) = true) (hb : Binds X.K fd ["self", "other"] []) (hr : Room 8 X.A) :
    OpR X (compareOp .Eq) (L2.rEqG (L2.DTup X.K (DDa C 6))) := L2.op_eqG (L2.rcG_tup mon_da (eqG_da (eqG_room F m hf hb) 6)) hr
section
variable {B : Org} {C U : Addr} {Γ : Ct} {S S' : Fp} {σ : L2.St} {F F' H H' : Hp} {Q : VK} {v : V} {x : Da} {te ta tb : TE} {Kf : PySem.W.Frag} {K : Ct → Rs → Prop} {E : XK}
theorem wr_eqT {l m : List Da} (eq : l = m) (k6 : ∀ d ∈ m, Dk 6 d) (k : K Γ (.d (.bl true))) : WR B C Γ (L2.rEqG (L2.DTup Kf (DDa C 6))) (.d (.tup l)) (.d (.tup m)) K := fun S σ F H v w T U Q e rx ry c => by
  subst eq
  obtain ⟨a, xs, rfl, h2, h3⟩ := e.vwT rx rfl
  obtain ⟨b, ys, rfl, g2, g3⟩ := e.vwT ry rfl
  refine ⟨⟨a, b, xs, ys, rfl, rfl, SqT.of h2, SqT.of g2, h3.len.trans g3.len.symm, fun i x y e1 e2 => ?_⟩, fun H' ex => ?_⟩
  · have hi := (List.getElem?_eq_some_iff.mp e1).1
    rw [h3.len] at hi
    have hd := List.getElem?_eq_getElem hi
    exact ⟨_, (h3.at_ i x _ e1 hd).same e.sub, (g3.at_ i y _ e2 hd).same e.sub, k6 _ (List.mem_of_getElem? hd)⟩
  · exact c.ext e (Gr4.of e.sub ex) (.bl true) k
theorem wr_neT {l : List Da} (k6 : ∀ d ∈ l, Dk 6 d) (k : K Γ (.d (.bl false))) : WR B C Γ (rNeG (L2.DTup Kf (DDa C 6))) (.d (.tup l)) (.d (.tup l)) K := fun S σ F H v w T U Q e rx ry c => by
  obtain ⟨a, xs, rfl, h2, h3⟩ := e.vwT rx rfl
  obtain ⟨b, ys, rfl, g2, g3⟩ := e.vwT ry rfl
  refine ⟨⟨a, b, xs, ys, rfl, rfl, SqT.of h2, SqT.of g2, h3.len.trans g3.len.symm, fun i x y e1 e2 => ?_⟩, fun H' ex => ?_⟩
  · have hi := (List.getElem?_eq_some_iff.mp e1).1
    rw [h3.len] at hi
    have hd := List.getElem?_eq_getElem hi
    exact ⟨_, (h3.at_ i x _ e1 hd).same e.sub, (g3.at_ i y _ e2 hd).same e.sub, k6 _ (List.mem_of_getElem? hd)⟩
  · exact c.ext e (Gr4.of e.sub ex) (.bl false) k
theorem wr_neT' {l m : List Da} (e : l = m) (k6 : ∀ d ∈ m, Dk 6 d) (k : K Γ (.d (.bl false))) : WR B C Γ (rNeG (L2.DTup Kf (DDa C 6))) (.d (.tup l)) (.d (.tup m)) K := by
  subst e
  exact wr_neT k6 k
theorem pv_at (a : At C H v x) (h : (∀ g, x ≠ .room g) ∧ (∀ D, x ≠ .lam D) ∧ ∀ ks vs, x ≠ .dct ks vs) : PV H v := by
  cases a with
  | non => exact .non
  | bl b => exact .bl b
  | int i => exact .int i
  | str z => exact .str z
  | tup q _ _ => exact .tup q
  | lst q _ _ => exact .lst q
  | room _ _ => exact absurd rfl (h.1 _)
  | lam _ _ _ => exact absurd rfl (h.2.1 _)
  | dct _ _ _ _ => exact absurd rfl (h.2.2 _ _)
theorem wf_call {g : Gr} {w p n j : Nat} {y : BS} (G : Grid 8 10 g w) (r : Ray g w p n j y) (k : K Γ (.d (.tup [.int j, .room y.g]))) : WF B C Γ (sp_call C U) E [.d (.room g), .d (.int p)] K := fun S σ F H vs T Q e rv c => by
  obtain ⟨v, w', T', U', rfl, r1, r2⟩ := vs2 rv
  obtain rfl := r2.2.intI
  obtain ⟨x, w2, rfl, R, _⟩ := r1.2.roomI
  refine ⟨x, .int p, w, g, rfl, R.same e.sub, G, .int _, fun p' n' j' y' ep r' q z H' hq hz s eq rn => ?_, fun bad => ?_⟩
  · have ep : p' = p := by
      injection ep with ep
      omega
    subst ep
    obtain ⟨_, rfl, rfl⟩ := r.one r'
    obtain ⟨n2, j2, y2, r2', _, _, wy⟩ := ray_ex G (show p' < 2 * (g.length + w) by
      obtain ⟨r0, c0, h1, _⟩ := r.ex
      have := (List.getElem?_eq_some_iff.mp h1).1
      rw [places_len] at this
      exact this)
    obtain ⟨_, _, rfl⟩ := r.one r2'
    exact c.ext e (ov_gr e.sub s) (.tup' (ov_tup eq) (.cons (.int _) (.cons (.room rn.ov (wy.grid G).1) .nil))) k
  · obtain ⟨r0, c0, h1, _⟩ := r.ex
    have := (List.getElem?_eq_some_iff.mp h1).1
    rw [places_len] at this
    have q : isPort g.length w (.int (p : Nat)) = true := isNum_nat this
    rw [q] at bad
    cases bad
theorem wu_inv {g : Gr} {w : Nat} (G : Grid 8 10 g w) (k : K Γ (.d (.room (flipG g)))) : WU B C Γ (fun x H Q => ∃ (a dx : Addr) (fs : List (Str × V)), x = .ref a ∧ H a = some (.ins C dx fs) ∧ sp_invert C [.ref a] H Q E0) (.d (.room g)) K := fun S σ F H v T Q e rv c => by
  obtain ⟨x, w', rfl, R, _⟩ := rv.2.roomI
  have R := R.same e.sub
  obtain ⟨dx, fs, hx⟩ := R.ins
  exact ⟨x, dx, fs, rfl, hx, x, w, g, rfl, R, G, fun y H' hy s rn => c.ext e (ov_gr e.sub s) (.room rn.ov G.flip) k⟩
theorem wc_boolO {g : Gr} {w : Nat} (G : Grid 8 10 g w) (k : K Γ (.d (.bl (!(tiles Sg.tur g).isEmpty)))) : WC B C Γ (fun xs H Q => ∃ (a dx : Addr) (fs : List (Str × V)), xs = [.ref a] ∧ H a = some (.ins C dx fs) ∧ sp_bool C [.ref a] H (fun v H' => ∃ b, v = .bl b ∧ Q (.bl b) H') E0) [.d (.room g)] K := fun S σ F H vs T Q e rv c => by
  obtain ⟨v, T', rfl, r1⟩ := vs1 rv
  obtain ⟨x, w', rfl, R, _⟩ := r1.2.roomI
  have R := R.same e.sub
  obtain ⟨dx, fs, hx⟩ := R.ins
  exact ⟨x, dx, fs, rfl, hx, x, w, g, rfl, R, G, fun H' s => ⟨_, rfl, c.ext e (Gr4.of e.sub s) (.bl _) k⟩⟩
theorem wr_eqO {g h : Gr} {neg : Bool} (k : K Γ (.d (.bl (decide (g = h) != neg)))) : WR B C Γ (rEqO Kf C (sp_eq C) neg) (.d (.room g)) (.d (.room h)) K := fun S σ F H v w T U Q e rx ry c => by
  obtain ⟨x, w1, rfl, R, _⟩ := rx.2.roomI
  obtain ⟨y, w2, rfl, R', _⟩ := ry.2.roomI
  have R := R.same e.sub
  have R' := R'.same e.sub
  obtain ⟨dx, fs, hx⟩ := R.ins
  obtain ⟨dy, gs, hy⟩ := R'.ins
  exact ⟨x, y, dx, fs, rfl, rfl, hx, .inl ⟨dy, gs, hy⟩, x, y, g, rfl, R, .inl ⟨h, R', _, rfl, c.here e (.bl _) k⟩⟩
theorem wr_neOs {g h : Gr} (e : g = h) (k : K Γ (.d (.bl false))) : WR B C Γ (rEqO Kf C (sp_eq C) true) (.d (.room g)) (.d (.room h)) K := wr_eqO (by rw [decide_eq_true e]; exact k)
theorem wr_eqOs {g h : Gr} (e : g = h) (k : K Γ (.d (.bl true))) : WR B C Γ (rEqO Kf C (sp_eq C) false) (.d (.room g)) (.d (.room h)) K := wr_eqO (by rw [decide_eq_true e]; exact k)
theorem dNs_len {ps : List Nat} : (dNs ps).length = ps.length := by
  unfold dNs
  rw [List.length_map]
theorem dNs_snoc {ps : List Nat} {p : Nat} : dNs (ps ++ [p]) = dNs ps ++ [.int p] := by
  unfold dNs
  rw [List.map_append] <;> rfl
theorem dNs_rev {ps : List Nat} : (dNs ps).reverse = dNs ps.reverse := by
  unfold dNs
  rw [List.map_reverse]
theorem dPs_len {ps : List (Int × Int)} : (dPs ps).length = ps.length := by
  unfold dPs
  rw [List.length_map]
theorem dPs_rev {ps : List (Int × Int)} : (dPs ps).reverse = dPs ps.reverse := by
  unfold dPs
  rw [List.map_reverse]
theorem pl_dP {n : Nat} (p : Int × Int) : Pl (n + 1) (dP p) := .tup fun d hd => by
  rcases List.mem_cons.mp hd with rfl | hd
  · exact .int _
  · rw [List.mem_singleton.mp hd]
    exact .int _
theorem pl_dPs {n : Nat} (ps : List (Int × Int)) : Pl (n + 2) (.lst (dPs ps)) := .lst fun d hd => by
  unfold dPs at hd
  obtain ⟨p, _, rfl⟩ := List.mem_map.mp hd
  exact pl_dP p
theorem pl_dNs {n : Nat} (ps : List Nat) : Pl (n + 1) (.lst (dNs ps)) := .lst fun d hd => by
  unfold dNs at hd
  obtain ⟨p, _, rfl⟩ := List.mem_map.mp hd
  exact .int _
theorem dk_dNs {n : Nat} (ps : List Nat) : Dk (n + 1) (.lst (dNs ps)) := .lst fun d hd => by
  unfold dNs at hd
  obtain ⟨p, _, rfl⟩ := List.mem_map.mp hd
  exact .int _
theorem dk_two {n : Nat} {a b : Da} (ha : Dk n a) (hb : Dk n b) : ∀ d ∈ [a, b], Dk n d := fun d hd => by
  rcases List.mem_cons.mp hd with rfl | hd
  · exact ha
  · rw [List.mem_singleton.mp hd]
    exact hb
theorem trl_ex {g : Gr} {w p n j : Nat} {y : BS} (r : Ray g w p n j y) : ∃ L, Trl g w p L := by
  obtain ⟨a, c, h1, h2, _⟩ := r.ex
  exact ⟨_, a, c, n, h1, h2, rfl⟩
theorem w_repl {y z : Str} (h : W B C Γ te fun Γ1 r => ∃ x, r = .d (.str x) ∧ x.length + (x.length + 1) * z.length ≤ 16777216 ∧ K Γ1 (.d (.str (Txt.replace x y z)))) : W B C Γ (CwR.tReplC te y z) K := fun S σ F H Q e c =>
  h S σ F H _ e fun Γ1 S1 F1 H1 r T v e1 m1 rv fr ⟨x, er, hx, k⟩ => by
    subst er
    exact ⟨x, rv.2.strI, hx, (Cont.mv c m1).here e1 (.str _) k⟩
theorem wf_rows {g : Gr} (k : K Γ (.d (.tup (dLns g)))) : WF B C Γ (sp_rows C) E [.d (.room g)] K := fun S σ F H vs T Q e rv c => by
  obtain ⟨v, T', rfl, r1⟩ := vs1 rv
  obtain ⟨x, w', rfl, R, _⟩ := r1.2.roomI
  exact ⟨x, g, rfl, R.same e.sub, fun t ht => c.ext e (ov_gr e.sub (Same.refl H)) (.tup' (ov_tup ht) ats_lines) k⟩
/-! star calls -/
theorem ats_nats {vs : List V} {ps : List Nat} (h : Ats C F vs (dNs ps)) : vs = natsV ps := by
  unfold natsV
  apply List.ext_getElem?
  intro i
  rw [List.getElem?_map]
  have hl := h.len
  unfold dNs at hl
  rw [List.length_map] at hl
  cases e : ps[i]? with
  | none =>
    have : ps.length ≤ i := by
      rcases Nat.lt_or_ge i ps.length with z | z
      · rw [List.getElem?_eq_getElem z] at e; cases e
      · exact z
    rw [List.getElem?_eq_none (by omega)] <;> rfl
  | some n =>
    have e2 : (dNs ps)[i]? = some (.int n) := by
      unfold dNs
      rw [List.getElem?_map, e] <;> rfl
    obtain ⟨x, h1, h2⟩ := h.get e2
    rw [h1, h2.intI] <;> rfl
theorem nats_ats {ps : List Nat} : Ats C F (natsV ps) (dNs ps) := by
  unfold natsV dNs
  refine ⟨by rw [List.length_map, List.length_map], fun i x d h1 h2 => ?_⟩
  rw [List.getElem?_map] at h1 h2
  cases e : ps[i]? with
  | none => rw [e] at h1; cases h1
  | some l =>
    rw [e] at h1 h2
    cases h1
    cases h2
    exact .int _
theorem nats_pv {ps : List Nat} : ∀ v ∈ natsV ps, PV H v := fun v hv => by
  unfold natsV at hv
  obtain ⟨n, _, rfl⟩ := List.mem_map.mp hv
  exact .int _
theorem pt_ok {h w p : Nat} (hp : p < 2 * (h + w)) : isPort h w (.int p) = true := isNum_nat hp
theorem vs_tl {vs : List V} {r : Rs} {ds : List Da} {T : List Addr} (h : Rvs C σ S F H vs (r :: ds.map Rs.d) T) : ∃ v rest T', vs = v :: rest ∧ Rv C σ S F H v r T' ∧ Ats C F rest ds := by
  cases h with
  | cons h t n => exact ⟨_, _, _, rfl, h, t.ats⟩
theorem sent_ports {w : Nat} {g k : Gr} {ps js : List Nat} (s : Sent w g ps js k) (G : Grid 8 10 g w) : ∀ p ∈ ps, p < 2 * (g.length + w) := by
  induction s with
  | nil g => exact fun _ h => nomatch h
  | @cons g k p n j y ps js r t ih =>
    intro q hq
    obtain ⟨G2, e2⟩ := r.grid G
    rcases List.mem_cons.mp hq with z | z
    · obtain ⟨r0, c0, h1, _⟩ := r.ex
      have := (List.getElem?_eq_some_iff.mp h1).1
      rw [places_len] at this
      rw [z]
      exact this
    · rw [← e2]
      exact ih G2 q z
theorem dPs_ats {H2 F2 : Hp} {vs : List V} {ps : List (Int × Int)} (h : PrsAt F2 vs ps) : Ats C F2 vs (dPs ps) := by
  induction h with
  | nil => exact .nil
  | cons r t ih =>
    obtain ⟨a, rfl, ha⟩ := r
    exact .cons (.tup' ha (.cons (.int _) (.cons (.int _) .nil))) ih
theorem trl_port {g : Gr} {w p : Nat} {L : List (Int × Int)} (h : Trl g w p L) : p < 2 * (g.length + w) := by
  obtain ⟨r0, c0, n, h1, _⟩ := h
  have := (List.getElem?_eq_some_iff.mp h1).1
  rw [places_len] at this
  exact this
theorem w_pathL {ta : TA} (h : WA B C Γ ta fun Γ1 rs => ∃ g w p L, rs = [.d (.room g), .d (.int (p : Nat))] ∧ Grid 8 10 g w ∧ Trl g w p L ∧ K Γ1 (.mo (ML (dPs L)))) : W B C Γ (tListG (tCallG (sp_path C U) [] E ta)) K := fun S σ F H Q e c =>
  h S σ F H _ e fun Γ1 S1 F1 H1 rs T vs e1 m1 rv fr ⟨g, w, p, L, er, G, tr, k⟩ => by
    subst er
    obtain ⟨v, v', T', U', rfl, r1, r2⟩ := vs2 rv
    obtain rfl := r2.2.intI
    obtain ⟨x, w2, rfl, R, _⟩ := r1.2.roomI
    refine ⟨x, .int p, w, g, rfl, R.same e1.sub, G, .int _, fun p' L' ws H' ep tr' hL s pr q hq => ?_, fun bad => ?_⟩
    · have ep : p' = p := by
        injection ep with ep
        omega
      subst ep
      obtain rfl := tr.one tr'
      have g1 := ov_gr e1.sub s
      have e2 := e1.ext g1
      exact (Cont.mv (Cont.mv c m1) (.ext g1)).newL e2 hq (dPs_ats (H2 := H) pr.ov) k
    · rw [pt_ok (trl_port tr)] at bad
      cases bad
end
end My
namespace My
open PySem PySem.Spec PyProof.Rows L2
/-! beams as functions -/
open Classical in
noncomputable def exitP (g : Gr) (p : Nat) : Nat := if h : ∃ n j y, Ray g (gw g) p n j y then Classical.choose (Classical.choose_spec h) else 0
open Classical in
noncomputable def outG (g : Gr) (p : Nat) : Gr := if h : ∃ n j y, Ray g (gw g) p n j y then (Classical.choose (Classical.choose_spec (Classical.choose_spec h))).g else g
open Classical in
noncomputable def trlP (g : Gr) (p : Nat) : List (Int × Int) := if h : ∃ L, Trl g (gw g) p L then Classical.choose h else []
section
variable {g : Gr} {w p : Nat}
theorem ray_fn {n j : Nat} {y : BS} (G : Grid 8 10 g w) (r : Ray g w p n j y) : exitP g p = j ∧ outG g p = y.g := by
  have e := G.gw
  subst e
  have h : ∃ n j y, Ray g (gw g) p n j y := ⟨n, j, y, r⟩
  obtain ⟨_, h2, h3⟩ := (Classical.choose_spec (Classical.choose_spec (Classical.choose_spec h))).one r
  unfold exitP outG
  rw [dif_pos h, dif_pos h]
  exact ⟨h2, by rw [h3]⟩
theorem trl_fn {L : List (Int × Int)} (G : Grid 8 10 g w) (t : Trl g w p L) : trlP g p = L := by
  have e := G.gw
  subst e
  have h : ∃ L, Trl g (gw g) p L := ⟨L, t⟩
  unfold trlP
  rw [dif_pos h]
  exact (Classical.choose_spec h).one t
/-- a beam at a port -/
structure Beam (g : Gr) (w p : Nat) : Prop where
  ray : ∃ n y, Ray g w p n (exitP g p) y ∧ y.g = outG g p ∧ n ≤ 262144
  trl : Trl g w p (trlP g p)
  grid : Grid 8 10 (outG g p) w
  len : (outG g p).length = g.length
  bas : Bas (outG g p) = Bas g
  out : exitP g p < 2 * (g.length + w)
theorem beam (G : Grid 8 10 g w) (hp : p < 2 * (g.length + w)) : Beam g w p := by
  obtain ⟨n, j, y, r, hn, _, wy⟩ := ray_ex G hp
  obtain ⟨h1, h2⟩ := ray_fn G r
  obtain ⟨G2, e2⟩ := wy.grid G
  obtain ⟨L, t⟩ := trl_ex r
  refine ⟨⟨n, y, h1 ▸ r, h2.symm, hn⟩, (trl_fn G t).symm ▸ t, h2 ▸ G2, by rw [h2]; exact e2, by rw [h2]; exact wy.bas.symm, ?_⟩
  rw [h1]
  have := (List.getElem?_eq_some_iff.mp r.first.1).1
  rw [places_len] at this
  exact this
theorem Beam.lenT (b : Beam g w p) (G : Grid 8 10 g w) : (trlP g p).length ≤ 262144 := by
  obtain ⟨n, y, r, _, hn⟩ := b.ray
  obtain ⟨a, c, h1, h2, _⟩ := r.ex
  obtain ⟨a', c', n', k1, k2, e⟩ := b.trl
  rw [h1] at k1
  cases k1
  rw [e, trail_len, k2.one h2]
  exact hn
theorem Beam.back (b : Beam g w p) (G : Grid 8 10 g w) : outG (flipG (outG g p)) (exitP g p) = flipG g ∧ exitP (flipG (outG g p)) (exitP g p) = p ∧ trlP (flipG (outG g p)) (exitP g p) = (trlP g p).reverse := by
  obtain ⟨n, y, r, ey, _⟩ := b.ray
  obtain ⟨z, r2, ez, tr⟩ := r.back G
  rw [ey] at r2 tr
  have G2 := b.grid.flip
  obtain ⟨h1, h2⟩ := ray_fn G2 r2
  exact ⟨by rw [h2, ez], h1, trl_fn G2 (tr _ b.trl)⟩
end
section
variable {B : Org} {C U : Addr} {Γ : Ct} {S S' : Fp} {σ : L2.St} {F F' H H' : Hp} {Q : VK} {v : V} {x : Da} {te ta tb : TE} {Kf : PySem.W.Frag} {K : Ct → Rs → Prop} {E : XK}
theorem wf_callF {g : Gr} {w p : Nat} (G : Grid 8 10 g w) (hp : p < 2 * (g.length + w)) (k : K Γ (.d (.tup [.int (exitP g p), .room (outG g p)]))) : WF B C Γ (sp_call C U) E [.d (.room g), .d (.int p)] K := by
  obtain ⟨n, y, r, e, _⟩ := (beam G hp).ray
  exact wf_call G r (by rw [e]; exact k)
/-! a room's own properties -/
theorem wf_turning {g : Gr} {w : Nat} (G : Grid 8 10 g w) (k : K Γ (.d (.lst (dPs (tiles Sg.tur g))))) : WF B C Γ (sp_turning C) E [.d (.room g)] K := fun S σ F H vs T Q e rv c => by
  obtain ⟨v, T', rfl, r1⟩ := vs1 rv
  obtain ⟨x, w', rfl, R, _⟩ := r1.2.roomI
  exact ⟨x, w, g, rfl, R.same e.sub, G, fun p ws H' hp s h t => c.ext e (ov_gr e.sub s) (.lst' (by rw [ov_new hp]; exact h) (dPs_ats (H2 := H) t.ov)) k⟩
theorem wf_text {g : Gr} {w : Nat} (G : Grid 8 10 g w) (k : K Γ (.d (.str (gtext g)))) : WF B C Γ (sp_text C) E [.d (.room g)] K := fun S σ F H vs T Q e rv c => by
  obtain ⟨v, T', rfl, r1⟩ := vs1 rv
  obtain ⟨x, w', rfl, R, _⟩ := r1.2.roomI
  exact ⟨x, w, g, rfl, R.same e.sub, G, c.here e (.str _) k⟩
theorem wf_size {g : Gr} {w : Nat} (G : Grid 8 10 g w) (k : K Γ (.d (.tup [.int g.length, .int w]))) : WF B C Γ (sp_size C) E [.d (.room g)] K := fun S σ F H vs T Q e rv c => by
  obtain ⟨v, T', rfl, r1⟩ := vs1 rv
  obtain ⟨x, w', rfl, R, _⟩ := r1.2.roomI
  exact ⟨x, w, g, rfl, R.same e.sub, G, fun p hp => c.newT e hp (.cons (.int _) (.cons (.int _) .nil)) k⟩
def isIntD (lo hi : Int) : Da → Bool
  | .int i => decide (lo ≤ i) && decide (i ≤ hi)
  | _ => false
theorem isNum_da {lo hi : Int} (a : At C F v x) : isNum v lo hi = isIntD lo hi x := by
  cases a <;> rfl
def isPortD (h w : Nat) (x : Da) : Bool := isIntD 0 (((2 * (h + w) : Nat) : Int) - 1) x
theorem intD_nat {n : Nat} {x : Da} (e : isIntD 0 ((n : Int) - 1) x = true) : ∃ p : Nat, x = .int p ∧ p < n := by
  unfold isIntD at e
  split at e
  · rename_i i
    rw [Bool.and_eq_true] at e
    have h1 := of_decide_eq_true e.1
    have h2 := of_decide_eq_true e.2
    exact ⟨i.toNat, by congr 1; omega, by omega⟩
  · cases e
theorem portD_nat {h w : Nat} {x : Da} (e : isPortD h w x = true) : ∃ p : Nat, x = .int p ∧ p < 2 * (h + w) := intD_nat e
/-- what is no room -/
def NR (x : Da) : Prop := (∀ g, x ≠ .room g) ∧ (∀ D, x ≠ .lam D) ∧ ∀ ks vs, x ≠ .dct ks vs
def tile2 : Da → Option (Da × Da)
  | .tup [x, y] => some (x, y)
  | _ => none
def okAtD (h w : Nat) (x : Da) : Bool := match tile2 x with
  | some (u, v) => isIntD 0 ((h : Int) - 1) u && isIntD 0 ((w : Int) - 1) v
  | none => false
/-- what may be asked of a room, tile or not -/
inductive TlD : Da → Prop where
  | two {u v : Da} (hu : NR u) (hv : NR v) : TlD (.tup [u, v])
  | tup {l : List Da} (h : l.length ≠ 2) (h1 : l.length ≤ 100) : TlD (.tup l)
  | lst (l : List Da) : TlD (.lst l)
  | non : TlD .non
  | int (i : Int) : TlD (.int i)
  | str (z : Str) : TlD (.str z)
theorem nr_int (i : Int) : NR (.int i) := ⟨fun _ z => (by cases z), fun _ z => (by cases z), fun _ _ z => (by cases z)⟩
theorem atV_da (a : At C F v x) (s : Same F H) (hx : TlD x) : ∃ o, AtV H v o ∧ ∀ h w, okAt h w o = okAtD h w x := by
  cases hx with
  | @two u v hu hv =>
    obtain ⟨p, xs, rfl, h1, h2⟩ := a.tupI
    match xs, h2.len with
    | [x1, x2], _ =>
      refine ⟨_, .two (s _ _ h1) (pv_at (h2.hd.same s) hu) (pv_at (h2.tl.hd.same s) hv), fun h w => ?_⟩
      show (isNum x1 _ _ && isNum x2 _ _) = (isIntD _ _ u && isIntD _ _ v)
      rw [isNum_da h2.hd, isNum_da h2.tl.hd]
  | @tup l hl h1 =>
    obtain ⟨p, xs, rfl, h2, h3⟩ := a.tupI
    refine ⟨_, .tup (s _ _ h2) (by rw [h3.len]; exact hl) (by rw [h3.len]; exact h1), fun h w => ?_⟩
    unfold okAtD tile2
    match l, hl with
    | [], _ => rfl
    | [_], _ => rfl
    | [_, _], q => exact absurd rfl q
    | _ :: _ :: _ :: _, _ => rfl
  | lst l =>
    obtain ⟨p, xs, rfl, h2, h3⟩ := a.lstI
    exact ⟨_, .lst (s _ _ h2), fun h w => rfl⟩
  | non =>
    rw [a.nonI]
    exact ⟨_, .non, fun h w => rfl⟩
  | int i =>
    rw [a.intI]
    exact ⟨_, .int i, fun h w => rfl⟩
  | str z =>
    rw [a.strI]
    exact ⟨_, .str z, fun h w => rfl⟩
theorem wr_get {g : Gr} {w : Nat} {KE : KX} (hE : XOk B C E KE) (G : Grid 8 10 g w) (hx : TlD x) (ok : ∀ (i j : Nat), x = .tup [.int i, .int j] → i < g.length → j < w → K Γ (.d (.str (sgAt g i j).str))) (bad : okAtD g.length w x = false → KE Γ ⟨U, none⟩) : WR B C Γ (tGetO C (sp_get C U) E) (.d (.room g)) (.d x) K := fun S σ F H v v' T T' Q e r1 r2 c => by
  obtain ⟨y, w2, rfl, R, _⟩ := r1.2.roomI
  have R := R.same e.sub
  obtain ⟨dx, fs, hi⟩ := R.ins
  refine ⟨y, dx, fs, rfl, hi, y, v', w, g, rfl, R, G, ?_⟩
  cases hp : okAtD g.length w x with
  | false =>
    obtain ⟨o, h1, h2⟩ := atV_da r2.2 e.sub hx
    exact .inr ⟨o, h1, (h2 _ _).trans hp, fun H' s => hE Γ S σ F H' ⟨U, none⟩ none (e.ext (Gr4.of e.sub s)) rfl (bad hp)⟩
  | true =>
    unfold okAtD tile2 at hp
    split at hp
    · rename_i u z h1
      split at h1
      · rename_i p q
        cases h1
        rw [Bool.and_eq_true] at hp
        obtain ⟨i, rfl, hi2⟩ := intD_nat hp.1
        obtain ⟨j, rfl, hj⟩ := intD_nat hp.2
        obtain ⟨a, xs, rfl, ha, as⟩ := r2.2.tupI
        match xs, as.len with
        | [x1, x2], _ =>
          obtain rfl := as.hd.intI
          obtain rfl := as.tl.hd.intI
          have shp : Shp g.length w g := ⟨rfl, G.ln⟩
          exact .inl ⟨a, i, j, rowAt g i, sgAt g i j, rfl, e.sub _ _ ha, (shp.row hi2).1, shp.sg hi2 hj, fun H' s => c.ext e (Gr4.of e.sub s) (.str _) (ok i j rfl hi2 hj)⟩
      · cases h1
    · cases hp
theorem wr_getN {g : Gr} {w i j : Nat} (G : Grid 8 10 g w) (hi : i < g.length) (hj : j < w) (k : K Γ (.d (.str (sgAt g i j).str))) : WR B C Γ (tGetO C (sp_get C U) E) (.d (.room g)) (.d (.tup [.int (i : Nat), .int (j : Nat)])) K :=
  wr_get (KE := fun _ _ => False) xokF G (.two (nr_int _) (nr_int _)) (fun a b e _ _ => by
    injection e with e
    injection e with e1 e2
    injection e2 with e2 _
    injection e1 with e1
    injection e2 with e2
    rw [show a = i by omega, show b = j by omega]
    exact k) (fun z => by
    have : okAtD g.length w (.tup [.int (i : Nat), .int (j : Nat)]) = true := by
      show (isIntD _ _ _ && isIntD _ _ _) = true
      unfold isIntD
      rw [Bool.and_eq_true, Bool.and_eq_true, Bool.and_eq_true]
      exact ⟨⟨decide_eq_true (by omega), decide_eq_true (by omega)⟩, ⟨decide_eq_true (by omega), decide_eq_true (by omega)⟩⟩
    rw [this] at z
    cases z)
end
end My
namespace My
open PySem PySem.Spec PyProof.Rows L2
/-! rows cut and joined; a room with another sign -/
theorem lstr_cut {l : List Sg} {a b : Nat} : (⟨((((lstr l).cps.toList).drop a).take b).toArray⟩ : Str) = lstr ((l.drop a).take b) := by
  rw [lstr_toList, ← List.map_drop, ← List.map_take] <;> rfl
theorem cut_to {l : List Sg} {j : Nat} (h : j ≤ l.length) : cutS (lstr l) none (some (j : Int)) = lstr (l.take j) := by
  unfold cutS HT.sIx
  have e : (lstr l).length = l.length := lstr_len l
  simp only [e]
  rw [if_neg (by omega), Int.toNat_natCast, Nat.min_eq_left h, Nat.sub_zero, lstr_cut, List.drop_zero]
theorem cut_from {l : List Sg} {j : Nat} (h : j ≤ l.length) : cutS (lstr l) (some (j : Int)) none = lstr (l.drop j) := by
  unfold cutS HT.sIx
  have e : (lstr l).length = l.length := lstr_len l
  simp only [e]
  rw [if_neg (by omega), Int.toNat_natCast, Nat.min_eq_left h, lstr_cut, List.take_of_length_le (by rw [List.length_drop]; exact Nat.le_refl _)]
theorem lstr_app2 (l m : List Sg) : lstr l ++ lstr m = lstr (l ++ m) := by
  apply str_ext
  rw [app_toList, lstr_toList, lstr_toList, lstr_toList, List.map_append]
theorem str_one (s : Sg) : s.str = lstr [s] := rfl
/-- a row with another sign -/
theorem row_set {l : List Sg} {j : Nat} {s : Sg} (h : j < l.length) : lstr (l.take j) ++ s.str ++ lstr (l.drop (j + 1)) = lstr (l.set j s) := by
  rw [str_one, lstr_app2, lstr_app2]
  congr 1
  rw [List.set_eq_take_append_cons_drop, if_pos h, List.append_assoc] <;> rfl
theorem row_at {g : Gr} {i : Nat} (h : i < g.length) : g[i]? = some (rowAt g i) := by
  unfold rowAt
  rw [List.getD_eq_getElem?_getD, List.getElem?_eq_getElem h] <;> rfl
theorem dLns_get {g : Gr} {i : Nat} (h : i < g.length) : (dLns g)[i]? = some (.str (lstr (rowAt g i))) := by
  unfold dLns
  rw [List.getElem?_map, row_at h] <;> rfl
theorem row_len {g : Gr} {w i : Nat} {m t : Nat} (G : Grid m t g w) (h : i < g.length) : (rowAt g i).length = w := G.ln _ (List.mem_of_getElem? (row_at h))
theorem mem_tiles {f : Sg → Bool} {g : Gr} {w : Nat} {q : Int × Int} (s : Shp g.length w g) : q ∈ tiles f g ↔ ∃ a b : Nat, q = ((a : Int), (b : Int)) ∧ a < g.length ∧ b < w ∧ f (sgAt g a b) = true := by
  unfold tiles tilesTo rowTiles
  have hh : ∀ a b : Nat, a < g.length → b < w → hit f g a b = f (sgAt g a b) := fun a b ha hb => by
    unfold hit
    have := s.sg ha hb
    show ((rowAt g a)[b]?.map f).getD false = _
    rw [this] <;> rfl
  constructor
  · intro h
    obtain ⟨a, ha, h⟩ := List.mem_flatMap.mp h
    have ha := List.mem_range.mp ha
    obtain ⟨b, hb, rfl⟩ := List.mem_map.mp h
    obtain ⟨hb, ht⟩ := List.mem_filter.mp hb
    have hb := List.mem_range.mp hb
    have lw : (g.getD a []).length = w := (s.row ha).2
    rw [lw] at hb
    exact ⟨a, b, rfl, ha, hb, by rw [← hh a b ha hb]; exact ht⟩
  · rintro ⟨a, b, rfl, ha, hb, ht⟩
    have lw : (g.getD a []).length = w := (s.row ha).2
    exact List.mem_flatMap.mpr ⟨a, List.mem_range.mpr ha, List.mem_map.mpr ⟨b, List.mem_filter.mpr ⟨List.mem_range.mpr (by rw [lw]; exact hb), by rw [hh a b ha hb]; exact ht⟩, rfl⟩⟩
theorem tiles_at {f : Sg → Bool} {g : Gr} {m t w i : Nat} {q : Int × Int} (G : Grid m t g w) (h : (tiles f g)[i]? = some q) : ∃ a b : Nat, q = ((a : Int), (b : Int)) ∧ a < g.length ∧ b < w ∧ f (sgAt g a b) = true := (mem_tiles ⟨rfl, G.ln⟩).mp (List.mem_of_getElem? h)
/-- a room with another sign on a tile -/
def setG (g : Gr) (i j : Nat) (s : Sg) : Gr := g.set i ((rowAt g i).set j s)
theorem turn_ne {s : Sg} (h : s.tur = true) : decide (V.str s.turn.str = V.str s.str) = false := by
  cases s <;> first | (cases h; done) | decide +kernel
theorem tur_turn' {s : Sg} (h : s.tur = true) : s.turn.tur = true := by rw [Sg.tur_turn]; exact h
theorem put_twice {g : Gr} {h w a b : Nat} (s : Shp h w g) (ha : a < h) (hb : b < w) : setG (setG g a b (sgAt g a b).turn) a b (sgAt (setG g a b (sgAt g a b).turn) a b).turn = g := put_put s ha hb
theorem put_sg {g : Gr} {h w a b : Nat} (s : Shp h w g) (ha : a < h) (hb : b < w) : sgAt (setG g a b (sgAt g a b).turn) a b = (sgAt g a b).turn := sgAt_put s ha hb
theorem set_len {g : Gr} {a b : Nat} {s : Sg} : (setG g a b s).length = g.length := by
  unfold setG
  rw [List.length_set]
def PWith : DP := fun ds R _ => ∃ (g : Gr) (w i j : Nat) (s : Sg), ds = [.room g, .tup [.int i, .int j], .str s.str] ∧ Grid 8 10 g w ∧ i < g.length ∧ j < w ∧ Grid 8 10 (setG g i j s) w ∧ R (.d (.room (setG g i j s)))
section
variable {B : Org} {C U : Addr} {Γ : Ct} {S S' : Fp} {σ : L2.St} {F F' H H' : Hp} {Q : VK} {v : V} {x : Da} {te ta tb : TE} {Kf : PySem.W.Frag} {K : Ct → Rs → Prop} {E : XK}
theorem w_mkRoom (h : W B C Γ te fun Γ1 r => ∃ g w, VwS Γ1 r (dLns g) ∧ Grid 8 10 g w ∧ K Γ1 (.d (.room g))) : W B C Γ (tMakeS Kf C (sp_star C) E te) K := fun S σ F H Q e c =>
  h S σ F H _ e fun Γ1 S1 F1 H1 r T v e1 m1 rv fr ⟨g, w, hv, G, k⟩ => by
    have fin : ∀ x H', H1 x = none → Same H1 H' → RoomN C H1 H' x g → Q (.ref x) H' := fun x H' hx s rn => (Cont.mv c m1).ext e1 (ov_gr e1.sub s) (.room rn.ov G) k
    rcases hv with hv | hv
    · obtain ⟨a, xs, rfl, h2, h3⟩ := e1.vwL rv hv
      obtain rfl := ats_lines_inv h3
      exact ⟨a, _, rfl, .inr (SqL.of h2), fun x dx hx hdx hne => made G fin x dx hx hdx hne⟩
    · obtain ⟨a, xs, rfl, h2, h3⟩ := e1.vwT rv hv
      obtain rfl := ats_lines_inv h3
      exact ⟨a, _, rfl, .inl (SqT.of h2), fun x dx hx hdx hne => made G fin x dx hx hdx hne⟩
end
end My
namespace My
open PySem PySem.Spec PyProof.Rows L2
/-! many beams; a bench's steps -/
noncomputable def runF : Gr → List Nat → Gr
  | g, [] => g
  | g, p :: ps => runF (outG g p) ps
noncomputable def exF : Gr → List Nat → List Nat
  | _, [] => []
  | g, p :: ps => exitP g p :: exF (outG g p) ps
noncomputable def stF : Gr → List Nat → List Stp
  | _, [] => []
  | g, p :: ps => (("beam" : Str), outG g p, (trlP g p).length) :: stF (outG g p) ps
theorem run_snoc (p : Nat) : ∀ (g : Gr) (ps : List Nat), runF g (ps ++ [p]) = outG (runF g ps) p
  | g, [] => rfl
  | g, q :: ps => run_snoc p (outG g q) ps
theorem ex_snoc (p : Nat) : ∀ (g : Gr) (ps : List Nat), exF g (ps ++ [p]) = exF g ps ++ [exitP (runF g ps) p]
  | g, [] => rfl
  | g, q :: ps => by
    show exitP g q :: exF (outG g q) (ps ++ [p]) = _
    rw [ex_snoc p (outG g q) ps] <;> rfl
theorem st_snoc (p : Nat) : ∀ (g : Gr) (ps : List Nat), stF g (ps ++ [p]) = stF g ps ++ [(("beam" : Str), outG (runF g ps) p, (trlP (runF g ps) p).length)]
  | g, [] => rfl
  | g, q :: ps => by
    show _ :: stF (outG g q) (ps ++ [p]) = _
    rw [st_snoc p (outG g q) ps] <;> rfl
theorem ex_len : ∀ (g : Gr) (ps : List Nat), (exF g ps).length = ps.length
  | g, [] => rfl
  | g, p :: ps => by
    show (exF (outG g p) ps).length + 1 = _
    rw [ex_len] <;> rfl
theorem st_len : ∀ (g : Gr) (ps : List Nat), (stF g ps).length = ps.length
  | g, [] => rfl
  | g, p :: ps => by
    show (stF (outG g p) ps).length + 1 = _
    rw [st_len] <;> rfl
theorem run_grid {w : Nat} : ∀ {g : Gr} {ps : List Nat}, Grid 8 10 g w → (∀ p ∈ ps, p < 2 * (g.length + w)) → Grid 8 10 (runF g ps) w ∧ (runF g ps).length = g.length
  | g, [], G, _ => ⟨G, rfl⟩
  | g, p :: ps, G, h => by
    have b := beam G (h p List.mem_cons_self)
    obtain ⟨h1, h2⟩ := run_grid (ps := ps) b.grid fun q hq => by rw [b.len]; exact h q (List.mem_cons_of_mem _ hq)
    exact ⟨h1, h2.trans b.len⟩
theorem run_sent {w : Nat} : ∀ {g : Gr} {ps : List Nat}, Grid 8 10 g w → (∀ p ∈ ps, p < 2 * (g.length + w)) → Sent w g ps (exF g ps) (runF g ps)
  | g, [], G, _ => .nil g
  | g, p :: ps, G, h => by
    have b := beam G (h p List.mem_cons_self)
    obtain ⟨n, y, r, e, _⟩ := b.ray
    have t := run_sent (ps := ps) b.grid fun q hq => by rw [b.len]; exact h q (List.mem_cons_of_mem _ hq)
    rw [← e] at t
    have q := Sent.cons r t
    show Sent w g (p :: ps) (exitP g p :: exF (outG g p) ps) (runF (outG g p) ps)
    rw [← e]
    exact q
/-- the other way round -/
theorem sent_run {w : Nat} {g k : Gr} {ps js : List Nat} (s : Sent w g ps js k) (G : Grid 8 10 g w) : js = exF g ps ∧ k = runF g ps := by
  have hp := sent_ports s G
  obtain ⟨h1, h2⟩ := s.one (run_sent G hp)
  exact ⟨h1, h2⟩
theorem run_back {w : Nat} {g : Gr} {ps : List Nat} (G : Grid 8 10 g w) (hp : ∀ p ∈ ps, p < 2 * (g.length + w)) : exF (flipG (runF g ps)) (exF g ps).reverse = ps.reverse ∧ runF (flipG (runF g ps)) (exF g ps).reverse = flipG g := by
  have s := (run_sent G hp).back G
  obtain ⟨h1, h2⟩ := sent_run s (run_grid G hp).1.flip
  exact ⟨h1.symm, h2.symm⟩
theorem passes_app (a b : List Stp) : passes (a ++ b) = passes a + passes b := by
  unfold passes
  rw [List.map_append, List.sum_append]
theorem ex_lt {w : Nat} : ∀ {g : Gr} {ps : List Nat}, Grid 8 10 g w → (∀ p ∈ ps, p < 2 * (g.length + w)) → ∀ j ∈ exF g ps, j < 2 * (g.length + w)
  | g, [], _, _ => fun _ h => by cases h
  | g, p :: ps, G, h => by
    have b := beam G (h p List.mem_cons_self)
    intro j hj
    rcases List.mem_cons.mp hj with rfl | hj
    · exact b.out
    · have := ex_lt (ps := ps) b.grid (fun q hq => by rw [b.len]; exact h q (List.mem_cons_of_mem _ hq)) j hj
      rw [b.len] at this
      exact this
theorem passes_cons (e : Stp) (a : List Stp) : passes (e :: a) = e.2.2 + passes a := by
  unfold passes
  rw [List.map_cons, List.sum_cons]
theorem passes_back {w : Nat} {g : Gr} (G : Grid 8 10 g w) : ∀ (n : Nat) (ps : List Nat), ps.length = n → (∀ p ∈ ps, p < 2 * (g.length + w)) → passes (stF (flipG (runF g ps)) (exF g ps).reverse) = passes (stF g ps)
  | 0, ps, hn, _ => by
    rw [List.length_eq_zero_iff.mp hn] <;> rfl
  | n + 1, qs, hn, hp => by
    have hne : qs ≠ [] := fun z => by rw [z] at hn; cases hn
    obtain ⟨ps, p, rfl⟩ : ∃ ps p, qs = ps ++ [p] := ⟨_, _, (List.dropLast_concat_getLast hne).symm⟩
    have hps : ∀ q ∈ ps, q < 2 * (g.length + w) := fun q hq => hp q (List.mem_append_left _ hq)
    have ih := passes_back G n ps (by rw [List.length_append] at hn; exact Nat.succ.inj hn) hps
    obtain ⟨Gk, lk⟩ := run_grid G hps
    have b := beam Gk (p := p) (by rw [lk]; exact hp p (by simp))
    obtain ⟨h1, h2, h3⟩ := b.back Gk
    rw [run_snoc, ex_snoc, List.reverse_append]
    show passes ((("beam" : Str), outG (flipG (outG (runF g ps) p)) (exitP (runF g ps) p), (trlP (flipG (outG (runF g ps) p)) (exitP (runF g ps) p)).length) :: stF (outG (flipG (outG (runF g ps) p)) (exitP (runF g ps) p)) (exF g ps).reverse) = _
    rw [h1, h3, passes_cons, ih, st_snoc, passes_app, passes_cons, List.length_reverse]
    show (trlP (runF g ps) p).length + passes (stF g ps) = passes (stF g ps) + ((trlP (runF g ps) p).length + 0)
    omega
theorem dNs_inv {ps : List Nat} {i : Nat} {x : Da} (h : (dNs ps)[i]? = some x) : ∃ p, ps[i]? = some p ∧ x = .int (p : Nat) := by
  unfold dNs at h
  rw [List.getElem?_map] at h
  cases e : ps[i]? with
  | none => rw [e] at h; cases h
  | some p =>
    rw [e] at h
    exact ⟨p, rfl, (Option.some.inj h).symm⟩
theorem passes_one (g : Gr) (w : Str) (n : Nat) : passes [(w, g, n)] = n := by
  rw [passes_cons]
  rfl
theorem now_snoc (f : Gr) (d : List Stp) (e : Stp) (u : List Stp) (n : List (Str × List Stp × List Stp)) : (⟨f, d ++ [e], u, n⟩ : BSt).now = e.2.1 := by
  unfold BSt.now
  rw [List.getLast?_concat]
theorem snoc_cases {α : Type} (l : List α) : l = [] ∨ ∃ m x, l = m ++ [x] := by
  by_cases h : l = []
  · exact .inl h
  · exact .inr ⟨_, _, (List.dropLast_concat_getLast h).symm⟩
theorem now_stF (g : Gr) (qs : List Nat) (u : List Stp) (n : List (Str × List Stp × List Stp)) : (⟨g, stF g qs, u, n⟩ : BSt).now = runF g qs := by
  rcases snoc_cases qs with rfl | ⟨m, x, rfl⟩
  · rfl
  · rw [st_snoc, now_snoc, run_snoc]
/-- beams behind other steps -/
theorem now_app (f : Gr) (D : List Stp) (h : Gr) (hD : ∀ u n, (⟨f, D, u, n⟩ : BSt).now = h) (qs : List Nat) (u : List Stp) (n : List (Str × List Stp × List Stp)) : (⟨f, D ++ stF h qs, u, n⟩ : BSt).now = runF h qs := by
  rcases snoc_cases qs with rfl | ⟨m, x, rfl⟩
  · rw [show stF h [] = [] from rfl, List.append_nil]
    exact hD u n
  · rw [st_snoc, ← List.append_assoc, now_snoc, run_snoc]
end My
namespace My
open PySem PySem.Spec PyProof.Rows L2
/-! the same port again and again -/
noncomputable def itG (g : Gr) (p : Nat) : Nat → Gr
  | 0 => g
  | k + 1 => outG (itG g p k) p
theorem itG_add (g : Gr) (p a : Nat) : ∀ b, itG g p (a + b) = itG (itG g p a) p b
  | 0 => rfl
  | b + 1 => by
    show outG (itG g p (a + b)) p = outG (itG (itG g p a) p b) p
    rw [itG_add g p a b]
theorem itG_run (g : Gr) (p : Nat) : ∀ k, itG g p k = runF g (List.replicate k p)
  | 0 => rfl
  | k + 1 => by
    rw [List.replicate_succ', run_snoc, ← itG_run g p k]
    rfl
section
variable {g : Gr} {w p : Nat}
theorem itG_grid (G : Grid 8 10 g w) (hp : p < 2 * (g.length + w)) : ∀ k, Grid 8 10 (itG g p k) w ∧ (itG g p k).length = g.length ∧ Bas (itG g p k) = Bas g
  | 0 => ⟨G, rfl, rfl⟩
  | k + 1 => by
    obtain ⟨h1, h2, h3⟩ := itG_grid G hp k
    have b := beam h1 (p := p) (by rw [h2]; exact hp)
    exact ⟨b.grid, b.len.trans h2, b.bas.trans h3⟩
/-- after n beams a room comes again, the one after f beams -/
structure Rho (g : Gr) (p n f : Nat) : Prop where
  lt : f < n
  eq : itG g p n = itG g p f
  dis : ∀ i j, i < j → j < n → itG g p i ≠ itG g p j
theorem least_rho (g : Gr) (p : Nat) : ∀ N, (∃ i j, i < j ∧ j ≤ N ∧ itG g p i = itG g p j) → ∃ n f, n ≤ N ∧ Rho g p n f
  | 0, ⟨i, j, h1, h2, _⟩ => absurd h1 (by omega)
  | N + 1, h => by
    by_cases q : ∃ i j, i < j ∧ j ≤ N ∧ itG g p i = itG g p j
    · obtain ⟨n, f, h1, h2⟩ := least_rho g p N q
      exact ⟨n, f, by omega, h2⟩
    · obtain ⟨i, j, h1, h2, h3⟩ := h
      have ej : j = N + 1 := by
        rcases Nat.lt_or_ge j (N + 1) with z | z
        · exact absurd ⟨i, j, h1, by omega, h3⟩ q
        · omega
      subst ej
      exact ⟨N + 1, i, Nat.le_refl _, h1, h3.symm, fun a b hab hb e => q ⟨a, b, hab, by omega, e⟩⟩
theorem Rho.ex (G : Grid 8 10 g w) (hp : p < 2 * (g.length + w)) : ∃ n f, n ≤ 1024 ∧ Rho g p n f := by
  refine least_rho g p 1024 ?_
  by_cases q : ∃ i j, i < j ∧ j ≤ 1024 ∧ itG g p i = itG g p j
  · exact q
  · exfalso
    have nd : ((List.range 1025).map (itG g p)).Nodup := by
      refine List.pairwise_map.mpr (List.Pairwise.imp_of_mem ?_ (List.pairwise_lt_range (n := 1025)))
      intro a b ha hb hab e
      exact q ⟨a, b, hab, by have := List.mem_range.mp hb; omega, e⟩
    have le := nodup_le _ (gvar g) nd (fun x hx => by
      obtain ⟨i, _, rfl⟩ := List.mem_map.mp hx
      exact gvar_mem (itG_grid G hp i).2.2.symm)
    rw [List.length_map, List.length_range, gvar_len] at le
    have : 2 ^ gcount g ≤ 2 ^ 10 := Nat.pow_le_pow_right (by decide) G.tu
    omega
theorem Rho.one {n f n' f' : Nat} (a : Rho g p n f) (b : Rho g p n' f') : n = n' ∧ f = f' := by
  have hn : n = n' := by
    rcases Nat.lt_trichotomy n n' with h | h | h
    · exact absurd a.eq.symm (b.dis f n a.lt h)
    · exact h
    · exact absurd b.eq.symm (a.dis f' n' b.lt h)
  subst hn
  refine ⟨rfl, ?_⟩
  rcases Nat.lt_trichotomy f f' with h | h | h
  · exact absurd (a.eq.symm.trans b.eq) (a.dis f f' h b.lt)
  · exact h
  · exact absurd (b.eq.symm.trans a.eq) (b.dis f' f h a.lt)
theorem Rho.per {n f : Nat} (a : Rho g p n f) {k : Nat} (h : f ≤ k) : itG g p (k + (n - f)) = itG g p k := by
  have e1 : k + (n - f) = n + (k - f) := by have := a.lt; omega
  have e2 : k = f + (k - f) := by omega
  rw [e1, itG_add, a.eq, ← itG_add, ← e2]
theorem Rho.pers {n f : Nat} (a : Rho g p n f) {k : Nat} (h : f ≤ k) : ∀ m, itG g p (k + m * (n - f)) = itG g p k
  | 0 => by rw [Nat.zero_mul]; rfl
  | m + 1 => by
    rw [Nat.succ_mul, ← Nat.add_assoc, a.per (by omega), a.pers h m]
theorem Rho.at_ {n f : Nat} (a : Rho g p n f) {k : Nat} (h : f ≤ k) : itG g p k = itG g p (f + (k - f) % (n - f)) := by
  have e := a.pers (k := f + (k - f) % (n - f)) (by omega) ((k - f) / (n - f))
  have e2 := Nat.mod_add_div (k - f) (n - f)
  rw [Nat.mul_comm] at e2
  rw [← e, show f + (k - f) % (n - f) + (k - f) / (n - f) * (n - f) = k by omega]
end
/-- the texts of two rooms tell them apart -/
theorem gtext_inj {m t : Nat} {g k : Gr} {w w' : Nat} (G : Grid m t g w) (G' : Grid m t k w') (e : gtext g = gtext k) : g = k := by
  have h1 : g ≠ [] := fun z => by have := G.h0; rw [z] at this; exact absurd this (by decide)
  have h2 : k ≠ [] := fun z => by have := G'.h0; rw [z] at this; exact absurd this (by decide)
  have : g.map lstr = k.map lstr := by rw [← split_g h1, e, split_g h2]
  exact List.map_inj_right (fun _ _ z => lstr_inj z) |>.mp this
end My
namespace My
open PySem PySem.Spec PyProof.Rows L2
/-! what the laws' data are; beams, many -/
theorem dNs_get {ps : List Nat} {i p : Nat} (h : ps[i]? = some p) : (dNs ps)[i]? = some (.int p) := by
  unfold dNs
  rw [List.getElem?_map, h] <;> rfl
theorem run_app : ∀ (g : Gr) (a b : List Nat), runF g (a ++ b) = runF (runF g a) b
  | g, [], b => rfl
  | g, p :: a, b => run_app (outG g p) a b
theorem ex_app : ∀ (g : Gr) (a b : List Nat), exF g (a ++ b) = exF g a ++ exF (runF g a) b
  | g, [], b => rfl
  | g, p :: a, b => by
    show exitP g p :: exF (outG g p) (a ++ b) = _
    rw [ex_app (outG g p) a b] <;> rfl
theorem dNs_app (a b : List Nat) : dNs (a ++ b) = dNs a ++ dNs b := by
  unfold dNs
  rw [List.map_append]
theorem run_bas {w : Nat} : ∀ {g : Gr} {ps : List Nat}, Grid 8 10 g w → (∀ p ∈ ps, p < 2 * (g.length + w)) → Bas (runF g ps) = Bas g
  | g, [], _, _ => rfl
  | g, p :: ps, G, h => by
    have b := beam G (h p List.mem_cons_self)
    exact (run_bas (ps := ps) b.grid fun q hq => by rw [b.len]; exact h q (List.mem_cons_of_mem _ hq)).trans b.bas
theorem tiles_emp {g k : Gr} (h : gcount g = gcount k) : (tiles Sg.tur g).isEmpty = (tiles Sg.tur k).isEmpty := by
  rw [← tiles_tur, ← tiles_tur] at h
  revert h
  generalize tiles Sg.tur g = a
  generalize tiles Sg.tur k = b
  intro h
  cases a <;> cases b <;> first | rfl | cases h
theorem eqv_nil (l : List Da) : PyData.eqv (py (.lst l)) (py (.lst [])) = l.isEmpty := by
  cases l with
  | nil => decide +kernel
  | cons d l => simp only [py, pys, PyData.eqv, PyData.eqvAll, List.isEmpty] <;> rfl
theorem pl_nil {n : Nat} : Pl (n + 1) (.lst []) := .lst fun _ h => by cases h
theorem lstr_ascii (l : List Sg) : ∀ c ∈ (lstr l).cps.toList, c < 128 := fun c hc => by
  rw [lstr_toList] at hc
  obtain ⟨s, _, rfl⟩ := List.mem_map.mp hc
  exact cp_small s
theorem wr_neNil {B : Org} {C : Addr} {Γ : Ct} {Kf : PySem.W.Frag} {K : Ct → Rs → Prop} {r : Rs} {l : List Da} (hx : Vw Γ r (.lst l)) (pl : Pl 60 (.lst l)) (k : K Γ (.d (.bl (!l.isEmpty)))) : WR B C Γ (rNeD Kf) r (.mo (ML [])) K :=
  wr_neD hx .m pl pl_nil (by rw [eqv_nil]; exact k)
theorem wr_eqNil {B : Org} {C : Addr} {Γ : Ct} {Kf : PySem.W.Frag} {K : Ct → Rs → Prop} {r : Rs} {l : List Da} (hx : Vw Γ r (.lst l)) (pl : Pl 60 (.lst l)) (k : K Γ (.d (.bl l.isEmpty))) : WR B C Γ (rEqD Kf) r (.mo (ML [])) K :=
  wr_eqD hx .m pl pl_nil (by rw [eqv_nil]; exact k)
theorem pl_lnsT {n : Nat} (g : Gr) : Pl (n + 1) (.tup (dLns g)) := .tup fun d hd => by
  unfold dLns at hd
  obtain ⟨p, _, rfl⟩ := List.mem_map.mp hd
  exact .str _ (lstr_ascii p)
theorem pl_lns {n : Nat} (g : Gr) : Pl (n + 1) (.lst (dLns g)) := .lst fun d hd => by
  unfold dLns at hd
  obtain ⟨p, _, rfl⟩ := List.mem_map.mp hd
  exact .str _ (lstr_ascii p)
theorem pl_two {n : Nat} {a b : Da} (ha : Pl n a) (hb : Pl n b) : Pl (n + 1) (.tup [a, b]) := .tup fun d hd => by
  rcases List.mem_cons.mp hd with rfl | hd
  · exact ha
  · rw [List.mem_singleton.mp hd]
    exact hb
theorem dPs_emp (l : List (Int × Int)) : (dPs l).isEmpty = l.isEmpty := by cases l <;> rfl
theorem tiles_len {g : Gr} {w : Nat} (G : Grid 8 10 g w) : (tiles Sg.tur g).length ≤ 10 := by rw [tiles_tur]; exact G.tu
end My
namespace My
open PySem PySem.Spec PyProof.Rows L2
/-! a mirror has turned as often as it was passed -/
def turnN (s : Sg) (n : Nat) : Sg := if n % 2 = 0 then s else s.turn
theorem turnN_succ (s : Sg) (n : Nat) : turnN s (n + 1) = (turnN s n).turn := by
  unfold turnN
  by_cases h : n % 2 = 0
  · rw [if_pos h, if_neg (by omega)]
  · rw [if_neg h, if_pos (by omega), Sg.turn_turn]
theorem sgAt_other {h w r c a b : Nat} {g : Gr} (s : Shp h w g) (hr : r < h) (ne : ¬ (r = a ∧ c = b)) : sgAt (putAt g r c) a b = sgAt g a b := by
  unfold sgAt
  by_cases e : r = a
  · subst e
    have ne2 : c ≠ b := fun z => ne ⟨rfl, z⟩
    rw [rowAt_put s hr, List.getD_eq_getElem?_getD, List.getElem?_set_ne ne2, ← List.getD_eq_getElem?_getD]
  · have : rowAt (putAt g r c) a = rowAt g a := by
      unfold rowAt putAt
      rw [List.getD_eq_getElem?_getD, List.getElem?_set_ne e, ← List.getD_eq_getElem?_getD]
    rw [this]
theorem par {h w : Nat} {x : BS} (s : Shp h w x.g) : ∀ n, (∀ i, i < n → Inn h w (bst x i)) → Shp h w (bst x n).g ∧ ∀ a b : Nat, a < h → b < w → sgAt (bst x n).g a b = turnN (sgAt x.g a b) ((trail x n).count ((a : Int), (b : Int)))
  | 0, _ => ⟨s, fun a b _ _ => rfl⟩
  | n + 1, hi => by
    obtain ⟨s1, k⟩ := par s n fun i h => hi i (by omega)
    obtain ⟨i1, i2, i3, i4⟩ := hi n (by omega)
    have hr : (bst x n).r.toNat < h := by omega
    have hc : (bst x n).c.toNat < w := by omega
    have e : (bst x (n + 1)).g = putAt (bst x n).g (bst x n).r.toNat (bst x n).c.toNat := rfl
    rw [e, trail_succ]
    refine ⟨s1.put hr, fun a b ha hb => ?_⟩
    rw [List.count_append]
    by_cases q : (bst x n).r.toNat = a ∧ (bst x n).c.toNat = b
    · obtain ⟨rfl, rfl⟩ := q
      have eq : (((bst x n).r.toNat : Int), ((bst x n).c.toNat : Int)) = ((bst x n).r, (bst x n).c) := by
        rw [Int.toNat_of_nonneg i1, Int.toNat_of_nonneg i3]
      rw [sgAt_put s1 hr hc, k _ _ ha hb, eq, List.count_singleton_self, turnN_succ]
    · have ne : ((bst x n).r, (bst x n).c) ≠ ((a : Int), (b : Int)) := fun z => by
        injection z with z1 z2
        exact q ⟨by omega, by omega⟩
      rw [sgAt_other s1 hr q, k a b ha hb, List.count_cons_of_ne ne, List.count_nil, Nat.add_zero]
section
variable {g : Gr} {w p a b : Nat}
theorem Beam.par (bk : Beam g w p) (G : Grid 8 10 g w) (ha : a < g.length) (hb : b < w) : sgAt (outG g p) a b = turnN (sgAt g a b) ((trlP g p).count ((a : Int), (b : Int))) := by
  obtain ⟨n, y, ⟨⟨r, c, h1, h2, e⟩, _⟩, ey, _⟩ := bk.ray
  obtain ⟨r', c', n', k1, k2, et⟩ := bk.trl
  rw [h1] at k1
  cases k1
  obtain rfl := h2.one k2
  rw [et, ← ey, e]
  exact (My.par (x := enter g r c) ⟨rfl, G.ln⟩ n h2.2).2 a b ha hb
end
theorem hit_bas (g : Gr) (r c : Nat) : hit Sg.tur (Bas g) r c = hit Sg.tur g r c := by
  unfold hit Bas
  rw [List.getD_eq_getElem?_getD, List.getElem?_map, List.getD_eq_getElem?_getD]
  cases g[r]? with
  | none => rfl
  | some l =>
    show ((l.map Sg.base)[c]?.map Sg.tur).getD false = (l[c]?.map Sg.tur).getD false
    rw [List.getElem?_map, Option.map_map]
    congr 2
    funext s
    cases s <;> rfl
theorem tiles_bas (g : Gr) : tiles Sg.tur (Bas g) = tiles Sg.tur g := by
  have hl : ∀ r, ((Bas g).getD r []).length = (g.getD r []).length := fun r => by
    unfold Bas
    rw [List.getD_eq_getElem?_getD, List.getElem?_map, List.getD_eq_getElem?_getD]
    cases g[r]? with
    | none => rfl
    | some l => exact List.length_map ..
  have h0 : (Bas g).length = g.length := by
    unfold Bas
    rw [List.length_map]
  unfold tiles tilesTo rowTiles
  rw [h0]
  congr 1
  funext r
  rw [hl r]
  congr 1
  exact List.filter_congr fun c _ => hit_bas g r c
theorem tiles_same {g k : Gr} (h : Bas g = Bas k) : tiles Sg.tur g = tiles Sg.tur k := by rw [← tiles_bas g, h, tiles_bas]
theorem bas_flip (g : Gr) : Bas (flipG g) = Bas g := by
  unfold Bas flipG
  rw [List.map_map]
  congr 1
  funext l
  show (l.map Sg.turn).map Sg.base = _
  rw [List.map_map]
  congr 1
  funext s
  exact Sg.base_turn s
/-- turned or not, as a number -/
theorem turnN_par {s : Sg} (h : s.tur = true) (n : Nat) : (if (!decide (V.str s.str = V.str (turnN s n).str)) = true then (1 : Int) else 0) = ((n : Nat) : Int) % 2 := by
  unfold turnN
  by_cases e : n % 2 = 0
  · rw [if_pos e, decide_eq_true rfl]
    show (0 : Int) = _
    omega
  · have ne : decide (V.str s.str = V.str s.turn.str) = false := by cases s <;> first | (cases h; done) | decide +kernel
    rw [if_neg e, ne]
    show (1 : Int) = _
    omega
theorem count_py (L : List (Int × Int)) (q : Int × Int) : ((dPs L).countP fun z => (py z).eqv (py (dP q))) = L.count q := by
  unfold dPs
  rw [List.countP_map, List.count]
  congr 1
  funext p
  show (py (dP p)).eqv (py (dP q)) = (p == q)
  obtain ⟨a, b⟩ := p
  obtain ⟨c, d⟩ := q
  show (PyData.tuple (pys [.int a, .int b])).eqv (.tuple (pys [.int c, .int d])) = _
  simp only [py, pys, PyData.eqv, PyData.eqvAll]
  rw [Bool.and_true] <;> rfl
theorem dPs_at {ps : List (Int × Int)} {i : Nat} {x : Da} (h : (dPs ps)[i]? = some x) : ∃ q, ps[i]? = some q ∧ x = dP q := by
  unfold dPs at h
  rw [List.getElem?_map] at h
  cases e : ps[i]? with
  | none => rw [e] at h; cases h
  | some p =>
    rw [e] at h
    exact ⟨p, rfl, (Option.some.inj h).symm⟩
theorem tupF_dP (q : Int × Int) : TupF (dP q) := ⟨_, rfl, fun d hd => by
  rcases List.mem_cons.mp hd with rfl | hd
  · exact ⟨_, rfl⟩
  · rw [List.mem_singleton.mp hd]
    exact ⟨_, rfl⟩⟩
end My
namespace My
open PySem PySem.Spec PyProof.Rows L2
theorem sz4 {n : Nat} (h : n ≤ 1000000) : n < sizeLine := Nat.lt_of_le_of_lt h (by decide)
/-- data, of a depth, at a value -/
inductive Dt where
  | non
  | bl (b : Bool)
  | int (i : Int)
  | str (z : Str)
  | tup (l : List Dt)
  | lst (l : List Dt)
inductive DtAt (H : Hp) : Nat → V → Dt → Prop where
  | non {n : Nat} : DtAt H n .non .non
  | bl {n : Nat} (b : Bool) : DtAt H n (.bl b) (.bl b)
  | int {n : Nat} (i : Int) : DtAt H n (.int i) (.int i)
  | str {n : Nat} (z : Str) : DtAt H n (.str z) (.str z)
  | tup {n : Nat} {a : Addr} {xs : List V} {ds : List Dt} (h : H a = some (.tup xs)) (hl : xs.length = ds.length) (hs : xs.length ≤ 1000000) (p : ∀ (i : Nat) (x : V) (d : Dt), xs[i]? = some x → ds[i]? = some d → DtAt H n x d) : DtAt H (n + 1) (.ref a) (.tup ds)
  | lst {n : Nat} {a : Addr} {xs : List V} {ds : List Dt} (h : H a = some (.lst xs)) (hl : xs.length = ds.length) (hs : xs.length ≤ 1000000) (p : ∀ (i : Nat) (x : V) (d : Dt), xs[i]? = some x → ds[i]? = some d → DtAt H n x d) : DtAt H (n + 1) (.ref a) (.lst ds)
theorem DtAt.same {H H' : Hp} (s : Same H H') {n : Nat} {v : V} {d : Dt} (x : DtAt H n v d) : DtAt H' n v d := by
  induction x with
  | non => exact .non
  | bl b => exact .bl b
  | int i => exact .int i
  | str z => exact .str z
  | tup h hl hs p ih => exact .tup (s _ _ h) hl hs ih
  | lst h hl hs p ih => exact .lst (s _ _ h) hl hs ih
theorem DtAt.up {H : Hp} {n : Nat} {v : V} {d : Dt} (x : DtAt H n v d) : ∀ {m : Nat}, n ≤ m → DtAt H m v d := by
  induction x with
  | non => intro m _; exact .non
  | bl b => intro m _; exact .bl b
  | int i => intro m _; exact .int i
  | str z => intro m _; exact .str z
  | tup h hl hs p ih =>
    intro m hm
    obtain ⟨k, rfl⟩ : ∃ k, m = k + 1 := ⟨m - 1, by omega⟩
    exact .tup h hl hs fun i x d e1 e2 => ih i x d e1 e2 (by omega)
  | lst h hl hs p ih =>
    intro m hm
    obtain ⟨k, rfl⟩ : ∃ k, m = k + 1 := ⟨m - 1, by omega⟩
    exact .lst h hl hs fun i x d e1 e2 => ih i x d e1 e2 (by omega)
/-- the same data twice -/
def sp_same (n : Nat) : Sp := fun vs H Q _ => ∃ (x y : V) (d : Dt), vs = [x, y] ∧ DtAt H n x d ∧ DtAt H n y d ∧ ∀ H', Same H H' → Q (.bl true) H'
abbrev s_l_equal : Stmt := (top 47)
abbrev N_l_equal : List Str := ["_law_actual", "_law_expected", "_law_k"]
theorem sc_l_equal : FnScope N_l_equal ["_law_actual", "_law_expected"] (defScope s_l_equal) := ⟨rfl, rfl, rfl, by decide +kernel, rfl, by decide +kernel, by decide +kernel⟩

section
variable {P : Program} {w : World} {K : PySem.W.Frag} {mg : Str → Option Value} {base : Heap}
theorem rIx_of {a : Addr} {xs : List V} {i : Int} {z : V} {H : Hp} {Q : VK} (hS : SqL K H a xs ∨ SqT K H a xs) (hi : atI xs i = some z) (q : Q z H) : rIx K (.ref a) (.int i) H Q := by
  rcases hS with h | h
  · exact .inl ⟨a, xs, i, z, rfl, rfl, h, hi, q⟩
  · exact .inr (.inl ⟨a, xs, i, z, rfl, rfl, h, hi, q⟩)
theorem same_step {f : Addr} {fd : FuncData} (F : Fun K "_law_equal" "_law_equal" s_l_equal f fd) (T : Txt mg) {k n : Nat} {sp0 : Sp} (g_l_equal : GF P w K mg base "_law_equal" k sp0) (hsp : ∀ m, n = m + 1 → ∀ vs H Q E, sp_same m vs H Q E → sp0 vs H Q E) :
    FnOk P w K mg base CX0 (k + 1) f fd ["_law_actual", "_law_expected"] (sp_same n) := by
  refine F.ok sc_l_equal (fun vs H Q E h => ?_) (fun cdv A outer s H vs Q E hr h => ?_)
  · obtain ⟨x, y, d, rfl, _⟩ := h
    rfl
  · obtain ⟨x, y, d, rfl, hx, hy, q⟩ := h
    refine ⟨_, (pss_cons (ps_if (pt_cmpR op_isN (pv 1) pe_non (nomark _))
      (pss_one (ps_ret (pe_cmpR op_isN (pv 0) pe_non (nomark _))))
      pss_nil)
    (pss_cons (ps_if (pt_val (pe_callB call_isi (by rfl) T.b_isinstance (by decide +kernel) (pa_cons (pv 1) (pa_cons (pe_bltn (v := .ty "bool") (u := .type "bool") (by rfl) T.b_bool (by decide +kernel) rfl) pa_nil))))
      (pss_one (ps_ret (pe_and (pe_callB call_isi (by rfl) T.b_isinstance (by decide +kernel) (pa_cons (pv 0) (pa_cons (pe_bltn (v := .ty "bool") (u := .type "bool") (by rfl) T.b_bool (by decide +kernel) rfl) pa_nil))) (pe_one (pe_cmpR op_eq (pv 0) (pv 1) (nomark _))))))
      pss_nil)
    (pss_cons (ps_if (pt_val (pe_callB call_isi (by rfl) T.b_isinstance (by decide +kernel) (pa_cons (pv 1) (pa_cons (pe_bltn (v := .ty "int") (u := .type "int") (by rfl) T.b_int (by decide +kernel) rfl) pa_nil))))
      (pss_one (ps_ret (pe_and (pe_callB call_isi (by rfl) T.b_isinstance (by decide +kernel) (pa_cons (pv 0) (pa_cons (pe_bltn (v := .ty "int") (u := .type "int") (by rfl) T.b_int (by decide +kernel) rfl) pa_nil))) (pe_and (pe_not (pe_callB call_isi (by rfl) T.b_isinstance (by decide +kernel) (pa_cons (pv 0) (pa_cons (pe_bltn (v := .ty "bool") (u := .type "bool") (by rfl) T.b_bool (by decide +kernel) rfl) pa_nil)))) (pe_one (pe_cmpR op_eq (pv 0) (pv 1) (nomark _)))))))
      pss_nil)
    (pss_cons (ps_if (pt_val (pe_callB call_isi (by rfl) T.b_isinstance (by decide +kernel) (pa_cons (pv 1) (pa_cons (pe_bltn (v := .ty "str") (u := .type "str") (by rfl) T.b_str (by decide +kernel) rfl) pa_nil))))
      (pss_one (ps_ret (pe_and (pe_callB call_isi (by rfl) T.b_isinstance (by decide +kernel) (pa_cons (pv 0) (pa_cons (pe_bltn (v := .ty "str") (u := .type "str") (by rfl) T.b_str (by decide +kernel) rfl) pa_nil))) (pe_one (pe_cmpR op_eq (pv 0) (pv 1) (nomark _))))))
      pss_nil)
    (pss_cons (ps_if (pt_cmpR op_ne (pe_callB call_isi (by rfl) T.b_isinstance (by decide +kernel) (pa_cons (pv 1) (pa_cons (pe_bltn (v := .ty "tuple") (u := .type "tuple") (by rfl) T.b_tuple (by decide +kernel) rfl) pa_nil))) (pe_callB call_isi (by rfl) T.b_isinstance (by decide +kernel) (pa_cons (pv 0) (pa_cons (pe_bltn (v := .ty "tuple") (u := .type "tuple") (by rfl) T.b_tuple (by decide +kernel) rfl) pa_nil))) (nomark _))
      (pss_one (ps_ret pe_bl))
      pss_nil)
    (pss_cons (ps_if (pt_cmpR op_ne (pe_callB call_isi (by rfl) T.b_isinstance (by decide +kernel) (pa_cons (pv 1) (pa_cons (pe_bltn (v := .ty "list") (u := .type "list") (by rfl) T.b_list (by decide +kernel) rfl) pa_nil))) (pe_callB call_isi (by rfl) T.b_isinstance (by decide +kernel) (pa_cons (pv 0) (pa_cons (pe_bltn (v := .ty "list") (u := .type "list") (by rfl) T.b_list (by decide +kernel) rfl) pa_nil))) (nomark _))
      (pss_one (ps_ret pe_bl))
      pss_nil)
    (pss_cons (ps_if (pt_cmpR op_ne (pe_callB call_len_seq (by rfl) T.b_len PySem.boot_len (pa_cons (pv 0) pa_nil)) (pe_callB call_len_seq (by rfl) T.b_len PySem.boot_len (pa_cons (pv 1) pa_nil)) (nomark _))
      (pss_one (ps_ret pe_bl))
      pss_nil)
    (pss_one (ps_ret (pe_callB (cr_all rfl) (by rfl) T.b_all (by decide +kernel) (pa_cons (pe_lcG (own := [("_law_k", 2)]) (g := gName 2)  rfl sc_l_equal.nd (pi_range1 (by rfl) T.b_range (pa_cons (pe_callB call_len_seq (by rfl) T.b_len PySem.boot_len (pa_cons (pv 1) pa_nil)) pa_nil)) (blkOk_by (N := N_l_equal) (sc := defScope s_l_equal) (by decide +kernel)) (fun _ _ _ _ _ => (pg_name (i := 2) sc_l_equal.nd rfl (Or.inl rfl))) (fun _ _ _ _ _ => pts_nil) (fun _ _ _ _ _ => (pe_c g_l_equal (hr.mono (Nat.le_refl _)) passL (pa_cons (pe_ix ix_seq (pv 0) (pv 2) (fun _ _ => rfl)) (pa_cons (pe_ix ix_seq (pv 1) (pv 2) (fun _ _ => rfl)) pa_nil))))) pa_nil))))))))))), ?_⟩
    have r0 := Same.refl H
    cases hx with
    | non =>
      cases hy
      refine ⟨_, rfl, rfl, _, rfl, ifT (dT rfl) ⟨_, rfl, rfl, ?_⟩⟩
      show Q (.bl (decide (V.non = V.non))) H
      rw [dT rfl]
      exact q H r0
    | bl b =>
      cases hy
      refine ⟨_, rfl, rfl, _, rfl, ifF (dF (by intro z; cases z)) ?_⟩
      refine ⟨_, rfl, _, _, _, _, true, rfl, .ty "bool", .base (.bl b), kit_ty (by decide +kernel), _, rfl, ifT rfl ?_⟩
      refine ⟨_, rfl, _, _, _, _, true, rfl, .ty "bool", .base (.bl b), kit_ty (by decide +kernel), _, rfl, ifT rfl ⟨_, rfl, _, rfl, rfl, ?_⟩⟩
      show Q (.bl (decide (V.bl b = V.bl b))) H
      rw [dT rfl]
      exact q H r0
    | int i =>
      cases hy
      refine ⟨_, rfl, rfl, _, rfl, ifF (dF (by intro z; cases z)) ?_⟩
      refine ⟨_, rfl, _, _, _, _, false, rfl, .ty "bool", .base (.int i), kit_ty (by decide +kernel), _, rfl, ifF rfl ?_⟩
      refine ⟨_, rfl, _, _, _, _, true, rfl, .ty "int", .base (.int i), kit_ty (by decide +kernel), _, rfl, ifT rfl ?_⟩
      refine ⟨_, rfl, _, _, _, _, true, rfl, .ty "int", .base (.int i), kit_ty (by decide +kernel), _, rfl, ifT rfl ?_⟩
      refine ⟨_, rfl, _, _, _, _, false, rfl, .ty "bool", .base (.int i), kit_ty (by decide +kernel), _, rfl, _, rfl, ifT rfl ⟨_, rfl, _, rfl, rfl, ?_⟩⟩
      show Q (.bl (decide (V.int i = V.int i))) H
      rw [dT rfl]
      exact q H r0
    | str z =>
      cases hy
      refine ⟨_, rfl, rfl, _, rfl, ifF (dF (by intro z; cases z)) ?_⟩
      refine ⟨_, rfl, _, _, _, _, false, rfl, .ty "bool", .base (.str z), kit_ty (by decide +kernel), _, rfl, ifF rfl ?_⟩
      refine ⟨_, rfl, _, _, _, _, false, rfl, .ty "int", .base (.str z), kit_ty (by decide +kernel), _, rfl, ifF rfl ?_⟩
      refine ⟨_, rfl, _, _, _, _, true, rfl, .ty "str", .base (.str z), kit_ty (by decide +kernel), _, rfl, ifT rfl ?_⟩
      refine ⟨_, rfl, _, _, _, _, true, rfl, .ty "str", .base (.str z), kit_ty (by decide +kernel), _, rfl, ifT rfl ⟨_, rfl, _, rfl, rfl, ?_⟩⟩
      show Q (.bl (decide (V.str z = V.str z))) H
      rw [dT rfl]
      exact q H r0
    | @tup m a xs ds hX lX zX pX =>
      cases hy with
      | @tup _ b ys _ hY lY zY pY =>
      have hsp := hsp m rfl
      have SX : SqL K H a xs ∨ SqT K H a xs := .inr (SqT.of hX)
      have SY : SqL K H b ys ∨ SqT K H b ys := .inr (SqT.of hY)
      refine ⟨_, rfl, rfl, _, rfl, ifF (dF (by intro z; cases z)) ?_⟩
      refine ⟨_, rfl, _, _, _, _, false, rfl, .ty "bool", .base (.tup hY), kit_ty (by decide +kernel), _, rfl, ifF rfl ?_⟩
      refine ⟨_, rfl, _, _, _, _, false, rfl, .ty "int", .base (.tup hY), kit_ty (by decide +kernel), _, rfl, ifF rfl ?_⟩
      refine ⟨_, rfl, _, _, _, _, false, rfl, .ty "str", .base (.tup hY), kit_ty (by decide +kernel), _, rfl, ifF rfl ?_⟩
      refine ⟨_, rfl, _, _, _, _, true, rfl, .ty "tuple", .base (.tup hY), kit_ty (by decide +kernel), _, rfl, _, _, _, _, true, rfl, .ty "tuple", .base (.tup hX), kit_ty (by decide +kernel), rfl, _, rfl, ifF rfl ?_⟩
      refine ⟨_, rfl, _, _, _, _, false, rfl, .ty "list", .base (.tup hY), kit_ty (by decide +kernel), _, rfl, _, _, _, _, false, rfl, .ty "list", .base (.tup hX), kit_ty (by decide +kernel), rfl, _, rfl, ifF rfl ?_⟩
      refine ⟨_, rfl, a, _, rfl, SX, _, rfl, b, _, rfl, SY, rfl, _, rfl, ifF (by rw [lX, lY, dT rfl] <;> rfl) ?_⟩
      have eY : ((ys.length : Nat) : Int).toNat = ys.length := by omega
      refine ⟨_, rfl, b, _, rfl, SY, _, rfl, by omega, by omega, fun D hD => ?_⟩
      rw [eY]
      refine it_gen walk_range (fun i H' => H D = none ∧ Same H H' ∧ H' D = some (.lst ((List.replicate i true).map V.bl))) ⟨hD, Same.new hD, upd_same⟩ (fun _ _ _ _ => trivial) ?_ fun H1 m1 => ?_
      · rintro i v G0 G1 hi ⟨_, s1, e1⟩ ⟨rfl, rfl⟩
        have hi2 : i < xs.length := by omega
        have hi3 : i < ds.length := by omega
        refine ⟨rfl, _, rfl, _, rfl, rIx_of (seqA s1 SX) (by rw [Int.zero_add]; exact atI_nat (List.getElem?_eq_getElem hi2)) ⟨_, rfl, _, rfl, rIx_of (seqA s1 SY) (by rw [Int.zero_add]; exact atI_nat (List.getElem?_eq_getElem hi)) ?_⟩⟩
        refine hsp _ _ _ _ ⟨_, _, ds[i], rfl, (pX i _ _ (List.getElem?_eq_getElem hi2) (List.getElem?_eq_getElem hi3)).same s1, (pY i _ _ (List.getElem?_eq_getElem hi) (List.getElem?_eq_getElem hi3)).same s1, fun H' s2 => ?_⟩
        refine ⟨_, s2 _ _ e1, sz4 (by rw [List.length_map, List.length_replicate]; omega), hD, Same.mut (s1.trans s2) hD, ?_⟩
        rw [upd_same, List.replicate_succ', List.map_append] <;> rfl
      · obtain ⟨_, s1, e1⟩ := m1
        refine ⟨D, _, rfl, SqL.of e1, ?_⟩
        have ea : (List.replicate ys.length true).all id = true := by rw [List.all_replicate] <;> simp
        rw [ea]
        exact q H1 s1
    | @lst m a xs ds hX lX zX pX =>
      cases hy with
      | @lst _ b ys _ hY lY zY pY =>
      have hsp := hsp m rfl
      have SX : SqL K H a xs ∨ SqT K H a xs := .inl (SqL.of hX)
      have SY : SqL K H b ys ∨ SqT K H b ys := .inl (SqL.of hY)
      refine ⟨_, rfl, rfl, _, rfl, ifF (dF (by intro z; cases z)) ?_⟩
      refine ⟨_, rfl, _, _, _, _, false, rfl, .ty "bool", .base (.lst hY), kit_ty (by decide +kernel), _, rfl, ifF rfl ?_⟩
      refine ⟨_, rfl, _, _, _, _, false, rfl, .ty "int", .base (.lst hY), kit_ty (by decide +kernel), _, rfl, ifF rfl ?_⟩
      refine ⟨_, rfl, _, _, _, _, false, rfl, .ty "str", .base (.lst hY), kit_ty (by decide +kernel), _, rfl, ifF rfl ?_⟩
      refine ⟨_, rfl, _, _, _, _, false, rfl, .ty "tuple", .base (.lst hY), kit_ty (by decide +kernel), _, rfl, _, _, _, _, false, rfl, .ty "tuple", .base (.lst hX), kit_ty (by decide +kernel), rfl, _, rfl, ifF rfl ?_⟩
      refine ⟨_, rfl, _, _, _, _, true, rfl, .ty "list", .base (.lst hY), kit_ty (by decide +kernel), _, rfl, _, _, _, _, true, rfl, .ty "list", .base (.lst hX), kit_ty (by decide +kernel), rfl, _, rfl, ifF rfl ?_⟩
      refine ⟨_, rfl, a, _, rfl, SX, _, rfl, b, _, rfl, SY, rfl, _, rfl, ifF (by rw [lX, lY, dT rfl] <;> rfl) ?_⟩
      have eY : ((ys.length : Nat) : Int).toNat = ys.length := by omega
      refine ⟨_, rfl, b, _, rfl, SY, _, rfl, by omega, by omega, fun D hD => ?_⟩
      rw [eY]
      refine it_gen walk_range (fun i H' => H D = none ∧ Same H H' ∧ H' D = some (.lst ((List.replicate i true).map V.bl))) ⟨hD, Same.new hD, upd_same⟩ (fun _ _ _ _ => trivial) ?_ fun H1 m1 => ?_
      · rintro i v G0 G1 hi ⟨_, s1, e1⟩ ⟨rfl, rfl⟩
        have hi2 : i < xs.length := by omega
        have hi3 : i < ds.length := by omega
        refine ⟨rfl, _, rfl, _, rfl, rIx_of (seqA s1 SX) (by rw [Int.zero_add]; exact atI_nat (List.getElem?_eq_getElem hi2)) ⟨_, rfl, _, rfl, rIx_of (seqA s1 SY) (by rw [Int.zero_add]; exact atI_nat (List.getElem?_eq_getElem hi)) ?_⟩⟩
        refine hsp _ _ _ _ ⟨_, _, ds[i], rfl, (pX i _ _ (List.getElem?_eq_getElem hi2) (List.getElem?_eq_getElem hi3)).same s1, (pY i _ _ (List.getElem?_eq_getElem hi) (List.getElem?_eq_getElem hi3)).same s1, fun H' s2 => ?_⟩
        refine ⟨_, s2 _ _ e1, sz4 (by rw [List.length_map, List.length_replicate]; omega), hD, Same.mut (s1.trans s2) hD, ?_⟩
        rw [upd_same, List.replicate_succ', List.map_append] <;> rfl
      · obtain ⟨_, s1, e1⟩ := m1
        refine ⟨D, _, rfl, SqL.of e1, ?_⟩
        have ea : (List.replicate ys.length true).all id = true := by rw [List.all_replicate] <;> simp
        rw [ea]
        exact q H1 s1
theorem ok_same {f : Addr} {fd : FuncData} (F : Fun K "_law_equal" "_law_equal" s_l_equal f fd) (T : Txt mg) (hm : mg "_law_equal" = some (.ref f)) (hb : Binds K fd ["_law_actual", "_law_expected"] []) :
    ∀ n, FnOk P w K mg base CX0 (n + 1) f fd ["_law_actual", "_law_expected"] (sp_same n)
  | 0 => same_step (k := 0) (sp0 := fun _ _ _ _ => False) F T ⟨f, hm, F.kp, fun _ _ _ _ _ _ _ _ _ _ _ h => h.elim⟩ fun m e => nomatch e
  | n + 1 => same_step (k := n + 1) F T (gf_of F hm hb (ok_same F T hm hb n)) fun m e => by cases e; exact fun _ _ _ _ h => h
end
end My
namespace My
open PySem PySem.Spec PyProof.Rows L2
def sp_spots (K : PySem.W.Frag) : Sp := fun vs H Q _ => ∃ (a w : Nat) (g : List (List Sg)) (z : Str) (f : Sg → Bool), vs = [.ref a, .str z] ∧ SqL K H a (g.map lineV) ∧ Grid 8 10 g w ∧ (∀ s, inS z s = f s) ∧
  ∀ p ws H', H p = none → Same H H' → H' p = some (.lst ws) → PrsAt H' ws (tiles f g) → Q (.ref p) H'
abbrev s_l_spots : Stmt := (top 50)
abbrev N_l_spots : List Str := ["_law_lines_here", "_law_signs", "_law_found", "_law_row", "_law_k"]
theorem sc_l_spots : FnScope N_l_spots ["_law_lines_here", "_law_signs"] (defScope s_l_spots) := ⟨rfl, rfl, rfl, by decide +kernel, rfl, by decide +kernel, by decide +kernel⟩

section
variable {P : Program} {w : World} {K : PySem.W.Frag} {mg : Str → Option Value} {base : Heap}
theorem ok_spots {f : Addr} {fd : FuncData} (F : Fun K "_law_spots" "_law_spots" s_l_spots f fd) (T : Txt mg) : FnOk P w K mg base CX0 1 f fd ["_law_lines_here", "_law_signs"] (sp_spots K) := by
  refine F.ok sc_l_spots (fun vs H Q E h => ?_) (fun cdv A outer s H vs Q E hr h => ?_)
  · obtain ⟨a, ww, g, z, fz, rfl, _⟩ := h
    rfl
  · obtain ⟨a, ww, g, z, fz, rfl, hS, G, hz, q⟩ := h
    refine ⟨_, (pss_cons (ps_set (i := 2) sc_l_spots.nd rfl (Or.inl rfl) (pe_lst pa_nil))
    (pss_cons (ps_for PassesOwn.never rfl (pi_range1 (by rfl) T.b_range (pa_cons (pe_callB call_len_seq (by rfl) T.b_len PySem.boot_len (pa_cons (pv 0) pa_nil)) pa_nil)) (pg_name (i := 3) sc_l_spots.nd rfl (Or.inr rfl))
      (pss_one (ps_set (i := 2) sc_l_spots.nd rfl (Or.inl rfl) (pe_op op_cat (pv 2) (pe_lcG (own := [("_law_k", 4)]) (g := gName 4)  rfl sc_l_spots.nd (pi_range1 (by rfl) T.b_range (pa_cons (pe_callB call_len_str (by rfl) T.b_len PySem.boot_len (pa_cons (pe_ix ix_list (pv 0) pe_int (fun _ _ => rfl)) pa_nil)) pa_nil)) (blkOk_by (N := N_l_spots) (sc := defScope s_l_spots) (by decide +kernel)) (fun _ _ _ _ _ => (pg_name (i := 4) sc_l_spots.nd rfl (Or.inl rfl))) (fun _ _ _ _ _ => pts_one (pt_cmpR op_in_str (pe_ix ix_str (pe_ix ix_list (pv 0) (pv 3) (fun _ _ => rfl)) (pv 4) (fun _ _ => rfl)) (pv 1) (by rfl))) (fun _ _ _ _ _ => (pe_tup (pa_cons (pv 3) (pa_cons (pv 4) pa_nil)))))))))
    (pss_one (ps_ret (pv 2))))), ?_⟩
    have hwm := G.wm
    have hgm := G.hm
    have hl8 : ∀ l ∈ g, l.length ≤ 8 := fun l hl => by rw [G.ln l hl]; exact hwm
    obtain ⟨l0, hl0⟩ : ∃ l0, g[0]? = some l0 := ⟨g[0]'(G.h0), by simp [G.h0]⟩
    have lw0 := G.ln l0 (List.mem_of_getElem? hl0)
    have hm0 : (g.map lineV)[0]? = some (lineV l0) := by rw [List.getElem?_map, hl0] <;> rfl
    have e0 : ((lstr l0).length : Int) = (ww : Int) := by rw [lstr_len, lw0]
    have ew : ((ww : Int)).toNat = ww := by omega
    have eg : (((g.map lineV).length : Nat) : Int).toNat = g.length := by rw [List.length_map]; omega
    refine ⟨Nat.zero_le _, fun p0 hp0 => ?_⟩
    have s0 := Same.new (o := .lst []) hp0
    refine ⟨_, rfl, a, _, rfl, .inl (s0.seq hS), _, rfl, by rw [List.length_map]; omega, by rw [List.length_map]; omega, for_range (lo := 0) (n := (((g.map lineV).length : Nat) : Int).toNat) (fun i σ H' => ∃ (pf : Addr) (ws : List V) (v3 v4 : Option V), σ = [some (.ref a), some (.str z), some (.ref pf), v3, v4] ∧ Same H H' ∧ H pf = none ∧ H' pf = some (.lst ws) ∧ PrsAt H' ws (tilesTo fz g i)) ⟨p0, [], none, none, rfl, s0, hp0, upd_same, .nil⟩ ?_ ?_⟩
    · rintro i σ H1 hi ⟨pf, ws, v3, v4, rfl, s1, n1, e1, p1⟩
      rw [eg] at hi
      obtain ⟨l, hl⟩ : ∃ l, g[i]? = some l := ⟨g[i], by simp [hi]⟩
      have hli : (g.map lineV)[i]? = some (lineV l) := by rw [List.getElem?_map, hl] <;> rfl
      have lw := G.ln l (List.mem_of_getElem? hl)
      have egl : g.getD i [] = l := by rw [List.getD_eq_getElem?_getD, hl] <;> rfl
      refine ⟨_, rfl, _, rfl, a, _, _, _, rfl, rfl, s1.seq hS, atI_nat hm0, _, rfl, sz2 (by rw [lstr_len]; omega), _, rfl, by rw [e0]; omega, by rw [e0]; omega, fun D hD => ?_⟩
      rw [e0, ew]
      refine it_gen walk_range (fun j H' => Mkg H1 D (rowTiles fz g i j) H') (mkg0 hD) (fun _ _ _ _ => trivial) ?_ fun H2 m2 => ?_
      · rintro j x H2 H3 hj m ⟨rfl, rfl⟩
        obtain ⟨sg, hsg⟩ : ∃ sg, l[j]? = some sg := ⟨l[j]'(by omega), by simp [lw, hj]⟩
        have hc : (lstr l).cps.toList[j]? = some sg.cp := by rw [lstr_toList, List.getElem?_map, hsg] <;> rfl
        have hh : hit fz g i j = fz sg := by
          unfold hit
          rw [egl, hsg] <;> rfl
        refine ⟨rfl, _, rfl, _, rfl, a, _, _, _, rfl, rfl, (s1.trans m.1).seq hS, by rw [Int.zero_add]; exact atI_nat hli, _, rfl, _, _, _, rfl, rfl, sz2 (by rw [lstr_len]; omega), by rw [Int.zero_add]; exact atI_nat hc, _, rfl, _, _, rfl, rfl, _, rfl, if2 (fun hy => ?_) (fun hy => ?_)⟩
        · have hy : hit fz g i j = true := hh.trans ((hz sg).symm.trans hy)
          refine ⟨_, rfl, _, rfl, by show 2 ≤ sizeLine; decide, fun p hp => ?_⟩
          have m3 := m.new (o := .tup [.int (0 + (i : Int)), .int (0 + (j : Int))]) hp
          obtain ⟨us, eu, el⟩ := m3.len
          have hlen := rowTiles_len fz g i j
          refine ⟨us, eu, sz3 (by rw [el]; omega), ?_⟩
          have m4 := m3.add eu (v := .ref p) (p := ((i : Int), (j : Int))) ⟨p, rfl, by rw [upd_same, Int.zero_add, Int.zero_add]⟩
          rw [← rowTiles_yes hy] at m4
          exact m4
        · have hy : hit fz g i j = false := hh.trans ((hz sg).symm.trans hy)
          show Mkg H1 D (rowTiles fz g i (j + 1)) _
          rw [rowTiles_no hy]
          exact m
      · obtain ⟨s2, d2, us, e2, p2⟩ := m2
        have k1 := tilesTo_len fz g 8 hl8 i
        have k2 := rowTiles_len fz g i ww
        have k3 : i * 8 ≤ 8 * 8 := Nat.mul_le_mul_right _ (by omega)
        refine ⟨pf, D, ws, us, rfl, rfl, s2 _ _ e1, e2, sz2 (by rw [p1.len, p2.len]; omega), fun pn hpn => ?_⟩
        have s3 := Same.new' s2 (o := .lst (ws ++ us)) hpn
        refine ⟨pn, ws ++ us, _, _, rfl, s1.trans s3, s1.free (s2.free hpn), upd_same, ?_⟩
        rw [tilesTo_succ, egl, lw]
        exact Paired.app (p1.tx (Tx.of s3)) (p2.tx (Tx.new hpn))
    · rintro σ H1 ⟨pf, ws, v3, v4, rfl, s1, n1, e1, p1⟩
      rw [eg] at p1
      exact ⟨_, rfl, q pf ws H1 n1 s1 e1 p1⟩
end
end My
namespace My
open PySem PySem.Spec PyProof.Rows L2
def sp_lturned (K : PySem.W.Frag) : Sp := fun vs H Q _ => ∃ (a : Addr) (g : List (List Sg)), vs = [.ref a] ∧ SqL K H a (g.map lineV) ∧ g.length ≤ 8 ∧ (∀ l ∈ g, l.length ≤ 8) ∧ ∀ p H', H p = none → Same H H' → H' p = some (.lst ((flipG g).map lineV)) → Q (.ref p) H'
end My
namespace My
open PySem PySem.Spec PyProof.Rows L2
/-! the law's own comparison, spots, turned rows: over data -/
section
variable {B : Org} {C U : Addr} {Γ : Ct} {S S' : Fp} {σ : L2.St} {F F' H H' : Hp} {Q : VK} {v : V} {x : Da} {Kf : PySem.W.Frag} {K : Ct → Rs → Prop} {E : XK}
mutual
def dtD : Da → Dt
  | .non => .non
  | .bl b => .bl b
  | .int i => .int i
  | .str z => .str z
  | .tup l => .tup (dtDs l)
  | .lst l => .lst (dtDs l)
  | .room _ => .non
  | .lam _ => .non
  | .dct _ _ => .non
def dtDs : List Da → List Dt
  | [] => []
  | d :: l => dtD d :: dtDs l
end
theorem dtDs_map : ∀ l : List Da, dtDs l = l.map dtD
  | [] => by rw [dtDs] <;> rfl
  | d :: l => by rw [dtDs, dtDs_map l] <;> rfl
/-- no rooms, not deep, not long -/
inductive Sm : Nat → Da → Prop where
  | non {n : Nat} : Sm n .non
  | bl {n : Nat} (b : Bool) : Sm n (.bl b)
  | int {n : Nat} (i : Int) : Sm n (.int i)
  | str {n : Nat} (z : Str) : Sm n (.str z)
  | tup {n : Nat} {l : List Da} (hs : l.length ≤ 1000000) (h : ∀ d ∈ l, Sm n d) : Sm (n + 1) (.tup l)
  | lst {n : Nat} {l : List Da} (hs : l.length ≤ 1000000) (h : ∀ d ∈ l, Sm n d) : Sm (n + 1) (.lst l)
theorem dt_at {n : Nat} {d : Da} (a : At C H v d) (p : Sm n d) : DtAt H n v (dtD d) := by
  induction a generalizing n with
  | non => rw [dtD]; exact .non
  | bl b => rw [dtD]; exact .bl b
  | int i => rw [dtD]; exact .int i
  | str z => rw [dtD]; exact .str z
  | @tup a xs ds h hl q ih =>
    cases p with
    | tup hs p =>
      rw [dtD, dtDs_map]
      refine .tup h (by rw [List.length_map]; exact hl) (by omega) fun i x d h1 h2 => ?_
      rw [List.getElem?_map] at h2
      cases e : ds[i]? with
      | none => rw [e] at h2; cases h2
      | some z =>
        rw [e] at h2
        cases h2
        exact ih i x z h1 e (p z (List.mem_of_getElem? e))
  | @lst a xs ds h hl q ih =>
    cases p with
    | lst hs p =>
      rw [dtD, dtDs_map]
      refine .lst h (by rw [List.length_map]; exact hl) (by omega) fun i x d h1 h2 => ?_
      rw [List.getElem?_map] at h2
      cases e : ds[i]? with
      | none => rw [e] at h2; cases h2
      | some z =>
        rw [e] at h2
        cases h2
        exact ih i x z h1 e (p z (List.mem_of_getElem? e))
  | room => cases p
  | lam => cases p
  | dct => cases p
theorem wf_equal {n : Nat} {r s : Rs} (hx : Vw Γ r x) (hy : Vw Γ s x) (p : Sm n x) (k : K Γ (.d (.bl true))) : WF B C Γ (sp_same n) E [r, s] K := fun S σ F H vs T Q e rv c => by
  obtain ⟨v, w, T', U', rfl, r1, r2⟩ := vs2 rv
  exact ⟨v, w, dtD x, rfl, dt_at (e.vw r1 hx) p, dt_at (e.vw r2 hy) p, fun H' s => c.ext e (Gr4.of e.sub s) (.bl true) k⟩
theorem wf_equal' {n : Nat} {r s : Rs} {y : Da} (hx : Vw Γ r x) (hy : Vw Γ s y) (e : x = y) (p : Sm n y) (k : K Γ (.d (.bl true))) : WF B C Γ (sp_same n) E [r, s] K := by
  subst e
  exact wf_equal hx hy p k
theorem sm_dP {n : Nat} (p : Int × Int) : Sm (n + 1) (dP p) := .tup (Nat.le_of_ble_eq_true rfl) fun d hd => by
  rcases List.mem_cons.mp hd with rfl | hd
  · exact .int _
  · rw [List.mem_singleton.mp hd]
    exact .int _
theorem sm_dPs {n : Nat} {ps : List (Int × Int)} (h : ps.length ≤ 1000000) : Sm (n + 2) (.lst (dPs ps)) := .lst (by rw [dPs_len]; exact h) fun d hd => by
  unfold dPs at hd
  obtain ⟨p, _, rfl⟩ := List.mem_map.mp hd
  exact sm_dP p
theorem sm_dNs {n : Nat} {ps : List Nat} (h : ps.length ≤ 1000000) : Sm (n + 1) (.lst (dNs ps)) := .lst (by rw [dNs_len]; exact h) fun d hd => by
  unfold dNs at hd
  obtain ⟨p, _, rfl⟩ := List.mem_map.mp hd
  exact .int _
theorem sm_lns {n : Nat} {g : Gr} (h : g.length ≤ 1000000) : Sm (n + 1) (.lst (dLns g)) := .lst (by rw [dLns_len]; exact h) fun d hd => by
  unfold dLns at hd
  obtain ⟨p, _, rfl⟩ := List.mem_map.mp hd
  exact .str _
theorem sm_lnsT {n : Nat} {g : Gr} (h : g.length ≤ 1000000) : Sm (n + 1) (.tup (dLns g)) := .tup (by rw [dLns_len]; exact h) fun d hd => by
  unfold dLns at hd
  obtain ⟨p, _, rfl⟩ := List.mem_map.mp hd
  exact .str _
theorem sm_all1 {n : Nat} {a : Da} (ha : Sm n a) : ∀ d ∈ [a], Sm n d := fun d hd => by rw [List.mem_singleton.mp hd]; exact ha
theorem sm_cons {n : Nat} {a : Da} {l : List Da} (ha : Sm n a) (h : ∀ d ∈ l, Sm n d) : ∀ d ∈ a :: l, Sm n d := fun d hd => by
  rcases List.mem_cons.mp hd with rfl | hd
  · exact ha
  · exact h d hd
theorem sm_nil {n : Nat} : ∀ d ∈ ([] : List Da), Sm n d := fun _ h => by cases h
theorem wf_spots {r : Rs} {g : Gr} {w : Nat} {z : Str} {f : Sg → Bool} (hr : VwL Γ r (dLns g)) (G : Grid 8 10 g w) (hf : ∀ s, inS z s = f s) (k : K Γ (.d (.lst (dPs (tiles f g))))) : WF B C Γ (sp_spots Kf) E [r, .d (.str z)] K := fun S σ F H vs T Q e rv c => by
  obtain ⟨v, v', T', U', rfl, r1, r2⟩ := vs2 rv
  obtain rfl := r2.2.strI
  obtain ⟨a, xs, rfl, h2, h3⟩ := e.vwL r1 hr
  obtain rfl := ats_lines_inv h3
  exact ⟨a, w, g, z, f, rfl, SqL.of h2, G, hf, fun p ws H' hp s h t => c.ext e (ov_gr e.sub s) (.lst' (by rw [ov_new hp]; exact h) (dPs_ats (H2 := H) t.ov)) k⟩
end
end My
namespace My
open PySem PySem.Spec PyProof.Rows L2
def errNames : List Str := ["InvalidRoom", "UnknownPort", "UnknownTile", "InvalidNumber", "OtherRoom", "TooMany", "Contradiction", "NotTurning", "InvalidName", "UnknownName", "InvalidOperation"]
def errKinds : List Str := ["room", "port", "tile", "number", "other", "many", "contradiction", "turning", "name", "unknown", "operation"]
/-- the program's error classes: MirrorError at m, the others by c -/
structure ErrAll (K : PySem.W.Frag) (mg : Str → Option Value) (m : Addr) (c : Nat → Addr) : Prop where
  gm : mg "MirrorError" = some (.ref m)
  g : ∀ i, i < 11 → mg (errNames.getD i "") = some (.ref (c i))
  k : ∀ i j, i < 11 → j < 11 → PySem.W.kitOne K (.ref (c i)) (.ref (c j)) = some (decide (i = j))
  v : ∀ i, i < 11 → PySem.W.kitOne K (.ref (c i)) (.type "ValueError") = some true
  x : ∀ i, i < 11 → PySem.W.exmOne K (.ref (c i)) (.ref m) = some true
  e : ∀ i, i < 11 → ExcC K (c i)
  xf : ∀ i, i < 11 → XfC K (c i)
  st : ∀ i, i < 11 → PySem.W.subIn K (.ref (c i)) (.type "StopIteration") = some false
  n0r : PySem.W.findIn K (.ref (c 0)) "row" = some none
  n0c : PySem.W.findIn K (.ref (c 0)) "column" = some none
  n10 : PySem.W.findIn K (.ref (c 10)) "place" = some none
  bi : mg "isinstance" = none
  bv : mg "ValueError" = none
def kindsV (i : Nat) : List V := (List.range 11).map fun j => V.bl (decide (i = j))
theorem kinds_flat (i : Nat) : (kindsV i).all flatV = true := by
  unfold kindsV
  rw [List.all_eq_true]
  intro x hx
  obtain ⟨j, _, rfl⟩ := List.mem_map.mp hx
  rfl
theorem kinds_count : ∀ i, i < 11 → (kindsV i).countP (fun z => eqV z (.bl true)) = 1 := by decide +kernel
theorem kinds_at {i : Nat} (h : i < 11) (m : Nat) (z : V) (e : (kindsV i)[m]? = some z) : z = V.bl (decide (i = m)) := by
  unfold kindsV at e
  rw [List.getElem?_map] at e
  cases q : (List.range 11)[m]? with
  | none => rw [q] at e; cases e
  | some r =>
    rw [q] at e
    have : r = m := by
      obtain ⟨h1, h2⟩ := List.getElem?_eq_some_iff.mp q
      rw [List.getElem_range] at h2
      exact h2.symm
    subst this
    exact (Option.some.inj e).symm
theorem kinds_me {i : Nat} (h : i < 11) : (kindsV i)[i]? = some (V.bl true) := by
  unfold kindsV
  rw [List.getElem?_map, List.getElem?_range h] <;> simp
theorem kind_at : ∀ i, i < 11 → (errKinds.map V.str)[i]? = some (.str (errKinds.getD i "")) := by
  intro i h
  rw [List.getElem?_map, List.getD_eq_getElem?_getD]
  have : i < errKinds.length := h
  rw [List.getElem?_eq_getElem this]
  rfl
theorem kind_room : ∀ i, i < 11 → 0 < i → ("room" : Str) ≠ errKinds.getD i "" := by decide +kernel
theorem kind_op : ∀ i, i < 10 → ("operation" : Str) ≠ errKinds.getD i "" := by decide +kernel
/-- what is told of an error of the class i with the fields d -/
def ErrTold (i : Nat) (d : Option Addr) (H' : Hp) (Q : VK) : Prop :=
  (0 < i ∧ i < 10 ∧ d = none ∧ ∀ p H'', H' p = none → Same H' H'' → H'' p = some (.tup [.str (errKinds.getD i ""), .int 0]) → Q (.ref p) H'') ∨
  (i = 10 ∧ ∃ a fs v, d = some a ∧ H' a = some (.xd fs) ∧ fs.lookup ("place" : Str) = some v ∧ ∀ p H'', H' p = none → Same H' H'' → H'' p = some (.tup [.str "operation", v]) → Q (.ref p) H'') ∨
  (i = 0 ∧ ∃ a fs v w, d = some a ∧ H' a = some (.xd fs) ∧ fs.lookup ("row" : Str) = some v ∧ fs.lookup ("column" : Str) = some w ∧ ∀ p r H'', H' p = none → H' r = none → r ≠ p → Same H' H'' → H'' r = some (.tup [v, w]) → H'' p = some (.tup [.str "room", .ref r]) → Q (.ref p) H'')
theorem ErrTold.lt {i : Nat} {d : Option Addr} {H' : Hp} {Q : VK} (h : ErrTold i d H' Q) : i < 11 := by
  rcases h with ⟨_, h, _⟩ | ⟨h, _⟩ | ⟨h, _⟩ <;> omega
theorem ErrTold.xd {i : Nat} {d : Option Addr} {H' : Hp} {Q : VK} (h : ErrTold i d H' Q) : d = none ∨ ∃ dd fs, d = some dd ∧ H' dd = some (.xd fs) := by
  rcases h with ⟨_, _, h, _⟩ | ⟨_, a, fs, _, h1, h2, _⟩ | ⟨_, a, fs, _, _, h1, h2, _⟩
  · exact .inl h
  · exact .inr ⟨a, fs, h1, h2⟩
  · exact .inr ⟨a, fs, h1, h2⟩
/-- what the error that a call raises is told as -/
def TErr (c : Nat → Addr) : (XK → Hp → VK → Prop) → Hp → VK → Prop := fun tl H Q =>
  tl (fun cls d H' => ∃ i, cls = .ref (c i) ∧ ErrTold i d H' Q) H (fun _ H' => Q .non H')
end My
namespace My
open PySem PySem.Spec PySem.Calls PyProof.Rows L2
/-! the told error, as a def of its own -/
def spErr (c : Nat → Addr) (P : Program) (w : World) (K : PySem.W.Frag) (mg : Str → Option Value) (k : Nat) (B : Heap) : Sp := fun vs H Q _ => ∃ (f co : Addr) (q : Str) (tl : XK → Hp → VK → Prop), vs = [.ref f] ∧ FnR P w K mg B (L2.CX P w) k f (fun vs H Q E => vs = [] ∧ tl E H Q) ∧
  (∀ E H Q, tl E H Q → ∃ D, H f = some (LamO f D)) ∧ H co = some (LamX.CodeO co q) ∧ TErr c tl H Q
/-- x(), x a name that holds a def of that promise -/
theorem pe_actF {CXg : CXT} {Eg : XK} {P : Program} {w : World} {K : PySem.W.Frag} {mg : Str → Option Value} {B : Heap} {Ng : List Str} {qg : Str} {sg : Scope} {g f co : Addr} {q : Str} {cdg : Value} {k i : Nat} {a : Str} {pn : List (Addr × Obj)} {xe : Value → Shared → Prop} {W : WX} {E : XK} {A : Around} {outer : List PySem.Env} {H' : Hp} {s' : Shared} {p1 p2 : Pos} {tl : XK → Hp → VK → Prop}
    (F : FnR P w K mg B (L2.CX P w) k f (fun vs H Q E => vs = [] ∧ tl E H Q)) (fo : ∀ E H Q, tl E H Q → ∃ D, H f = some (LamO f D))
    (tk : Takes ((cxOf CXg P w K mg B Ng qg sg g cdg A outer s' H' Eg).tr pn xe) W) (hW : ∀ cls d σ' H', E cls d H' → W cls d σ' H') (hr : Room k (A.deeper (envOfC qg sg s'.heap.objs.size g cdg)))
    (hN : Ng[i]? = some a) (hv : Vis sg a) (hd : (a == ("__debug__" : Str)) = false) (hcd : (a == ("__classdict__" : Str)) = false) :
    PE ((cxOf CXg P w K mg B Ng qg sg g cdg A outer s' H' Eg).tr pn xe) (.Call (.Name a p1) [] [] p2) (fun σZ HZ Q => σZ[i]? = some (some (.ref f)) ∧ HZ co = some (LamX.CodeO co q) ∧ tl E HZ Q) := by
  refine ⟨fun pinsZ sZ σZ HZ Q IZ ⟨hs, _, ht⟩ => ?_⟩
  refine wpAny_Call_Name_kw (thn ((pe_var (pos := p1) (i := i) hN hv hd hcd).run pinsZ sZ σZ HZ (fun v H1 => v = .ref f ∧ H1 = HZ) IZ ⟨.ref f, hs, rfl, rfl⟩) fun u s2 ⟨v, H2, I2, r2, q2⟩ => ?_)
  obtain ⟨ev, eH⟩ := q2
  subst ev
  rw [eH] at I2
  obtain rfl : u = Value.ref f := r2
  obtain ⟨D, hf⟩ := fo E HZ Q ht
  obtain ⟨⟨m, t, of2⟩, _, _⟩ := I2.hok f _ hf
  refine PySem.W.callWith_F0 ⟨_, _, _, _, of2⟩ ?_
  have hx : Passes (L2.CX P w) ((cxOf CXg P w K mg B Ng qg sg g cdg A outer s' H' Eg).tr pn xe) E := passes_call tk hW
  refine wpAny_call (codeAny_mono (F _ _ s2 HZ [] [] Q E hr I2.env0 .nil ⟨rfl, ht⟩) fun r s3 hq => ?_)
  cases r with
  | error e => exact hx pinsZ σZ HZ s2 e s3 I2 hq
  | ok fl =>
    cases fl with
    | ret u => exact I2.after hq
    | next => exact False.elim hq
    | brk => exact False.elim hq
    | cont => exact False.elim hq
/-- a lambda of the law, kept or written there, asked for its error -/
def sErrOf (c : Nat → Addr) (Ls : List LamI) (q : Str) : L2.St → List V → Hp → VK → Prop := fun σ vs H Q => ∃ (f co : Addr) (dV : Value) (L : LamI), vs = [.ref f] ∧ L ∈ Ls ∧ LamAt H L dV co f q ∧ TErr c (fun E H' Q' => LamAt H' L dV co f q ∧ L.rd E (L2.wipe σ L.is) H' Q') H Q
end My
namespace My
open PySem PySem.Spec PyProof.Rows L2
/-- a tuple of ints; a list of them -/
def TiAt (H : Hp) (v : V) (l : List Int) : Prop := ∃ a, v = .ref a ∧ H a = some (.tup (l.map V.int))
def TisAt (H : Hp) (vs : List V) (ls : List (List Int)) : Prop := Paired (TiAt H) vs ls
theorem TiAt.tx {H H' : Hp} {v : V} {l : List Int} (x : TiAt H v l) (t : Tx H H') : TiAt H' v l := let ⟨a, e, h⟩ := x; ⟨a, e, t _ _ h⟩
theorem TisAt.tx {H H' : Hp} {vs : List V} {ls : List (List Int)} (x : TisAt H vs ls) (t : Tx H H') : TisAt H' vs ls := Paired.mapP x fun _ _ y => y.tx t
theorem TisAt.len {H : Hp} {vs : List V} {ls : List (List Int)} (x : TisAt H vs ls) : vs.length = ls.length := Paired.length x
/-- a list at D in the making, of tuples of ints -/
def Mki (H : Hp) (D : Addr) (ps : List (List Int)) (H' : Hp) : Prop := Same H H' ∧ H D = none ∧ ∃ ws, H' D = some (.lst ws) ∧ TisAt H' ws ps
theorem mki0 {H : Hp} {D : Addr} (hD : H D = none) : Mki H D [] (upd H D (.lst [])) := ⟨Same.new hD, hD, [], upd_same, .nil⟩
/-- one more tuple -/
theorem Mki.step {H H' : Hp} {D : Addr} {ps : List (List Int)} {p : Addr} {l : List Int} (m : Mki H D ps H') (hp : H' p = none) (hl : ps.length < 100000) :
    ∃ acc, upd H' p (.tup (l.map V.int)) D = some (.lst acc) ∧ acc.length < sizeLine ∧ Mki H D (ps ++ [l]) (upd (upd H' p (.tup (l.map V.int))) D (.lst (acc ++ [.ref p]))) := by
  obtain ⟨s, d, ws, e, q⟩ := m
  have e2 : upd H' p (.tup (l.map V.int)) D = some (.lst ws) := by rw [upd_ne (ne_of_none e hp)]; exact e
  refine ⟨ws, e2, sz3 (by rw [q.len]; exact hl), Same.mut (Same.new' s hp) d, d, _, upd_same, ?_⟩
  exact Paired.app ((q.tx (Tx.new hp)).tx (Tx.lst e2)) (.cons ⟨p, rfl, by rw [upd_ne (ne_of_none e hp).symm, upd_same]⟩ .nil)
def eUp (k : Nat) : List Int := [-1, k, 1, 0]
def eRt (w k : Nat) : List Int := [k, w, 0, -1]
def eDn (h k : Nat) : List Int := [h, k, -1, 0]
def eLf (k : Nat) : List Int := [k, -1, 0, 1]
def lfx (f : Nat → List Int) (n : Nat) : List (List Int) := (List.range n).map f
theorem lfx_succ (f : Nat → List Int) (n : Nat) : lfx f (n + 1) = lfx f n ++ [f n] := by
  unfold lfx
  rw [List.range_succ, List.map_append] <;> rfl
theorem lfx_len (f : Nat → List Int) (n : Nat) : (lfx f n).length = n := by
  unfold lfx
  rw [List.length_map, List.length_range]
def edges (h w : Nat) : List (List Int) := lfx eUp w ++ lfx (eRt w) h ++ lfx (eDn h) w ++ lfx eLf h
def sp_edges (K : PySem.W.Frag) : Sp := fun vs H Q _ => ∃ (a w : Nat) (g : List (List Sg)), vs = [.ref a] ∧ SqL K H a (g.map lineV) ∧ Grid 8 10 g w ∧
  ∀ p ws H', H p = none → Same H H' → H' p = some (.lst ws) → TisAt H' ws (edges g.length w) → Q (.ref p) H'
abbrev s_l_edges : Stmt := (top 44)
abbrev N_l_edges : List Str := ["_law_lines_here", "_law_height", "_law_width", "_law_found", "_law_k"]
theorem sc_l_edges : FnScope N_l_edges ["_law_lines_here"] (defScope s_l_edges) := ⟨rfl, rfl, rfl, by decide +kernel, rfl, by decide +kernel, by decide +kernel⟩

section
variable {P : Program} {w : World} {K : PySem.W.Frag} {mg : Str → Option Value} {base : Heap}
theorem ok_edges {f : Addr} {fd : FuncData} (F : Fun K "_law_edges" "_law_edges" s_l_edges f fd) (T : Txt mg) : FnOk P w K mg base CX0 1 f fd ["_law_lines_here"] (sp_edges K) := by
  refine F.ok sc_l_edges (fun vs H Q E h => ?_) (fun cdv A outer s H vs Q E hr h => ?_)
  · obtain ⟨a, ww, g, rfl, _⟩ := h
    rfl
  · obtain ⟨a, ww, g, rfl, hS, G, q⟩ := h
    refine ⟨_, (pss_cons (ps_asg (pe_tup (pa_cons (pe_callB call_len_seq (by rfl) T.b_len PySem.boot_len (pa_cons (pv 0) pa_nil)) (pa_cons (pe_callB call_len_str (by rfl) T.b_len PySem.boot_len (pa_cons (pe_ix ix_list (pv 0) pe_int (fun _ _ => rfl)) pa_nil)) pa_nil))) (pg_tup rfl (pgs_cons (pg_name (i := 1) sc_l_edges.nd rfl (Or.inr rfl)) (pgs_cons (pg_name (i := 2) sc_l_edges.nd rfl (Or.inr rfl)) pgs_nil))))
    (pss_cons (ps_set (i := 3) sc_l_edges.nd rfl (Or.inl rfl) (pe_op op_cat (pe_lcG (own := [("_law_k", 4)]) (g := gName 4)  rfl sc_l_edges.nd (pi_range1 (by rfl) T.b_range (pa_cons (pv 2) pa_nil)) (blkOk_by (N := N_l_edges) (sc := defScope s_l_edges) (by decide +kernel)) (fun _ _ _ _ _ => (pg_name (i := 4) sc_l_edges.nd rfl (Or.inl rfl))) (fun _ _ _ _ _ => pts_nil) (fun _ _ _ _ _ => (pe_tup (pa_cons (pe_op op_sub pe_int pe_int) (pa_cons (pv 4) (pa_cons pe_int (pa_cons pe_int pa_nil))))))) (pe_lcG (own := [("_law_k", 4)]) (g := gName 4)  rfl sc_l_edges.nd (pi_range1 (by rfl) T.b_range (pa_cons (pv 1) pa_nil)) (blkOk_by (N := N_l_edges) (sc := defScope s_l_edges) (by decide +kernel)) (fun _ _ _ _ _ => (pg_name (i := 4) sc_l_edges.nd rfl (Or.inl rfl))) (fun _ _ _ _ _ => pts_nil) (fun _ _ _ _ _ => (pe_tup (pa_cons (pv 4) (pa_cons (pv 2) (pa_cons pe_int (pa_cons (pe_op op_sub pe_int pe_int) pa_nil)))))))))
    (pss_one (ps_ret (pe_op op_cat (pe_op op_cat (pv 3) (pe_lcG (own := [("_law_k", 4)]) (g := gName 4)  rfl sc_l_edges.nd (pi_range1 (by rfl) T.b_range (pa_cons (pv 2) pa_nil)) (blkOk_by (N := N_l_edges) (sc := defScope s_l_edges) (by decide +kernel)) (fun _ _ _ _ _ => (pg_name (i := 4) sc_l_edges.nd rfl (Or.inl rfl))) (fun _ _ _ _ _ => pts_nil) (fun _ _ _ _ _ => (pe_tup (pa_cons (pv 1) (pa_cons (pv 4) (pa_cons (pe_op op_sub pe_int pe_int) (pa_cons pe_int pa_nil)))))))) (pe_lcG (own := [("_law_k", 4)]) (g := gName 4)  rfl sc_l_edges.nd (pi_range1 (by rfl) T.b_range (pa_cons (pv 1) pa_nil)) (blkOk_by (N := N_l_edges) (sc := defScope s_l_edges) (by decide +kernel)) (fun _ _ _ _ _ => (pg_name (i := 4) sc_l_edges.nd rfl (Or.inl rfl))) (fun _ _ _ _ _ => pts_nil) (fun _ _ _ _ _ => (pe_tup (pa_cons (pv 4) (pa_cons (pe_op op_sub pe_int pe_int) (pa_cons pe_int (pa_cons pe_int pa_nil)))))))))))), ?_⟩
    have hgm := G.hm
    have hwm := G.wm
    obtain ⟨l0, hl0⟩ : ∃ l0, g[0]? = some l0 := ⟨g[0]'(G.h0), by simp [G.h0]⟩
    have lw0 := G.ln l0 (List.mem_of_getElem? hl0)
    have hm0 : (g.map lineV)[0]? = some (lineV l0) := by rw [List.getElem?_map, hl0] <;> rfl
    have e0 : (((lstr l0).length : Nat) : Int) = (ww : Int) := by rw [lstr_len, lw0]
    have eh0 : (((g.map lineV).length : Nat) : Int) = (g.length : Int) := by rw [List.length_map]
    have eh : ((g.length : Int)).toNat = g.length := by omega
    have ew : ((ww : Int)).toNat = ww := by omega
    refine ⟨_, rfl, a, _, rfl, .inl hS, _, rfl, a, _, _, _, rfl, rfl, hS, atI_nat hm0, _, rfl, sz2 (by rw [lstr_len]; omega), by show 2 ≤ sizeLine; decide, fun p0 hp0 => ?_⟩
    rw [e0, eh0]
    have s0 := Same.new (o := .tup [.int g.length, .int ww]) hp0
    refine ⟨p0, _, rfl, SqT.of upd_same, rfl, _, _, rfl, _, _, rfl, rfl, ?_⟩
    generalize upd H p0 (.tup [.int g.length, .int ww]) = H0 at s0 ⊢
    refine ⟨_, rfl, _, rfl, by omega, by omega, fun D1 hD1 => it_gen walk_range (fun i H' => Mki H0 D1 (lfx eUp i) H') (mki0 hD1) (fun _ _ _ _ => trivial) ?_ fun H1 m1 => ?_⟩
    · rintro i x G0 G1 hi m ⟨rfl, rfl⟩
      refine ⟨rfl, _, _, rfl, rfl, _, rfl, by show 4 ≤ sizeLine; decide, fun p hp => ?_⟩
      have el : ([0 - 1, 0 + (i : Int), 1, 0] : List Int) = eUp i := by unfold eUp; simp
      have hs := m.step (l := [0 - 1, 0 + (i : Int), 1, 0]) hp (by rw [lfx_len]; omega)
      rw [el, ← lfx_succ] at hs
      obtain ⟨acc, h1, h2, h3⟩ := hs
      rw [← el] at h1 h3
      exact ⟨acc, h1, h2, h3⟩
    rw [ew] at m1
    obtain ⟨s1, d1, ws1, e1, p1⟩ := m1
    refine ⟨_, rfl, _, rfl, by omega, by omega, fun D2 hD2 => it_gen walk_range (fun i H' => Mki H1 D2 (lfx (eRt ww) i) H') (mki0 hD2) (fun _ _ _ _ => trivial) ?_ fun H2 m2 => ?_⟩
    · rintro i x G0 G1 hi m ⟨rfl, rfl⟩
      refine ⟨rfl, _, rfl, _, rfl, _, _, rfl, rfl, by show 4 ≤ sizeLine; decide, fun p hp => ?_⟩
      have el : ([0 + (i : Int), (ww : Int), 0, 0 - 1] : List Int) = (eRt ww) i := by unfold eRt; simp
      have hs := m.step (l := [0 + (i : Int), (ww : Int), 0, 0 - 1]) hp (by rw [lfx_len]; omega)
      rw [el, ← lfx_succ] at hs
      obtain ⟨acc, h1, h2, h3⟩ := hs
      rw [← el] at h1 h3
      exact ⟨acc, h1, h2, h3⟩
    rw [eh] at m2
    obtain ⟨s2, d2, ws2, e2, p2⟩ := m2
    have l1 := p1.len
    have l2 := p2.len
    rw [lfx_len] at l1 l2
    refine ⟨D1, D2, ws1, ws2, rfl, rfl, s2 _ _ e1, e2, sz2 (by omega), fun r1 hr1 => ?_⟩
    have n1 := Same.new (o := .lst (ws1 ++ ws2)) hr1
    have a1 : upd H2 r1 (.lst (ws1 ++ ws2)) r1 = some (.lst (ws1 ++ ws2)) := upd_same
    have q1 : TisAt (upd H2 r1 (.lst (ws1 ++ ws2))) (ws1 ++ ws2) (lfx eUp ww ++ lfx (eRt ww) g.length) := Paired.app ((p1.tx (Tx.of s2)).tx (Tx.of n1)) (p2.tx (Tx.of n1))
    have c1 := ((s0.trans s1).trans s2).trans n1
    generalize upd H2 r1 (.lst (ws1 ++ ws2)) = H3 at n1 a1 q1 c1 ⊢
    refine ⟨_, rfl, _, rfl, _, rfl, by omega, by omega, fun D3 hD3 => it_gen walk_range (fun i H' => Mki H3 D3 (lfx (eDn g.length) i) H') (mki0 hD3) (fun _ _ _ _ => trivial) ?_ fun H4 m3 => ?_⟩
    · rintro i x G0 G1 hi m ⟨rfl, rfl⟩
      refine ⟨rfl, _, rfl, _, rfl, _, _, rfl, rfl, by show 4 ≤ sizeLine; decide, fun p hp => ?_⟩
      have el : ([(g.length : Int), 0 + (i : Int), 0 - 1, 0] : List Int) = (eDn g.length) i := by unfold eDn; simp
      have hs := m.step (l := [(g.length : Int), 0 + (i : Int), 0 - 1, 0]) hp (by rw [lfx_len]; omega)
      rw [el, ← lfx_succ] at hs
      obtain ⟨acc, h1, h2, h3⟩ := hs
      rw [← el] at h1 h3
      exact ⟨acc, h1, h2, h3⟩
    rw [ew] at m3
    obtain ⟨s3, d3, ws3, e3, p3⟩ := m3
    have l3 := p3.len
    rw [lfx_len] at l3
    refine ⟨r1, D3, _, ws3, rfl, rfl, s3 _ _ a1, e3, sz2 (by rw [List.length_append]; omega), fun r2 hr2 => ?_⟩
    have n2 := Same.new (o := .lst (ws1 ++ ws2 ++ ws3)) hr2
    have a2 : upd H4 r2 (.lst (ws1 ++ ws2 ++ ws3)) r2 = some (.lst (ws1 ++ ws2 ++ ws3)) := upd_same
    have q2 : TisAt (upd H4 r2 (.lst (ws1 ++ ws2 ++ ws3))) (ws1 ++ ws2 ++ ws3) (lfx eUp ww ++ lfx (eRt ww) g.length ++ lfx (eDn g.length) ww) := Paired.app ((q1.tx (Tx.of s3)).tx (Tx.of n2)) (p3.tx (Tx.of n2))
    have c2 := (c1.trans s3).trans n2
    generalize upd H4 r2 (.lst (ws1 ++ ws2 ++ ws3)) = H5 at n2 a2 q2 c2 ⊢
    refine ⟨_, rfl, _, rfl, by omega, by omega, fun D4 hD4 => it_gen walk_range (fun i H' => Mki H5 D4 (lfx eLf i) H') (mki0 hD4) (fun _ _ _ _ => trivial) ?_ fun H6 m4 => ?_⟩
    · rintro i x G0 G1 hi m ⟨rfl, rfl⟩
      refine ⟨rfl, _, rfl, _, _, rfl, rfl, by show 4 ≤ sizeLine; decide, fun p hp => ?_⟩
      have el : ([0 + (i : Int), 0 - 1, 0, 1] : List Int) = eLf i := by unfold eLf; simp
      have hs := m.step (l := [0 + (i : Int), 0 - 1, 0, 1]) hp (by rw [lfx_len]; omega)
      rw [el, ← lfx_succ] at hs
      obtain ⟨acc, h1, h2, h3⟩ := hs
      rw [← el] at h1 h3
      exact ⟨acc, h1, h2, h3⟩
    rw [eh] at m4
    obtain ⟨s4, d4, ws4, e4, p4⟩ := m4
    have l4 := p4.len
    rw [lfx_len] at l4
    refine ⟨r2, D4, _, ws4, rfl, rfl, s4 _ _ a2, e4, sz2 (by rw [List.length_append, List.length_append]; omega), fun r3 hr3 => ?_⟩
    have n3 := Same.new (o := .lst (ws1 ++ ws2 ++ ws3 ++ ws4)) hr3
    refine q r3 _ _ ((c2.trans s4).free hr3) ((c2.trans s4).trans n3) upd_same ?_
    exact Paired.app ((q2.tx (Tx.of s4)).tx (Tx.of n3)) (p4.tx (Tx.of n3))
end
end My
namespace My
open PySem PySem.Spec PyProof.Rows L2
section
variable {B : Org} {C U : Addr} {Γ : Ct} {S S' : Fp} {σ : L2.St} {F F' H H' : Hp} {Q : VK} {v : V} {x : Da} {te ta tb : TE} {Kf : PySem.W.Frag} {K : Ct → Rs → Prop} {E : XK}
/-! the law's own edges -/
def dEs (ls : List (List Int)) : List Da := ls.map fun l => .tup (l.map .int)
theorem dEs_len {ls : List (List Int)} : (dEs ls).length = ls.length := by
  unfold dEs
  rw [List.length_map]
theorem dEs_get {ls : List (List Int)} {i : Nat} {l : List Int} (h : ls[i]? = some l) : (dEs ls)[i]? = some (.tup (l.map .int)) := by
  unfold dEs
  rw [List.getElem?_map, h] <;> rfl
theorem TisAt.ats {vs : List V} {ls : List (List Int)} (h : TisAt F vs ls) : Ats C F vs (dEs ls) := by
  induction h with
  | nil => exact .nil
  | @cons v l vs ls r t ih =>
    obtain ⟨a, rfl, ha⟩ := r
    refine .cons (.tup' ha ?_) ih
    refine ⟨by rw [List.length_map, List.length_map], fun i x d h1 h2 => ?_⟩
    rw [List.getElem?_map] at h1 h2
    cases e : l[i]? with
    | none => rw [e] at h1; cases h1
    | some z =>
      rw [e] at h1 h2
      cases h1
      cases h2
      exact .int _
theorem TisAt.ov {vs : List V} {ls : List (List Int)} (r : TisAt H' vs ls) : TisAt (Ov F H H') vs ls := r.tx fun _ _ h => ov_tup h
theorem wf_edges {r : Rs} {g : Gr} {w : Nat} (hr : VwL Γ r (dLns g)) (G : Grid 8 10 g w) (k : K Γ (.d (.lst (dEs (edges g.length w))))) : WF B C Γ (sp_edges Kf) E [r] K := fun S σ F H vs T Q e rv c => by
  obtain ⟨v, T', rfl, r1⟩ := vs1 rv
  obtain ⟨a, xs, rfl, h2, h3⟩ := e.vwL r1 hr
  obtain rfl := ats_lines_inv h3
  exact ⟨a, w, g, rfl, SqL.of h2, G, fun p ws H' hp s h t => c.ext e (ov_gr e.sub s) (.lst' (by rw [ov_new hp]; exact h) t.ov.ats) k⟩
end
/-! where a beam begins, as the law tells it -/
theorem edges_at {h w p : Nat} {r c : Int} (e : (places h w)[p]? = some (r, c)) : (edges h w)[p]? = some [r, c, (dirIn h r c).1, (dirIn h r c).2] := by
  have hb := places_beside (List.mem_of_getElem? e)
  have hp := (List.getElem?_eq_some_iff.mp e).1
  rw [places_len] at hp
  unfold places at e
  unfold edges
  have l1 : (pfx pUp w ++ pfx (pRt w) h ++ pfx (pDn h) w).length = w + h + w := by simp only [List.length_append, pfx_len]
  have l2 : (pfx pUp w ++ pfx (pRt w) h).length = w + h := by simp only [List.length_append, pfx_len]
  have m1 : (lfx eUp w ++ lfx (eRt w) h ++ lfx (eDn h) w).length = w + h + w := by simp only [List.length_append, lfx_len]
  have m2 : (lfx eUp w ++ lfx (eRt w) h).length = w + h := by simp only [List.length_append, lfx_len]
  have lg : ∀ (f : Nat → List Int) (n i : Nat), i < n → (lfx f n)[i]? = some (f i) := fun f n i hi => by
    unfold lfx
    rw [List.getElem?_map, List.getElem?_range hi] <;> rfl
  by_cases c3 : p < w + h + w
  · rw [List.getElem?_append_left (by rw [l1]; exact c3)] at e
    rw [List.getElem?_append_left (by rw [m1]; exact c3)]
    by_cases c2 : p < w + h
    · rw [List.getElem?_append_left (by rw [l2]; exact c2)] at e
      rw [List.getElem?_append_left (by rw [m2]; exact c2)]
      by_cases c1 : p < w
      · rw [List.getElem?_append_left (by rw [pfx_len]; exact c1)] at e
        rw [List.getElem?_append_left (by rw [lfx_len]; exact c1)]
        obtain ⟨_, e⟩ := pfx_get e
        unfold pUp at e
        injection e with e1 e2
        subst e1 e2
        rw [lg _ _ _ c1]
        unfold eUp dirIn
        rw [if_pos (by omega)]
      · rw [List.getElem?_append_right (by rw [pfx_len]; omega), pfx_len] at e
        rw [List.getElem?_append_right (by rw [lfx_len]; omega), lfx_len]
        obtain ⟨h1, e⟩ := pfx_get e
        unfold pRt at e
        injection e with e1 e2
        subst e1 e2
        rw [lg _ _ _ h1]
        unfold eRt dirIn
        rw [if_neg (by omega), if_neg (by omega), if_neg (by omega)]
    · rw [List.getElem?_append_right (by rw [l2]; omega), l2] at e
      rw [List.getElem?_append_right (by rw [m2]; omega), m2]
      obtain ⟨h1, e⟩ := pfx_get e
      unfold pDn at e
      injection e with e1 e2
      subst e1 e2
      rw [lg _ _ _ h1]
      unfold eDn dirIn
      rw [if_neg (by omega), if_pos rfl]
  · rw [List.getElem?_append_right (by rw [l1]; omega), l1] at e
    rw [List.getElem?_append_right (by rw [m1]; omega), m1]
    obtain ⟨h1, e⟩ := pfx_get e
    unfold pLf at e
    injection e with e1 e2
    subst e1 e2
    rw [lg _ _ _ h1]
    unfold eLf dirIn
    rw [if_neg (by omega), if_neg (by omega), if_pos (by omega)]
end My
namespace My
open PySem PySem.Spec PyProof.Rows L2
/-! the law's own beam -/
theorem vs_2 {vs : List V} (h : vs.length = 2) : ∃ a b, vs = [a, b] := by
  match vs, h with
  | [a, b], _ => exact ⟨a, b, rfl⟩
def sgD (l : List Sg) : List Da := l.map fun s => Da.str s.str
theorem sgs_line (l : List Sg) : sgsD (lstr l) = sgD l := by
  unfold sgsD sgD
  rw [lstr_toList, List.map_map] <;> rfl
def rowsM (g : Gr) : List MO := g.map fun l => ML (sgD l)
theorem rowsM_len {g : Gr} : (rowsM g).length = g.length := by
  unfold rowsM
  rw [List.length_map]
theorem rowsM_at {g : Gr} {i : Nat} {l : List Sg} {m : MO} (h : g[i]? = some l) (hm : (rowsM g)[i]? = some m) : m = ML (sgD l) := by
  unfold rowsM at hm
  rw [List.getElem?_map, h] at hm
  exact (Option.some.inj hm).symm
theorem set_id {α : Type} {l : List α} {i : Nat} {x : α} (h : l[i]? = some x) : l.set i x = l := by
  apply List.ext_getElem?
  intro j
  rw [List.getElem?_set]
  by_cases e : i = j
  · subst e
    rw [if_pos rfl, if_pos (List.getElem?_eq_some_iff.mp h).1, h]
  · rw [if_neg e]
theorem rowsM_map {g : Gr} : rowsM g = (g.map sgD).map ML := by
  unfold rowsM
  rw [List.map_map] <;> rfl
theorem edges_len' (h w : Nat) : (edges h w).length = 2 * (h + w) := by
  unfold edges
  simp only [List.length_append, lfx_len]
  omega
theorem py_dP (q : Int × Int) : py (dP q) = dPair q := by
  unfold dP dPair
  rw [py, pys_map] <;> rfl
theorem dPs_get {ps : List (Int × Int)} {i : Nat} {q : Int × Int} (h : ps[i]? = some q) : (dPs ps)[i]? = some (dP q) := by
  unfold dPs
  rw [List.getElem?_map, h] <;> rfl
theorem dPs_inv {ps : List (Int × Int)} {i : Nat} {x : Da} (h : (dPs ps)[i]? = some x) : ∃ q, ps[i]? = some q ∧ x = dP q := by
  unfold dPs at h
  rw [List.getElem?_map] at h
  cases e : ps[i]? with
  | none => rw [e] at h; cases h
  | some q =>
    rw [e] at h
    exact ⟨q, rfl, (Option.some.inj h).symm⟩
def PBeam : DP := fun ds R _ => ∃ (g : Gr) (w p : Nat), ds = [.lst (dLns g), .int p] ∧ Grid 8 10 g w ∧ p < 2 * (g.length + w) ∧ R (.d (.tup [.int (exitP g p), .lst (dPs (trlP g p)), .lst (dLns (outG g p))]))
abbrev s_l_beam : Stmt := (top 45)
abbrev N_l_beam : List Str := ["_law_lines_here", "_law_port", "_law_sign", "_law_edges_here", "_law_grid", "_law_passed", "_law_row", "_law_column", "_law_down", "_law_right", "_law_leaving", "_law_line", "_law_one"]
theorem sc_l_beam : FnScope N_l_beam ["_law_lines_here", "_law_port"] (defScope s_l_beam) := ⟨rfl, rfl, rfl, by decide +kernel, rfl, by decide +kernel, by decide +kernel⟩

local macro_rules | `(tactic| walk_at "sm") => `(tactic| first
  | exact .int _
  | exact .bl _
  | exact .str _
  | exact .non
  | exact sm_dP _
  | exact sm_dPs (by omega)
  | exact sm_dNs (by omega)
  | exact sm_lns (by omega)
  | exact sm_lnsT (by omega)
  | (refine .lst (Nat.le_of_ble_eq_true rfl) ?_; walk_at "sms")
  | (refine .tup (Nat.le_of_ble_eq_true rfl) ?_; walk_at "sms"))
local macro_rules | `(tactic| walk_at "sms") => `(tactic| first
  | exact sm_nil
  | ((refine sm_cons ?a ?b); (case a => walk_at "sm"); (case b => walk_at "sms")))
local macro_rules | `(tactic| walk_at "set") => `(tactic| (simp only [List.set_cons_zero, List.set_cons_succ] <;> rfl))
local macro_rules | `(tactic| walk_at "put") => `(tactic| first
  | exact .nil _
  | (refine .cons (.d _) (ltL rfl) ?_; walk_at "put")
  | (refine .cons (.m _) (ltL rfl) ?_; walk_at "put"))
local macro_rules | `(tactic| walk_at "puts") => `(tactic| (refine ⟨?g2, ?g3, ?pa, ?pb, ?pc⟩; (case pa => walk_at "put"); (case pb => walk_at "set"); try (case g2 => skip)))
local macro_rules | `(tactic| walk_at "k") => `(tactic| first
  | ((refine ⟨_, ?g2, .d _, ltL rfl, ?pb, ?pc⟩); (case pb => walk_at "set"))
  | ((refine ⟨_, ?g2, .m _, ltL rfl, ?pb, ?pc⟩); (case pb => walk_at "set"))
  | ((refine ⟨?g2, ltL rfl, ?pb, ?pc⟩); (case pb => walk_at "set"))
  | refine ⟨_, .d _, ?_⟩
  | refine ⟨_, .m _, ?_⟩
  | refine ⟨_, _, _, rfl, by assumption, by assumption, ?_⟩
  | refine ⟨_, rfl, ?_⟩
  | refine ⟨_, .m, ?_⟩
  | refine ⟨_, .d, ?_⟩
  | refine ⟨_, .a rfl, ?_⟩
  | refine ⟨⟨_, .a rfl⟩, ?_⟩
  | refine ⟨⟨_, .m⟩, ?_⟩
  | refine ⟨⟨_, .d⟩, ?_⟩
  | refine ⟨fun _ => ?_, fun hz => absurd hz Bool.false_ne_true⟩
  | refine ⟨fun _ => ?_, fun hz => absurd hz.symm Bool.false_ne_true⟩
  | refine ⟨fun hz => absurd hz Bool.false_ne_true, fun _ => ?_⟩
  | refine ⟨fun hz => absurd hz.symm Bool.false_ne_true, fun _ => ?_⟩
  | ((refine ⟨Nat.le_of_ble_eq_true rfl, rfl, ?g2, ?g3, ?pa, ?pb, ?pc⟩); (case pa => walk_at "put"); (case pb => walk_at "set"))
  | ((refine ⟨?g2, ?g3, ?pa, ?pb, ?pc⟩); (case pa => walk_at "put"); (case pb => walk_at "set"))
  | refine ⟨Nat.le_of_ble_eq_true rfl, ?_⟩)
local macro_rules | `(tactic| walk_at "app") => `(tactic| ((refine ⟨_, _, ?g2, .d _, rfl, ?hl, ?pb, ?pc⟩); (case pb => walk_at "set")))
local macro_rules | `(tactic| walk_at "w") => `(tactic| first
  | with_reducible refine ws_seq ?_
  | with_reducible refine ws_next ?_
  | with_reducible refine sw_set ?_
  | with_reducible refine ws_if ?_
  | with_reducible refine ws_put2 ?_
  | with_reducible refine ws_putL ?_
  | with_reducible refine sw_names2 ?_
  | with_reducible refine sw_names3 ?_
  | with_reducible refine sw_names4 ?_
  | with_reducible refine sw_names5 ?_
  | with_reducible refine sw_names6 ?_
  | with_reducible refine sw_names7 ?_
  | with_reducible refine sw_asg ?_
  | with_reducible refine sw_for ?_
  | with_reducible refine tg_name ?_
  | with_reducible refine tgs_nil ?_
  | with_reducible refine tgs_cons ?_
  | ((with_reducible refine tg_tup ?hn ?_); (case hn => rfl))
  | ((with_reducible refine tg_lst ?hn ?_); (case hn => rfl))
  | with_reducible refine ws_ret ?_
  | with_reducible refine ws_drop ?_
  | with_reducible refine sw_par ?_
  | with_reducible refine sw_par3 ?_
  | with_reducible refine w_int ?_
  | with_reducible refine w_str ?_
  | with_reducible refine w_bl ?_
  | with_reducible refine w_non ?_
  | ((with_reducible refine w_var (x := ?x0) ?hv ?_); (case hv => exact rfl))
  | ((with_reducible refine w_al (m := ?m0) ?hv ?_); (case hv => exact rfl))
  | ((with_reducible refine w_ix2 (a := ?a0) (b := ?b0) (ms := ?ms0) ?h1 ?h2 ?h3 ?hk); (case h1 => exact rfl); (case h2 => exact rfl); (case h3 => exact rfl))
  | with_reducible refine w_op ?_
  | with_reducible refine w_neg ?_
  | with_reducible refine w_un ?_
  | with_reducible refine wa_cons ?_
  | with_reducible refine wa_nil ?_
  | with_reducible refine waf_cons ?_
  | with_reducible refine waf_nil ?_
  | with_reducible refine w_tupF ?_
  | with_reducible refine w_lstF ?_
  | with_reducible refine w_cr ?_
  | with_reducible refine w_cb ?_
  | with_reducible refine w_mkBench ?_
  | ((with_reducible refine wb_now (s := ?s0) (o := ?o0) ?hv ?_); (case hv => exact rfl))
  | ((with_reducible refine wb_passes (s := ?s0) (o := ?o0) ?hv ?hl ?_); (case hv => exact rfl); (case hl => (first | assumption | omega)))
  | ((with_reducible refine wb_ops (s := ?s0) (o := ?o0) ?hv ?hl ?_); (case hv => exact rfl); (case hl => (first | assumption | omega)))
  | ((with_reducible refine wb_meth inb_beam (s := ?s0) (o := ?o0) ?hv ?_); (case hv => exact rfl))
  | ((with_reducible refine wb_meth inb_turn (s := ?s0) (o := ?o0) ?hv ?_); (case hv => exact rfl))
  | ((with_reducible refine wb_meth inb_turn_all (s := ?s0) (o := ?o0) ?hv ?_); (case hv => exact rfl))
  | ((with_reducible refine wb_meth inb_undo (s := ?s0) (o := ?o0) ?hv ?_); (case hv => exact rfl))
  | ((with_reducible refine wb_meth inb_redo (s := ?s0) (o := ?o0) ?hv ?_); (case hv => exact rfl))
  | ((with_reducible refine wb_meth inb_save (s := ?s0) (o := ?o0) ?hv ?_); (case hv => exact rfl))
  | ((with_reducible refine wb_meth inb_restore (s := ?s0) (o := ?o0) ?hv ?_); (case hv => exact rfl))
  | ((with_reducible refine wb_meth inb_state (s := ?s0) (o := ?o0) ?hv ?_); (case hv => exact rfl))
  | ((with_reducible refine wb_meth inb_back (s := ?s0) (o := ?o0) ?hv ?_); (case hv => exact rfl))
  | ((with_reducible refine wb_meth inb_batch (s := ?s0) (o := ?o0) ?hv ?_); (case hv => exact rfl))
  | ((with_reducible refine wb_meth inb_exec (s := ?s0) (o := ?o0) ?hv ?_); (case hv => exact rfl))
  | ((with_reducible refine wb_meth inb_step (s := ?s0) (o := ?o0) ?hv ?_); (case hv => exact rfl))
  | with_reducible refine w_pr ?_
  | with_reducible refine wf_rows ?_
  | with_reducible refine wf_text (by assumption) ?_
  | with_reducible refine wf_size (by assumption) ?_
  | with_reducible refine wf_turning (by assumption) ?_
  | with_reducible refine wu_inv (by assumption) ?_
  | with_reducible refine wc_lenO (by assumption) ?_
  | with_reducible refine wc_boolO (by assumption) ?_
  | ((with_reducible refine wc_lenL (l := ?l0) ?hv ?_); (case hv => first | exact .d | exact .m | (refine .a ?_; exact rfl)))
  | with_reducible refine wc_lenT ?_
  | ((with_reducible refine wc_listL (l := ?l0) ?hv ?_); (case hv => first | exact .d | exact .m | (refine .a ?_; exact rfl)))
  | with_reducible refine wc_listT ?_
  | ((with_reducible refine wc_tupL (l := ?l0) ?hv ?_); (case hv => first | exact .d | exact .m | (refine .a ?_; exact rfl)))
  | with_reducible refine wc_min2 ?_
  | with_reducible refine w_callO ?_
  | with_reducible refine w_chain ?_
  | with_reducible refine w_join ?_
  | with_reducible refine w_notV ?_
  | with_reducible refine w_andV ?_
  | with_reducible refine w_orV ?_
  | with_reducible refine w_if ?_
  | with_reducible refine wt_test ?_
  | with_reducible refine wt_B ?_
  | with_reducible refine wt_not ?_
  | with_reducible refine wt_and ?_
  | with_reducible refine wt_or ?_
  | with_reducible refine wo_none ?_
  | with_reducible refine wo_some ?_
  | with_reducible refine w_slL ?_
  | with_reducible refine w_slR ?_
  | with_reducible refine w_slS ?_
  | with_reducible refine w_revL ?_
  | ((with_reducible refine wr_eqNl (l := ?l0) ?hv ?_); (case hv => first | exact .d | exact .m | (refine .a ?_; exact rfl)))
  | ((with_reducible refine wr_neNl (l := ?l0) ?hv ?_); (case hv => first | exact .d | exact .m | (refine .a ?_; exact rfl)))
  | with_reducible refine wc_intB ?_
  | with_reducible refine wc_intI ?_
  | with_reducible refine wr_ixLn (by assumption) (by assumption) ?_
  | with_reducible refine wr_ixLn0 (by assumption) ?_
  | with_reducible refine wr_ixSg (by assumption) (by assumption) (by assumption) ?_
  | with_reducible refine wc_lenLn (by assumption) (by assumption) ?_
  | with_reducible refine wr_notInRf ?_
  | with_reducible refine wr_inRf ?_
  | with_reducible refine wr_eqR ?_
  | with_reducible refine wr_catR1 (by assumption) (by assumption) ?_
  | with_reducible refine wr_catR2 (by assumption) (by assumption) (by assumption) ?_
  | with_reducible refine wr_catG1 (by assumption) ?_
  | with_reducible refine wr_catG2 (by assumption) (by assumption) ?_
  | with_reducible refine wr_I0i ?_
  | with_reducible refine wr_I0b ?_
  | ((with_reducible refine wr_neF (u := ?u0) ?hv ?_); (case hv => exact rfl))
  | ((with_reducible refine wr_eqF (u := ?u0) ?hv ?_); (case hv => exact rfl))
  | ((with_reducible refine wr_eqS0 ?hc ?_); (case hc => decide +kernel))
  | ((with_reducible refine wr_neS0 ?hc ?_); (case hc => decide +kernel))
  | ((with_reducible refine wr_ixL (l := ?l0) (x := ?x0) ?hw ?hv ?_); (case hw => first | exact .d | exact .m | (refine .a ?_; exact rfl)); (case hv => exact rfl))
  | ((with_reducible refine wr_ixT (l := ?l0) (x := ?x0) ?hv ?_); (case hv => exact rfl))
  | with_reducible refine sg_name ?_
  | with_reducible refine wt_yes ?_
  | with_reducible refine w_repl ?_
  | with_reducible refine wi_rng1 ?_
  | with_reducible refine wi_rng2 ?_
  | ((with_reducible refine wi_fzA (l := ?l0) (Γ2 := ?g2) ?hv ?ht ?hs ?_); (case hv => exact rfl); (case ht => first | exact fun _ => id | apply_assumption); (case hs => walk_at "set"))
  | with_reducible refine wi_list ?_
  | with_reducible refine wi_tup ?_
  | with_reducible refine wi_str ?_
  | ((with_reducible refine sw_append (l := ?l0) ?hv ?_); (case hv => exact rfl))
  | with_reducible refine wr_isN ?_
  | with_reducible refine wr_notN ?_
  | with_reducible refine w_dnewK ?_
  | ((with_reducible refine w_dinS (z := ?z0) (l := ?l0) ?h1 ?h2 ?_); (case h1 => exact rfl); (case h2 => exact rfl))
  | with_reducible refine ws_dputS ?_
  | with_reducible refine w_appNew ?_
  | with_reducible refine w_bm ?_)
local macro_rules | `(tactic| walk_at "ws") => `(tactic| repeat (first | walk_at "w" | walk_at "k"))
local macro_rules | `(tactic| walk_at "wn") => `(tactic| repeat ((fail_if_success (with_reducible refine ws_seq ?_)); first | walk_at "w" | walk_at "k"))
section
variable {B : Org} {C : Addr} {Γ : Ct} {Kf : PySem.W.Frag}
theorem wt_inn {n i j : Nat} {ms : List MO} {l : List Da} {h w : Nat} {r c : Int} {K : Ct → Bool → Prop} (hn : Γ[n]? = some (.mo (MLs ms))) (hi : Γ[i]? = some (.d (.int r))) (hj : Γ[j]? = some (.d (.int c))) (hm : ms.length = h) (h0 : ms[0]? = some (ML l)) (hl : l.length = w)
    (y : 0 ≤ r ∧ r < h ∧ 0 ≤ c ∧ c < w → K Γ true) (z : ¬ (0 ≤ r ∧ r < h ∧ 0 ≤ c ∧ c < w) → K Γ false) :
    WT B C Γ (tAnd (tTest (tChain (rI0 fun i j => V.bl (decide (i ≤ j))) (rI0 fun i j => V.bl (decide (i < j))) (tC (V.int 0)) (tVar i) (tCB (fun xs H Q => ∃ p ys, xs = [.ref p] ∧ (SqL Kf H p ys ∨ SqT Kf H p ys) ∧ Q (.int ys.length) H) (tCons (tVar n) tNil))))
      (tTest (tChain (rI0 fun i j => V.bl (decide (i ≤ j))) (rI0 fun i j => V.bl (decide (i < j))) (tC (V.int 0)) (tVar j) (tCB (fun xs H Q => ∃ p ys, xs = [.ref p] ∧ (SqL Kf H p ys ∨ SqT Kf H p ys) ∧ Q (.int ys.length) H) (tCons (tOp (rIxL Kf) (tVar n) (tC (V.int 0))) tNil))))) K := by
  subst hm hl
  refine wt_and (wt_test (w_chain (w_int (w_var hi (wr_I0b ⟨_, rfl, fun t1 => ?_, fun t1 => ?_⟩)))))
  · refine w_cb (wa_cons (w_al hn (wa_nil (wc_lenO2 hn (wr_I0b ⟨_, rfl, fun t2 => ?_, fun t2 => ?_⟩)))))
    · refine wt_test (w_chain (w_int (w_var hj (wr_I0b ⟨_, rfl, fun t3 => ?_, fun t3 => ?_⟩))))
      · refine w_lenIx (i := 0) hn h0 (wr_I0b ⟨_, rfl, ?_⟩)
        by_cases t4 : c < l.length
        · rw [decide_eq_true t4]
          exact y ⟨of_decide_eq_true t1, of_decide_eq_true t2, of_decide_eq_true t3, t4⟩
        · rw [decide_eq_false t4]
          exact z fun k => t4 k.2.2.2
      · exact ⟨_, rfl, z fun k => of_decide_eq_false t3 k.2.2.1⟩
    · exact z fun k => of_decide_eq_false t2 k.2.1
  · refine ⟨_, rfl, (fun q => by cases q), fun _ => z fun k => of_decide_eq_false t1 k.1⟩
end
section
variable {P : Program} {w : World} {K : PySem.W.Frag} {mg : Str → Option Value} {base : Heap}
theorem ok_lbeam {C f : Addr} {fd : FuncData} (F : Fun K "_law_beam" "_law_beam" s_l_beam f fd) (T : Txt mg) (g_l_edges : GF P w K mg base "_law_edges" 1 (sp_edges K)) : FnOk P w K mg base (L2.CX P w) 2 f fd ["_law_lines_here", "_law_port"] (spD C PBeam) := by
  refine F.okX sc_l_beam (fun vs H Q E h => spD_len (n := 2) (fun ds R X ⟨g, w, p, e, _⟩ => by rw [e] <;> rfl) h) (fun cdv A outer s H vs Q E hr h => ?_)
  obtain ⟨v0, v1, rfl⟩ := vs_2 (spD_len (n := 2) (fun ds R X ⟨g, w, p, e, _⟩ => by rw [e] <;> rfl) h)
  refine ⟨_, (pss_cons (ps_par3 (i := 3) (j := 4) (l := 5) (by rfl) sc_l_beam.nd rfl rfl rfl (by decide) (by decide) (by decide) rfl rfl rfl (pa_cons (pe_c g_l_edges (hr.mono (by decide)) passL (pa_cons (pv 0) pa_nil)) (pa_cons (pe_lcG (own := [("_law_line", 11)]) (g := gName 11)  rfl sc_l_beam.nd (pi_list (pv 0)) (blkOk_by (N := N_l_beam) (sc := defScope s_l_beam) (by decide +kernel)) (fun _ _ _ _ _ => (pg_name (i := 11) sc_l_beam.nd rfl (Or.inl rfl))) (fun _ _ _ _ _ => pts_nil) (fun _ _ _ _ _ => (pe_lcG (own := [("_law_sign", 2)]) (g := gName 2)  rfl sc_l_beam.nd (pi_str (pv 11)) (blkOk_by (N := N_l_beam) (sc := lcSc (tupE (asgV ((defBody s_l_beam).getD 0 (.Pass ⟨0, 0, 0, 0⟩))) 1)) (by decide +kernel)) (fun _ _ _ _ _ => (pg_name (i := 2) sc_l_beam.nd rfl (Or.inl rfl))) (fun _ _ _ _ _ => pts_nil) (fun _ _ _ _ _ => (pv 2))))) (pa_cons (pe_lst pa_nil) pa_nil))) (by rfl))
    (pss_cons (ps_asg (pe_ix ix_list (pv 3) (pv 1) (fun _ _ => rfl)) (pg_tup rfl (pgs_cons (pg_name (i := 6) sc_l_beam.nd rfl (Or.inl rfl)) (pgs_cons (pg_name (i := 7) sc_l_beam.nd rfl (Or.inl rfl)) (pgs_cons (pg_name (i := 8) sc_l_beam.nd rfl (Or.inl rfl)) (pgs_cons (pg_name (i := 9) sc_l_beam.nd rfl (Or.inl rfl)) pgs_nil))))))
    (pss_cons (ps_par (i := 6) (j := 7) (by rfl) sc_l_beam.nd rfl rfl (by decide) rfl rfl (pa_cons (pe_op op_add (pv 6) (pv 8)) (pa_cons (pe_op op_add (pv 7) (pv 9)) pa_nil)) (by rfl))
    (pss_cons (ps_while (passes_of rfl) (PW.pt (pw_and (pt_chain op_le op_lt pe_int (pv 6) (pe_callB call_len_seq (by rfl) T.b_len PySem.boot_len (pa_cons (pv 4) pa_nil))) (pw_and1 (pt_chain op_le op_lt pe_int (pv 7) (pe_callB call_len_seq (by rfl) T.b_len PySem.boot_len (pa_cons (pe_ix ix_list (pv 4) pe_int (fun _ _ => rfl)) pa_nil))))))
      (pss_cons (ps_expr (pe_bm PySem.F.plainAttrs_list PySem.F.slot_list_append PySem.F.type_list_append mt_append (pv 5) (pa_cons (pe_tup (pa_cons (pv 6) (pa_cons (pv 7) pa_nil))) pa_nil)))
      (pss_cons (ps_set (i := 2) sc_l_beam.nd rfl (Or.inl rfl) (pe_ix ix_list (pe_ix ix_list (pv 4) (pv 6) (fun _ _ => rfl)) (pv 7) (fun _ _ => rfl)))
      (C8.pss_cut (ps_if (pt_cmpR op_in_seq (pv 2) (pe_lst (pa_cons pe_str (pa_cons pe_str pa_nil))) (by rfl))
        (pss_one (ps_par (i := 8) (j := 9) (by rfl) sc_l_beam.nd rfl rfl (by decide) rfl rfl (pa_cons (pe_op op_sub pe_int (pv 9)) (pa_cons (pe_op op_sub pe_int (pv 8)) pa_nil)) (by rfl)))
        pss_nil)
      (C8.pss_cut (ps_if (pt_cmpR op_in_seq (pv 2) (pe_lst (pa_cons pe_str (pa_cons pe_str pa_nil))) (by rfl))
        (pss_one (ps_par (i := 8) (j := 9) (by rfl) sc_l_beam.nd rfl rfl (by decide) rfl rfl (pa_cons (pv 9) (pa_cons (pv 8) pa_nil)) (by rfl)))
        pss_nil)
      (C8.pss_cut (ps_if (pt_cmpR op_in_seq (pv 2) (pe_lst (pa_cons pe_str (pa_cons pe_str pa_nil))) (by rfl))
        (pss_one (ps_asg (pe_ifExp (pt_cmpR op_eq (pv 2) pe_str (nomark _)) pe_str pe_str) (pg_sub (pe_ix ix_list (pv 4) (pv 6) (fun _ _ => rfl)) (pv 7) set_list)))
        pss_nil)
      (pss_one (ps_par (i := 6) (j := 7) (by rfl) sc_l_beam.nd rfl rfl (by decide) rfl rfl (pa_cons (pe_op op_add (pv 6) (pv 8)) (pa_cons (pe_op op_add (pv 7) (pv 9)) pa_nil)) (by rfl)))))))))
    (pss_cons (ps_set (i := 10) sc_l_beam.nd rfl (Or.inl rfl) (pe_bm PySem.F.plainAttrs_list PySem.F.slot_list_index PySem.F.type_list_index (mt_indexD (u65 hr)) (pe_lcG (own := [("_law_one", 12)]) (g := gName 12)  rfl sc_l_beam.nd (pi_list (pv 3)) (blkOk_by (N := N_l_beam) (sc := defScope s_l_beam) (by decide +kernel)) (fun _ _ _ _ _ => (pg_name (i := 12) sc_l_beam.nd rfl (Or.inl rfl))) (fun _ _ _ _ _ => pts_nil) (fun _ _ _ _ _ => (pe_tup (pa_cons (pe_ix ix_tup (pv 12) pe_int (fun _ _ => rfl)) (pa_cons (pe_ix ix_tup (pv 12) pe_int (fun _ _ => rfl)) pa_nil))))) (pa_cons (pe_tup (pa_cons (pv 6) (pa_cons (pv 7) pa_nil))) pa_nil)))
    (pss_one (ps_ret (pe_tup (pa_cons (pv 10) (pa_cons (pv 5) (pa_cons (pe_lcG (own := [("_law_line", 11)]) (g := gName 11)  rfl sc_l_beam.nd (pi_list (pv 4)) (blkOk_by (N := N_l_beam) (sc := defScope s_l_beam) (by decide +kernel)) (fun _ _ _ _ _ => (pg_name (i := 11) sc_l_beam.nd rfl (Or.inl rfl))) (fun _ _ _ _ _ => pts_nil) (fun _ _ _ _ _ => (pe_join pe_str (pv 11)))) pa_nil))))))))))), ?_⟩
  refine d_enter (n := 11) h (fun B ds R X hT hE ⟨g, ww, p, e, G, hp, k⟩ _ => ?_) (fun _ _ z => ?_)
  · subst e
    show WS _ _ [.d (.lst (dLns g)), .d (.int p), .un, .un, .un, .un, .un, .un, .un, .un, .un, .un, .un] _ _
    have hgm := G.hm
    have hwm := G.wm
    have hg0 := G.h0
    have hw0 := G.w0
    walk_at "ws"
    refine wf_edges .d G ?_
    walk_at "w"
    refine w_lcOL (is := [11]) (rowsM g) (fun _ h => h) ?_
    walk_at "ws"
    refine ⟨rfl, by rw [dLns_len]; exact sz3 (by omega), by rw [dLns_len, rowsM_len], fun i x m hx hm => ?_, ?_⟩
    · obtain ⟨l, hl, rfl⟩ := dLns_inv hx
      obtain rfl := rowsM_at hl hm
      have lw := G.ln l (List.mem_of_getElem? hl)
      walk_at "ws"
      refine w_lcL (is := [2]) (sgD l) (fun _ h => h) ?_
      walk_at "ws"
      rw [sgs_line]
      refine ⟨rfl, by unfold sgD; rw [List.length_map]; exact sz3 (by omega), rfl, fun i x d hx hd => ?_, rfl, rfl⟩
      rw [hx] at hd
      cases hd
      walk_at "ws"
      exact ⟨.d _, rfl⟩
    · walk_at "ws"
      obtain ⟨rc, hrc⟩ : ∃ rc, (places g.length ww)[p]? = some rc := ⟨(places g.length ww)[p]'(by rw [places_len]; exact hp), List.getElem?_eq_getElem _⟩
      obtain ⟨r, c⟩ := rc
      have hb := places_beside (List.mem_of_getElem? hrc)
      refine wr_ixL (x := .tup [.int r, .int c, .int (dirIn g.length r c).1, .int (dirIn g.length r c).2]) .d (atI_nat (dEs_get (edges_at hrc))) ?_
      walk_at "ws"
      obtain ⟨n, hn, n9⟩ := goes_ex G hb
      have tr : Trl g ww p (trail (enter g r c) n) := ⟨r, c, n, hrc, hn, rfl⟩
      rw [trl_fn G tr] at k
      obtain ⟨n0, y, ray, ey, _⟩ := (beam G hp).ray
      have ray2 := ray
      obtain ⟨r', c', h1', h2', y2⟩ := ray2.ex
      rw [hrc] at h1'
      cases h1'
      obtain rfl := h2'.one hn
      have fst := ray.first
      rw [← ey] at k
      rw [y2] at fst k
      clear tr ray ray2 ey y2 h2'
      have x0r : (enter g r c).r = r + (dirIn g.length r c).1 := rfl
      have x0c : (enter g r c).c = c + (dirIn g.length r c).2 := rfl
      have x0a : (enter g r c).a = (dirIn g.length r c).1 := rfl
      have x0b : (enter g r c).b = (dirIn g.length r c).2 := rfl
      rw [← x0r, ← x0c, ← x0a, ← x0b]
      have d0 := enter_dir g r c
      generalize hx0 : enter g r c = x0 at hn k fst d0 ⊢
      have xg : x0.g = g := by rw [← hx0] <;> rfl
      have way : ∀ i, i ≤ n0 → Way g.length ww g (bst x0 i) := fun i hi => Way.at_ (x := x0) ⟨by rw [xg]; exact ⟨rfl, G.ln⟩, by rw [xg], d0⟩ i fun j hj => hn.2 j (by omega)
      refine ws_while (fun m Γ => ∃ i s2, m = n0 - i ∧ i ≤ n0 ∧ Γ = [.d (.lst (dLns g)), .d (.int p), s2, .d (.lst (dEs (edges g.length ww))), .mo (MLs (rowsM (bst x0 i).g)), .mo (ML (dPs (trail x0 i))), .d (.int (bst x0 i).r), .d (.int (bst x0 i).c), .d (.int (bst x0 i).a), .d (.int (bst x0 i).b), .un, .un, .un]) n0 ⟨0, _, rfl, Nat.zero_le _, by rw [show (bst x0 0).g = g from xg] <;> rfl⟩ ?_
      rintro m Γ2 ⟨i, s2, rfl, hi, rfl⟩
      have wx := way i hi
      have nsteps : Inn g.length ww (bst x0 i) → i < n0 := fun z => by
        rcases Nat.lt_or_ge i n0 with h | h
        · exact h
        · have e : i = n0 := by omega
          rw [e] at z
          exact absurd z hn.1
      have hl0 : (bst x0 i).g.length = g.length := wx.shp.1
      have row0 : (rowsM (bst x0 i).g)[0]? = some (ML (sgD (rowAt (bst x0 i).g 0))) := by
        unfold rowsM
        rw [List.getElem?_map, (wx.shp.row hg0).1] <;> rfl
      have len0 : (sgD (rowAt (bst x0 i).g 0)).length = ww := by
        unfold sgD
        rw [List.length_map, (wx.shp.row hg0).2]
      refine wt_inn (h := g.length) (w := ww) rfl rfl rfl (by rw [rowsM_len, hl0]) row0 len0 (fun ti => ⟨fun _ => ?_, fun q => by cases q⟩) (fun ti => ⟨(fun q => by cases q), fun _ => ?_⟩)
      · have hin := nsteps ti
        have ex : bst x0 (i + 1) = (bst x0 i).step := rfl
        have et := trail_succ x0 i
        generalize hx : bst x0 i = x at ti wx ex et ⊢
        clear row0 len0 nsteps
        obtain ⟨t1, t2, t3, t4⟩ := ti
        obtain ⟨rn, er⟩ : ∃ k : Nat, x.r = k := ⟨x.r.toNat, by omega⟩
        obtain ⟨cn, ec⟩ : ∃ k : Nat, x.c = k := ⟨x.c.toNat, by omega⟩
        have er2 : x.r.toNat = rn := by omega
        have ec2 : x.c.toNat = cn := by omega
        have hrn : rn < g.length := by omega
        have hcn : cn < ww := by omega
        have hrow : (rowsM x.g)[rn]? = some (ML (sgD (rowAt x.g rn))) := by
          unfold rowsM
          rw [List.getElem?_map, (wx.shp.row hrn).1] <;> rfl
        have hsg : (sgD (rowAt x.g rn))[cn]? = some (.str (sgAt x.g rn cn).str) := by
          unfold sgD
          rw [List.getElem?_map, wx.shp.sg hrn hcn] <;> rfl
        have hlr : (sgD (rowAt x.g rn)).length = ww := by
          unfold sgD
          rw [List.length_map, (wx.shp.row hrn).2]
        have hst : x.step = ⟨putAt x.g rn cn, rn + ((sgAt x.g rn cn).thr x.a x.b).1, cn + ((sgAt x.g rn cn).thr x.a x.b).2, ((sgAt x.g rn cn).thr x.a x.b).1, ((sgAt x.g rn cn).thr x.a x.b).2⟩ := by
          unfold BS.step
          rw [er2, ec2, er, ec]
        have hput : rowsM (putAt x.g rn cn) = (rowsM x.g).set rn (ML ((sgD (rowAt x.g rn)).set cn (.str (sgAt x.g rn cn).turn.str))) := by
          unfold rowsM putAt sgD
          rw [List.map_set, List.map_set]
        rw [er, ec]
        walk_at "ws"
        walk_at "app"
        · rw [dPs_len, trail_len]
          omega
        walk_at "ws"
        refine ⟨_, _, hrow, hsg, ?_⟩
        walk_at "ws"
        have fin : ∀ (s : Sl) (Γ : Ct), Γ = [.d (.lst (dLns g)), .d (.int p), s, .d (.lst (dEs (edges g.length ww))), .mo (MLs (rowsM (putAt x.g rn cn))), .mo (ML (dPs (trail x0 i) ++ [.tup [.int rn, .int cn]])), .d (.int (rn + ((sgAt x.g rn cn).thr x.a x.b).1)), .d (.int (cn + ((sgAt x.g rn cn).thr x.a x.b).2)), .d (.int ((sgAt x.g rn cn).thr x.a x.b).1), .d (.int ((sgAt x.g rn cn).thr x.a x.b).2), .un, .un, .un] →
            ∃ m', m' < n0 - i ∧ ∃ i s2, m' = n0 - i ∧ i ≤ n0 ∧ Γ = [.d (.lst (dLns g)), .d (.int p), s2, .d (.lst (dEs (edges g.length ww))), .mo (MLs (rowsM (bst x0 i).g)), .mo (ML (dPs (trail x0 i))), .d (.int (bst x0 i).r), .d (.int (bst x0 i).c), .d (.int (bst x0 i).a), .d (.int (bst x0 i).b), .un, .un, .un] := by
          rintro s Γ rfl
          refine ⟨n0 - (i + 1), by omega, i + 1, s, rfl, hin, ?_⟩
          rw [ex, hst, et, er, ec]
          unfold dPs
          rw [List.map_append] <;> rfl
        have same : (sgAt x.g rn cn).turn = sgAt x.g rn cn → rowsM (putAt x.g rn cn) = rowsM x.g := fun e => by
          rw [hput, e]
          have e1 : (sgD (rowAt x.g rn)).set cn (.str (sgAt x.g rn cn).str) = sgD (rowAt x.g rn) := set_id hsg
          rw [e1]
          exact set_id hrow
        cases hs : sgAt x.g rn cn
        · rw [hs] at fin same
          rw [same rfl] at fin
          iterate 3
            refine ws_cutS ?_
            walk_at "ws"
            refine wr_inF (.inl .m) (fl_cons (u := .str _) rfl (fl_cons (u := .str _) rfl fl_nil)) rfl ?_
            walk_at "ws"
          exact fin _ _ rfl
        · rw [hs] at fin hput
          rw [hput] at fin
          iterate 3
            refine ws_cutS ?_
            walk_at "ws"
            refine wr_inF (.inl .m) (fl_cons (u := .str _) rfl (fl_cons (u := .str _) rfl fl_nil)) rfl ?_
            walk_at "ws"
          refine wr_eq (u := .str _) (w := .str _) rfl rfl rfl ?_
          walk_at "ws"
          refine ⟨rn, cn, _, _, _, _, .d _, rfl, rfl, rfl, hrow, by rw [hlr]; exact hcn, rfl, ?_⟩
          walk_at "ws"
          rw [Int.zero_sub, Int.zero_sub]
          exact fin _ _ rfl
        · rw [hs] at fin hput
          rw [hput] at fin
          iterate 3
            refine ws_cutS ?_
            walk_at "ws"
            refine wr_inF (.inl .m) (fl_cons (u := .str _) rfl (fl_cons (u := .str _) rfl fl_nil)) rfl ?_
            walk_at "ws"
          refine wr_eq (u := .str _) (w := .str _) rfl rfl rfl ?_
          walk_at "ws"
          refine ⟨rn, cn, _, _, _, _, .d _, rfl, rfl, rfl, hrow, by rw [hlr]; exact hcn, rfl, ?_⟩
          walk_at "ws"
          exact fin _ _ rfl
        · rw [hs] at fin same
          rw [same rfl] at fin
          iterate 3
            refine ws_cutS ?_
            walk_at "ws"
            refine wr_inF (.inl .m) (fl_cons (u := .str _) rfl (fl_cons (u := .str _) rfl fl_nil)) rfl ?_
            walk_at "ws"
          rw [Int.zero_sub, Int.zero_sub]
          exact fin _ _ rfl
        · rw [hs] at fin same
          rw [same rfl] at fin
          iterate 3
            refine ws_cutS ?_
            walk_at "ws"
            refine wr_inF (.inl .m) (fl_cons (u := .str _) rfl (fl_cons (u := .str _) rfl fl_nil)) rfl ?_
            walk_at "ws"
          exact fin _ _ rfl
      · have e : i = n0 := by
          rcases Nat.lt_or_ge i n0 with h | h
          · exact absurd (hn.2 i h) ti
          · omega
        subst e
        refine ws_fz 5 (by rfl) (hT 5) (by walk_at "set") ?_
        refine ws_fz2 4 (ls := (bst x0 i).g.map sgD) (by rw [← rowsM_map] <;> rfl) (hT 4) (by walk_at "set") ?_
        walk_at "ws"
        refine w_lcL (is := [12]) (dPs (places g.length ww)) (fun _ h => h) ?_
        walk_at "ws"
        refine ⟨rfl, by rw [dEs_len, edges_len']; exact sz3 (by omega), by rw [dEs_len, edges_len', dPs_len, places_len], fun q x d hx hd => ?_, ?_⟩
        · obtain ⟨rc, hrc2, rfl⟩ := dPs_inv hd
          obtain ⟨r2, c2⟩ := rc
          rw [dEs_get (edges_at hrc2)] at hx
          cases hx
          walk_at "ws"
          exact ⟨.d _, rfl⟩
        · walk_at "ws"
          refine wm_indexD (x := dP ((bst x0 i).r, (bst x0 i).c)) .m (pl_dP _) (pl_dPs _) (dPs_get fst.1) ?_ (fun m z hm hz => ?_) ?_
          · rw [py_dP, eqv_pair, decide_eq_true rfl]
          · obtain ⟨q, hq, rfl⟩ := dPs_inv hz
            rw [py_dP, py_dP, eqv_pair, decide_eq_false fun e => fst.2 m hm (by rw [hq, e])]
          · walk_at "ws"
            have Gi := (wx.grid G).1
            refine w_lcL (is := [11]) (dLns (bst x0 i).g) (fun _ h => h) ?_
            walk_at "ws"
            refine ⟨rfl, by rw [List.length_map, List.length_map]; exact sz3 (by omega), by rw [List.length_map, List.length_map, dLns_len], fun q x d hx hd => ?_, ?_⟩
            · obtain ⟨l, hl, rfl⟩ := dLns_inv hd
              rw [List.getElem?_map, List.getElem?_map, hl] at hx
              cases hx
              have lw := Gi.ln l (List.mem_of_getElem? hl)
              walk_at "ws"
              refine ⟨l.map Sg.str, .inl (.inl (by unfold dSs sgD; rw [List.map_map] <;> rfl)), ?_, ?_⟩
              · have e0' : ("" : Str).length = 0 := by decide +kernel
                rw [signs_sum, e0', List.length_map]
                omega
              · rw [join_signs]
                exact ⟨.d _, rfl⟩
            · walk_at "ws"
              exact k
  · exact z
end
end My
namespace My
open PySem PySem.Spec PyProof.Rows L2 GenW
/-! the tiles of a beam, one by one: to a loop whose body changes other things -/
def sp_pathY (C : Addr) : SpY := fun vs H Q => ∃ (x : Addr) (p w : Nat) (g : Gr), vs = [.ref x, .int (p : Nat)] ∧ RoomAt C H x g ∧ Grid 8 10 g w ∧ p < 2 * (g.length + w) ∧ ∀ L : List (Int × Int), Trl g w p L → L.length ≤ 262144 → Q (L.map fun q => [q.1, q.2])
theorem prs_tups {H : Hp} {vs : List V} {ps : List (Int × Int)} (h : PrsAt H vs ps) : ∃ qs : List Addr, vs = qs.map V.ref ∧ Tups H qs (ps.map fun q => [q.1, q.2]) := by
  induction h with
  | nil => exact ⟨[], rfl, rfl, fun j p k e => by cases e⟩
  | cons r t ih =>
    obtain ⟨qs, rfl, h1, h2⟩ := ih
    obtain ⟨a, rfl, ha⟩ := r
    refine ⟨a :: qs, rfl, by rw [List.length_cons, h1] <;> rfl, fun j p k e1 e2 => ?_⟩
    cases j with
    | zero =>
      cases e1
      cases e2
      exact ha
    | succ j => exact h2 j p k e1 e2
section
variable {P : Program} {w : World} {K : PySem.W.Frag} {mg : Str → Option Value} {base : Heap}
theorem ok_pathY {f C fI U0 : Addr} {fd : FuncData} (F : Fun K "path" "path" s_path f fd) (T : RoomT K mg C fI) (g_check_port : GF P w K mg base "check_port" 3 (sp_port C U0)) (g_port_places : GF P w K mg base "port_places" 1 sp_places) (g_run_beam : GF P w K mg base "run_beam" 2 (sp_run K))
    (p_rows : PR P w K mg base C "rows" 1 (sp_rows C)) (p_size : PR P w K mg base C "size" 1 (sp_size C)) : GFnY P w K mg base 4 f fd ["room", "port"] (sp_pathY C) := by
  obtain ⟨oc, od, kV, doc, pm, an, cdv, ct, osl, rfl, lk, hcd⟩ := F.ex
  refine glp_of (pre := (defBody s_path).dropLast) (i := 5) lk hcd sc_path (by rfl) (by decide +kernel) (by decide +kernel) (by decide +kernel) (by rfl) (by decide +kernel) (by decide +kernel) (fun _ _ => by rfl) (fun _ => by rfl) (fun vs H Q h => ?_) (fun A outer s H vs Q pn hr h => ?_)
  · obtain ⟨x, p, ww, g, rfl, _⟩ := h
    rfl
  · obtain ⟨x, p, ww, g, rfl, R, G, hpp, q1⟩ := h
    refine ⟨_, (show PSs _ (defBody s_path).dropLast _ from (pss_cons (ps_expr (pe_c g_check_port (hr.mono (by decide)) (passes_call takes_gcx (fun _ _ _ _ h => h)) (pa_cons (pv 0) (pa_cons (pv 1) pa_nil)))) (pss_cons (ps_asg (pe_pr (pv 0) T.cl p_size (hr.mono (by decide))) (pg_tup rfl (pgs_cons (pg_name (i := 2) sc_path.nd rfl (Or.inl rfl)) (pgs_cons (pg_name (i := 3) sc_path.nd rfl (Or.inl rfl)) pgs_nil)))) (pss_cons (ps_set (i := 4) sc_path.nd rfl (Or.inl rfl) (pe_c g_port_places (hr.mono (by decide)) passL (pa_cons (pv 2) (pa_cons (pv 3) pa_nil)))) (pss_cons (ps_asg (pe_c g_run_beam (hr.mono (by decide)) passL (pa_cons (pe_pr (pv 0) T.cl p_rows (hr.mono (by decide))) (pa_cons (pe_ix ix_list (pv 4) (pv 1) (fun _ _ => rfl)) pa_nil))) (pg_tup rfl (pgs_cons (pg_name (i := 5) sc_path.nd rfl (Or.inl rfl)) (pgs_cons (pg_name (i := 6) sc_path.nd rfl (Or.inl rfl)) (pgs_cons (pg_name (i := 6) sc_path.nd rfl (Or.inl rfl)) pgs_nil))))) pss_nil))))), ?_⟩
    have hgm := G.hm
    have hwm := G.wm
    refine ⟨_, rfl, _, rfl, x, .int (p : Nat), ww, g, rfl, R, G, .int _, fun hp => ?_, fun hp => ?_⟩
    · obtain ⟨rc, hrc⟩ : ∃ rc, (places g.length ww)[p]? = some rc := ⟨(places g.length ww)[p]'(by rw [places_len]; exact hpp), List.getElem?_eq_getElem _⟩
      obtain ⟨r, c⟩ := rc
      have hb := places_beside (List.mem_of_getElem? hrc)
      obtain ⟨dx, fs, hx⟩ := R.ins
      refine ⟨_, rfl, x, dx, fs, rfl, hx, x, ww, g, rfl, R, G, fun a1 ha1 => ?_⟩
      have s1 := Same.new (o := .tup [.int g.length, .int ww]) ha1
      refine ⟨a1, _, rfl, SqT.of upd_same, rfl, _, _, rfl, _, _, rfl, rfl, ?_⟩
      refine ⟨_, rfl, _, rfl, g.length, ww, rfl, by omega, by omega, fun pp ws H2 hpp2 s2 e2 pr2 => ?_⟩
      have s12 := s1.trans s2
      obtain ⟨wv, hwv, a0, rfl, ha0⟩ := Paired.nth2 pr2 hrc
      refine ⟨_, rfl, x, dx, fs, rfl, s12 _ _ hx, x, g, rfl, R.same s12, fun t ht => ?_⟩
      refine ⟨_, rfl, _, rfl, pp, _, _, _, rfl, rfl, SqL.of e2, atI_nat hwv, t, a0, ww, g, r, c, rfl, SqT.of ht, G, ha0, hb, fun n pr tt o l wt H3 hn n9 hpr s3 e1 et pt eo el => ?_⟩
      refine ⟨pr, _, rfl, SqT.of e1, rfl, _, _, rfl, _, _, rfl, _, _, rfl, rfl, ?_⟩
      have lwt : wt.length = n := by rw [pt.len, trail_len]
      obtain ⟨qs, rfl, tp⟩ := prs_tups pt
      rw [List.length_map] at lwt
      exact ⟨tt, qs, _, rfl, et, by rw [lwt]; exact Nat.lt_of_le_of_lt n9 (by decide), tp, s12.trans s3, q1 _ ⟨r, c, n, hrc, hn, rfl⟩ (by rw [trail_len]; exact n9)⟩
    · rw [show isPort g.length ww (.int (p : Nat)) = true from isNum_nat hpp] at hp
      cases hp
end
end My
namespace My
open PySem PySem.Spec PyProof.Rows L2
/-! the law's helpers, called -/
section
variable {B : Org} {C U : Addr} {Γ : Ct} {K : Ct → Rs → Prop} {E : XK}
theorem wf_lbeam {g : Gr} {w p : Nat} (G : Grid 8 10 g w) (hp : p < 2 * (g.length + w)) (k : K Γ (.d (.tup [.int (exitP g p), .lst (dPs (trlP g p)), .lst (dLns (outG g p))]))) : WF B C Γ (spD C PBeam) E [.d (.lst (dLns g)), .d (.int (p : Nat))] K :=
  wf_d (P := PBeam) (ds := [.lst (dLns g), .int p]) xokF ⟨g, w, p, rfl, G, hp, fun _ => k⟩
end
end My
/-! more rules: tuples joined, int of a bool, a list taken apart -/
namespace My
open PySem PySem.Spec PyProof.Rows L2
section
variable {B : Org} {C : Addr} {Γ : Ct} {S S' : Fp} {σ : L2.St} {F F' H H' : Hp} {Q : VK} {v : V} {x : Da} {te ta tb : TE} {Kf : PySem.W.Frag} {K : Ct → Rs → Prop}
theorem wr_catT {l m : List Da} (hl : l ≠ []) (hm : m ≠ []) (hs : l.length + m.length ≤ sizeLine) (k : K Γ (.d (.tup (l ++ m)))) : WR B C Γ (rCatT Kf) (.d (.tup l)) (.d (.tup m)) K := fun S σ F H v w T U Q e rx ry c => by
  obtain ⟨a, xs, rfl, h2, h3⟩ := e.vwT rx rfl
  obtain ⟨b, ys, rfl, g2, g3⟩ := e.vwT ry rfl
  refine ⟨a, b, xs, ys, rfl, rfl, SqT.of h2, SqT.of g2, fun z => hl ?_, by rw [h3.len, g3.len]; exact hs, fun z => absurd ?_ hm, fun _ p hp => c.newT e hp (h3.app g3) k⟩
  · have := h3.len
    rw [z] at this
    exact List.length_eq_zero_iff.mp this.symm
  · have := g3.len
    rw [z] at this
    exact List.length_eq_zero_iff.mp this.symm
theorem wc_intB {b : Bool} (k : K Γ (.d (.int (if b then 1 else 0)))) : WC B C Γ (fun xs H Q => (∃ i, xs = [.int i] ∧ Q (.int i) H) ∨ ∃ k, xs = [.bl k] ∧ Q (.int (if k then 1 else 0)) H) [.d (.bl b)] K := fun S σ F H vs T Q e rv c => by
  obtain ⟨v, T', rfl, r1⟩ := vs1 rv
  obtain rfl := r1.2.blI
  exact .inr ⟨b, rfl, c.here e (.int _) k⟩
theorem wc_intI {i : Int} (k : K Γ (.d (.int i))) : WC B C Γ (fun xs H Q => (∃ i, xs = [.int i] ∧ Q (.int i) H) ∨ ∃ k, xs = [.bl k] ∧ Q (.int (if k then 1 else 0)) H) [.d (.int i)] K := fun S σ F H vs T Q e rv c => by
  obtain ⟨v, T', rfl, r1⟩ := vs1 rv
  obtain rfl := r1.2.intI
  exact .inl ⟨i, rfl, c.here e (.int _) k⟩
theorem wr_eqNl {r : Rs} {l : List Da} (hv : VwL Γ r l) (k : K Γ (.d (.bl l.isEmpty))) : WR B C Γ (rNil Kf false) r (.mo (ML [])) K := fun S σ F H v w T U Q e rx ry c => by
  obtain ⟨a, xs, rfl, h2, h3⟩ := e.vwL rx hv
  obtain ⟨b, ys, rfl, g2, g3⟩ := e.vwL ry .m
  obtain rfl : ys = [] := List.length_eq_zero_iff.mp g3.len
  refine ⟨a, b, xs, rfl, rfl, SqL.of h2, SqL.of g2, ?_⟩
  have : xs.isEmpty = l.isEmpty := by
    have := h3.len
    cases xs <;> cases l <;> first | rfl | cases this
  rw [this]
  exact c.here e (.bl _) (by rw [Bool.bne_false]; exact k)
theorem wr_neNl {r : Rs} {l : List Da} (hv : VwL Γ r l) (k : K Γ (.d (.bl (!l.isEmpty)))) : WR B C Γ (rNil Kf true) r (.mo (ML [])) K := fun S σ F H v w T U Q e rx ry c => by
  obtain ⟨a, xs, rfl, h2, h3⟩ := e.vwL rx hv
  obtain ⟨b, ys, rfl, g2, g3⟩ := e.vwL ry .m
  obtain rfl : ys = [] := List.length_eq_zero_iff.mp g3.len
  refine ⟨a, b, xs, rfl, rfl, SqL.of h2, SqL.of g2, ?_⟩
  have : xs.isEmpty = l.isEmpty := by
    have := h3.len
    cases xs <;> cases l <;> first | rfl | cases this
  rw [this]
  exact c.here e (.bl _) (by rw [Bool.bne_true]; exact k)
/-- a test told once, both ways gone on from what it told -/
theorem ws_ifC {c : TT} {t u : TS} {A : AE} (N : Ct → Bool → Prop) (h : WT B C Γ c N) (k1 : ∀ Γ1, N Γ1 true → WS B C Γ1 t A) (k2 : ∀ Γ1, N Γ1 false → WS B C Γ1 u A) : WS B C Γ (tIfS c t u) A :=
  ws_if (h.mono fun Γ1 b n => ⟨fun e => k1 Γ1 (e ▸ n), fun e => k2 Γ1 (e ▸ n)⟩)
theorem wr_eqS0 {a b : Str} (hc : decide (a = b) = false) (k : K Γ (.d (.bl false))) : WR B C Γ rEq (.d (.str a)) (.d (.str b)) K :=
  wr_eq (u := .str a) (w := .str b) rfl rfl rfl (by rw [decide_eq_false (fun z => of_decide_eq_false hc (by injection z))]; exact k)
theorem wr_neS0 {a b : Str} (hc : decide (a = b) = false) (k : K Γ (.d (.bl true))) : WR B C Γ rNe (.d (.str a)) (.d (.str b)) K :=
  wr_ne (u := .str a) (w := .str b) rfl rfl rfl (by rw [decide_eq_false (fun z => of_decide_eq_false hc (by injection z))]; exact k)
theorem w_neg (h : W B C Γ te fun Γ1 r => ∃ i, r = .d (.int i) ∧ K Γ1 (.d (.int (-i)))) : W B C Γ (tUn (rU fun i => V.int (-i)) te) K := fun S σ F H Q e c =>
  h S σ F H _ e fun Γ1 S1 F1 H1 r T v e1 m1 rv fr ⟨i, er, k⟩ => by
    subst er
    exact ⟨i, rv.2.intI, (Cont.mv c m1).here e1 (.int _) k⟩
theorem tg_lst {n : Nat} {gs : TGs} {xs : List Da} {N : Ct → Prop} (hn : xs.length = n) (h : WTs0 C B gs Γ xs N) : WT0 C B (gLst Kf n gs) Γ (.lst xs) N := fun S σ F H v Q e a q => by
  obtain ⟨p, vs, rfl, h2, h3⟩ := a.lstI
  exact ⟨p, vs, rfl, SqL.of (e.sub _ _ h2), h3.len.trans hn, h S σ F H vs Q e h3 q⟩
/-- one more own list, written at its end, its item told -/
theorem cutD_drop {α : Type} (l : List α) (i : Nat) : cutD l (some (i : Int)) none = l.drop i := by
  unfold cutD HT.sIx
  simp only
  rw [if_neg (by omega), Int.toNat_natCast]
  by_cases h : i ≤ l.length
  · rw [Nat.min_eq_left h, List.take_of_length_le (by rw [List.length_drop]; exact Nat.le_refl _)]
  · rw [Nat.min_eq_right (by omega), Nat.sub_self, List.take_zero, List.drop_of_length_le (by omega)]
theorem cutD_take {α : Type} (l : List α) (i : Nat) : cutD l none (some (i : Int)) = l.take i := by
  unfold cutD HT.sIx
  simp only
  rw [if_neg (by omega), Int.toNat_natCast, List.drop_zero, Nat.sub_zero]
  by_cases h : i ≤ l.length
  · rw [Nat.min_eq_left h]
  · rw [Nat.min_eq_right (by omega), List.take_of_length_le (Nat.le_refl _), List.take_of_length_le (by omega)]
theorem cutD_init {α : Type} (l : List α) : cutD l none (some (-1)) = l.dropLast := by
  unfold cutD HT.sIx
  simp only
  rw [List.drop_zero, Nat.sub_zero, List.dropLast_eq_take]
  congr 1
  rw [if_pos (by omega)]
  omega
end
/-! dicts by texts -/
section
variable {B : Org} {C : Addr} {Γ : Ct} {K : Ct → Rs → Prop} {A : AE} {i j : Nat} {z : Str} {l : List (Key × Da)} {x : Da} {tv : TE}
theorem w_dinS (hi : Γ[i]? = some (.d (.str z))) (hj : Γ[j]? = some (.mo (MDz DKk l))) (k : K Γ (.d (.bl (valD l (.inr z)).isSome))) : W B C Γ (tDIn (tVar i) (tVar j)) K :=
  w_din (Z := DKk) (w_var hi ⟨.inr z, rfl, w_al hj ⟨j, l, rfl, hj, k⟩⟩)
theorem w_dgetS (hj : Γ[j]? = some (.mo (MDz DKk l))) (hi : Γ[i]? = some (.d (.str z))) (hx : valD l (.inr z) = some x) (k : K Γ (.d x)) : W B C Γ (tDGet (tVar j) (tVar i)) K :=
  w_dget (Z := DKk) (w_al hj ⟨j, rfl, w_var hi ⟨.inr z, l, x, rfl, hj, hx, k⟩⟩)
theorem ws_dputS (h : W B C Γ tv fun Γ1 r => ∃ (x : Da) (z : Str) (l : List (Key × Da)) (Γ3 : Ct), Frz r x ∧ Γ1[j]? = some (.mo (MDz DKk l)) ∧ Γ1[i]? = some (.d (.str z)) ∧ l.length < 1000000 ∧ Γ1.set j (.mo (MDz DKk (putD l (.inr z) x))) = Γ3 ∧ A.nx Γ3) : WS B C Γ (sDPut (tVar j) (tVar i) tv) A :=
  ws_dput (Z := DKk) (h.mono fun Γ1 r ⟨x, z, l, Γ3, h1, h2, h3, h4, h5, h6⟩ => ⟨x, l, h1, h2, w_var h3 ⟨.inr z, l, Γ3, rfl, h2, h4, h5, h6⟩⟩)
end
end My
/-! lambdas in the calculus: the table of codes is the law's own, the lambdas themselves never change -/
namespace My
open PySem PySem.Spec PyProof.Rows L2
/-- the table of code objects, in the place of the script's list -/
def MTb (P : Addr) (q : Str) : MO where
  p := fun C F H a S => S = [P] ∧ ∃ tab, TabK H P tab ∧ ∀ p cv, codeAmong p tab.toList = some cv → ∃ c, cv = .ref c ∧ F c = some (LamX.CodeO c q)
  st := fun ⟨e, tab, k, c⟩ s t => ⟨e, tab, ⟨t _ (by rw [e]; exact List.mem_singleton.mpr rfl) _ k.at_, k.ok⟩, fun p cv h => let ⟨c, e1, e2⟩ := c p cv h; ⟨c, e1, s _ _ e2⟩⟩
  lv := fun ⟨e, tab, k, c⟩ b hb => by
    rw [e] at hb
    rw [List.mem_singleton.mp hb, k.at_]
    exact ⟨(fun z => by cases z), (fun _ z => by cases z)⟩
section
variable {B : Org} {C : Addr} {Γ : Ct} {S S' : Fp} {σ : L2.St} {F F' H H' : Hp} {Q : VK} {v : V} {x : Da} {te td : TE} {K : Ct → Rs → Prop}
theorem mt_ext {φ : Heap → Prop} : Mt (some (HO.ext φ)) := ⟨(fun z => by cases z), (fun _ z => by cases z)⟩
theorem upd_some {H : Hp} {a b : Addr} {o u : HO} (h : upd H a o b = some u) : b = a ∧ u = o ∨ b ≠ a ∧ H b = some u := by
  by_cases e : b = a
  · rw [e, upd_same] at h
    exact .inl ⟨e, (Option.some.inj h).symm⟩
  · rw [upd_ne e] at h
    exact .inr ⟨e, h⟩
/-- a lambda is made -/
theorem lam_env {P f co : Addr} {q : Str} {tab tab' : Array Value} {D : LamD} {H1 : Hp} (e : Env B C Γ S σ F H) (h0 : Γ[0]? = some (.mo (MTb P q))) (hT : H P = some (.tbl tab)) (m : Made1 H P tab q f co D H1 tab') (hc : ∀ p cv, codeAmong p tab.toList = some cv → ∃ c, cv = .ref c ∧ F c = some (LamX.CodeO c q)) :
    ∃ F', Env B C Γ S σ F' H1 ∧ Mv S F H S F' H1 ∧ F' f = some (LamO f D) ∧ F' co = some (LamX.CodeO co q) := by
  obtain ⟨a, ha, hS, _⟩ := e.sl 0 _ h0
  have mP : P ∈ S 0 := by rw [hS]; exact List.mem_singleton.mpr rfl
  have fP : F P = none := e.fz 0 P mP
  have nP : ∀ b o, F b = some o → b ≠ P := fun b o h z => by rw [z, fP] at h; cases h
  have fco : F co = some (LamX.CodeO co q) ∨ H co = none := by
    rcases m.old with h | ⟨p, h⟩
    · exact .inr h
    · obtain ⟨c, e1, e2⟩ := hc p _ h
      cases e1
      exact .inl e2
  have coP : co ≠ P := fun z => by
    rcases fco with h | h
    · rw [z, fP] at h
      cases h
    · rw [z, hT] at h
      cases h
  have fnP : f ≠ P := fun z => by
    have := m.new
    rw [z, hT] at this
    cases this
  have s1 : Same F H1 := fun b o h => m.kp b o (nP b o h) (e.sub _ _ h)
  have hf : F f = none := e.sub.free m.new
  -- the frozen part with the code
  obtain ⟨F1, x1, y1, z1, w1⟩ : ∃ F1 : Hp, Same F F1 ∧ Same F1 H1 ∧ F1 co = some (LamX.CodeO co q) ∧ ∀ b, F1 b ≠ F b → b = co ∧ H co = none := by
    rcases fco with h | h
    · exact ⟨F, Same.refl F, s1, h, fun b z => absurd rfl z⟩
    · refine ⟨upd F co (LamX.CodeO co q), Same.new (e.sub.free h), fun b o z => ?_, upd_same, fun b z => ?_⟩
      · rcases upd_some z with ⟨rfl, rfl⟩ | ⟨_, z⟩
        · exact m.cod
        · exact s1 _ _ z
      · by_cases q : b = co
        · exact ⟨q, h⟩
        · rw [upd_ne q] at z
          exact absurd rfl z
  have f1f : F1 f = none := by
    by_cases z : F1 f = F f
    · rw [z]
      exact hf
    · exact absurd (w1 f z).1 m.ne
  have frz : ∀ b, F b = none → H b ≠ none → upd F1 f (LamO f D) b = none := fun b h1 h2 => by
    rw [upd_ne (fun z => h2 (by rw [z]; exact m.new))]
    by_cases z : F1 b = F b
    · rw [z]
      exact h1
    · obtain ⟨e1, e2⟩ := w1 b z
      exact absurd (by rw [e1]; exact e2) h2
  have x2 : Same F (upd F1 f (LamO f D)) := x1.trans (Same.new f1f)
  have cell0 : ∀ b o, b ≠ P → H b = some o → H1 b = some o := m.kp
  have al1 : ∀ b, H b ≠ none → H1 b ≠ none := fun b h z => by
    by_cases q : b = P
    · rw [q, m.tb.at_] at z
      cases z
    · cases k : H b with
      | none => exact h k
      | some o =>
        rw [m.kp b o q k] at z
        cases z
  have mt1 : ∀ b, Mt (H b) → Mt (H1 b) := fun b h => by
    by_cases q : b = P
    · rw [q, m.tb.at_]
      exact ⟨(fun z => by cases z), (fun _ z => by cases z)⟩
    · cases k : H b with
      | none => exact absurd k h.1
      | some o =>
        rw [m.kp b o q k]
        rw [k] at h
        exact h
  have only : ∀ i, P ∈ S i → i = 0 := fun i h => e.dis i 0 P h mP
  refine ⟨upd F1 f (LamO f D), ⟨fun b o z => ?_, e.len, fun i s hs => ?_, e.out, fun i b hb => frz b (e.fz i b hb) (e.lv hb).1, e.own, e.dis, ⟨e.rel.fr.trans x2, fun b o n z => ?_, fun b z => al1 b (e.rel.al b z), fun b z1 z2 => frz b (e.rel.mu b z1 z2) (e.rel.mt b z2).1, fun b z => mt1 b (e.rel.mt b z)⟩⟩,
    ⟨x2, fun b o n z => m.kp b o (fun q => n 0 (by rw [q]; exact mP)) z, al1, fun b z1 z2 _ => frz b z1 z2.1, mt1, fun _ _ z => .inl z⟩, upd_same, by rw [upd_ne m.ne.symm]; exact z1⟩
  · rcases upd_some z with ⟨rfl, rfl⟩ | ⟨_, z⟩
    · exact m.fn
    · exact y1 _ _ z
  · have k := e.sl i s hs
    cases s with
    | un => exact k
    | d x => exact ⟨k.1, let ⟨v, h1, h2⟩ := k.2; ⟨v, h1, h2.same x2⟩⟩
    | mo mm =>
      by_cases i0 : i = 0
      · subst i0
        rw [h0] at hs
        cases hs
        refine ⟨a, ha, hS, tab', m.tb, fun p cv z => ?_⟩
        rcases m.cd p cv z with ⟨p', z⟩ | rfl
        · obtain ⟨c, e1, e2⟩ := hc p' cv z
          exact ⟨c, e1, x2 _ _ e2⟩
        · exact ⟨co, rfl, by rw [upd_ne m.ne.symm]; exact z1⟩
      · obtain ⟨a', h1, h2⟩ := k
        exact ⟨a', h1, mm.st h2 x2 fun b hb o z => m.kp b o (fun q => i0 (only i (by rw [← q]; exact hb))) z⟩
  · refine m.kp b o (fun q => ?_) (e.rel.kp b o n z)
    rcases e.own 0 P mP with t | t
    · exact n 0 (by rw [q]; exact t)
    · rw [q, t] at z
      cases z
/-- lambda: e -/
theorem w_newlam {P : Addr} {q : Str} {D : Addr → LamD} (h0 : Γ[0]? = some (.mo (MTb P q))) (hD : ∀ co, (D co).co = co ∧ (D co).q = q ∧ (D co).dt = .none) (k : ∀ co, K Γ (.d (.lam (D co)))) : W B C Γ (tNewLam P D q) K := fun S σ F H Q e c => by
  obtain ⟨a, ha, hS, tab, hT, hc⟩ := e.sl 0 _ h0
  refine ⟨tab, hT, fun p cv z => let ⟨c, e1, e2⟩ := hc p cv z; ⟨c, e1, e.sub _ _ e2⟩, fun f co tab' H1 m => ?_⟩
  obtain ⟨F', e2, m2, k1, k2⟩ := lam_env e h0 hT.at_ m hc
  obtain ⟨d1, d2, d3⟩ := hD co
  exact c Γ S F' H1 (.d (.lam (D co))) [] _ e2 m2 ⟨rfl, .lam k1 (by rw [d1, d2]; exact k2) fun T z => by rw [d3] at z; cases z⟩ (fun _ z => by cases z) (k co)
/-- lambda x=d: e -/
theorem w_newlamD {P : Addr} {q : Str} {D : Value → Addr → LamD} (hD : ∀ dV co, (D dV co).co = co ∧ (D dV co).q = q ∧ (D dV co).dt = dV) (h : W B C Γ td fun Γ1 r => ∃ d, r = .d d ∧ Γ1[0]? = some (.mo (MTb P q)) ∧ ∀ t co, K Γ1 (.d (.lam (D (.ref t) co)))) : W B C Γ (tNewLamD P D q td) K := fun S σ F H Q e c =>
  h S σ F H _ e fun Γ1 S1 F1 H1 r T v e1 m1 rv fr ⟨d, er, h0, k⟩ t ht => by
    subst er
    have g := Gr4.fz (o := .tup [v]) e1.sub ht
    have e2 := e1.ext g
    obtain ⟨a, ha, hS, tab, hT, hc⟩ := e2.sl 0 _ h0
    refine ⟨tab, hT, fun p cv z => let ⟨c, e1, e2'⟩ := hc p cv z; ⟨c, e1, e2.sub _ _ e2'⟩, fun f co tab' H2 m => ?_⟩
    obtain ⟨F', e3, m3, k1, k2⟩ := lam_env e2 h0 hT.at_ m hc
    obtain ⟨d1, d2, d3⟩ := hD (.ref t) co
    exact c Γ1 S1 F' H2 (.d (.lam (D (.ref t) co))) [] _ e3 ((m1.trans (.ext g)).trans m3) ⟨rfl, .lam k1 (by rw [d1, d2]; exact k2) fun T' z => by
      rw [d3] at z
      cases z
      exact ⟨v, m3.fr _ _ upd_same⟩⟩ (fun _ z => by cases z) (k t co)
end
end My
/-! where a lambda stands in a def's text; what a lambda of the law is -/
namespace My
open PySem PySem.Spec PyProof.Rows L2
def noE : Expr := .Constant .none 0 ⟨0, 0, 0, 0⟩
def xBody : Stmt → List Stmt
  | .For _ _ b _ _ => b
  | .If _ b _ _ => b
  | .While _ b _ _ => b
  | _ => []
def xElse : Stmt → List Stmt
  | .If _ _ b _ => b
  | _ => []
def xTest : Stmt → Expr
  | .If t _ _ _ => t
  | .While t _ _ _ => t
  | _ => noE
def xVal : Stmt → Expr
  | .Assign _ v _ => v
  | .Expr v _ => v
  | .Return (some v) _ => v
  | _ => noE
def xSt (l : List Stmt) (i : Nat) : Stmt := l.getD i (.Pass ⟨0, 0, 0, 0⟩)
def xArg (e : Expr) (i : Nat) : Expr := match e with
  | .Call _ as _ _ => as.getD i noE
  | .List es _ => es.getD i noE
  | .Tuple es _ _ => es.getD i noE
  | .BoolOp _ es _ => es.getD i noE
  | .Compare l _ rs _ => (l :: rs).getD i noE
  | .BinOp l _ r _ => [l, r].getD i noE
  | .UnaryOp _ x _ => x
  | _ => noE
def lamPs : Expr → Arguments
  | .Lambda p _ _ _ => p
  | _ => ⟨[], [], none, [], [], none, []⟩
def lamE : Expr → Expr
  | .Lambda _ e _ _ => e
  | _ => noE
def lamSc : Expr → Scope
  | .Lambda _ _ s _ => s
  | _ => default
/-- a lambda written at l, made in X -/
def lamObj (X : Cx) (l : Expr) (dV : Value) (co : Addr) : LamD := ⟨X.env.qual ++ "<lambda>", lamPs l, lamE l, lamSc l, cloFrom X.env.cells (lamSc l).names [], co, dV⟩
def LamI.of (X : Cx) (l : Expr) (is : List Nat) (rd : XK → TE) (df : Option Str) : LamI := ⟨lamObj X l, is, rd, df⟩
theorem lamI_ok {X : Cx} {k : Nat} {l : Expr} {is : List Nat} {rd : XK → TE} {df : Option Str} (hS : lamLB X.N X.env.scope (lamSc l) is = true) (hb : (LamI.of X l is rd df).Bn)
    (hbody : ∀ (A : Around) (outer : List PySem.Env) (s : Shared) (H : Hp) (E : XK) (f co : Addr), Room k (A.deeper (LamX.lamEnv X (lamSc l) s.heap.objs.size f co)) → PE (LamX.lamCx X A outer s H E (lamSc l) f co) (lamE l) (rd E)) : (LamI.of X l is rd df).Ok X k :=
  ⟨fun dV co => ⟨rfl, rfl⟩, fun dV co => rfl, fun dV co => lamL_by hS, hb, fun dV co A outer s H E f hr => hbody A outer s H E f co hr⟩
/-- its making -/
theorem pe_lam {X : Cx} {cd P : Addr} {l : Expr} {is : List Nat} {pos : Pos} (hl : l = .Lambda (lamPs l) (lamE l) (lamSc l) pos) (TB : LamX.TabB X.base X.mg cd P) (hcode : X.env.code = .ref cd) (hS : lamLB X.N X.env.scope (lamSc l) is = true) (hdef : defaultsOf (lamPs l) X.env = ([], [])) :
    PE X l (tNewLam P (lamObj X l .none) (X.env.qual ++ "<lambda>")) := by
  have h := pe_newlam (X := X) (ps := lamPs l) (e := lamE l) (sc := lamSc l) (pos := pos) TB hcode (fun y hy => (lamL_by hS).free y hy) hdef
  rw [← hl] at h
  exact h
theorem pe_lamD {X : Cx} {cd P : Addr} {l d : Expr} {is : List Nat} {pos : Pos} {td : TE} (hl : l = .Lambda (lamPs l) (lamE l) (lamSc l) pos) (TB : LamX.TabB X.base X.mg cd P) (hcode : X.env.code = .ref cd) (hS : lamLB X.N X.env.scope (lamSc l) is = true) (hd : PE X d td) (hdef : defaultsOf (lamPs l) X.env = ([eval d X.env], [])) :
    PE X l (tNewLamD P (lamObj X l) (X.env.qual ++ "<lambda>") td) := by
  have h := pe_newlamD (X := X) (ps := lamPs l) (e := lamE l) (sc := lamSc l) (pos := pos) TB hcode (fun y hy => (lamL_by hS).free y hy) hd hdef
  rw [← hl] at h
  exact h
theorem lams_nil {X : Cx} {k : Nat} : ∀ L ∈ ([] : List LamI), L.Ok X k := fun _ h => by cases h
theorem lams_cons {X : Cx} {k : Nat} {L : LamI} {Ls : List LamI} (h : L.Ok X k) (t : ∀ L ∈ Ls, L.Ok X k) : ∀ M ∈ L :: Ls, M.Ok X k := fun M hM => by
  rcases List.mem_cons.mp hM with rfl | hM
  · exact h
  · exact t M hM
/-- a lambda at hand: its object over data -/
structure LamHas (L : LamI) (dV : Value) (co : Addr) (q : Str) : Prop where
  hco : (L.obj dV co).co = co
  hq : (L.obj dV co).q = q
  hdt : (L.obj dV co).dt = dV
  hdf : L.df = none ∧ dV = .none ∨ L.df ≠ none ∧ ∃ T, dV = .ref T
theorem LamHas.at_ {L : LamI} {dV : Value} {co f : Addr} {q : Str} {C : Addr} {F H : Hp} {v : V} (h : LamHas L dV co q) (a : At C F v (.lam (L.obj dV co))) (s : Same F H) : ∃ f, v = .ref f ∧ LamAt H L dV co f q := by
  cases a with
  | lam k1 k2 k3 =>
    rw [h.hco, h.hq] at k2
    rw [h.hdt] at k3
    refine ⟨_, rfl, s _ _ k1, s _ _ k2, ?_⟩
    unfold LamI.Df
    rcases h.hdf with ⟨z, z2⟩ | ⟨n0, T, z⟩
    · rw [z]
      exact z2
    · cases hd : L.df with
      | none => exact absurd hd n0
      | some x =>
        obtain ⟨v, hv⟩ := k3 T z
        exact ⟨T, v, z, s _ _ hv⟩
theorem lamHas_of {X : Cx} {l : Expr} {is : List Nat} {rd : XK → TE} {co : Addr} : LamHas (LamI.of X l is rd none) .none co (X.env.qual ++ "<lambda>") := ⟨rfl, rfl, rfl, .inl ⟨rfl, rfl⟩⟩
theorem lamHas_ofD {X : Cx} {l : Expr} {is : List Nat} {rd : XK → TE} {co T : Addr} {a : Str} : LamHas (LamI.of X l is rd (some a)) (.ref T) co (X.env.qual ++ "<lambda>") := ⟨rfl, rfl, rfl, .inr ⟨(fun z => by cases z), T, rfl⟩⟩
/-- where a law with lambdas begins -/
theorem law_enterT {C : Addr} {n : Nat} {d a P0 : Addr} {q : Str} {t : TS} {H : Hp} {Q : VK} (hd : DOk H d) (hP : H P0 = some (.tbl #[])) (qq : ∀ H', Q (.bl true) H') (h : WS OrgL C (.mo (MTb P0 q) :: .mo MS :: List.replicate n .un) t { nx := fun _ => False, rt := fun _ r => r = .d (.bl true) }) (nx : L2.St → Hp → Prop) :
    t { nx := nx, rt := Q } (some (.ref a) :: some (.ref d) :: List.replicate n none) H := by
  have ne : P0 ≠ d := fun z => by
    obtain ⟨y, c, r, h1, _⟩ := hd
    rw [← z, hP] at h1
    cases h1
  refine h (fun i => if i = 0 then [P0] else if i = 1 then [d] else []) _ (fun _ => none) H _ ⟨fun _ _ h => (by cases h), by simp, fun i s hi => ?_, fun i hi => ?_, fun _ _ _ => rfl, fun _ _ _ => .inr rfl, fun i j b hi hj => ?_, ⟨fun _ _ h => (by cases h), fun _ _ _ h => (by cases h), fun _ h => absurd rfl h, fun _ _ h => absurd rfl h.1, fun _ h => absurd rfl h.1⟩⟩ ⟨fun _ _ _ _ _ _ _ z => z.elim, fun Γ S σ F H r T v _ e rv _ z => ?_, fun _ _ _ _ _ _ _ z => z.elim, fun _ _ _ _ _ _ _ z => z.elim⟩
  · match i with
    | 0 =>
      cases hi
      exact ⟨a, rfl, rfl, #[], ⟨hP, True.intro⟩, fun p cv z => by cases z⟩
    | 1 =>
      cases hi
      exact ⟨d, rfl, rfl, hd, fun _ z => by cases z⟩
    | k + 2 =>
      have hi : (List.replicate n Sl.un)[k]? = some s := hi
      rw [List.getElem?_replicate] at hi
      split at hi
      · cases hi
        rfl
      · cases hi
  · match i with
    | 0 => cases hi
    | 1 => cases hi
    | k + 2 => rfl
  · by_cases i0 : i = 0
    · rw [if_pos i0] at hi
      by_cases j0 : j = 0
      · rw [i0, j0]
      · rw [if_neg j0] at hj
        by_cases j1 : j = 1
        · rw [if_pos j1] at hj
          exact absurd ((List.mem_singleton.mp hi).symm.trans (List.mem_singleton.mp hj)) ne
        · rw [if_neg j1] at hj
          cases hj
    · rw [if_neg i0] at hi
      by_cases i1 : i = 1
      · rw [if_pos i1] at hi
        by_cases j0 : j = 0
        · rw [if_pos j0] at hj
          exact absurd ((List.mem_singleton.mp hj).symm.trans (List.mem_singleton.mp hi)) ne
        · rw [if_neg j0] at hj
          by_cases j1 : j = 1
          · rw [i1, j1]
          · rw [if_neg j1] at hj
            cases hj
      · rw [if_neg i1] at hi
        cases hi
  · subst z
    rw [rv.2.blI]
    exact qq H
section
variable {B : Org} {C : Addr} {Γ : Ct} {S S' : Fp} {σ : L2.St} {F F' H H' : Hp}
theorem Mv.less {S1 : Fp} (h : ∀ i b, b ∈ S1 i → b ∈ S i) : Mv S F H S1 F H := ⟨Same.refl F, fun _ _ _ h => h, fun _ h => h, fun _ h _ _ => h, fun _ h => h, fun i b hb => .inl (h i b hb)⟩
end
end My
/-! expressions that may raise, the names as they stood -/
namespace My
open PySem PySem.Spec PyProof.Rows L2
def XCont (B : Org) (C : Addr) (S : Fp) (σ : L2.St) (F H : Hp) (E : XK) (KE : KX) : Prop :=
  ∀ Γ' S' F' H' x d, Env B C Γ' S' σ F' H' → Mv S F H S' F' H' → XcOk C F' H' x d → KE Γ' x → E (.ref x.cls) d H'
def WXe (B : Org) (C : Addr) (Γ : Ct) (rd : XK → TE) (K : Ct → Rs → Prop) (KE : KX) : Prop := ∀ S σ F H (Q : VK) (E : XK), Env B C Γ S σ F H → Cont B C S σ F H K Q → XCont B C S σ F H E KE → rd E σ H Q
def WFx (B : Org) (C : Addr) (Γ : Ct) (sp : Sp) (rs : List Rs) (K : Ct → Rs → Prop) (KE : KX) : Prop := ∀ S σ F H vs T (Q : VK) (E : XK), Env B C Γ S σ F H → Rvs C σ S F H vs rs T → Cont B C S σ F H K Q → XCont B C S σ F H E KE → sp vs H Q E
section
variable {B : Org} {C CB : Addr} {Γ : Ct} {S S' : Fp} {σ : L2.St} {F F' H H' : Hp} {E : XK} {te ta : TE} {t : TA} {K : Ct → Rs → Prop} {KE : KX} {m : Str}
theorem XCont.mv (c : XCont B C S σ F H E KE) (m : Mv S F H S' F' H') : XCont B C S' σ F' H' E KE := fun Γ1 S1 F1 H1 x d e m1 xo k => c Γ1 S1 F1 H1 x d e (m.trans m1) xo k
theorem wx_of (h : W B C Γ te K) : WXe B C Γ (fun _ => te) K KE := fun S σ F H Q E e c _ => h S σ F H Q e c
theorem wx_cr {sp : Sp} (h : WA B C Γ t fun Γ1 rs => WFx B C Γ1 sp rs K KE) : WXe B C Γ (fun E => tCR sp E t) K KE := fun S σ F H Q E e c cx =>
  h S σ F H _ e fun Γ1 S1 F1 H1 rs T vs e1 m1 rv fr k => k S1 σ F1 H1 vs T Q E e1 rv (Cont.mv c m1) (cx.mv m1)
theorem wx_meth {ι : Type} {M : Fam ι} {sp : Sp} (hi : InsOf M CB m) (h : W B C Γ ta fun Γ1 r => ∃ i o s, r = .al i ∧ Γ1[i]? = some (.mo (M.m o s)) ∧ WA B C Γ1 t fun Γ2 rs => WFx B C Γ2 sp (.al i :: rs) K KE) : WXe B C Γ (fun E => tMethR CB m sp E ta t) K KE := fun S σ F H Q E e c cx =>
  h S σ F H _ e fun Γ1 S1 F1 H1 r T v e1 m1 rv fr ⟨i, o, s, er, hj, k⟩ => by
    subst er
    obtain ⟨a, ha, hp⟩ := e1.sl i _ hj
    have ev := rv.2
    rw [ha] at ev
    cases ev
    obtain ⟨dx, fs, h1, h2⟩ := hi hp
    refine ⟨a, dx, fs, rfl, h1, h2, k S1 σ F1 H1 _ e1 fun Γ2 S2 F2 H2 rs U vs e2 m2 rs2 fr2 k2 => ?_⟩
    exact k2 S2 σ F2 H2 _ (T ++ U) Q E e2 (.cons (rv.mv m2) rs2 fun b hb => by rw [rv.1] at hb; cases hb) (Cont.mv c (m1.trans m2)) (cx.mv (m1.trans m2))
theorem wfx_of {sp : Sp} {rs : List Rs} (h : ∀ E, WF B C Γ sp E rs K) : WFx B C Γ sp rs K KE := fun S σ F H vs T Q E e rv c _ => h E S σ F H vs T Q e rv c
theorem wfx_d {P : DP} {ds : List Da} (h : P ds (fun r => (∀ i, r ≠ .al i) → K Γ r) (KE Γ)) : WFx B C Γ (spD C P) (ds.map Rs.d) K KE := fun S σ F H vs T Q E e rv c cx => by
  refine ⟨F, ds, _, _, e.sub, rv.ats, h, fun F' H' v r T g res fr k => ?_, fun F' H' x d g xo kx => cx Γ S F' H' x d (e.ext g) (.ext g) xo kx⟩
  refine c Γ S F' H' r T v (e.ext g) (.ext g) ?_ fr (k fun i z => by rw [z] at res; exact res)
  cases r with
  | d x => exact res
  | al i => exact res.elim
  | mo m =>
    obtain ⟨a, h1, h2, h3⟩ := res
    exact ⟨a, h1, h2, fun b hb => ⟨(h3 b hb).1, fun i hi => (e.lv hi).1 (fr b hb)⟩⟩
  | pr m x =>
    obtain ⟨a, p, y, h1, h2, h3, h4, h5, h6⟩ := res
    refine ⟨a, p, y, h1, h2, fun i hi => ((e.ext g).lv hi).2 _ h2, h4, h5, fun b hb => ⟨(h6 b hb).1, fun i hi => (e.lv hi).1 (fr b hb)⟩⟩
theorem wfx_v {P : DP} {rs : List Rs} {ds : List Da} (hv : Vws Γ rs ds) (h : P ds (fun r => ∃ x u, r = .d x ∧ flatD x = some u ∧ K Γ (.d x)) (fun x => x.fs = none ∧ KE Γ x)) : WFx B C Γ (spD C P) rs K KE := fun S σ F H vs T Q E e rv c cx => by
  refine ⟨H, ds, _, _, Same.refl H, e.vws rv hv, h, fun F' H' v r T g res fr ⟨x, u, er, fl, k⟩ => ?_, fun F' H' x d g xo ⟨f0, kx⟩ => ?_⟩
  · subst er
    obtain rfl := at_flat fl res.2
    exact c.ext e (Gr4.of e.sub g.h) (flat_at fl) k
  · refine cx Γ S F H' x d (e.ext (Gr4.of e.sub g.h)) (.ext (Gr4.of e.sub g.h)) ?_ kx
    unfold XcOk at xo ⊢
    rw [f0] at xo ⊢
    exact xo
theorem wfx_m {ι : Type} {M : Fam ι} {P : MP ι} {o : Option Addr} {s : ι} {j : Nat} {ds : List Da} (hj : Γ[j]? = some (.mo (M.m o s))) (h : P s ds (fun s' r => (∀ i, r ≠ .al i) → K (Γ.set j (.mo (M.m o s'))) r) (fun s' x => KE (Γ.set j (.mo (M.m o s'))) x)) : WFx B C Γ (spM M C P) (.al j :: ds.map Rs.d) K KE := fun S σ F H vs T Q E e rv c cx => by
  cases rv with
  | @cons v _ T1 ws _ U r1 r2 n =>
    obtain ⟨a, ha, hp⟩ := e.sl j _ hj
    rw [r1.2] at ha
    cases ha
    have pa : ∀ x, o = some x → a = x := fun x z => (M.m o s).pk hp x (by rw [M.pn]; exact z)
    refine ⟨F, a, S j, s, ws, ds, _, _, rfl, e.sub, M.re hp (fun x z => Option.some.inj z), fun b hb => e.fz j b hb, r2.ats, h, fun F' H' S' s' v r T ch hp' res fr k => ?_, fun F' H' S' s' x d ch hp' xo kx => ?_⟩
    · obtain ⟨e2, m2⟩ := Env.chg (m' := M.m o s') e hj r1.2 ch (M.re hp' pa)
      refine c _ _ F' H' r T v e2 m2 ?_ fr (k fun i z => by rw [z] at res; exact res)
      have fS : ∀ b ∈ T, b ∉ S' → ∀ i, b ∉ setS S j S' i := fun b hb n i hi => by
        by_cases z : i = j
        · rw [z, setS_i] at hi
          exact n hi
        · rw [setS_j z] at hi
          exact (e.lv hi).1 (fr b hb)
      cases r with
      | d x => exact res
      | al i => exact res.elim
      | mo m =>
        obtain ⟨b, h1, h2, h3⟩ := res
        exact ⟨b, h1, h2, fun b hb => ⟨(h3 b hb).1, fS b hb (h3 b hb).2⟩⟩
      | pr m x =>
        obtain ⟨b, p, y, h1, h2, h3, h4, h5, h6⟩ := res
        exact ⟨b, p, y, h1, h2, fun i hi => (e2.lv hi).2 _ h2, h4, h5, fun b hb => ⟨(h6 b hb).1, fS b hb (h6 b hb).2⟩⟩
    · obtain ⟨e2, m2⟩ := Env.chg (m' := M.m o s') e hj r1.2 ch (M.re hp' pa)
      exact cx _ _ F' H' x d e2 m2 xo kx
/-- a list that is new, and forgotten, gets one more -/
theorem w_appNew {Kf : PySem.W.Frag} (h : W B C Γ ta fun Γ1 o => ∃ l, o = .mo (ML l) ∧ l.length < 1000000 ∧ W B C Γ1 te fun Γ2 _ => K Γ2 (.d .non)) : W B C Γ (tBM Kf "list" rAppend ta (tCons te tNil)) K := fun S σ F H Q e c =>
  h S σ F H _ e fun Γ1 S1 F1 H1 o T v e1 m1 rv fr ⟨l, er, hl, k⟩ => by
    subst er
    obtain ⟨a, rfl, ⟨hT, xs, h1, h2⟩, q⟩ := rv
    have ma : a ∈ T := by rw [hT]; exact List.mem_singleton.mpr rfl
    obtain ⟨q1, q2⟩ := q a ma
    have ha : H a = none := fr a ma
    refine ⟨.inl ⟨rfl, xs, SqL.of h1⟩, ?_⟩
    refine k S1 σ F1 H1 _ e1 fun Γ2 S2 F2 H2 r U w e2 m2 rw fr2 kk => ?_
    have hF := m2.mu a q1 (by rw [h1]; exact .lst) q2
    have nS : ∀ i, a ∉ S2 i := fun i hi => by
      rcases m2.nw i a hi with z | z
      · exact q2 i z
      · rw [h1] at z
        cases z
    refine ⟨a, xs, w, rfl, rfl, m2.kp a _ q2 h1, Nat.lt_of_lt_of_le (show xs.length < 1000000 by rw [h2.len]; exact hl) (by decide), ?_⟩
    have m := m1.trans m2
    refine c Γ2 S2 F2 _ (.d .non) [] .non (e2.mutD (o := .lst (xs ++ [w])) hF nS (none_of e.rel.al ha)) ⟨m.fr, fun b o n z => ?_, fun b z => ?_, m.mu, fun b z => ?_, m.nw⟩ ⟨rfl, .non⟩ (fun _ z => nomatch z) kk
    · rw [upd_ne (ne_of_none z ha)]
      exact m.kp b o n z
    · by_cases y : b = a
      · rw [y, upd_same]
        exact fun y => nomatch y
      · rw [upd_ne y]
        exact m.al b z
    · rw [upd_ne (fun y => z.1 (by rw [y]; exact ha))]
      exact m.mt b z
theorem wxb_meth {sp : Sp} {i : Nat} {o : Option Addr} {s : BSt} (hm : InsOf (FBe CB) CB m) (hi : Γ[i]? = some (.mo (MBe CB o s))) (h : WA B C Γ t fun Γ2 rs => WFx B C Γ2 sp (.al i :: rs) K KE) : WXe B C Γ (fun E => tMethR CB m sp E (tVar i) t) K KE :=
  wx_meth (M := FBe CB) hm (w_al hi ⟨i, o, s, rfl, hi, h⟩)
end
end My
namespace My
open PySem PySem.Spec PyProof.Rows L2
/-! many beams with a port that there is not -/
theorem port_out {h w : Nat} : isPortD h w (.int ((2 * (h + w) : Nat) : Int)) = false := by
  cases e : isPortD h w (.int ((2 * (h + w) : Nat) : Int)) with
  | false => rfl
  | true =>
    obtain ⟨p, e1, hp⟩ := portD_nat e
    injection e1 with e1
    omega
section
variable {B : Org} {C U : Addr} {Γ : Ct} {K : Ct → Rs → Prop} {KE : KX} {g : Gr} {w : Nat} {ds : List Da}
theorem nats_bad {F : Hp} {h : Nat} {ps : List Nat} (as : Ats C F (natsV ps) ds) (hp : ∀ n ∈ ps, n < 2 * (h + w)) (bad : ∃ x ∈ ds, isPortD h w x = false) : False := by
  obtain ⟨x, hx, hb⟩ := bad
  obtain ⟨i, hi⟩ := List.getElem?_of_mem hx
  obtain ⟨v, hv, ha⟩ := as.get hi
  unfold natsV at hv
  rw [List.getElem?_map] at hv
  cases e : ps[i]? with
  | none => rw [e] at hv; cases hv
  | some n =>
    rw [e] at hv
    cases hv
    have := pt_ok (hp n (List.mem_of_getElem? e))
    unfold isPort at this
    rw [isNum_da ha] at this
    unfold isPortD at hb
    rw [hb] at this
    cases this
theorem pvs_of {F H : Hp} {vs : List V} (as : Ats C F vs ds) (s : Same F H) (nr : ∀ x ∈ ds, NR x) : ∀ v ∈ vs, PV H v := fun v hv => by
  obtain ⟨i, hi⟩ := List.getElem?_of_mem hv
  have il : i < ds.length := by
    rw [← as.len]
    exact (List.getElem?_eq_some_iff.mp hi).1
  have hd := List.getElem?_eq_getElem il
  exact pv_at ((as.at_ i v _ hi hd).same s) (nr _ (List.mem_of_getElem? hd))
end
end My
namespace My
open PySem PySem.Spec PyProof.Rows L2
/-! a new list beside a room, the list one's own -/
section
variable {B : Org} {C U : Addr} {Γ : Ct} {S S' : Fp} {σ : L2.St} {F F' H H' : Hp} {te : TE} {A : AE} {Kf : PySem.W.Frag} {K : Ct → Rs → Prop} {E : XK} {i j : Nat}
/-- i, j = a pair of an own thing and data -/
theorem ws_pr2 (h : W B C Γ te fun Γ1 r => ∃ m x Γ2, r = .pr m x ∧ i < Γ1.length ∧ j < Γ1.length ∧ (Γ1.set i (.mo m)).set j (.d x) = Γ2 ∧ A.nx Γ2) : WS B C Γ (tAsg te (gTup Kf 2 (gCons (gName i) (gCons (gName j) gNil)))) A := fun S σ F H D e d =>
  h S σ F H _ e fun Γ1 S1 F1 H1 r T v e1 m1 rv fr ⟨m, x, Γ2, er, hi, hj, e2, k⟩ => by
    subst er
    obtain ⟨a, p, y, rfl, ha, na, hy, hm, q⟩ := rv
    subst e2
    have ex := e1.put (r := .mo m) (v := .ref p) (T := T) hi (.m m) ⟨p, rfl, hm, q⟩ fun b hb => none_of e.rel.al (fr b hb)
    have ey := ex.putD (i := j) (v := y) (x := x) (by rw [List.length_set]; exact hj) hy
    exact ⟨a, _, rfl, SqT.of ha, rfl, _, _, rfl, _, _, rfl, rfl, d.nx _ _ _ F1 H1 m1.fr ey k⟩
/-- without what stands at l -/
def lessH (H : Hp) (l : Addr) : Hp := fun b => if b = l then none else H b
theorem less_ne {l b : Addr} {o : HO} (h : H b = some o) (n : b ≠ l) : lessH H l b = some o := by
  unfold lessH
  rw [if_neg n]
  exact h
theorem less_sub {l : Addr} : Same (lessH H l) H := fun b o h => by
  unfold lessH at h
  split at h
  · cases h
  · exact h
theorem less_gr {l : Addr} (s : Same F H) (g : Gr4 F H F' H') (hl : H l = none) : Gr4 F H (lessH F' l) H' := by
  refine ⟨fun b o h => less_ne (g.f _ _ h) fun z => ?_, fun b o h => g.s _ _ (less_sub b o h), g.h, fun b h m => ?_⟩
  · have := s b o h
    rw [z, hl] at this
    cases this
  · unfold lessH
    split
    · rfl
    · exact g.mu b h m
theorem room_less {l z : Addr} {g : Gr} {ns : List Nat} {w : Nat} (R : RoomAt C F z g) (s : Same F H) (hl : H l = some (.lst (natsV ns))) (G : Grid 8 10 g w) : RoomAt C (lessH F l) z g := by
  obtain ⟨dx, t, pl, ws, h1, h2, h3, h4⟩ := R
  have nt : ∀ {b : Addr} {o : HO}, F b = some o → o ≠ .lst (natsV ns) → b ≠ l := fun {b o} h n q => by
    have := s _ _ h
    rw [q, hl] at this
    exact n (Option.some.inj this).symm
  have np : pl ≠ l := fun q => by
    have := s _ _ h3
    rw [q, hl] at this
    injection this with this
    injection this with this
    subst this
    have hlen := h4.length
    have g0 := G.h0
    rw [places_len] at hlen
    have : 0 < (natsV ns).length := by omega
    unfold natsV at h4 this
    cases ns with
    | nil => exact absurd this (by simp)
    | cons n ns =>
      have h4 : Paired (PrAt F) (V.int n :: ns.map fun (n : Nat) => V.int n) (places g.length (gw g)) := h4
      cases hp : places g.length (gw g) with
      | nil => rw [hp] at h4; cases h4
      | cons q qs =>
        rw [hp] at h4
        cases h4 with
        | cons r _ =>
          obtain ⟨a, e, _⟩ := r
          cases e
  exact ⟨dx, t, pl, ws, less_ne h1 (nt h1 fun z => by cases z), less_ne h2 (nt h2 fun z => by cases z), less_ne h3 np, h4.tx fun a xs h => less_ne h (nt h fun z => by cases z)⟩
theorem nats_eq {ps' ps : List Nat} (ev : natsV ps = natsV ps') : ps' = ps := by
  induction ps generalizing ps' with
  | nil => cases ps' with
    | nil => rfl
    | cons a l => cases ev
  | cons n ps ih => cases ps' with
    | nil => cases ev
    | cons a l =>
      injection ev with e1 e2
      injection e1 with e1
      rw [ih e2, Int.ofNat.inj e1]
end
end My
namespace My
open PySem PySem.Spec PyProof.Rows L2
/-! the same, where a list holds one's own list -/
section
variable {B : Org} {C : Addr} {Γ : Ct} {te tb : TE} {K : Ct → Rs → Prop} {E : XK}
theorem w_equalA {n i : Nat} {l : List Da} {x : Da} (hi : Γ[i]? = some (.mo (ML l))) (h : W B C Γ te fun Γ1 r => r = .d x ∧ W B C Γ1 tb fun Γ2 s => ∃ y, Vw Γ2 s y ∧ y = .lst [.lst l, x] ∧ Γ2[i]? = some (.mo (ML l)) ∧ Sm n (.lst [.lst l, x]) ∧ K Γ2 (.d (.bl true))) :
    W B C Γ (tCR (sp_same n) E (tCons (tLst (tCons (tVar i) (tCons te tNil))) (tCons tb tNil))) K := fun S σ F H Q e c => by
  obtain ⟨p, hp, _⟩ := e.sl i _ hi
  refine ⟨_, hp, h S σ F H _ e fun Γ1 S1 F1 H1 r T v e1 m1 rv fr ⟨er, k1⟩ => ⟨by show 2 ≤ sizeLine; decide, fun q hq => ?_⟩⟩
  subst er
  have g := Gr4.of e1.sub (Same.new (o := .lst [.ref p, v]) hq)
  refine k1 S1 σ F1 _ _ (e1.ext g) fun Γ2 S2 F2 H2 s U w e3 m3 rs fs ⟨y, hy, ey, hi2, sm, kk⟩ => ?_
  subst ey
  obtain ⟨p', hp', hS, xs, hx1, hx2⟩ := e3.sl i _ hi2
  rw [hp] at hp'
  cases hp'
  have hq2 : H2 q = some (.lst [.ref p, v]) := m3.kp q _ (fun j hj => (e1.lv hj).1 hq) upd_same
  have a1 : At C H2 (.ref q) (.lst [.lst l, x]) := .lst' hq2 (.cons (.lst' hx1 (hx2.same e3.sub)) (.cons ((rv.2.same m3.fr).same e3.sub) .nil))
  exact ⟨.ref q, w, dtD (.lst [.lst l, x]), rfl, dt_at a1 sm, dt_at (e3.vw rs hy) sm, fun H' s' => (Cont.mv c ((m1.trans (.ext g)).trans m3)).ext e3 (Gr4.of e3.sub s') (.bl true) kk⟩
end
end My
namespace My
open PySem PySem.Spec PyProof.Rows L2
/-- what is told of an error -/
def toldD (i : Nat) (fs : Option (List (Str × Da))) (d : Da) : Prop :=
  (0 < i ∧ i < 10 ∧ fs = none ∧ d = .tup [.str (errKinds.getD i ""), .int 0]) ∨ (i = 10 ∧ ∃ l v, fs = some l ∧ l.lookup ("place" : Str) = some v ∧ d = .tup [.str "operation", v]) ∨
  (i = 0 ∧ ∃ l v w, fs = some l ∧ l.lookup ("row" : Str) = some v ∧ l.lookup ("column" : Str) = some w ∧ d = .tup [.str "room", .tup [v, w]])
theorem lookup_both : ∀ {n : Str} {fs : List (Str × V)} {l : List (Str × Da)} {C : Addr} {F : Hp} {x : Da}, fs.map (·.1) = l.map (·.1) → Ats C F (fs.map (·.2)) (l.map (·.2)) → l.lookup n = some x → ∃ v, fs.lookup n = some v ∧ At C F v x
  | n, [], [], _, _, _, _, _, h => by cases h
  | n, (k, v) :: fs, (k2, y) :: l, C, F, x, e, a, h => by
    injection e with e1 e2
    have e1 : k = k2 := e1
    subst e1
    rw [List.lookup_cons] at h ⊢
    by_cases q : (n == k) = true
    · rw [q] at h ⊢
      cases h
      exact ⟨v, rfl, a.hd⟩
    · rw [Bool.eq_false_iff.mpr q] at h ⊢
      exact lookup_both e2 a.tl h
theorem ne_of_mt {H : Hp} {a b : Addr} (h : Mt (H b)) (k : H a = none) : b ≠ a := fun z => h.1 (by rw [z]; exact k)
section
variable {B : Org} {C : Addr} {Γ : Ct} {t : TA} {K : Ct → Rs → Prop} {c : Nat → Addr} {Ls : List LamI} {q : Str} {S : Fp} {σ : L2.St} {F H : Hp}
/-- what a lambda raises, told; or None -/
theorem errof_core {v : V} {L : LamI} {dV : Value} {co : Addr} {Q : VK} (e1 : Env B C Γ S σ F H) (a1 : At C F v (.lam (L.obj dV co))) (mL : L ∈ Ls) (hl : LamHas L dV co q)
    (k : WXe B C (wipeC Γ L.is) L.rd (fun Γ2 r => UnAt Γ2 L.is ∧ K Γ2 (.d .non)) (fun Γ2 x => UnAt Γ2 L.is ∧ ∃ i d, x.cls = c i ∧ toldD i x.fs d ∧ K Γ2 (.d d))) (cc : Cont B C S σ F H K Q) : sErrOf c Ls q σ [v] H Q := by
    obtain ⟨f, rfl, at_⟩ := hl.at_ (f := 0) a1 e1.sub
    obtain ⟨S2, e2, less⟩ := e1.wipe L.is
    have c1 := Cont.mv cc (Mv.less less)
    refine ⟨f, co, dV, L, rfl, mL, at_, at_, ?_⟩
    refine k S2 _ F H _ _ e2 (fun Γ3 S3 F3 H3 r T3 v3 e3 m3 rv3 fr3 ⟨hu, kk⟩ => ?_) fun Γ3 S3 F3 H3 x d e3 m3 xo ⟨hu, i, u, ex, tl, kk⟩ => ⟨i, by rw [ex], ?_⟩
    · have e4 : Env B C Γ3 S3 σ F3 H3 := e3.slots' hu (by rw [wipe_wipe])
      exact c1 Γ3 S3 F3 H3 (.d .non) [] .non e4 m3 ⟨rfl, .non⟩ (fun _ z => by cases z) kk
    · have e4 : Env B C Γ3 S3 σ F3 H3 := e3.slots' hu (by rw [wipe_wipe])
      rcases tl with ⟨i0, i1, fs, rfl⟩ | ⟨rfl, l, v, fs, hv, rfl⟩ | ⟨rfl, l, v, w, fs, hv, hw, rfl⟩
      · unfold XcOk at xo
        rw [fs] at xo
        refine .inl ⟨i0, i1, xo, fun p H'' hp s2 hp2 => ?_⟩
        have g : Gr4 F3 H3 (upd F3 p (.tup [.str (errKinds.getD i ""), .int 0])) H'' := ⟨Same.new (e3.sub.free hp), fun b o z => ?_, s2, fun b z1 z2 => by rw [upd_ne (ne_of_mt z2 hp)]; exact z1⟩
        · exact c1.mv m3 |>.ext e4 g (.tup' upd_same (.cons (.str _) (.cons (.int _) .nil))) kk
        · rcases upd_some z with ⟨rfl, rfl⟩ | ⟨_, z⟩
          · exact hp2
          · exact s2 _ _ (e3.sub _ _ z)
      · unfold XcOk at xo
        rw [fs] at xo
        obtain ⟨a, gs, ed, hx, e1, e2⟩ := xo
        obtain ⟨u, hu1, hu2⟩ := lookup_both e1 e2 hv
        refine .inr (.inl ⟨rfl, a, gs, u, ed, hx, hu1, fun p H'' hp s2 hp2 => ?_⟩)
        have g : Gr4 F3 H3 (upd F3 p (.tup [.str "operation", u])) H'' := ⟨Same.new (e3.sub.free hp), fun b o z => ?_, s2, fun b z1 z2 => by rw [upd_ne (ne_of_mt z2 hp)]; exact z1⟩
        · exact c1.mv m3 |>.ext e4 g (.tup' upd_same (.cons (.str _) (.cons (hu2.same g.f) .nil))) kk
        · rcases upd_some z with ⟨rfl, rfl⟩ | ⟨_, z⟩
          · exact hp2
          · exact s2 _ _ (e3.sub _ _ z)
      · unfold XcOk at xo
        rw [fs] at xo
        obtain ⟨a, gs, ed, hx, e1, e2⟩ := xo
        obtain ⟨u, hu1, hu2⟩ := lookup_both e1 e2 hv
        obtain ⟨y, hy1, hy2⟩ := lookup_both e1 e2 hw
        refine .inr (.inr ⟨rfl, a, gs, u, y, ed, hx, hu1, hy1, fun p r H'' hp hr npr s2 hr2 hp2 => ?_⟩)
        have f1 := e3.sub.free hr
        have f2 : upd F3 r (.tup [u, y]) p = none := by rw [upd_ne npr.symm]; exact e3.sub.free hp
        have g : Gr4 F3 H3 (upd (upd F3 r (.tup [u, y])) p (.tup [.str "room", .ref r])) H'' := ⟨(Same.new f1).trans (Same.new f2), fun b o z => ?_, s2, fun b z1 z2 => by rw [upd_ne (ne_of_mt z2 hp), upd_ne (ne_of_mt z2 hr)]; exact z1⟩
        · have at1 : At C (upd (upd F3 r (.tup [u, y])) p (.tup [.str "room", .ref r])) (.ref r) (.tup [v, w]) := .tup' (by rw [upd_ne npr, upd_same]) (.cons (hu2.same g.f) (.cons (hy2.same g.f) .nil))
          exact c1.mv m3 |>.ext e4 g (.tup' upd_same (.cons (.str _) (.cons at1 .nil))) kk
        · rcases upd_some z with ⟨rfl, rfl⟩ | ⟨_, z⟩
          · exact hp2
          · rcases upd_some z with ⟨rfl, rfl⟩ | ⟨_, z⟩
            · exact hr2
            · exact s2 _ _ (e3.sub _ _ z)
theorem w_errof (h : WA B C Γ t fun Γ1 rs => ∃ (L : LamI) (dV : Value) (co : Addr), rs = [.d (.lam (L.obj dV co))] ∧ L ∈ Ls ∧ LamHas L dV co q ∧
      WXe B C (wipeC Γ1 L.is) L.rd (fun Γ2 r => UnAt Γ2 L.is ∧ K Γ2 (.d .non)) (fun Γ2 x => UnAt Γ2 L.is ∧ ∃ i d, x.cls = c i ∧ toldD i x.fs d ∧ K Γ2 (.d d))) : W B C Γ (tPlus t (sErrOf c Ls q)) K := fun S σ F H Q e cc =>
  h S σ F H _ e fun Γ1 S1 F1 H1 rs T vs e1 m1 rv fr ⟨L, dV, co, er, mL, hl, k⟩ => by
    subst er
    obtain ⟨v, T', rfl, r1⟩ := vs1 rv
    exact errof_core e1 r1.2 mL hl k (Cont.mv cc m1)
theorem w_errof1 {X : Cx} {l : Expr} {is : List Nat} {rd : XK → TE} {df : Option Str} (hm : LamI.of X l is rd df ∈ Ls) (h : WA B C Γ t fun Γ1 rs => ∃ (dV : Value) (co : Addr), rs = [.d (.lam (lamObj X l dV co))] ∧ LamHas (LamI.of X l is rd df) dV co q ∧
      WXe B C (wipeC Γ1 is) rd (fun Γ2 r => UnAt Γ2 is ∧ K Γ2 (.d .non)) (fun Γ2 x => UnAt Γ2 is ∧ ∃ i d, x.cls = c i ∧ toldD i x.fs d ∧ K Γ2 (.d d))) : W B C Γ (tPlus t (sErrOf c Ls q)) K :=
  w_errof fun S σ F H Q e cc => h S σ F H Q e fun Γ1 S1 F1 H1 rs T vs e1 m1 rv fr ⟨dV, co, er, hl, k⟩ => cc Γ1 S1 F1 H1 rs T vs e1 m1 rv fr ⟨LamI.of X l is rd df, dV, co, er, hm, hl, k⟩
end
end My
namespace My
open PySem PySem.Spec PySem.Calls PyProof.Rows L2
/-- all of some calls raise what is told as the second value -/
def spAll (c : Nat → Addr) (P : Program) (w : World) (K : PySem.W.Frag) (mg : Str → Option Value) (k : Nat) (B : Heap) : Sp := fun vs H Q _ => ∃ (l : Addr) (fs : List V) (ev : V) (I : Nat → Hp → Hp → Prop), vs = [.ref l, ev] ∧ fs.length < 100000 ∧ (∃ Z, I 0 Z H) ∧
  (∀ i Z H', I i Z H' → Same Z H' ∧ SqL K H' l fs ∧ ∀ D, H' D = none → I i (upd Z D (.lst [])) (upd H' D (.lst []))) ∧
  (∀ i x Z H' Q', fs[i]? = some x → I i Z H' → (∀ r Z' H'' d, Same Z Z' → I (i + 1) Z' H'' → Dp K H'' r d → Dp K H'' ev d → SeqAt.shaped d = true → PyData.eqv d d = true → Q' r H'') → spErr c P w K mg k B [x] H' Q' C8.E0) ∧
  (∀ Z H', I fs.length Z H' → Q (.bl true) H')
def sAllR (K : PySem.W.Frag) (c : Nat → Addr) (Ls : List LamI) (q : Str) : L2.St → List V → Hp → VK → Prop := fun σ vs H Q => ∃ (l : Addr) (fs : List V) (ev : V) (I : Nat → Hp → Hp → Prop), vs = [.ref l, ev] ∧ fs.length < 100000 ∧ (∃ Z, I 0 Z H) ∧
  (∀ i Z H', I i Z H' → Same Z H' ∧ SqL K H' l fs ∧ ∀ D, H' D = none → I i (upd Z D (.lst [])) (upd H' D (.lst []))) ∧
  (∀ i x Z H' Q', fs[i]? = some x → I i Z H' → (∀ r Z' H'' d, Same Z Z' → I (i + 1) Z' H'' → Dp K H'' r d → Dp K H'' ev d → SeqAt.shaped d = true → PyData.eqv d d = true → Q' r H'') → sErrOf c Ls q σ [x] H' Q') ∧
  (∀ Z H', I fs.length Z H' → Q (.bl true) H')
section
variable {B : Org} {C : Addr} {Γ : Ct} {t : TA} {K : Ct → Rs → Prop} {Kf : PySem.W.Frag} {c : Nat → Addr} {Ls : List LamI} {q : Str}
theorem w_allr (h : WAf B C Γ t fun Γ1 rs => ∃ (ds : List Da) (x : Da) (Ks : Nat → Ct → Prop), rs = [.lst ds, x] ∧ Pl 60 x ∧ ds.length < 100000 ∧ Ks 0 Γ1 ∧
      (∀ i d Γ2, ds[i]? = some d → Ks i Γ2 → ∃ (L : LamI) (dV : Value) (co : Addr), d = .lam (L.obj dV co) ∧ L ∈ Ls ∧ LamHas L dV co q ∧
        WXe B C (wipeC Γ2 L.is) L.rd (fun _ _ => False) (fun Γ3 y => UnAt Γ3 L.is ∧ ∃ j, y.cls = c j ∧ toldD j y.fs x ∧ Ks (i + 1) Γ3)) ∧
      ∀ Γ2, Ks ds.length Γ2 → K Γ2 (.d (.bl true))) : W B C Γ (tPlus t (sAllR Kf c Ls q)) K := fun S σ F H Q e cc =>
  h S σ F H _ e fun Γ1 S1 F1 H1 rs T vs e1 m1 rv fr ⟨dd, er, ds, x, Ks, ed, px, hl, k0, ks, kn⟩ => by
    subst er ed
    obtain ⟨v1, v2, T1, T2, rfl, r1, r2⟩ := vs2 rv
    obtain ⟨l, fs, rfl, hf, as⟩ := r1.2.lstI
    have c1 := Cont.mv cc m1
    refine ⟨l, fs, v2, fun i Z H' => ∃ Γ2 S2, Env B C Γ2 S2 σ Z H' ∧ Mv S1 F1 H1 S2 Z H' ∧ Ks i Γ2, rfl, by rw [as.len]; exact hl, ⟨F1, Γ1, S1, e1, .refl, k0⟩, ?_, ?_, ?_⟩
    · rintro i Z H' ⟨Γ2, S2, e2, m2, k2⟩
      refine ⟨e2.sub, SqL.of (e2.sub _ _ (m2.fr _ _ hf)), fun D hD => ?_⟩
      have g := Gr4.fz (o := .lst []) e2.sub hD
      exact ⟨Γ2, S2, e2.ext g, m2.trans (.ext g), k2⟩
    · rintro i y Z H' Q' hy ⟨Γ2, S2, e2, m2, k2⟩ hQ
      have hi : i < ds.length := by rw [← as.len]; exact (List.getElem?_eq_some_iff.mp hy).1
      have hd : ds[i]? = some ds[i] := List.getElem?_eq_getElem hi
      obtain ⟨L, dV, co, ed, mL, hl2, w⟩ := ks i _ Γ2 hd k2
      have ay : At C Z y (.lam (L.obj dV co)) := by
        rw [← ed]
        exact (as.at_ i y _ hy hd).same m2.fr
      refine errof_core (K := fun Γ3 r => r = .d x ∧ Ks (i + 1) Γ3) e2 ay mL hl2 (fun S σ F H Q E e' cn cx => w S σ F H Q E e' (fun Γ4 S4 F4 H4 r T v e4 m4 rv4 fr4 z => z.elim) fun Γ4 S4 F4 H4 xc d e4 m4 xo ⟨hu, j, hj, tl, kk⟩ => cx Γ4 S4 F4 H4 xc d e4 m4 xo ⟨hu, j, x, hj, tl, rfl, kk⟩) ?_
      rintro Γ3 S3 F3 H3 r T v e3 m3 rv3 fr3 ⟨rfl, kk⟩
      have m23 := m2.trans m3
      refine hQ v F3 H3 (py x) m3.fr ⟨Γ3, S3, e3, m23, kk⟩ ((rv3.2.same e3.sub).dp px) ((r2.2.same (fun _ _ z => e3.sub _ _ (m23.fr _ _ z))).dp px) (px.sh.shaped (by decide)) px.eqv
    · rintro Z H' ⟨Γ2, S2, e2, m2, k2⟩
      rw [as.len] at k2
      exact (Cont.mv c1 m2).here e2 (.bl _) (kn Γ2 k2)
/-- a lambda raises what is told as x, the names as they stand -/
def LamR (B : Org) (C : Addr) (c : Nat → Addr) (Ls : List LamI) (q : Str) (Γ : Ct) (x : Da) (d : Da) : Prop := ∃ (L : LamI) (dV : Value) (co : Addr), d = .lam (L.obj dV co) ∧ L ∈ Ls ∧ LamHas L dV co q ∧
        WXe B C (wipeC Γ L.is) L.rd (fun _ _ => False) (fun Γ3 y => UnAt Γ3 L.is ∧ ∃ j, y.cls = c j ∧ toldD j y.fs x ∧ Γ3 = Γ)
theorem lamR_of {X : Cx} {l : Expr} {is : List Nat} {rd : XK → TE} {df : Option Str} {dV : Value} {co : Addr} {x : Da} (hm : LamI.of X l is rd df ∈ Ls) (hl : LamHas (LamI.of X l is rd df) dV co q)
    (w : WXe B C (wipeC Γ is) rd (fun _ _ => False) (fun Γ3 y => UnAt Γ3 is ∧ ∃ j, y.cls = c j ∧ toldD j y.fs x ∧ Γ3 = Γ)) : LamR B C c Ls q Γ x (.lam (lamObj X l dV co)) := ⟨_, dV, co, rfl, hm, hl, w⟩
theorem w_allr0 (h : WAf B C Γ t fun Γ1 rs => ∃ (ds : List Da) (x : Da), rs = [.lst ds, x] ∧ Pl 60 x ∧ ds.length < 100000 ∧ (∀ d ∈ ds, LamR B C c Ls q Γ1 x d) ∧ K Γ1 (.d (.bl true))) : W B C Γ (tPlus t (sAllR Kf c Ls q)) K :=
  w_allr (h.mono fun Γ1 rs ⟨dd, er, ds, x, ed, px, hl, ks, kn⟩ => ⟨dd, er, ds, x, fun _ Γ2 => Γ2 = Γ1, ed, px, hl, rfl, fun i d Γ2 hd e2 => by
    subst e2
    exact ks d (List.mem_of_getElem? hd), fun Γ2 e2 => by
    subst e2
    exact kn⟩)
end
end My
namespace My
open PySem PySem.Spec PyProof.Rows L2
/-! calls of rooms and paths, with a port that there is not -/
def nsE (K : PySem.W.Frag) (E : XK) : XK := fun cls d H => PySem.W.subIn K cls (.type "StopIteration") = some false ∧ E cls d H
theorem noStopE {K : PySem.W.Frag} {E : XK} : NoStop K (nsE K E) := fun _ _ _ h => h.1
section
variable {B : Org} {C U : Addr} {Γ : Ct} {t : TA} {tf : TE} {Kf : PySem.W.Frag} {K : Ct → Rs → Prop} {KE : KX} {g : Gr} {w : Nat} {x : Da}
theorem wx_callO {sp : Sp} (h : W B C Γ tf fun Γ1 r => ∃ g, r = .d (.room g) ∧ WA B C Γ1 t fun Γ2 rs => WFx B C Γ2 sp (r :: rs) K KE) : WXe B C Γ (fun E => tCO C sp E tf t) K KE := fun S σ F H Q E e c cx =>
  h S σ F H _ e fun Γ1 S1 F1 H1 r T v e1 m1 rv fr ⟨g, er, k⟩ => by
    subst er
    obtain ⟨x, w', rfl, R, _⟩ := rv.2.roomI
    refine ⟨x, rfl, k S1 σ F1 H1 _ e1 fun Γ2 S2 F2 H2 rs T2 vs e2 m2 rv2 fr2 k2 => ?_⟩
    obtain ⟨dx, fs, hx⟩ := (R.same (fun _ _ z => e2.sub _ _ (m2.fr _ _ z))).ins
    exact ⟨⟨dx, fs, hx⟩, k2 S2 σ F2 H2 _ (T ++ T2) Q E e2 (.cons (rv.mv m2) rv2 fun b hb => by rw [rv.1] at hb; cases hb) (Cont.mv c (m1.trans m2)) (cx.mv (m1.trans m2))⟩
theorem wfx_callB (G : Grid 8 10 g w) (hx : NR x) (bad : isPortD g.length w x = false) (k : KE Γ ⟨U, none⟩) : WFx B C Γ (sp_call C U) [.d (.room g), .d x] K KE := fun S σ F H vs T Q E e rv c cx => by
  obtain ⟨v, w', T', U', rfl, r1, r2⟩ := vs2 rv
  obtain ⟨y, w2, rfl, R, _⟩ := r1.2.roomI
  have nb : isPort g.length w w' = false := (isNum_da r2.2).trans bad
  refine ⟨y, w', w, g, rfl, R.same e.sub, G, pv_at (r2.2.same e.sub) hx, fun p n j y' ep r' => ?_, fun _ H' s => cx Γ S F H' ⟨U, none⟩ none (e.ext (Gr4.of e.sub s)) (.ext (Gr4.of e.sub s)) rfl k⟩
  subst ep
  obtain ⟨r0, c0, h1, _⟩ := r'.ex
  have := (List.getElem?_eq_some_iff.mp h1).1
  rw [places_len] at this
  rw [pt_ok this] at nb
  cases nb
theorem wx_pathB {ta : TA} (h : WA B C Γ ta fun Γ1 rs => ∃ g w x, rs = [.d (.room g), .d x] ∧ Grid 8 10 g w ∧ NR x ∧ isPortD g.length w x = false ∧ PySem.W.subIn Kf (.ref U) (.type "StopIteration") = some false ∧ KE Γ1 ⟨U, none⟩) : WXe B C Γ (fun E => tListG (tCallG (sp_path C U) [] (nsE Kf E) ta)) K KE := fun S σ F H Q E e c cx =>
  h S σ F H _ e fun Γ1 S1 F1 H1 rs T vs e1 m1 rv fr ⟨g, w, x, er, G, hx, bad, ns, k⟩ => by
    subst er
    obtain ⟨v, v', T', U', rfl, r1, r2⟩ := vs2 rv
    obtain ⟨y, w2, rfl, R, _⟩ := r1.2.roomI
    have nb : isPort g.length w v' = false := (isNum_da r2.2).trans bad
    refine ⟨y, v', w, g, rfl, R.same e1.sub, G, pv_at (r2.2.same e1.sub) hx, fun p' L' ws H' ep tr' hL s pr q hq => ?_, fun _ H' s => ⟨ns, cx Γ1 S1 F1 H' ⟨U, none⟩ none (e1.ext (Gr4.of e1.sub s)) (m1.trans (.ext (Gr4.of e1.sub s))) rfl k⟩⟩
    subst ep
    rw [pt_ok (trl_port tr')] at nb
    cases nb
end
end My
namespace My
open PySem PySem.Spec PyProof.Rows L2
/-! checks; all rooms until one comes again -/
def sp_beams (U : Addr) : Sp := fun vs H Q E => ∃ (v : V) (lo : Int), vs = [v, .int lo] ∧ PV H v ∧ (isNum v lo 1000000000000000000 = true → Q .non H) ∧ (isNum v lo 1000000000000000000 = false → E (.ref U) none H)
abbrev s_check_beams : Stmt := (top 12)
abbrev N_check_beams : List Str := ["number", "lowest"]
theorem sc_check_beams : FnScope N_check_beams ["number", "lowest"] (defScope s_check_beams) := ⟨rfl, rfl, rfl, by decide +kernel, rfl, by decide +kernel, by decide +kernel⟩

section
variable {P : Program} {w : World} {K : PySem.W.Frag} {mg : Str → Option Value} {base : Heap}
theorem ok_beams {f U0 : Addr} {fd : FuncData} (F : Fun K "check_beams" "check_beams" s_check_beams f fd) (g_is_number : GF P w K mg base "is_number" 1 sp_isnum) (v_MAX_BEAMS : ∃ t, mg "MAX_BEAMS" = some (.int 1000000000000000000 t)) (U : ErrC K mg "InvalidNumber" U0) :
    FnOk P w K mg base (L2.CX P w) 2 f fd ["number", "lowest"] (sp_beams U0) := by
  refine F.okX sc_check_beams (fun vs H Q E h => ?_) (fun cdv A outer s H vs Q E hr h => ?_)
  · obtain ⟨v, lo, rfl, _⟩ := h
    rfl
  · obtain ⟨v, lo, rfl, hv, q1, q2⟩ := h
    refine ⟨_, (pss_one (ps_if (pt_not (pt_val (pe_c g_is_number (hr.mono (by decide)) passL (pa_cons (pv 0) (pa_cons (pv 1) (pa_cons (pe_gi v_MAX_BEAMS) pa_nil))))))
      (pss_one (ps_raise rfl (takes_of rfl rfl rfl rfl) (pmk_own PySem.F.excBase_ValueError U.x U.g U.k (raises_own U.b U.t) rfl)))
      pss_nil)), ?_⟩
    refine ⟨_, rfl, _, rfl, v, lo, _, rfl, hv, ?_⟩
    refine ⟨_, rfl, ?_⟩
    cases hc : isNum v lo 1000000000000000000 with
    | true => exact ifF rfl (q1 hc)
    | false => exact ifT rfl (q2 hc)
end
section
variable {B : Org} {C U : Addr} {Γ : Ct} {K : Ct → Rs → Prop} {KE : KX} {E : XK} {g : Gr} {w : Nat} {x : Da}
theorem wf_portE (hE : XOk B C E KE) (G : Grid 8 10 g w) (hx : NR x) (ok : ∀ p : Nat, x = .int p → p < 2 * (g.length + w) → K Γ (.d .non)) (bad : isPortD g.length w x = false → KE Γ ⟨U, none⟩) : WF B C Γ (sp_port C U) E [.d (.room g), .d x] K := fun S σ F H vs T Q e rv c => by
  obtain ⟨v, w', T', U', rfl, r1, r2⟩ := vs2 rv
  obtain ⟨y, w2, rfl, R, _⟩ := r1.2.roomI
  have eq : isPort g.length w w' = isPortD g.length w x := isNum_da r2.2
  refine ⟨y, w', w, g, rfl, R.same e.sub, G, pv_at (r2.2.same e.sub) hx, fun h => ?_, fun h => hE Γ S σ F H ⟨U, none⟩ none e rfl (bad (eq ▸ h))⟩
  obtain ⟨p, rfl, lp⟩ := portD_nat (eq ▸ h)
  exact c.here e .non (ok p rfl lp)
theorem wf_tileE (hE : XOk B C E KE) (G : Grid 8 10 g w) (hx : TlD x) (ok : okAtD g.length w x = true → K Γ (.d .non)) (bad : okAtD g.length w x = false → KE Γ ⟨U, none⟩) : WF B C Γ (sp_tile C U) E [.d (.room g), .d x] K := fun S σ F H vs T Q e rv c => by
  obtain ⟨v, w', T', U', rfl, r1, r2⟩ := vs2 rv
  obtain ⟨y, w2, rfl, R, _⟩ := r1.2.roomI
  obtain ⟨o, h1, h2⟩ := atV_da r2.2 e.sub hx
  refine ⟨y, w', w, g, o, rfl, R.same e.sub, G, h1, fun h H' s => c.ext e (Gr4.of e.sub s) .non (ok ((h2 _ _).symm.trans h)), fun h H' s => hE Γ S σ F H' ⟨U, none⟩ none (e.ext (Gr4.of e.sub s)) rfl (bad ((h2 _ _).symm.trans h))⟩
theorem wf_beamsE {lo : Int} (hE : XOk B C E KE) (hx : NR x) (ok : isIntD lo 1000000000000000000 x = true → K Γ (.d .non)) (bad : isIntD lo 1000000000000000000 x = false → KE Γ ⟨U, none⟩) : WF B C Γ (sp_beams U) E [.d x, .d (.int lo)] K := fun S σ F H vs T Q e rv c => by
  obtain ⟨v, w', T', U', rfl, r1, r2⟩ := vs2 rv
  obtain rfl := r2.2.intI
  have eq : isNum v lo 1000000000000000000 = isIntD lo 1000000000000000000 x := isNum_da r1.2
  exact ⟨v, lo, rfl, pv_at (r1.2.same e.sub) hx, fun h => c.here e .non (ok (eq ▸ h)), fun h => hE Γ S σ F H ⟨U, none⟩ none e rfl (bad (eq ▸ h))⟩
end
/-! follow -/
noncomputable def roomsD (g : Gr) (p n : Nat) : List Da := (List.range n).map fun i => .room (itG g p i)
noncomputable def numsD (g : Gr) (p n : Nat) : List (Key × Da) := (List.range n).map fun i => (.inr (gtext (itG g p i)), .int (i : Nat))
theorem roomsD_len {g : Gr} {p n : Nat} : (roomsD g p n).length = n := by
  unfold roomsD
  rw [List.length_map, List.length_range]
theorem roomsD_at {g : Gr} {p n i : Nat} (h : i < n) : (roomsD g p n)[i]? = some (.room (itG g p i)) := by
  unfold roomsD
  rw [List.getElem?_map, List.getElem?_range h] <;> rfl
theorem roomsD_succ {g : Gr} {p n : Nat} : roomsD g p (n + 1) = roomsD g p n ++ [.room (itG g p n)] := by
  unfold roomsD
  rw [List.range_succ, List.map_append] <;> rfl
theorem numsD_succ {g : Gr} {p n : Nat} : numsD g p (n + 1) = numsD g p n ++ [(.inr (gtext (itG g p n)), .int (n : Nat))] := by
  unfold numsD
  rw [List.range_succ, List.map_append] <;> rfl
section
variable {g : Gr} {w p : Nat}
theorem numsD_none (G : Grid 8 10 g w) (hp : p < 2 * (g.length + w)) {n k : Nat} (h : ∀ i, i < n → itG g p i ≠ itG g p k) : valD (numsD g p n) (.inr (gtext (itG g p k))) = none := by
  rw [valD_none]
  intro e he z
  unfold numsD at he
  obtain ⟨i, hi, rfl⟩ := List.mem_map.mp he
  injection z with z
  exact h i (List.mem_range.mp hi) (gtext_inj (itG_grid G hp i).1 (itG_grid G hp k).1 z)
theorem numsD_some (G : Grid 8 10 g w) (hp : p < 2 * (g.length + w)) {n k : Nat} : ∀ {m : Nat}, k < m → (∀ i j, i < j → j < m → itG g p i ≠ itG g p j) → itG g p n = itG g p k → valD (numsD g p m) (.inr (gtext (itG g p n))) = some (.int (k : Nat))
  | m + 1, h, dis, e => by
    have gen : ∀ m, k < m → (∀ i j, i < j → j < m → itG g p i ≠ itG g p j) → valD (numsD g p m) (.inr (gtext (itG g p n))) = some (.int (k : Nat)) := by
      intro m
      induction m with
      | zero => intro h; exact absurd h (by omega)
      | succ m ih =>
        intro h dis
        rw [numsD_succ]
        by_cases hk : k = m
        · subst hk
          have h0 : valD (numsD g p k) (.inr (gtext (itG g p k))) = none := numsD_none G hp fun i hi => dis i k hi (by omega)
          have := valD_put (numsD g p k) (.inr (gtext (itG g p k))) (.inr (gtext (itG g p n))) (.int (k : Nat))
          rw [putD_new h0, e, if_pos rfl] at this
          rw [e]
          exact this
        · have h0 : valD (numsD g p m) (.inr (gtext (itG g p m))) = none := numsD_none G hp fun i hi => dis i m hi (by omega)
          have := valD_put (numsD g p m) (.inr (gtext (itG g p m))) (.inr (gtext (itG g p n))) (.int (m : Nat))
          rw [putD_new h0, if_neg (fun z => by
            injection z with z
            have := gtext_inj (itG_grid G hp n).1 (itG_grid G hp m).1 z
            rw [e] at this
            exact dis k m (by omega) (by omega) this)] at this
          rw [this]
          exact ih (by omega) fun i j h1 h2 => dis i j h1 (by omega)
    exact gen _ h dis
end
def PFollow : DP := fun ds R _ => ∃ g w p, ds = [.room g, .int (p : Nat)] ∧ Grid 8 10 g w ∧ p < 2 * (g.length + w) ∧ ∀ n f, n ≤ 1024 → Rho g p n f → R (.d (.tup [.lst (roomsD g p n), .int (f : Nat)]))
abbrev s_follow : Stmt := (top 32)
abbrev N_follow : List Str := ["room", "port", "numbers", "rooms", "_"]
theorem sc_follow : FnScope N_follow ["room", "port"] (defScope s_follow) := ⟨rfl, rfl, rfl, by decide +kernel, rfl, by decide +kernel, by decide +kernel⟩

local macro_rules | `(tactic| walk_at "sm") => `(tactic| first
  | exact .int _
  | exact .bl _
  | exact .str _
  | exact .non
  | exact sm_dP _
  | exact sm_dPs (by omega)
  | exact sm_dNs (by omega)
  | exact sm_lns (by omega)
  | exact sm_lnsT (by omega)
  | (refine .lst (Nat.le_of_ble_eq_true rfl) ?_; walk_at "sms")
  | (refine .tup (Nat.le_of_ble_eq_true rfl) ?_; walk_at "sms"))
local macro_rules | `(tactic| walk_at "sms") => `(tactic| first
  | exact sm_nil
  | ((refine sm_cons ?a ?b); (case a => walk_at "sm"); (case b => walk_at "sms")))
local macro_rules | `(tactic| walk_at "set") => `(tactic| (simp only [List.set_cons_zero, List.set_cons_succ] <;> rfl))
local macro_rules | `(tactic| walk_at "put") => `(tactic| first
  | exact .nil _
  | (refine .cons (.d _) (ltL rfl) ?_; walk_at "put")
  | (refine .cons (.m _) (ltL rfl) ?_; walk_at "put"))
local macro_rules | `(tactic| walk_at "puts") => `(tactic| (refine ⟨?g2, ?g3, ?pa, ?pb, ?pc⟩; (case pa => walk_at "put"); (case pb => walk_at "set"); try (case g2 => skip)))
local macro_rules | `(tactic| walk_at "k") => `(tactic| first
  | ((refine ⟨_, ?g2, .d _, ltL rfl, ?pb, ?pc⟩); (case pb => walk_at "set"))
  | ((refine ⟨_, ?g2, .m _, ltL rfl, ?pb, ?pc⟩); (case pb => walk_at "set"))
  | ((refine ⟨?g2, ltL rfl, ?pb, ?pc⟩); (case pb => walk_at "set"))
  | refine ⟨_, .d _, ?_⟩
  | refine ⟨_, .m _, ?_⟩
  | refine ⟨_, _, _, rfl, by assumption, by assumption, ?_⟩
  | refine ⟨_, rfl, ?_⟩
  | refine ⟨_, .m, ?_⟩
  | refine ⟨_, .d, ?_⟩
  | refine ⟨_, .a rfl, ?_⟩
  | refine ⟨⟨_, .a rfl⟩, ?_⟩
  | refine ⟨⟨_, .m⟩, ?_⟩
  | refine ⟨⟨_, .d⟩, ?_⟩
  | refine ⟨fun _ => ?_, fun hz => absurd hz Bool.false_ne_true⟩
  | refine ⟨fun _ => ?_, fun hz => absurd hz.symm Bool.false_ne_true⟩
  | refine ⟨fun hz => absurd hz Bool.false_ne_true, fun _ => ?_⟩
  | refine ⟨fun hz => absurd hz.symm Bool.false_ne_true, fun _ => ?_⟩
  | ((refine ⟨Nat.le_of_ble_eq_true rfl, rfl, ?g2, ?g3, ?pa, ?pb, ?pc⟩); (case pa => walk_at "put"); (case pb => walk_at "set"))
  | ((refine ⟨?g2, ?g3, ?pa, ?pb, ?pc⟩); (case pa => walk_at "put"); (case pb => walk_at "set"))
  | refine ⟨Nat.le_of_ble_eq_true rfl, ?_⟩)
local macro_rules | `(tactic| walk_at "app") => `(tactic| ((refine ⟨_, _, ?g2, .d _, rfl, ?hl, ?pb, ?pc⟩); (case pb => walk_at "set")))
local macro_rules | `(tactic| walk_at "w") => `(tactic| first
  | with_reducible refine ws_seq ?_
  | with_reducible refine ws_next ?_
  | with_reducible refine sw_set ?_
  | with_reducible refine ws_if ?_
  | with_reducible refine ws_put2 ?_
  | with_reducible refine ws_putL ?_
  | with_reducible refine sw_names2 ?_
  | with_reducible refine sw_names3 ?_
  | with_reducible refine sw_names4 ?_
  | with_reducible refine sw_names5 ?_
  | with_reducible refine sw_names6 ?_
  | with_reducible refine sw_names7 ?_
  | with_reducible refine sw_asg ?_
  | with_reducible refine sw_for ?_
  | with_reducible refine tg_name ?_
  | with_reducible refine tgs_nil ?_
  | with_reducible refine tgs_cons ?_
  | ((with_reducible refine tg_tup ?hn ?_); (case hn => rfl))
  | ((with_reducible refine tg_lst ?hn ?_); (case hn => rfl))
  | with_reducible refine ws_ret ?_
  | with_reducible refine ws_drop ?_
  | with_reducible refine sw_par ?_
  | with_reducible refine sw_par3 ?_
  | with_reducible refine w_int ?_
  | with_reducible refine w_str ?_
  | with_reducible refine w_bl ?_
  | with_reducible refine w_non ?_
  | ((with_reducible refine w_var (x := ?x0) ?hv ?_); (case hv => exact rfl))
  | ((with_reducible refine w_al (m := ?m0) ?hv ?_); (case hv => exact rfl))
  | ((with_reducible refine w_ix2 (a := ?a0) (b := ?b0) (ms := ?ms0) ?h1 ?h2 ?h3 ?hk); (case h1 => exact rfl); (case h2 => exact rfl); (case h3 => exact rfl))
  | with_reducible refine w_op ?_
  | with_reducible refine w_neg ?_
  | with_reducible refine w_un ?_
  | with_reducible refine wa_cons ?_
  | with_reducible refine wa_nil ?_
  | with_reducible refine waf_cons ?_
  | with_reducible refine waf_nil ?_
  | with_reducible refine w_tupF ?_
  | with_reducible refine w_lstF ?_
  | with_reducible refine w_cr ?_
  | with_reducible refine w_cb ?_
  | with_reducible refine w_mkBench ?_
  | ((with_reducible refine wb_now (s := ?s0) (o := ?o0) ?hv ?_); (case hv => exact rfl))
  | ((with_reducible refine wb_passes (s := ?s0) (o := ?o0) ?hv ?hl ?_); (case hv => exact rfl); (case hl => (first | assumption | omega)))
  | ((with_reducible refine wb_ops (s := ?s0) (o := ?o0) ?hv ?hl ?_); (case hv => exact rfl); (case hl => (first | assumption | omega)))
  | ((with_reducible refine wb_meth inb_beam (s := ?s0) (o := ?o0) ?hv ?_); (case hv => exact rfl))
  | ((with_reducible refine wb_meth inb_turn (s := ?s0) (o := ?o0) ?hv ?_); (case hv => exact rfl))
  | ((with_reducible refine wb_meth inb_turn_all (s := ?s0) (o := ?o0) ?hv ?_); (case hv => exact rfl))
  | ((with_reducible refine wb_meth inb_undo (s := ?s0) (o := ?o0) ?hv ?_); (case hv => exact rfl))
  | ((with_reducible refine wb_meth inb_redo (s := ?s0) (o := ?o0) ?hv ?_); (case hv => exact rfl))
  | ((with_reducible refine wb_meth inb_save (s := ?s0) (o := ?o0) ?hv ?_); (case hv => exact rfl))
  | ((with_reducible refine wb_meth inb_restore (s := ?s0) (o := ?o0) ?hv ?_); (case hv => exact rfl))
  | ((with_reducible refine wb_meth inb_state (s := ?s0) (o := ?o0) ?hv ?_); (case hv => exact rfl))
  | ((with_reducible refine wb_meth inb_back (s := ?s0) (o := ?o0) ?hv ?_); (case hv => exact rfl))
  | ((with_reducible refine wb_meth inb_batch (s := ?s0) (o := ?o0) ?hv ?_); (case hv => exact rfl))
  | ((with_reducible refine wb_meth inb_exec (s := ?s0) (o := ?o0) ?hv ?_); (case hv => exact rfl))
  | ((with_reducible refine wb_meth inb_step (s := ?s0) (o := ?o0) ?hv ?_); (case hv => exact rfl))
  | with_reducible refine w_pr ?_
  | with_reducible refine wf_rows ?_
  | with_reducible refine wf_text (by assumption) ?_
  | with_reducible refine wf_size (by assumption) ?_
  | with_reducible refine wf_turning (by assumption) ?_
  | with_reducible refine wu_inv (by assumption) ?_
  | with_reducible refine wc_lenO (by assumption) ?_
  | with_reducible refine wc_boolO (by assumption) ?_
  | ((with_reducible refine wc_lenL (l := ?l0) ?hv ?_); (case hv => first | exact .d | exact .m | (refine .a ?_; exact rfl)))
  | with_reducible refine wc_lenT ?_
  | ((with_reducible refine wc_listL (l := ?l0) ?hv ?_); (case hv => first | exact .d | exact .m | (refine .a ?_; exact rfl)))
  | with_reducible refine wc_listT ?_
  | ((with_reducible refine wc_tupL (l := ?l0) ?hv ?_); (case hv => first | exact .d | exact .m | (refine .a ?_; exact rfl)))
  | with_reducible refine wc_min2 ?_
  | with_reducible refine w_callO ?_
  | with_reducible refine w_chain ?_
  | with_reducible refine w_join ?_
  | with_reducible refine w_notV ?_
  | with_reducible refine w_andV ?_
  | with_reducible refine w_orV ?_
  | with_reducible refine w_if ?_
  | with_reducible refine wt_test ?_
  | with_reducible refine wt_B ?_
  | with_reducible refine wt_not ?_
  | with_reducible refine wt_and ?_
  | with_reducible refine wt_or ?_
  | with_reducible refine wo_none ?_
  | with_reducible refine wo_some ?_
  | with_reducible refine w_slL ?_
  | with_reducible refine w_slR ?_
  | with_reducible refine w_slS ?_
  | with_reducible refine w_revL ?_
  | ((with_reducible refine wr_eqNl (l := ?l0) ?hv ?_); (case hv => first | exact .d | exact .m | (refine .a ?_; exact rfl)))
  | ((with_reducible refine wr_neNl (l := ?l0) ?hv ?_); (case hv => first | exact .d | exact .m | (refine .a ?_; exact rfl)))
  | with_reducible refine wc_intB ?_
  | with_reducible refine wc_intI ?_
  | with_reducible refine wr_ixLn (by assumption) (by assumption) ?_
  | with_reducible refine wr_ixLn0 (by assumption) ?_
  | with_reducible refine wr_ixSg (by assumption) (by assumption) (by assumption) ?_
  | with_reducible refine wc_lenLn (by assumption) (by assumption) ?_
  | with_reducible refine wr_notInRf ?_
  | with_reducible refine wr_inRf ?_
  | with_reducible refine wr_eqR ?_
  | with_reducible refine wr_catR1 (by assumption) (by assumption) ?_
  | with_reducible refine wr_catR2 (by assumption) (by assumption) (by assumption) ?_
  | with_reducible refine wr_catG1 (by assumption) ?_
  | with_reducible refine wr_catG2 (by assumption) (by assumption) ?_
  | with_reducible refine wr_I0i ?_
  | with_reducible refine wr_I0b ?_
  | ((with_reducible refine wr_neF (u := ?u0) ?hv ?_); (case hv => exact rfl))
  | ((with_reducible refine wr_eqF (u := ?u0) ?hv ?_); (case hv => exact rfl))
  | ((with_reducible refine wr_eqS0 ?hc ?_); (case hc => decide +kernel))
  | ((with_reducible refine wr_neS0 ?hc ?_); (case hc => decide +kernel))
  | ((with_reducible refine wr_ixL (l := ?l0) (x := ?x0) ?hw ?hv ?_); (case hw => first | exact .d | exact .m | (refine .a ?_; exact rfl)); (case hv => exact rfl))
  | ((with_reducible refine wr_ixT (l := ?l0) (x := ?x0) ?hv ?_); (case hv => exact rfl))
  | with_reducible refine sg_name ?_
  | with_reducible refine wt_yes ?_
  | with_reducible refine w_repl ?_
  | with_reducible refine wi_rng1 ?_
  | with_reducible refine wi_rng2 ?_
  | ((with_reducible refine wi_fzA (l := ?l0) (Γ2 := ?g2) ?hv ?ht ?hs ?_); (case hv => exact rfl); (case ht => first | exact fun _ => id | apply_assumption); (case hs => walk_at "set"))
  | with_reducible refine wi_list ?_
  | with_reducible refine wi_tup ?_
  | with_reducible refine wi_str ?_
  | ((with_reducible refine sw_append (l := ?l0) ?hv ?_); (case hv => exact rfl))
  | with_reducible refine wr_isN ?_
  | with_reducible refine wr_notN ?_
  | with_reducible refine w_dnewK ?_
  | ((with_reducible refine w_dinS (z := ?z0) (l := ?l0) ?h1 ?h2 ?_); (case h1 => exact rfl); (case h2 => exact rfl))
  | with_reducible refine ws_dputS ?_
  | with_reducible refine w_appNew ?_
  | with_reducible refine w_bm ?_)
local macro_rules | `(tactic| walk_at "ws") => `(tactic| repeat (first | walk_at "w" | walk_at "k"))
local macro_rules | `(tactic| walk_at "wn") => `(tactic| repeat ((fail_if_success (with_reducible refine ws_seq ?_)); first | walk_at "w" | walk_at "k"))
section
variable {P : Program} {w : World} {K : PySem.W.Frag} {mg : Str → Option Value} {base : Heap}
theorem ok_follow {C U fI f fc : Addr} {fd : FuncData} (F : Fun K "follow" "follow" s_follow f fd) (T : RoomT K mg C fI) (p_text : PR P w K mg base C "text" 1 (sp_text C)) (m_call : StX.CallO K C fc) (f_call : FnR P w K mg base (L2.CX P w) 5 fc (sp_call C U)) :
    FnOk P w K mg base (L2.CX P w) 6 f fd ["room", "port"] (spD C PFollow) := by
  refine F.okX sc_follow (fun vs H Q E h => spD_len (n := 2) (fun ds R X ⟨g, w, p, e, _⟩ => by rw [e] <;> rfl) h) (fun cdv A outer s H vs Q E hr h => ?_)
  obtain ⟨v0, v1, rfl⟩ := vs_2 (spD_len (n := 2) (fun ds R X ⟨g, w, p, e, _⟩ => by rw [e] <;> rfl) h)
  refine ⟨_, (pss_cons (ps_set (i := 2) sc_follow.nd rfl (Or.inl rfl) pe_dnewK)
    (pss_cons (ps_set (i := 3) sc_follow.nd rfl (Or.inl rfl) (pe_lst pa_nil))
    (pss_cons (ps_while (passes_of rfl) (pt_cmp (pc_dnotin (hu_of hr) (pe_pr (pv 0) T.cl p_text (hr.mono (by decide))) (pv 2)))
      (pss_cons (ps_dput (hu_of hr) (pv 2) (pe_pr (pv 0) T.cl p_text (hr.mono (by decide))) (pe_callB call_len_seq (by rfl) T.b_len PySem.boot_len (pa_cons (pv 3) pa_nil)) (by rfl))
      (pss_cons (ps_expr (pe_bm PySem.F.plainAttrs_list PySem.F.slot_list_append PySem.F.type_list_append mt_append (pv 3) (pa_cons (pv 0) pa_nil)))
      (pss_one (ps_asg (pe_callC (pv 0) m_call f_call (hr.mono (by decide)) passL (pa_cons (pv 1) pa_nil)) (pg_tup rfl (pgs_cons (pg_name (i := 4) sc_follow.nd rfl (Or.inl rfl)) (pgs_cons (pg_name (i := 0) sc_follow.nd rfl (Or.inl rfl)) pgs_nil))))))))
    (pss_one (ps_ret (pe_tup (pa_cons (pv 3) (pa_cons (pe_dget (hu_of hr) (pv 2) (pe_pr (pv 0) T.cl p_text (hr.mono (by decide))) (fun _ _ => rfl)) pa_nil)))))))), ?_⟩
  refine d_enter (n := 3) h (fun B ds R X hT hE ⟨g, ww, p, e, G, hp, k⟩ _ => ?_) (fun _ _ z => ?_)
  · subst e
    obtain ⟨n, f, hn, rho⟩ := Rho.ex G hp
    have k := k n f hn rho
    show WS _ _ [.d (.room g), .d (.int p), .un, .un, .un] _ _
    walk_at "ws"
    refine ws_while (fun m Γ => ∃ k s4, k ≤ n ∧ m = n - k ∧ Γ = [.d (.room (itG g p k)), .d (.int (p : Nat)), .mo (MDz DKk (numsD g p k)), .mo (ML (roomsD g p k)), s4]) n ⟨0, _, Nat.zero_le _, rfl, rfl⟩ ?_
    rintro m Γ2 ⟨j, s4, hj, rfl, rfl⟩
    have Gj := itG_grid G hp j
    refine wt_B (w_dnotin (Z := DKk) ?_)
    walk_at "ws"
    refine wf_text Gj.1 ?_
    refine ⟨.inr _, rfl, ?_⟩
    walk_at "ws"
    refine ⟨_, _, rfl, rfl, ?_⟩
    rcases Nat.lt_or_ge j n with hjn | hjn
    · rw [numsD_none G hp fun i hi => rho.dis i j hi hjn]
      have hrl : (roomsD g p j).length = j := roomsD_len
      walk_at "ws"
      refine ws_dput (Z := DKk) ?_
      walk_at "ws"
      rw [roomsD_len]
      refine ⟨_, _, .d _, rfl, ?_⟩
      walk_at "ws"
      refine wf_text Gj.1 ?_
      refine ⟨.inr (gtext (itG g p j)), numsD g p j, _, rfl, rfl, ?_, by walk_at "set", ?_⟩
      · unfold numsD
        rw [List.length_map, List.length_range]
        omega
      rw [putD_new (numsD_none G hp fun i hi => rho.dis i j hi hjn), ← numsD_succ]
      walk_at "ws"
      walk_at "app"
      · rw [roomsD_len]
        omega
      rw [← roomsD_succ]
      walk_at "ws"
      refine wf_callF Gj.1 (by rw [Gj.2.1]; exact hp) ?_
      walk_at "ws"
      exact ⟨n - (j + 1), by omega, j + 1, _, hjn, rfl, rfl⟩
    · have e : j = n := by omega
      subst e
      rw [numsD_some G hp rho.lt rho.dis rho.eq]
      refine ⟨_, rfl, fun z => (by cases z), fun _ => ?_⟩
      refine ws_fz 3 (by rfl) (hT 3) (by walk_at "set") ?_
      walk_at "ws"
      refine w_dget (Z := DKk) ?_
      walk_at "ws"
      refine wf_text Gj.1 ?_
      refine ⟨.inr _, _, _, rfl, rfl, numsD_some G hp rho.lt rho.dis rho.eq, ?_⟩
      walk_at "ws"
      exact k
  · exact z
end
end My
namespace My
open PySem PySem.Spec PyProof.Rows L2
/-! a room after many beams; many beams counted -/
def mxB : Int := 1000000000000000000
noncomputable def cntP (g : Gr) (p : Nat) (q : Int × Int) : Nat → Nat
  | 0 => 0
  | k + 1 => cntP g p q k + (trlP (itG g p k) p).count q
theorem cntP_add (g : Gr) (p : Nat) (q : Int × Int) (a : Nat) : ∀ b, cntP g p q (a + b) = cntP g p q a + cntP (itG g p a) p q b
  | 0 => rfl
  | b + 1 => by
    show cntP g p q (a + b) + (trlP (itG g p (a + b)) p).count q = cntP g p q a + (cntP (itG g p a) p q b + (trlP (itG (itG g p a) p b) p).count q)
    rw [cntP_add g p q a b, itG_add]
    omega
theorem Rho.cnt {g : Gr} {p n f : Nat} (a : Rho g p n f) (q : Int × Int) (r : Nat) : ∀ m, cntP g p q (f + m * (n - f) + r) = cntP g p q (f + r) + m * (cntP g p q n - cntP g p q f)
  | 0 => by rw [Nat.zero_mul, Nat.zero_mul]; rfl
  | m + 1 => by
    have e1 : f + (m + 1) * (n - f) + r = n + (m * (n - f) + r) := by have := a.lt; rw [Nat.succ_mul]; omega
    have e2 := cntP_add g p q n (m * (n - f) + r)
    have e3 := cntP_add g p q f (m * (n - f) + r)
    have e4 := a.cnt q r m
    have e5 := cntP_add g p q f (n - f)
    rw [show f + (n - f) = n by have := a.lt; omega] at e5
    rw [a.eq] at e2
    rw [show f + (m * (n - f) + r) = f + m * (n - f) + r by omega] at e3
    rw [e1, e2, Nat.succ_mul]
    omega
noncomputable def cntL (g : Gr) (p : Nat) (q : Int × Int) (n : Nat) : List Int := (List.range n).map fun i => (((trlP (itG g p i) p).count q : Nat) : Int)
theorem cntL_len {g : Gr} {p n : Nat} {q : Int × Int} : (cntL g p q n).length = n := by
  unfold cntL
  rw [List.length_map, List.length_range]
theorem cntL_sum (g : Gr) (p : Nat) (q : Int × Int) : ∀ n, (cntL g p q n).sum = ((cntP g p q n : Nat) : Int)
  | 0 => rfl
  | n + 1 => by
    have := cntL_sum g p q n
    unfold cntL at this ⊢
    rw [List.range_succ, List.map_append, List.sum_append, this]
    show _ + (((((trlP (itG g p n) p).count q : Nat) : Int)) + 0) = ((cntP g p q n + (trlP (itG g p n) p).count q : Nat) : Int)
    rw [Int.natCast_add]
    omega
theorem cntL_take {g : Gr} {p n k : Nat} {q : Int × Int} (h : k ≤ n) : (cntL g p q n).take k = cntL g p q k := by
  unfold cntL
  rw [← List.map_take, List.take_range, Nat.min_eq_left h]
theorem cntL_drop {g : Gr} {p n f : Nat} {q : Int × Int} (h : f ≤ n) : ((cntL g p q n).drop f).sum = ((cntP g p q n : Nat) : Int) - ((cntP g p q f : Nat) : Int) := by
  have e := congrArg List.sum (List.take_append_drop f (cntL g p q n))
  rw [List.sum_append, cntL_take h, cntL_sum, cntL_sum] at e
  omega
theorem cntL_part {g : Gr} {p n f r : Nat} {q : Int × Int} (h : f + r ≤ n) : (((cntL g p q n).drop f).take r).sum = ((cntP g p q (f + r) : Nat) : Int) - ((cntP g p q f : Nat) : Int) := by
  rw [List.take_drop, cntL_take h, cntL_drop (by omega)]
theorem cntP_mono {g : Gr} {p a b : Nat} {q : Int × Int} (h : a ≤ b) : cntP g p q a ≤ cntP g p q b := by
  have := cntP_add g p q a (b - a)
  rw [show a + (b - a) = b by omega] at this
  omega
theorem dIs_take (ns : List Int) (k : Nat) : (dIs ns).take k = dIs (ns.take k) := by
  unfold dIs
  rw [List.map_take]
theorem dIs_drop (ns : List Int) (k : Nat) : (dIs ns).drop k = dIs (ns.drop k) := by
  unfold dIs
  rw [List.map_drop]
theorem dIs_len (ns : List Int) : (dIs ns).length = ns.length := List.length_map _
def PAfter : DP := fun ds R _ => ∃ g w p k, ds = [.room g, .int (p : Nat), .int (k : Nat)] ∧ Grid 8 10 g w ∧ p < 2 * (g.length + w) ∧ R (.d (.room (itG g p k)))
def PNth (U UN : Addr) : DP := fun ds R X => ∃ g w x y, ds = [.room g, x, y] ∧ Grid 8 10 g w ∧ NR x ∧ NR y ∧ (isPortD g.length w x = false → X ⟨U, none⟩) ∧
  (∀ p : Nat, x = .int p → p < 2 * (g.length + w) → isIntD 1 1000000000000000000 y = false → X ⟨UN, none⟩) ∧ (∀ p k : Nat, x = .int p → p < 2 * (g.length + w) → y = .int ((k + 1 : Nat) : Int) → k + 1 ≤ 1000000000000000000 → R (.d (.int (exitP (itG g p k) p : Nat))))
def PAft (U UN : Addr) : DP := fun ds R X => ∃ g w x y, ds = [.room g, x, y] ∧ Grid 8 10 g w ∧ NR x ∧ NR y ∧ (isPortD g.length w x = false → X ⟨U, none⟩) ∧
  (∀ p : Nat, x = .int p → p < 2 * (g.length + w) → isIntD 0 1000000000000000000 y = false → X ⟨UN, none⟩) ∧ (∀ p k : Nat, x = .int p → p < 2 * (g.length + w) → y = .int (k : Nat) → k ≤ 1000000000000000000 → R (.d (.room (itG g p k))))
def PCyc (U : Addr) : DP := fun ds R X => ∃ g w x, ds = [.room g, x] ∧ Grid 8 10 g w ∧ NR x ∧ (isPortD g.length w x = false → X ⟨U, none⟩) ∧
  (∀ p n f : Nat, x = .int p → p < 2 * (g.length + w) → n ≤ 1024 → Rho g p n f → R (.d (.tup [.int (f : Nat), .int (n - f : Nat)])))
def PCnt (U UT UN : Addr) : DP := fun ds R X => ∃ g w x q y, ds = [.room g, x, q, y] ∧ Grid 8 10 g w ∧ NR x ∧ TlD q ∧ NR y ∧ (isPortD g.length w x = false → X ⟨U, none⟩) ∧
  (∀ p : Nat, x = .int p → p < 2 * (g.length + w) → okAtD g.length w q = false → X ⟨UT, none⟩) ∧
  (∀ p a b : Nat, x = .int p → p < 2 * (g.length + w) → q = dP ((a : Int), (b : Int)) → a < g.length → b < w → isIntD 0 1000000000000000000 y = false → X ⟨UN, none⟩) ∧
  (∀ p a b k : Nat, x = .int p → p < 2 * (g.length + w) → q = dP ((a : Int), (b : Int)) → a < g.length → b < w → y = .int (k : Nat) → k ≤ 1000000000000000000 → R (.d (.int (cntP g p ((a : Int), (b : Int)) k : Nat))))
theorem intD_in {lo hi : Int} {x : Da} (h : isIntD lo hi x = true) : ∃ i, x = .int i ∧ lo ≤ i ∧ i ≤ hi := by
  unfold isIntD at h
  split at h
  · rw [Bool.and_eq_true] at h
    exact ⟨_, rfl, of_decide_eq_true h.1, of_decide_eq_true h.2⟩
  · cases h
theorem tile_in {h w : Nat} {q : Da} (e : okAtD h w q = true) : ∃ a b : Nat, q = dP ((a : Int), (b : Int)) ∧ a < h ∧ b < w := by
  unfold okAtD tile2 at e
  split at e
  · rename_i u z h1
    split at h1
    · cases h1
      rw [Bool.and_eq_true] at e
      obtain ⟨i, rfl, hi⟩ := intD_nat e.1
      obtain ⟨j, rfl, hj⟩ := intD_nat e.2
      exact ⟨i, j, rfl, hi, hj⟩
    · cases h1
  · cases e
section
variable {B : Org} {C : Addr} {Γ : Ct} {K : Ct → Rs → Prop} {E : XK} {g : Gr} {w p : Nat}
theorem wf_follow (G : Grid 8 10 g w) (hp : p < 2 * (g.length + w)) (k : ∀ n f, n ≤ 1024 → Rho g p n f → K Γ (.d (.tup [.lst (roomsD g p n), .int (f : Nat)]))) : WF B C Γ (spD C PFollow) E [.d (.room g), .d (.int (p : Nat))] K :=
  wf_d (P := PFollow) (ds := [.room g, .int p]) xokF ⟨g, w, p, rfl, G, hp, fun n f hn r _ => k n f hn r⟩
theorem wf_after {k : Nat} (G : Grid 8 10 g w) (hp : p < 2 * (g.length + w)) (kk : K Γ (.d (.room (itG g p k)))) : WF B C Γ (spD C PAfter) E [.d (.room g), .d (.int (p : Nat)), .d (.int (k : Nat))] K :=
  wf_d (P := PAfter) (ds := [.room g, .int p, .int k]) xokF ⟨g, w, p, k, rfl, G, hp, fun _ => kk⟩
end
abbrev s_room_after : Stmt := (top 33)
abbrev N_room_after : List Str := ["room", "port", "number", "rooms", "first"]
theorem sc_room_after : FnScope N_room_after ["room", "port", "number"] (defScope s_room_after) := ⟨rfl, rfl, rfl, by decide +kernel, rfl, by decide +kernel, by decide +kernel⟩

abbrev s_nth_exit : Stmt := (top 34)
abbrev N_nth_exit : List Str := ["room", "port", "number", "last_room", "leaving", "_"]
theorem sc_nth_exit : FnScope N_nth_exit ["room", "port", "number"] (defScope s_nth_exit) := ⟨rfl, rfl, rfl, by decide +kernel, rfl, by decide +kernel, by decide +kernel⟩

abbrev s_after_beams : Stmt := (top 35)
abbrev N_after_beams : List Str := ["room", "port", "number"]
theorem sc_after_beams : FnScope N_after_beams ["room", "port", "number"] (defScope s_after_beams) := ⟨rfl, rfl, rfl, by decide +kernel, rfl, by decide +kernel, by decide +kernel⟩

abbrev s_find_cycle : Stmt := (top 36)
abbrev N_find_cycle : List Str := ["room", "port", "rooms", "first"]
theorem sc_find_cycle : FnScope N_find_cycle ["room", "port"] (defScope s_find_cycle) := ⟨rfl, rfl, rfl, by decide +kernel, rfl, by decide +kernel, by decide +kernel⟩

abbrev s_count_passes : Stmt := (top 37)
abbrev N_count_passes : List Str := ["room", "port", "at", "number", "rooms", "first", "counts", "rounds", "rest", "cycle", "each"]
theorem sc_count_passes : FnScope N_count_passes ["room", "port", "at", "number"] (defScope s_count_passes) := ⟨rfl, rfl, rfl, by decide +kernel, rfl, by decide +kernel, by decide +kernel⟩

local macro_rules | `(tactic| walk_at "sm") => `(tactic| first
  | exact .int _
  | exact .bl _
  | exact .str _
  | exact .non
  | exact sm_dP _
  | exact sm_dPs (by omega)
  | exact sm_dNs (by omega)
  | exact sm_lns (by omega)
  | exact sm_lnsT (by omega)
  | (refine .lst (Nat.le_of_ble_eq_true rfl) ?_; walk_at "sms")
  | (refine .tup (Nat.le_of_ble_eq_true rfl) ?_; walk_at "sms"))
local macro_rules | `(tactic| walk_at "sms") => `(tactic| first
  | exact sm_nil
  | ((refine sm_cons ?a ?b); (case a => walk_at "sm"); (case b => walk_at "sms")))
local macro_rules | `(tactic| walk_at "set") => `(tactic| (simp only [List.set_cons_zero, List.set_cons_succ] <;> rfl))
local macro_rules | `(tactic| walk_at "put") => `(tactic| first
  | exact .nil _
  | (refine .cons (.d _) (ltL rfl) ?_; walk_at "put")
  | (refine .cons (.m _) (ltL rfl) ?_; walk_at "put"))
local macro_rules | `(tactic| walk_at "puts") => `(tactic| (refine ⟨?g2, ?g3, ?pa, ?pb, ?pc⟩; (case pa => walk_at "put"); (case pb => walk_at "set"); try (case g2 => skip)))
local macro_rules | `(tactic| walk_at "k") => `(tactic| first
  | ((refine ⟨_, ?g2, .d _, ltL rfl, ?pb, ?pc⟩); (case pb => walk_at "set"))
  | ((refine ⟨_, ?g2, .m _, ltL rfl, ?pb, ?pc⟩); (case pb => walk_at "set"))
  | ((refine ⟨?g2, ltL rfl, ?pb, ?pc⟩); (case pb => walk_at "set"))
  | refine ⟨_, .d _, ?_⟩
  | refine ⟨_, .m _, ?_⟩
  | refine ⟨_, _, _, rfl, by assumption, by assumption, ?_⟩
  | refine ⟨_, rfl, ?_⟩
  | refine ⟨_, .m, ?_⟩
  | refine ⟨_, .d, ?_⟩
  | refine ⟨_, .a rfl, ?_⟩
  | refine ⟨⟨_, .a rfl⟩, ?_⟩
  | refine ⟨⟨_, .m⟩, ?_⟩
  | refine ⟨⟨_, .d⟩, ?_⟩
  | refine ⟨fun _ => ?_, fun hz => absurd hz Bool.false_ne_true⟩
  | refine ⟨fun _ => ?_, fun hz => absurd hz.symm Bool.false_ne_true⟩
  | refine ⟨fun hz => absurd hz Bool.false_ne_true, fun _ => ?_⟩
  | refine ⟨fun hz => absurd hz.symm Bool.false_ne_true, fun _ => ?_⟩
  | ((refine ⟨Nat.le_of_ble_eq_true rfl, rfl, ?g2, ?g3, ?pa, ?pb, ?pc⟩); (case pa => walk_at "put"); (case pb => walk_at "set"))
  | ((refine ⟨?g2, ?g3, ?pa, ?pb, ?pc⟩); (case pa => walk_at "put"); (case pb => walk_at "set"))
  | refine ⟨Nat.le_of_ble_eq_true rfl, ?_⟩)
local macro_rules | `(tactic| walk_at "app") => `(tactic| ((refine ⟨_, _, ?g2, .d _, rfl, ?hl, ?pb, ?pc⟩); (case pb => walk_at "set")))
local macro_rules | `(tactic| walk_at "w") => `(tactic| first
  | with_reducible refine ws_seq ?_
  | with_reducible refine ws_next ?_
  | with_reducible refine sw_set ?_
  | with_reducible refine ws_if ?_
  | with_reducible refine ws_put2 ?_
  | with_reducible refine ws_putL ?_
  | with_reducible refine sw_names2 ?_
  | with_reducible refine sw_names3 ?_
  | with_reducible refine sw_names4 ?_
  | with_reducible refine sw_names5 ?_
  | with_reducible refine sw_names6 ?_
  | with_reducible refine sw_names7 ?_
  | with_reducible refine sw_asg ?_
  | with_reducible refine sw_for ?_
  | with_reducible refine tg_name ?_
  | with_reducible refine tgs_nil ?_
  | with_reducible refine tgs_cons ?_
  | ((with_reducible refine tg_tup ?hn ?_); (case hn => rfl))
  | ((with_reducible refine tg_lst ?hn ?_); (case hn => rfl))
  | with_reducible refine ws_ret ?_
  | with_reducible refine ws_drop ?_
  | with_reducible refine sw_par ?_
  | with_reducible refine sw_par3 ?_
  | with_reducible refine w_int ?_
  | with_reducible refine w_str ?_
  | with_reducible refine w_bl ?_
  | with_reducible refine w_non ?_
  | ((with_reducible refine w_var (x := ?x0) ?hv ?_); (case hv => exact rfl))
  | ((with_reducible refine w_al (m := ?m0) ?hv ?_); (case hv => exact rfl))
  | ((with_reducible refine w_ix2 (a := ?a0) (b := ?b0) (ms := ?ms0) ?h1 ?h2 ?h3 ?hk); (case h1 => exact rfl); (case h2 => exact rfl); (case h3 => exact rfl))
  | with_reducible refine w_op ?_
  | with_reducible refine w_neg ?_
  | with_reducible refine w_un ?_
  | with_reducible refine wa_cons ?_
  | with_reducible refine wa_nil ?_
  | with_reducible refine waf_cons ?_
  | with_reducible refine waf_nil ?_
  | with_reducible refine w_tupF ?_
  | with_reducible refine w_lstF ?_
  | with_reducible refine w_cr ?_
  | with_reducible refine w_cb ?_
  | with_reducible refine w_mkBench ?_
  | ((with_reducible refine wb_now (s := ?s0) (o := ?o0) ?hv ?_); (case hv => exact rfl))
  | ((with_reducible refine wb_passes (s := ?s0) (o := ?o0) ?hv ?hl ?_); (case hv => exact rfl); (case hl => (first | assumption | omega)))
  | ((with_reducible refine wb_ops (s := ?s0) (o := ?o0) ?hv ?hl ?_); (case hv => exact rfl); (case hl => (first | assumption | omega)))
  | ((with_reducible refine wb_meth inb_beam (s := ?s0) (o := ?o0) ?hv ?_); (case hv => exact rfl))
  | ((with_reducible refine wb_meth inb_turn (s := ?s0) (o := ?o0) ?hv ?_); (case hv => exact rfl))
  | ((with_reducible refine wb_meth inb_turn_all (s := ?s0) (o := ?o0) ?hv ?_); (case hv => exact rfl))
  | ((with_reducible refine wb_meth inb_undo (s := ?s0) (o := ?o0) ?hv ?_); (case hv => exact rfl))
  | ((with_reducible refine wb_meth inb_redo (s := ?s0) (o := ?o0) ?hv ?_); (case hv => exact rfl))
  | ((with_reducible refine wb_meth inb_save (s := ?s0) (o := ?o0) ?hv ?_); (case hv => exact rfl))
  | ((with_reducible refine wb_meth inb_restore (s := ?s0) (o := ?o0) ?hv ?_); (case hv => exact rfl))
  | ((with_reducible refine wb_meth inb_state (s := ?s0) (o := ?o0) ?hv ?_); (case hv => exact rfl))
  | ((with_reducible refine wb_meth inb_back (s := ?s0) (o := ?o0) ?hv ?_); (case hv => exact rfl))
  | ((with_reducible refine wb_meth inb_batch (s := ?s0) (o := ?o0) ?hv ?_); (case hv => exact rfl))
  | ((with_reducible refine wb_meth inb_exec (s := ?s0) (o := ?o0) ?hv ?_); (case hv => exact rfl))
  | ((with_reducible refine wb_meth inb_step (s := ?s0) (o := ?o0) ?hv ?_); (case hv => exact rfl))
  | with_reducible refine w_pr ?_
  | with_reducible refine wf_rows ?_
  | with_reducible refine wf_text (by assumption) ?_
  | with_reducible refine wf_size (by assumption) ?_
  | with_reducible refine wf_turning (by assumption) ?_
  | with_reducible refine wu_inv (by assumption) ?_
  | with_reducible refine wc_lenO (by assumption) ?_
  | with_reducible refine wc_boolO (by assumption) ?_
  | ((with_reducible refine wc_lenL (l := ?l0) ?hv ?_); (case hv => first | exact .d | exact .m | (refine .a ?_; exact rfl)))
  | with_reducible refine wc_lenT ?_
  | ((with_reducible refine wc_listL (l := ?l0) ?hv ?_); (case hv => first | exact .d | exact .m | (refine .a ?_; exact rfl)))
  | with_reducible refine wc_listT ?_
  | ((with_reducible refine wc_tupL (l := ?l0) ?hv ?_); (case hv => first | exact .d | exact .m | (refine .a ?_; exact rfl)))
  | with_reducible refine wc_min2 ?_
  | with_reducible refine w_callO ?_
  | with_reducible refine w_chain ?_
  | with_reducible refine w_join ?_
  | with_reducible refine w_notV ?_
  | with_reducible refine w_andV ?_
  | with_reducible refine w_orV ?_
  | with_reducible refine w_if ?_
  | with_reducible refine wt_test ?_
  | with_reducible refine wt_B ?_
  | with_reducible refine wt_not ?_
  | with_reducible refine wt_and ?_
  | with_reducible refine wt_or ?_
  | with_reducible refine wo_none ?_
  | with_reducible refine wo_some ?_
  | with_reducible refine w_slL ?_
  | with_reducible refine w_slR ?_
  | with_reducible refine w_slS ?_
  | with_reducible refine w_revL ?_
  | ((with_reducible refine wr_eqNl (l := ?l0) ?hv ?_); (case hv => first | exact .d | exact .m | (refine .a ?_; exact rfl)))
  | ((with_reducible refine wr_neNl (l := ?l0) ?hv ?_); (case hv => first | exact .d | exact .m | (refine .a ?_; exact rfl)))
  | with_reducible refine wc_intB ?_
  | with_reducible refine wc_intI ?_
  | with_reducible refine wr_ixLn (by assumption) (by assumption) ?_
  | with_reducible refine wr_ixLn0 (by assumption) ?_
  | with_reducible refine wr_ixSg (by assumption) (by assumption) (by assumption) ?_
  | with_reducible refine wc_lenLn (by assumption) (by assumption) ?_
  | with_reducible refine wr_notInRf ?_
  | with_reducible refine wr_inRf ?_
  | with_reducible refine wr_eqR ?_
  | with_reducible refine wr_catR1 (by assumption) (by assumption) ?_
  | with_reducible refine wr_catR2 (by assumption) (by assumption) (by assumption) ?_
  | with_reducible refine wr_catG1 (by assumption) ?_
  | with_reducible refine wr_catG2 (by assumption) (by assumption) ?_
  | with_reducible refine wr_I0i ?_
  | with_reducible refine wr_I0b ?_
  | ((with_reducible refine wr_neF (u := ?u0) ?hv ?_); (case hv => exact rfl))
  | ((with_reducible refine wr_eqF (u := ?u0) ?hv ?_); (case hv => exact rfl))
  | ((with_reducible refine wr_eqS0 ?hc ?_); (case hc => decide +kernel))
  | ((with_reducible refine wr_neS0 ?hc ?_); (case hc => decide +kernel))
  | ((with_reducible refine wr_ixL (l := ?l0) (x := ?x0) ?hw ?hv ?_); (case hw => first | exact .d | exact .m | (refine .a ?_; exact rfl)); (case hv => exact rfl))
  | ((with_reducible refine wr_ixT (l := ?l0) (x := ?x0) ?hv ?_); (case hv => exact rfl))
  | with_reducible refine sg_name ?_
  | with_reducible refine wt_yes ?_
  | with_reducible refine w_repl ?_
  | with_reducible refine wi_rng1 ?_
  | with_reducible refine wi_rng2 ?_
  | ((with_reducible refine wi_fzA (l := ?l0) (Γ2 := ?g2) ?hv ?ht ?hs ?_); (case hv => exact rfl); (case ht => first | exact fun _ => id | apply_assumption); (case hs => walk_at "set"))
  | with_reducible refine wi_list ?_
  | with_reducible refine wi_tup ?_
  | with_reducible refine wi_str ?_
  | ((with_reducible refine sw_append (l := ?l0) ?hv ?_); (case hv => exact rfl))
  | with_reducible refine wr_isN ?_
  | with_reducible refine wr_notN ?_
  | with_reducible refine w_dnewK ?_
  | ((with_reducible refine w_dinS (z := ?z0) (l := ?l0) ?h1 ?h2 ?_); (case h1 => exact rfl); (case h2 => exact rfl))
  | with_reducible refine ws_dputS ?_
  | with_reducible refine w_appNew ?_
  | with_reducible refine w_bm ?_)
local macro_rules | `(tactic| walk_at "ws") => `(tactic| repeat (first | walk_at "w" | walk_at "k"))
local macro_rules | `(tactic| walk_at "wn") => `(tactic| repeat ((fail_if_success (with_reducible refine ws_seq ?_)); first | walk_at "w" | walk_at "k"))
section
variable {P : Program} {w : World} {K : PySem.W.Frag} {mg : Str → Option Value} {base : Heap}
theorem ok_room_after {C fI f : Addr} {fd : FuncData} (F : Fun K "room_after" "room_after" s_room_after f fd) (T : RoomT K mg C fI) (g_follow : GF P w K mg base "follow" 6 (spD C PFollow)) :
    FnOk P w K mg base (L2.CX P w) 7 f fd ["room", "port", "number"] (spD C PAfter) := by
  refine F.okX sc_room_after (fun vs H Q E h => spD_len (n := 3) (fun ds R X ⟨g, w, p, k, e, _⟩ => by rw [e] <;> rfl) h) (fun cdv A outer s H vs Q E hr h => ?_)
  have hl := spD_len (n := 3) (fun ds R X ⟨g, w, p, k, e, _⟩ => by rw [e] <;> rfl) h
  obtain ⟨v0, v1, v2, rfl⟩ : ∃ a b c, vs = [a, b, c] := by
    match vs, hl with
    | [a, b, c], _ => exact ⟨a, b, c, rfl⟩
  refine ⟨_, (pss_cons (ps_asg (pe_c g_follow (hr.mono (by decide)) passL (pa_cons (pv 0) (pa_cons (pv 1) pa_nil))) (pg_tup rfl (pgs_cons (pg_name (i := 3) sc_room_after.nd rfl (Or.inl rfl)) (pgs_cons (pg_name (i := 4) sc_room_after.nd rfl (Or.inl rfl)) pgs_nil))))
    (pss_cons (ps_if (pt_cmpR op_lt (pv 2) (pv 4) (nomark _))
      (pss_one (ps_ret (pe_ix ix_list (pv 3) (pv 2) (fun _ _ => rfl))))
      pss_nil)
    (pss_one (ps_ret (pe_ix ix_list (pv 3) (pe_op op_add (pv 4) (pe_op op_mod (pe_op op_sub (pv 2) (pv 4)) (pe_op op_sub (pe_callB call_len_seq (by rfl) T.b_len PySem.boot_len (pa_cons (pv 3) pa_nil)) (pv 4)))) (fun _ _ => rfl)))))), ?_⟩
  refine d_enter (n := 2) h (fun B ds R X hT hE ⟨g, ww, p, m, e, G, hp, k⟩ _ => ?_) (fun _ _ z => z)
  subst e
  show WS _ _ [.d (.room g), .d (.int p), .d (.int m), .un, .un] _ _
  walk_at "ws"
  refine wf_follow G hp fun n f hn rho => ?_
  walk_at "ws"
  have hfn := rho.lt
  refine ⟨fun c1 => ?_, fun c1 => ?_⟩
  · have c1 := of_decide_eq_true c1
    walk_at "ws"
    refine wr_ixL .d (atI_nat (roomsD_at (by omega))) ?_
    walk_at "ws"
    exact k
  · have c1 := of_decide_eq_false c1
    have hfm : f ≤ m := by omega
    walk_at "ws"
    rw [roomsD_len]
    walk_at "ws"
    refine wr_Ii (by omega) ?_
    refine wr_I0i ?_
    have em := rho.at_ hfm
    have hlt := Nat.mod_lt (m - f) (show 0 < n - f by omega)
    have e : (f : Int) + ((m : Int) - f) % ((n : Int) - f) = ((f + (m - f) % (n - f) : Nat) : Int) := by
      rw [← Int.ofNat_sub hfm, ← Int.ofNat_sub (Nat.le_of_lt hfn), Int.natCast_add, Int.natCast_emod]
    rw [e]
    refine wr_ixL .d (atI_nat (roomsD_at (by omega))) ?_
    rw [← em]
    exact k
theorem ok_nth_exit {C U UN fI f fc : Addr} {fd : FuncData} (F : Fun K "nth_exit" "nth_exit" s_nth_exit f fd) (T : RoomT K mg C fI) (g_check_port : GF P w K mg base "check_port" 3 (sp_port C U)) (g_check_beams : GF P w K mg base "check_beams" 2 (sp_beams UN)) (g_room_after : GF P w K mg base "room_after" 7 (spD C PAfter))
    (m_call : StX.CallO K C fc) (f_call : FnR P w K mg base (L2.CX P w) 5 fc (sp_call C U)) : FnOk P w K mg base (L2.CX P w) 8 f fd ["room", "port", "number"] (spD C (PNth U UN)) := by
  refine F.okX sc_nth_exit (fun vs H Q E h => spD_len (n := 3) (fun ds R X ⟨g, w, p, k, e, _⟩ => by rw [e] <;> rfl) h) (fun cdv A outer s H vs Q E hr h => ?_)
  have hl := spD_len (n := 3) (fun ds R X ⟨g, w, p, k, e, _⟩ => by rw [e] <;> rfl) h
  obtain ⟨v0, v1, v2, rfl⟩ : ∃ a b c, vs = [a, b, c] := by
    match vs, hl with
    | [a, b, c], _ => exact ⟨a, b, c, rfl⟩
  refine ⟨_, (pss_cons (ps_expr (pe_c g_check_port (hr.mono (by decide)) (passes_call (takes_of rfl rfl rfl rfl) (fun _ _ _ _ h => h)) (pa_cons (pv 0) (pa_cons (pv 1) pa_nil))))
    (pss_cons (ps_expr (pe_c g_check_beams (hr.mono (by decide)) (passes_call (takes_of rfl rfl rfl rfl) (fun _ _ _ _ h => h)) (pa_cons (pv 2) (pa_cons pe_int pa_nil))))
    (pss_cons (ps_set (i := 3) sc_nth_exit.nd rfl (Or.inl rfl) (pe_c g_room_after (hr.mono (by decide)) (passes_call (takes_of rfl rfl rfl rfl) (fun _ _ _ _ h => h)) (pa_cons (pv 0) (pa_cons (pv 1) (pa_cons (pe_op op_sub (pv 2) pe_int) pa_nil)))))
    (pss_cons (ps_asg (pe_callC (pv 3) m_call f_call (hr.mono (by decide)) passL (pa_cons (pv 1) pa_nil)) (pg_tup rfl (pgs_cons (pg_name (i := 4) sc_nth_exit.nd rfl (Or.inl rfl)) (pgs_cons (pg_name (i := 5) sc_nth_exit.nd rfl (Or.inl rfl)) pgs_nil))))
    (pss_one (ps_ret (pv 4))))))), ?_⟩
  refine d_enter (n := 3) h (fun B ds R X hT hE ⟨g, ww, x, y, e, G, nx, ny, b1, b2, k⟩ _ => ?_) (fun _ _ z => z)
  subst e
  show WS _ _ [.d (.room g), .d x, .d y, .un, .un, .un] _ _
  walk_at "ws"
  refine wf_portE hE G nx (fun p hx hp => ?_) b1
  subst hx
  walk_at "ws"
  refine wf_beamsE hE ny (fun hy => ?_) (b2 p rfl hp)
  obtain ⟨i, rfl, hi, hi2⟩ := intD_in hy
  obtain ⟨m, rfl⟩ : ∃ m : Nat, i = ((m + 1 : Nat) : Int) := ⟨(i - 1).toNat, by omega⟩
  walk_at "ws"
  rw [show ((m + 1 : Nat) : Int) - 1 = ((m : Nat) : Int) by omega]
  refine wf_after G hp ?_
  walk_at "ws"
  have Gm := itG_grid G hp m
  refine wf_callF Gm.1 (by rw [Gm.2.1]; exact hp) ?_
  walk_at "ws"
  exact k p m rfl hp rfl (by omega)
theorem ok_after_beams {C U UN fI f : Addr} {fd : FuncData} (F : Fun K "after_beams" "after_beams" s_after_beams f fd) (T : RoomT K mg C fI) (g_check_port : GF P w K mg base "check_port" 3 (sp_port C U)) (g_check_beams : GF P w K mg base "check_beams" 2 (sp_beams UN)) (g_room_after : GF P w K mg base "room_after" 7 (spD C PAfter)) :
    FnOk P w K mg base (L2.CX P w) 8 f fd ["room", "port", "number"] (spD C (PAft U UN)) := by
  refine F.okX sc_after_beams (fun vs H Q E h => spD_len (n := 3) (fun ds R X ⟨g, w, p, k, e, _⟩ => by rw [e] <;> rfl) h) (fun cdv A outer s H vs Q E hr h => ?_)
  have hl := spD_len (n := 3) (fun ds R X ⟨g, w, p, k, e, _⟩ => by rw [e] <;> rfl) h
  obtain ⟨v0, v1, v2, rfl⟩ : ∃ a b c, vs = [a, b, c] := by
    match vs, hl with
    | [a, b, c], _ => exact ⟨a, b, c, rfl⟩
  refine ⟨_, (pss_cons (ps_expr (pe_c g_check_port (hr.mono (by decide)) (passes_call (takes_of rfl rfl rfl rfl) (fun _ _ _ _ h => h)) (pa_cons (pv 0) (pa_cons (pv 1) pa_nil))))
    (pss_cons (ps_expr (pe_c g_check_beams (hr.mono (by decide)) (passes_call (takes_of rfl rfl rfl rfl) (fun _ _ _ _ h => h)) (pa_cons (pv 2) (pa_cons pe_int pa_nil))))
    (pss_one (ps_ret (pe_c g_room_after (hr.mono (by decide)) (passes_call (takes_of rfl rfl rfl rfl) (fun _ _ _ _ h => h)) (pa_cons (pv 0) (pa_cons (pv 1) (pa_cons (pv 2) pa_nil)))))))), ?_⟩
  refine d_enter (n := 0) h (fun B ds R X hT hE ⟨g, ww, x, y, e, G, nx, ny, b1, b2, k⟩ _ => ?_) (fun _ _ z => z)
  subst e
  show WS _ _ [.d (.room g), .d x, .d y] _ _
  walk_at "ws"
  refine wf_portE hE G nx (fun p hx hp => ?_) b1
  subst hx
  walk_at "ws"
  refine wf_beamsE hE ny (fun hy => ?_) (b2 p rfl hp)
  obtain ⟨i, rfl, hi, hi2⟩ := intD_in hy
  obtain ⟨m, rfl⟩ : ∃ m : Nat, i = ((m : Nat) : Int) := ⟨i.toNat, by omega⟩
  walk_at "ws"
  refine wf_after G hp ?_
  walk_at "ws"
  exact k p m rfl hp rfl (by omega)
theorem ok_find_cycle {C U fI f : Addr} {fd : FuncData} (F : Fun K "find_cycle" "find_cycle" s_find_cycle f fd) (T : RoomT K mg C fI) (g_check_port : GF P w K mg base "check_port" 3 (sp_port C U)) (g_follow : GF P w K mg base "follow" 6 (spD C PFollow)) :
    FnOk P w K mg base (L2.CX P w) 8 f fd ["room", "port"] (spD C (PCyc U)) := by
  refine F.okX sc_find_cycle (fun vs H Q E h => spD_len (n := 2) (fun ds R X ⟨g, w, p, e, _⟩ => by rw [e] <;> rfl) h) (fun cdv A outer s H vs Q E hr h => ?_)
  obtain ⟨v0, v1, rfl⟩ := vs_2 (spD_len (n := 2) (fun ds R X ⟨g, w, p, e, _⟩ => by rw [e] <;> rfl) h)
  refine ⟨_, (pss_cons (ps_expr (pe_c g_check_port (hr.mono (by decide)) (passes_call (takes_of rfl rfl rfl rfl) (fun _ _ _ _ h => h)) (pa_cons (pv 0) (pa_cons (pv 1) pa_nil))))
    (pss_cons (ps_asg (pe_c g_follow (hr.mono (by decide)) (passes_call (takes_of rfl rfl rfl rfl) (fun _ _ _ _ h => h)) (pa_cons (pv 0) (pa_cons (pv 1) pa_nil))) (pg_tup rfl (pgs_cons (pg_name (i := 2) sc_find_cycle.nd rfl (Or.inl rfl)) (pgs_cons (pg_name (i := 3) sc_find_cycle.nd rfl (Or.inl rfl)) pgs_nil))))
    (pss_one (ps_ret (pe_tup (pa_cons (pv 3) (pa_cons (pe_op op_sub (pe_callB call_len_seq (by rfl) T.b_len PySem.boot_len (pa_cons (pv 2) pa_nil)) (pv 3)) pa_nil))))))), ?_⟩
  refine d_enter (n := 2) h (fun B ds R X hT hE ⟨g, ww, x, e, G, nx, b1, k⟩ _ => ?_) (fun _ _ z => z)
  subst e
  show WS _ _ [.d (.room g), .d x, .un, .un] _ _
  walk_at "ws"
  refine wf_portE hE G nx (fun p hx hp => ?_) b1
  subst hx
  walk_at "ws"
  refine wf_follow G hp fun n f hn rho => ?_
  walk_at "ws"
  rw [roomsD_len, ← Int.ofNat_sub (Nat.le_of_lt rho.lt)]
  exact k p n f rfl hp hn rho
theorem ok_count_passes {C U UT UN fI f fp : Addr} {fd fdp : FuncData} (F : Fun K "count_passes" "count_passes" s_count_passes f fd) (T : RoomT K mg C fI) (g_check_port : GF P w K mg base "check_port" 3 (sp_port C U)) (g_check_tile : GF P w K mg base "check_tile" 3 (sp_tile C UT)) (g_check_beams : GF P w K mg base "check_beams" 2 (sp_beams UN)) (g_follow : GF P w K mg base "follow" 6 (spD C PFollow))
    (m_path : mg "path" = some (.ref fp)) (k_path : PySem.W.keepIn K (.ref fp) = true) (F_path : GFn P w K mg base 4 fp fdp ["room", "port"] (sp_path C U)) (b_path : Binds K fdp ["room", "port"] []) :
    FnOk P w K mg base (L2.CX P w) 8 f fd ["room", "port", "at", "number"] (spD C (PCnt U UT UN)) := by
  refine F.okX sc_count_passes (fun vs H Q E h => spD_len (n := 4) (fun ds R X ⟨g, w, p, k, y, e, _⟩ => by rw [e] <;> rfl) h) (fun cdv A outer s H vs Q E hr h => ?_)
  have hl := spD_len (n := 4) (fun ds R X ⟨g, w, p, k, y, e, _⟩ => by rw [e] <;> rfl) h
  obtain ⟨v0, v1, v2, v3, rfl⟩ : ∃ a b c d, vs = [a, b, c, d] := by
    match vs, hl with
    | [a, b, c, d], _ => exact ⟨a, b, c, d, rfl⟩
  refine ⟨_, (pss_cons (ps_expr (pe_c g_check_port (hr.mono (by decide)) (passes_call (takes_of rfl rfl rfl rfl) (fun _ _ _ _ h => h)) (pa_cons (pv 0) (pa_cons (pv 1) pa_nil))))
    (pss_cons (ps_expr (pe_c g_check_tile (hr.mono (by decide)) (passes_call (takes_of rfl rfl rfl rfl) (fun _ _ _ _ h => h)) (pa_cons (pv 0) (pa_cons (pv 2) pa_nil))))
    (pss_cons (ps_expr (pe_c g_check_beams (hr.mono (by decide)) (passes_call (takes_of rfl rfl rfl rfl) (fun _ _ _ _ h => h)) (pa_cons (pv 3) (pa_cons pe_int pa_nil))))
    (pss_cons (ps_asg (pe_c g_follow (hr.mono (by decide)) (passes_call (takes_of rfl rfl rfl rfl) (fun _ _ _ _ h => h)) (pa_cons (pv 0) (pa_cons (pv 1) pa_nil))) (pg_tup rfl (pgs_cons (pg_name (i := 4) sc_count_passes.nd rfl (Or.inl rfl)) (pgs_cons (pg_name (i := 5) sc_count_passes.nd rfl (Or.inl rfl)) pgs_nil))))
    (pss_cons (ps_setLcG (i := 6) (own := [("each", 10)]) (g := gName 10)  rfl sc_count_passes.nd rfl rfl (sw_true rfl rfl rfl (by decide +kernel)) (pi_list (pv 4)) (blkOk_by (N := N_count_passes) (sc := defScope s_count_passes) (by decide +kernel)) (fun _ _ _ _ _ => (pg_name (i := 10) sc_count_passes.nd rfl (Or.inl rfl))) (fun _ _ _ _ _ => pts_nil) (fun _ _ _ _ _ => (pe_bm PySem.F.plainAttrs_list PySem.F.slot_list_count PySem.F.type_list_count (mt_countD (u65 hr)) (pe_listG (pgen_call F_path (hr.mono (by decide)) (by rfl) m_path k_path b_path .nil (pa_cons (pv 10) (pa_cons (pv 1) pa_nil))) passL noStop0 (hr.mono (by decide)) (by rfl) T.b_list (by decide +kernel)) (pa_cons (pv 2) pa_nil))))
    (pss_cons (ps_if (pt_cmpR op_lt (pv 3) (pv 5) (nomark _))
      (pss_one (ps_ret (pe_callB (cr_sum rfl) (by rfl) T.b_sum (by decide +kernel) (pa_cons (pe_slice sl_list (pv 6) po_none (po_some (pv 3))) pa_nil))))
      pss_nil)
    (pss_cons (ps_asg (pe_callB call_divmod (by rfl) T.b_divmod (by decide +kernel) (pa_cons (pe_op op_sub (pv 3) (pv 5)) (pa_cons (pe_op op_sub (pe_callB call_len_seq (by rfl) T.b_len PySem.boot_len (pa_cons (pv 4) pa_nil)) (pv 5)) pa_nil))) (pg_tup rfl (pgs_cons (pg_name (i := 7) sc_count_passes.nd rfl (Or.inl rfl)) (pgs_cons (pg_name (i := 8) sc_count_passes.nd rfl (Or.inl rfl)) pgs_nil))))
    (pss_cons (ps_set (i := 9) sc_count_passes.nd rfl (Or.inl rfl) (pe_slice sl_list (pv 6) (po_some (pv 5)) po_none))
    (pss_one (ps_ret (pe_op op_add (pe_op op_add (pe_callB (cr_sum rfl) (by rfl) T.b_sum (by decide +kernel) (pa_cons (pe_slice sl_list (pv 6) po_none (po_some (pv 5))) pa_nil)) (pe_op op_mul (pv 7) (pe_callB (cr_sum rfl) (by rfl) T.b_sum (by decide +kernel) (pa_cons (pv 9) pa_nil)))) (pe_callB (cr_sum rfl) (by rfl) T.b_sum (by decide +kernel) (pa_cons (pe_slice sl_list (pv 9) po_none (po_some (pv 8))) pa_nil))))))))))))), ?_⟩
  refine d_enter (n := 7) h (fun B ds R X hT hE ⟨g, ww, x, q, y, e, G, nx, tq, ny, b1, b2, b3, k⟩ _ => ?_) (fun _ _ z => z)
  subst e
  show WS _ _ [.d (.room g), .d x, .d q, .d y, .un, .un, .un, .un, .un, .un, .un] _ _
  walk_at "ws"
  refine wf_portE hE G nx (fun p hx hp => ?_) b1
  subst hx
  walk_at "ws"
  refine wf_tileE hE G tq (fun hq => ?_) (b2 p rfl hp)
  obtain ⟨a, b, rfl, ha, hb⟩ := tile_in hq
  walk_at "ws"
  refine wf_beamsE hE ny (fun hy => ?_) (b3 p a b rfl hp rfl ha hb)
  obtain ⟨i, rfl, hi, hi2⟩ := intD_in hy
  obtain ⟨m, rfl⟩ : ∃ m : Nat, i = ((m : Nat) : Int) := ⟨i.toNat, by omega⟩
  walk_at "ws"
  refine wf_follow G hp fun n f hn rho => ?_
  walk_at "ws"
  have hfn := rho.lt
  refine w_lcL (is := [10]) (dIs (cntL g p ((a : Int), (b : Int)) n)) (fun _ h => h) ?_
  walk_at "ws"
  refine ⟨rfl, by rw [roomsD_len]; exact sz4 (by omega), by rw [dIs_len, cntL_len, roomsD_len], fun j z d hz hd => ?_, ?_⟩
  · have hj : j < n := by
      have := (List.getElem?_eq_some_iff.mp hz).1
      rw [roomsD_len] at this
      exact this
    rw [roomsD_at hj] at hz
    cases hz
    unfold dIs cntL at hd
    rw [List.getElem?_map, List.getElem?_map, List.getElem?_range hj] at hd
    cases hd
    have Gj := itG_grid G hp j
    have bk := beam Gj.1 (p := p) (by rw [Gj.2.1]; exact hp)
    have lt := bk.lenT Gj.1
    walk_at "ws"
    refine w_pathL ?_
    walk_at "ws"
    refine ⟨_, _, _, _, rfl, Gj.1, bk.trl, ?_⟩
    walk_at "ws"
    refine wm_countD .m (pl_dP _) (fun d hd => by
      obtain ⟨p, _, rfl⟩ := List.mem_map.mp hd
      exact pl_dP _) (fun d hd => by
      obtain ⟨p, _, rfl⟩ := List.mem_map.mp hd
      exact tupF_dP _) ?_
    rw [count_py]
    exact ⟨.d _, rfl⟩
  walk_at "ws"
  refine ⟨fun c1 => ?_, fun c1 => ?_⟩
  · have c1 := of_decide_eq_true c1
    walk_at "ws"
    rw [cutD_take, dIs_take, cntL_take (by omega)]
    refine wc_sum .m ?_
    rw [cntL_sum]
    walk_at "ws"
    exact k p a b m rfl hp rfl ha hb rfl (by omega)
  · have c1 := of_decide_eq_false c1
    have hfm : f ≤ m := by omega
    walk_at "ws"
    rw [roomsD_len, ← Int.ofNat_sub hfm, ← Int.ofNat_sub (Nat.le_of_lt hfn)]
    refine wc_divmod ⟨by omega, by omega⟩ ?_
    rw [← Int.natCast_ediv, ← Int.natCast_emod]
    have hlt := Nat.mod_lt (m - f) (show 0 < n - f by omega)
    have hc := rho.cnt ((a : Int), (b : Int)) ((m - f) % (n - f)) ((m - f) / (n - f))
    have hm := Nat.mod_add_div (m - f) (n - f)
    rw [Nat.mul_comm] at hm
    rw [show f + (m - f) / (n - f) * (n - f) + (m - f) % (n - f) = m by omega] at hc
    have h1 := cntP_mono (g := g) (p := p) (q := ((a : Int), (b : Int))) (show f ≤ n by omega)
    have h2 := cntP_mono (g := g) (p := p) (q := ((a : Int), (b : Int))) (show f ≤ f + (m - f) % (n - f) by omega)
    have hz : (m - f) / (n - f) ≤ m - f := Nat.div_le_self _ _
    generalize hr : (m - f) % (n - f) = r at *
    generalize hq : (m - f) / (n - f) = z at *
    walk_at "ws"
    rw [cutD_drop, dIs_drop]
    walk_at "ws"
    rw [cutD_take, dIs_take, cntL_take (by omega)]
    refine wc_sum .m ?_
    rw [cntL_sum]
    walk_at "ws"
    refine wc_sum (.a rfl) ?_
    rw [cntL_drop (by omega)]
    walk_at "ws"
    refine wr_Ii (.inl ⟨by omega, by omega⟩) ?_
    walk_at "ws"
    rw [cutD_take, dIs_take]
    refine wc_sum .m ?_
    rw [cntL_part (by omega)]
    walk_at "ws"
    have ev : ((cntP g p ((a : Int), (b : Int)) f : Nat) : Int) + (z : Int) * (((cntP g p ((a : Int), (b : Int)) n : Nat) : Int) - ((cntP g p ((a : Int), (b : Int)) f : Nat) : Int)) + (((cntP g p ((a : Int), (b : Int)) (f + r) : Nat) : Int) - ((cntP g p ((a : Int), (b : Int)) f : Nat) : Int)) = ((cntP g p ((a : Int), (b : Int)) m : Nat) : Int) := by
      rw [hc, Int.natCast_add, Int.natCast_mul, Int.ofNat_sub h1]
      omega
    rw [ev]
    exact k p a b m rfl hp rfl ha hb rfl (by omega)
end
end My
namespace My
open PySem PySem.Spec PyProof.Rows L2
/-! what the checks alone say of never_passed -/
theorem pss_never {X : Cx} {ss : List Stmt} : PSs X ss (fun _ _ _ => False) := ⟨fun _ _ _ _ _ _ h => h.elim⟩
def PNev0 (U : Addr) : DP := fun ds _ X => ∃ g w x, ds = [.room g, x] ∧ Grid 8 10 g w ∧ NR x ∧ isPortD g.length w x = false ∧ X ⟨U, none⟩
abbrev s_never_passed : Stmt := (top 38)
abbrev N_never_passed : List Str := ["room", "port", "rooms", "_", "passed", "each", "tile"]
theorem sc_never_passed : FnScope N_never_passed ["room", "port"] (defScope s_never_passed) := ⟨rfl, rfl, rfl, by decide +kernel, rfl, by decide +kernel, by decide +kernel⟩

local macro_rules | `(tactic| walk_at "sm") => `(tactic| first
  | exact .int _
  | exact .bl _
  | exact .str _
  | exact .non
  | exact sm_dP _
  | exact sm_dPs (by omega)
  | exact sm_dNs (by omega)
  | exact sm_lns (by omega)
  | exact sm_lnsT (by omega)
  | (refine .lst (Nat.le_of_ble_eq_true rfl) ?_; walk_at "sms")
  | (refine .tup (Nat.le_of_ble_eq_true rfl) ?_; walk_at "sms"))
local macro_rules | `(tactic| walk_at "sms") => `(tactic| first
  | exact sm_nil
  | ((refine sm_cons ?a ?b); (case a => walk_at "sm"); (case b => walk_at "sms")))
local macro_rules | `(tactic| walk_at "set") => `(tactic| (simp only [List.set_cons_zero, List.set_cons_succ] <;> rfl))
local macro_rules | `(tactic| walk_at "put") => `(tactic| first
  | exact .nil _
  | (refine .cons (.d _) (ltL rfl) ?_; walk_at "put")
  | (refine .cons (.m _) (ltL rfl) ?_; walk_at "put"))
local macro_rules | `(tactic| walk_at "puts") => `(tactic| (refine ⟨?g2, ?g3, ?pa, ?pb, ?pc⟩; (case pa => walk_at "put"); (case pb => walk_at "set"); try (case g2 => skip)))
local macro_rules | `(tactic| walk_at "k") => `(tactic| first
  | ((refine ⟨_, ?g2, .d _, ltL rfl, ?pb, ?pc⟩); (case pb => walk_at "set"))
  | ((refine ⟨_, ?g2, .m _, ltL rfl, ?pb, ?pc⟩); (case pb => walk_at "set"))
  | ((refine ⟨?g2, ltL rfl, ?pb, ?pc⟩); (case pb => walk_at "set"))
  | refine ⟨_, .d _, ?_⟩
  | refine ⟨_, .m _, ?_⟩
  | refine ⟨_, _, _, rfl, by assumption, by assumption, ?_⟩
  | refine ⟨_, rfl, ?_⟩
  | refine ⟨_, .m, ?_⟩
  | refine ⟨_, .d, ?_⟩
  | refine ⟨_, .a rfl, ?_⟩
  | refine ⟨⟨_, .a rfl⟩, ?_⟩
  | refine ⟨⟨_, .m⟩, ?_⟩
  | refine ⟨⟨_, .d⟩, ?_⟩
  | refine ⟨fun _ => ?_, fun hz => absurd hz Bool.false_ne_true⟩
  | refine ⟨fun _ => ?_, fun hz => absurd hz.symm Bool.false_ne_true⟩
  | refine ⟨fun hz => absurd hz Bool.false_ne_true, fun _ => ?_⟩
  | refine ⟨fun hz => absurd hz.symm Bool.false_ne_true, fun _ => ?_⟩
  | ((refine ⟨Nat.le_of_ble_eq_true rfl, rfl, ?g2, ?g3, ?pa, ?pb, ?pc⟩); (case pa => walk_at "put"); (case pb => walk_at "set"))
  | ((refine ⟨?g2, ?g3, ?pa, ?pb, ?pc⟩); (case pa => walk_at "put"); (case pb => walk_at "set"))
  | refine ⟨Nat.le_of_ble_eq_true rfl, ?_⟩)
local macro_rules | `(tactic| walk_at "app") => `(tactic| ((refine ⟨_, _, ?g2, .d _, rfl, ?hl, ?pb, ?pc⟩); (case pb => walk_at "set")))
local macro_rules | `(tactic| walk_at "w") => `(tactic| first
  | with_reducible refine ws_seq ?_
  | with_reducible refine ws_next ?_
  | with_reducible refine sw_set ?_
  | with_reducible refine ws_if ?_
  | with_reducible refine ws_put2 ?_
  | with_reducible refine ws_putL ?_
  | with_reducible refine sw_names2 ?_
  | with_reducible refine sw_names3 ?_
  | with_reducible refine sw_names4 ?_
  | with_reducible refine sw_names5 ?_
  | with_reducible refine sw_names6 ?_
  | with_reducible refine sw_names7 ?_
  | with_reducible refine sw_asg ?_
  | with_reducible refine sw_for ?_
  | with_reducible refine tg_name ?_
  | with_reducible refine tgs_nil ?_
  | with_reducible refine tgs_cons ?_
  | ((with_reducible refine tg_tup ?hn ?_); (case hn => rfl))
  | ((with_reducible refine tg_lst ?hn ?_); (case hn => rfl))
  | with_reducible refine ws_ret ?_
  | with_reducible refine ws_drop ?_
  | with_reducible refine sw_par ?_
  | with_reducible refine sw_par3 ?_
  | with_reducible refine w_int ?_
  | with_reducible refine w_str ?_
  | with_reducible refine w_bl ?_
  | with_reducible refine w_non ?_
  | ((with_reducible refine w_var (x := ?x0) ?hv ?_); (case hv => exact rfl))
  | ((with_reducible refine w_al (m := ?m0) ?hv ?_); (case hv => exact rfl))
  | ((with_reducible refine w_ix2 (a := ?a0) (b := ?b0) (ms := ?ms0) ?h1 ?h2 ?h3 ?hk); (case h1 => exact rfl); (case h2 => exact rfl); (case h3 => exact rfl))
  | with_reducible refine w_op ?_
  | with_reducible refine w_neg ?_
  | with_reducible refine w_un ?_
  | with_reducible refine wa_cons ?_
  | with_reducible refine wa_nil ?_
  | with_reducible refine waf_cons ?_
  | with_reducible refine waf_nil ?_
  | with_reducible refine w_tupF ?_
  | with_reducible refine w_lstF ?_
  | with_reducible refine w_cr ?_
  | with_reducible refine w_cb ?_
  | with_reducible refine w_mkBench ?_
  | ((with_reducible refine wb_now (s := ?s0) (o := ?o0) ?hv ?_); (case hv => exact rfl))
  | ((with_reducible refine wb_passes (s := ?s0) (o := ?o0) ?hv ?hl ?_); (case hv => exact rfl); (case hl => (first | assumption | omega)))
  | ((with_reducible refine wb_ops (s := ?s0) (o := ?o0) ?hv ?hl ?_); (case hv => exact rfl); (case hl => (first | assumption | omega)))
  | ((with_reducible refine wb_meth inb_beam (s := ?s0) (o := ?o0) ?hv ?_); (case hv => exact rfl))
  | ((with_reducible refine wb_meth inb_turn (s := ?s0) (o := ?o0) ?hv ?_); (case hv => exact rfl))
  | ((with_reducible refine wb_meth inb_turn_all (s := ?s0) (o := ?o0) ?hv ?_); (case hv => exact rfl))
  | ((with_reducible refine wb_meth inb_undo (s := ?s0) (o := ?o0) ?hv ?_); (case hv => exact rfl))
  | ((with_reducible refine wb_meth inb_redo (s := ?s0) (o := ?o0) ?hv ?_); (case hv => exact rfl))
  | ((with_reducible refine wb_meth inb_save (s := ?s0) (o := ?o0) ?hv ?_); (case hv => exact rfl))
  | ((with_reducible refine wb_meth inb_restore (s := ?s0) (o := ?o0) ?hv ?_); (case hv => exact rfl))
  | ((with_reducible refine wb_meth inb_state (s := ?s0) (o := ?o0) ?hv ?_); (case hv => exact rfl))
  | ((with_reducible refine wb_meth inb_back (s := ?s0) (o := ?o0) ?hv ?_); (case hv => exact rfl))
  | ((with_reducible refine wb_meth inb_batch (s := ?s0) (o := ?o0) ?hv ?_); (case hv => exact rfl))
  | ((with_reducible refine wb_meth inb_exec (s := ?s0) (o := ?o0) ?hv ?_); (case hv => exact rfl))
  | ((with_reducible refine wb_meth inb_step (s := ?s0) (o := ?o0) ?hv ?_); (case hv => exact rfl))
  | with_reducible refine w_pr ?_
  | with_reducible refine wf_rows ?_
  | with_reducible refine wf_text (by assumption) ?_
  | with_reducible refine wf_size (by assumption) ?_
  | with_reducible refine wf_turning (by assumption) ?_
  | with_reducible refine wu_inv (by assumption) ?_
  | with_reducible refine wc_lenO (by assumption) ?_
  | with_reducible refine wc_boolO (by assumption) ?_
  | ((with_reducible refine wc_lenL (l := ?l0) ?hv ?_); (case hv => first | exact .d | exact .m | (refine .a ?_; exact rfl)))
  | with_reducible refine wc_lenT ?_
  | ((with_reducible refine wc_listL (l := ?l0) ?hv ?_); (case hv => first | exact .d | exact .m | (refine .a ?_; exact rfl)))
  | with_reducible refine wc_listT ?_
  | ((with_reducible refine wc_tupL (l := ?l0) ?hv ?_); (case hv => first | exact .d | exact .m | (refine .a ?_; exact rfl)))
  | with_reducible refine wc_min2 ?_
  | with_reducible refine w_callO ?_
  | with_reducible refine w_chain ?_
  | with_reducible refine w_join ?_
  | with_reducible refine w_notV ?_
  | with_reducible refine w_andV ?_
  | with_reducible refine w_orV ?_
  | with_reducible refine w_if ?_
  | with_reducible refine wt_test ?_
  | with_reducible refine wt_B ?_
  | with_reducible refine wt_not ?_
  | with_reducible refine wt_and ?_
  | with_reducible refine wt_or ?_
  | with_reducible refine wo_none ?_
  | with_reducible refine wo_some ?_
  | with_reducible refine w_slL ?_
  | with_reducible refine w_slR ?_
  | with_reducible refine w_slS ?_
  | with_reducible refine w_revL ?_
  | ((with_reducible refine wr_eqNl (l := ?l0) ?hv ?_); (case hv => first | exact .d | exact .m | (refine .a ?_; exact rfl)))
  | ((with_reducible refine wr_neNl (l := ?l0) ?hv ?_); (case hv => first | exact .d | exact .m | (refine .a ?_; exact rfl)))
  | with_reducible refine wc_intB ?_
  | with_reducible refine wc_intI ?_
  | with_reducible refine wr_ixLn (by assumption) (by assumption) ?_
  | with_reducible refine wr_ixLn0 (by assumption) ?_
  | with_reducible refine wr_ixSg (by assumption) (by assumption) (by assumption) ?_
  | with_reducible refine wc_lenLn (by assumption) (by assumption) ?_
  | with_reducible refine wr_notInRf ?_
  | with_reducible refine wr_inRf ?_
  | with_reducible refine wr_eqR ?_
  | with_reducible refine wr_catR1 (by assumption) (by assumption) ?_
  | with_reducible refine wr_catR2 (by assumption) (by assumption) (by assumption) ?_
  | with_reducible refine wr_catG1 (by assumption) ?_
  | with_reducible refine wr_catG2 (by assumption) (by assumption) ?_
  | with_reducible refine wr_I0i ?_
  | with_reducible refine wr_I0b ?_
  | ((with_reducible refine wr_neF (u := ?u0) ?hv ?_); (case hv => exact rfl))
  | ((with_reducible refine wr_eqF (u := ?u0) ?hv ?_); (case hv => exact rfl))
  | ((with_reducible refine wr_eqS0 ?hc ?_); (case hc => decide +kernel))
  | ((with_reducible refine wr_neS0 ?hc ?_); (case hc => decide +kernel))
  | ((with_reducible refine wr_ixL (l := ?l0) (x := ?x0) ?hw ?hv ?_); (case hw => first | exact .d | exact .m | (refine .a ?_; exact rfl)); (case hv => exact rfl))
  | ((with_reducible refine wr_ixT (l := ?l0) (x := ?x0) ?hv ?_); (case hv => exact rfl))
  | with_reducible refine sg_name ?_
  | with_reducible refine wt_yes ?_
  | with_reducible refine w_repl ?_
  | with_reducible refine wi_rng1 ?_
  | with_reducible refine wi_rng2 ?_
  | ((with_reducible refine wi_fzA (l := ?l0) (Γ2 := ?g2) ?hv ?ht ?hs ?_); (case hv => exact rfl); (case ht => first | exact fun _ => id | apply_assumption); (case hs => walk_at "set"))
  | with_reducible refine wi_list ?_
  | with_reducible refine wi_tup ?_
  | with_reducible refine wi_str ?_
  | ((with_reducible refine sw_append (l := ?l0) ?hv ?_); (case hv => exact rfl))
  | with_reducible refine wr_isN ?_
  | with_reducible refine wr_notN ?_
  | with_reducible refine w_dnewK ?_
  | ((with_reducible refine w_dinS (z := ?z0) (l := ?l0) ?h1 ?h2 ?_); (case h1 => exact rfl); (case h2 => exact rfl))
  | with_reducible refine ws_dputS ?_
  | with_reducible refine w_appNew ?_
  | with_reducible refine w_bm ?_)
local macro_rules | `(tactic| walk_at "ws") => `(tactic| repeat (first | walk_at "w" | walk_at "k"))
local macro_rules | `(tactic| walk_at "wn") => `(tactic| repeat ((fail_if_success (with_reducible refine ws_seq ?_)); first | walk_at "w" | walk_at "k"))
section
variable {P : Program} {w : World} {K : PySem.W.Frag} {mg : Str → Option Value} {base : Heap}
theorem ok_never0 {C U fI f : Addr} {fd : FuncData} (F : Fun K "never_passed" "never_passed" s_never_passed f fd) (T : RoomT K mg C fI) (g_check_port : GF P w K mg base "check_port" 3 (sp_port C U)) :
    FnOk P w K mg base (L2.CX P w) 8 f fd ["room", "port"] (spD C (PNev0 U)) := by
  refine F.okX sc_never_passed (fun vs H Q E h => spD_len (n := 2) (fun ds R X ⟨g, w, p, e, _⟩ => by rw [e] <;> rfl) h) (fun cdv A outer s H vs Q E hr h => ?_)
  have hl := spD_len (n := 2) (fun ds R X ⟨g, w, p, e, _⟩ => by rw [e] <;> rfl) h
  obtain ⟨v0, v1, rfl⟩ := vs_2 hl
  refine ⟨_, (pss_cons (ps_expr (pe_c g_check_port (hr.mono (by decide)) (passes_call (takes_of rfl rfl rfl rfl) (fun _ _ _ _ h => h)) (pa_cons (pv 0) (pa_cons (pv 1) pa_nil)))) pss_never), ?_⟩
  refine d_enter (n := N_never_passed.length - 2) h (fun B ds R X hT hE ⟨g, ww, x, e, G, nx, hb, k⟩ _ => ?_) (fun _ _ z => z)
  subst e
  refine ws_seq ?_
  walk_at "ws"
  refine wf_portE hE G nx (fun p hx hp => ?_) fun _ => k
  subst hx
  have : isPortD g.length ww (.int (p : Nat)) = true := by
    unfold isPortD isIntD
    rw [Bool.and_eq_true]
    exact ⟨decide_eq_true (by omega), decide_eq_true (by omega)⟩
  rw [this] at hb
  cases hb
end
end My
namespace My
open PySem PySem.Spec PyProof.Rows L2
/-! repeats, called -/
theorem portD_bad {h w : Nat} {x : Da} (b : isPortD h w x = false) {p : Nat} (e : x = .int p) (hp : p < 2 * (h + w)) : False := by
  subst e
  have : isPortD h w (.int (p : Nat)) = true := by
    unfold isPortD isIntD
    rw [Bool.and_eq_true]
    exact ⟨decide_eq_true (by omega), decide_eq_true (by omega)⟩
  rw [this] at b
  cases b
theorem intD_bad {lo hi i : Int} (b : isIntD lo hi (.int i) = false) (h1 : lo ≤ i) (h2 : i ≤ hi) : False := by
  have : (decide (lo ≤ i) && decide (i ≤ hi)) = false := b
  rw [decide_eq_true h1, decide_eq_true h2] at this
  cases this
theorem intD_out {lo hi i : Int} (h : i < lo ∨ hi < i) : isIntD lo hi (.int i) = false := by
  show (decide (lo ≤ i) && decide (i ≤ hi)) = false
  rcases h with h | h
  · rw [decide_eq_false (show ¬ lo ≤ i by omega), Bool.false_and]
  · rw [decide_eq_false (show ¬ i ≤ hi by omega), Bool.and_false]
theorem okAtD_bad {h w : Nat} {q : Da} (b : okAtD h w q = false) {a c : Nat} (e : q = dP ((a : Int), (c : Int))) (ha : a < h) (hc : c < w) : False := by
  subst e
  have : okAtD h w (.tup [.int (a : Nat), .int (c : Nat)]) = true := by
    show (isIntD _ _ _ && isIntD _ _ _) = true
    unfold isIntD
    rw [Bool.and_eq_true, Bool.and_eq_true, Bool.and_eq_true]
    exact ⟨⟨decide_eq_true (by omega), decide_eq_true (by omega)⟩, ⟨decide_eq_true (by omega), decide_eq_true (by omega)⟩⟩
  have b : okAtD h w (.tup [.int (a : Nat), .int (c : Nat)]) = false := b
  rw [this] at b
  cases b
theorem nr_tup (l : List Da) : NR (.tup l) := ⟨fun _ z => (by cases z), fun _ z => (by cases z), fun _ _ z => (by cases z)⟩
theorem nr_non : NR .non := ⟨fun _ z => (by cases z), fun _ z => (by cases z), fun _ _ z => (by cases z)⟩
theorem nr_bl (b : Bool) : NR (.bl b) := ⟨fun _ z => (by cases z), fun _ z => (by cases z), fun _ _ z => (by cases z)⟩
theorem nr_str (z : Str) : NR (.str z) := ⟨fun _ z => (by cases z), fun _ z => (by cases z), fun _ _ z => (by cases z)⟩
theorem int_inj {a b : Nat} (e : Da.int (a : Nat) = Da.int (b : Nat)) : a = b := by
  injection e with e
  omega
theorem dP_inj {a b c d : Int} (e : dP (a, b) = dP (c, d)) : a = c ∧ b = d := by
  injection e with e
  injection e with e1 e2
  injection e1 with e1
  injection e2 with e2 _
  injection e2 with e2
  exact ⟨e1, e2⟩
section
variable {B : Org} {C U UT UN : Addr} {Γ : Ct} {K : Ct → Rs → Prop} {KE : KX} {E : XK} {g : Gr} {w p : Nat} {x y q : Da}
theorem wfx_nthP (G : Grid 8 10 g w) (nx : NR x) (ny : NR y) (b : isPortD g.length w x = false) (k : KE Γ ⟨U, none⟩) : WFx B C Γ (spD C (PNth U UN)) [.d (.room g), .d x, .d y] K KE :=
  wfx_d (P := PNth U UN) (ds := [.room g, x, y]) ⟨g, w, x, y, rfl, G, nx, ny, fun _ => k, fun _ e hp => (portD_bad b e hp).elim, fun _ _ e hp => (portD_bad b e hp).elim⟩
theorem wfx_nthN (G : Grid 8 10 g w) (hp : p < 2 * (g.length + w)) (ny : NR y) (b : isIntD 1 1000000000000000000 y = false) (k : KE Γ ⟨UN, none⟩) : WFx B C Γ (spD C (PNth U UN)) [.d (.room g), .d (.int (p : Nat)), .d y] K KE :=
  wfx_d (P := PNth U UN) (ds := [.room g, .int p, y]) ⟨g, w, .int p, y, rfl, G, nr_int _, ny, fun z => (portD_bad z rfl hp).elim, fun _ _ _ _ => k, fun _ _ _ _ e h => by subst e; exact (intD_bad b (by omega) (by omega)).elim⟩
theorem wfx_aftP (G : Grid 8 10 g w) (nx : NR x) (ny : NR y) (b : isPortD g.length w x = false) (k : KE Γ ⟨U, none⟩) : WFx B C Γ (spD C (PAft U UN)) [.d (.room g), .d x, .d y] K KE :=
  wfx_d (P := PAft U UN) (ds := [.room g, x, y]) ⟨g, w, x, y, rfl, G, nx, ny, fun _ => k, fun _ e hp => (portD_bad b e hp).elim, fun _ _ e hp => (portD_bad b e hp).elim⟩
theorem wfx_aftN (G : Grid 8 10 g w) (hp : p < 2 * (g.length + w)) (ny : NR y) (b : isIntD 0 1000000000000000000 y = false) (k : KE Γ ⟨UN, none⟩) : WFx B C Γ (spD C (PAft U UN)) [.d (.room g), .d (.int (p : Nat)), .d y] K KE :=
  wfx_d (P := PAft U UN) (ds := [.room g, .int p, y]) ⟨g, w, .int p, y, rfl, G, nr_int _, ny, fun z => (portD_bad z rfl hp).elim, fun _ _ _ _ => k, fun _ _ _ _ e h => by subst e; exact (intD_bad b (by omega) (by omega)).elim⟩
theorem wfx_cycP (G : Grid 8 10 g w) (nx : NR x) (b : isPortD g.length w x = false) (k : KE Γ ⟨U, none⟩) : WFx B C Γ (spD C (PCyc U)) [.d (.room g), .d x] K KE :=
  wfx_d (P := PCyc U) (ds := [.room g, x]) ⟨g, w, x, rfl, G, nx, fun _ => k, fun _ _ _ e hp => (portD_bad b e hp).elim⟩
theorem wfx_nevP (G : Grid 8 10 g w) (nx : NR x) (b : isPortD g.length w x = false) (k : KE Γ ⟨U, none⟩) : WFx B C Γ (spD C (PNev0 U)) [.d (.room g), .d x] K KE :=
  wfx_d (P := PNev0 U) (ds := [.room g, x]) ⟨g, w, x, rfl, G, nx, b, k⟩
theorem wfx_cntP (G : Grid 8 10 g w) (nx : NR x) (tq : TlD q) (ny : NR y) (b : isPortD g.length w x = false) (k : KE Γ ⟨U, none⟩) : WFx B C Γ (spD C (PCnt U UT UN)) [.d (.room g), .d x, .d q, .d y] K KE :=
  wfx_d (P := PCnt U UT UN) (ds := [.room g, x, q, y]) ⟨g, w, x, q, y, rfl, G, nx, tq, ny, fun _ => k, fun _ e hp => (portD_bad b e hp).elim, fun _ _ _ e hp => (portD_bad b e hp).elim, fun _ _ _ _ e hp => (portD_bad b e hp).elim⟩
theorem wfx_cntT (G : Grid 8 10 g w) (hp : p < 2 * (g.length + w)) (tq : TlD q) (ny : NR y) (b : okAtD g.length w q = false) (k : KE Γ ⟨UT, none⟩) : WFx B C Γ (spD C (PCnt U UT UN)) [.d (.room g), .d (.int (p : Nat)), .d q, .d y] K KE :=
  wfx_d (P := PCnt U UT UN) (ds := [.room g, .int p, q, y]) ⟨g, w, .int p, q, y, rfl, G, nr_int _, tq, ny, fun z => (portD_bad z rfl hp).elim, fun _ _ _ _ => k, fun _ _ _ _ _ e h1 h2 => (okAtD_bad b e h1 h2).elim, fun _ _ _ _ _ _ e h1 h2 => (okAtD_bad b e h1 h2).elim⟩
theorem tlD_dP (a b : Int) : TlD (dP (a, b)) := .two (nr_int _) (nr_int _)
theorem wfx_cntN {a b : Nat} (G : Grid 8 10 g w) (hp : p < 2 * (g.length + w)) (ha : a < g.length) (hb : b < w) (ny : NR y) (bad : isIntD 0 1000000000000000000 y = false) (k : KE Γ ⟨UN, none⟩) : WFx B C Γ (spD C (PCnt U UT UN)) [.d (.room g), .d (.int (p : Nat)), .d (.tup [.int (a : Nat), .int (b : Nat)]), .d y] K KE :=
  wfx_d (P := PCnt U UT UN) (ds := [.room g, .int p, dP ((a : Int), (b : Int)), y]) ⟨g, w, .int p, dP ((a : Int), (b : Int)), y, rfl, G, nr_int _, tlD_dP _ _, ny, fun z => (portD_bad z rfl hp).elim, fun _ _ _ z => (okAtD_bad z rfl ha hb).elim, fun _ _ _ _ _ _ _ _ _ => k, fun _ _ _ _ _ _ _ _ _ e h => by subst e; exact (intD_bad bad (by omega) (by omega)).elim⟩
theorem wf_nth {k : Nat} (G : Grid 8 10 g w) (hp : p < 2 * (g.length + w)) (hk : k + 1 ≤ 1000000000000000000) (kk : K Γ (.d (.int (exitP (itG g p k) p : Nat)))) : WF B C Γ (spD C (PNth U UN)) E [.d (.room g), .d (.int (p : Nat)), .d (.int ((k + 1 : Nat) : Int))] K :=
  wf_d (P := PNth U UN) (ds := [.room g, .int p, .int (k + 1 : Nat)]) (KE := fun _ _ => False) xokF ⟨g, w, .int p, .int (k + 1 : Nat), rfl, G, nr_int _, nr_int _, fun z => (portD_bad z rfl hp).elim, fun _ _ _ z => (intD_bad z (by omega) (by omega)).elim, fun p' k' e _ e2 _ _ => by
    obtain rfl := int_inj e
    have := int_inj e2
    obtain rfl : k = k' := by omega
    exact kk⟩
theorem wf_aft {k : Nat} (G : Grid 8 10 g w) (hp : p < 2 * (g.length + w)) (hk : k ≤ 1000000000000000000) (kk : K Γ (.d (.room (itG g p k)))) : WF B C Γ (spD C (PAft U UN)) E [.d (.room g), .d (.int (p : Nat)), .d (.int (k : Nat))] K :=
  wf_d (P := PAft U UN) (ds := [.room g, .int p, .int k]) (KE := fun _ _ => False) xokF ⟨g, w, .int p, .int k, rfl, G, nr_int _, nr_int _, fun z => (portD_bad z rfl hp).elim, fun _ _ _ z => (intD_bad z (by omega) (by omega)).elim, fun p' k' e _ e2 _ _ => by
    obtain rfl := int_inj e
    obtain rfl := int_inj e2
    exact kk⟩
theorem wf_cyc (G : Grid 8 10 g w) (hp : p < 2 * (g.length + w)) (kk : ∀ n f, n ≤ 1024 → Rho g p n f → K Γ (.d (.tup [.int (f : Nat), .int (n - f : Nat)]))) : WF B C Γ (spD C (PCyc U)) E [.d (.room g), .d (.int (p : Nat))] K :=
  wf_d (P := PCyc U) (ds := [.room g, .int p]) (KE := fun _ _ => False) xokF ⟨g, w, .int p, rfl, G, nr_int _, fun z => (portD_bad z rfl hp).elim, fun p' n f e _ hn r _ => by
    obtain rfl := int_inj e
    exact kk n f hn r⟩
theorem wf_cnt {a b k : Nat} (G : Grid 8 10 g w) (hp : p < 2 * (g.length + w)) (ha : a < g.length) (hb : b < w) (hk : k ≤ 1000000000000000000) (kk : K Γ (.d (.int (cntP g p ((a : Int), (b : Int)) k : Nat)))) : WF B C Γ (spD C (PCnt U UT UN)) E [.d (.room g), .d (.int (p : Nat)), .d (.tup [.int (a : Nat), .int (b : Nat)]), .d (.int (k : Nat))] K :=
  wf_d (P := PCnt U UT UN) (ds := [.room g, .int p, dP ((a : Int), (b : Int)), .int k]) (KE := fun _ _ => False) xokF ⟨g, w, .int p, dP ((a : Int), (b : Int)), .int k, rfl, G, nr_int _, tlD_dP _ _, nr_int _, fun z => (portD_bad z rfl hp).elim, fun _ _ _ z => (okAtD_bad z rfl ha hb).elim, fun _ _ _ _ _ _ _ _ z => (intD_bad z (by omega) (by omega)).elim, fun p' a' b' k' e _ e2 _ _ e3 _ _ => by
    obtain rfl := int_inj e
    obtain rfl := int_inj e3
    obtain ⟨h1, h2⟩ := dP_inj e2
    obtain rfl : a = a' := by omega
    obtain rfl : b = b' := by omega
    exact kk⟩
end
end My
namespace My
open PySem PySem.Spec PyProof.Rows L2
/-! tiles that no beam passes: a set of tuples of one's own -/
def MSt (P : Program) (w : World) (ks : List (List Int)) : MO where
  p := fun C F H a S => S = [a] ∧ ∃ L : List (Addr × List Int), H a = some (SetTO P w a L) ∧ (∀ e ∈ L, F e.1 = some (.tup (e.2.map V.int))) ∧ (L.map (·.2)).Nodup ∧ ∀ q, q ∈ L.map (·.2) ↔ q ∈ ks
  st := fun h s t => by
    obtain ⟨e, L, h1, h2, h3⟩ := h
    exact ⟨e, L, t _ (by rw [e]; exact List.mem_singleton.mpr rfl) _ h1, fun x hx => s _ _ (h2 x hx), h3⟩
  lv := fun ⟨e, L, h1, _⟩ b hb => by
    rw [e] at hb
    rw [List.mem_singleton.mp hb, h1]
    exact ⟨(fun z => by cases z), (fun _ z => by cases z)⟩
def kk (q : Int × Int) : List Int := [q.1, q.2]
theorem kk_inj {a b : Int × Int} (h : kk a = kk b) : a = b := by
  injection h with h1 h2
  injection h2 with h2 _
  exact Prod.ext h1 h2
theorem kk_mem {q : Int × Int} {l : List (Int × Int)} : kk q ∈ l.map kk ↔ q ∈ l := by
  rw [List.mem_map]
  exact ⟨fun ⟨x, h1, h2⟩ => kk_inj h2 ▸ h1, fun h => ⟨q, h, rfl⟩⟩
theorem dP_kk (q : Int × Int) : fv (dP q) = fv (dP q) := rfl
section
variable {P : Program} {w : World} {B : Org} {C : Addr} {Γ : Ct} {S : Fp} {σ : L2.St} {F H : Hp} {Q : VK} {K : Ct → Rs → Prop} {Kf : PySem.W.Frag} {te ta : TE} {t : TA}
theorem w_set0 (k : K Γ (.mo (MSt P w []))) : W B C Γ (tCB (rSet0T P w) tNil) K := fun S σ F H Q e c => by
  refine ⟨rfl, fun p hp => ?_⟩
  have g := Gr4.of e.sub (Same.new (o := SetTO P w p []) hp)
  exact Cont.own1 (m := MSt P w []) c e g hp (e.sub.free hp) ⟨rfl, [], upd_same, (fun _ z => by cases z), List.nodup_nil, fun _ => Iff.rfl⟩ k
theorem wc_set0 (k : K Γ (.mo (MSt P w []))) : WC B C Γ (rSet0T P w) [] K := fun S σ F H vs T Q e rv c => by
  cases rv
  refine ⟨rfl, fun p hp => ?_⟩
  have g := Gr4.of e.sub (Same.new (o := SetTO P w p []) hp)
  exact Cont.own1 (m := MSt P w []) c e g hp (e.sub.free hp) ⟨rfl, [], upd_same, (fun _ z => by cases z), List.nodup_nil, fun _ => Iff.rfl⟩ k
theorem wr_inSt {i : Nat} {ks : List (List Int)} {q : Int × Int} {neg : Bool} (hi : Γ[i]? = some (.mo (MSt P w ks))) (k : K Γ (.d (.bl (decide (kk q ∈ ks) != neg)))) : WR B C Γ (rInT Kf P w neg) (.d (dP q)) (.al i) K := fun S σ F H x y T U Q e rx ry c => by
  obtain ⟨a, ha, hS, L, h1, h2, h3, h4⟩ := e.sl i _ hi
  have ey := ry.2
  rw [ha] at ey
  cases ey
  obtain ⟨b, vs, rfl, hb, hv⟩ := rx.2.tupI
  have ev : vs = (kk q).map V.int := by
    obtain ⟨v1, v2, rfl⟩ : ∃ v1 v2, vs = [v1, v2] := vs_2 hv.len
    rw [hv.hd.intI, hv.tl.hd.intI]
    rfl
  subst ev
  refine ⟨b, a, L, kk q, rfl, rfl, h1, fun e' he' => SqT.of (e.sub _ _ (h2 e' he')), SqT.of (e.sub _ _ hb), ?_⟩
  rw [show decide (kk q ∈ L.map (·.2)) = decide (kk q ∈ ks) from decide_eq_decide.mpr (h4 _)]
  exact c.here e (.bl _) k
end
theorem trail_inn {h w : Nat} {x : BS} {n : Nat} (hi : ∀ i, i < n → Inn h w (bst x i)) : ∀ q ∈ trail x n, 0 ≤ q.1 ∧ q.1 < h ∧ 0 ≤ q.2 ∧ q.2 < w := fun q hq => by
  unfold trail at hq
  obtain ⟨i, h1, rfl⟩ := List.mem_map.mp hq
  exact hi i (List.mem_range.mp h1)
theorem ws_drop6 {B : Org} {C : Addr} {Γ Γ2 : Ct} {i : Nat} {ts : TS} {A : AE} {sl : Sl} (hi : Γ[i]? = some sl) (hs : sl = .un ∨ ∃ x, sl = .d x) (h2 : Γ.set i .un = Γ2) (h : WS B C Γ2 ts A) : WS B C Γ ts A := fun S σ F H D e d => by
  subst h2
  have hS : S i = [] := by
    have z := e.sl i sl hi
    rcases hs with rfl | ⟨x, rfl⟩
    · exact z
    · exact z.1
  have e2 := e.un i (w := σ[i]?.getD none)
  have eσ : σ.set i (σ[i]?.getD none) = σ := by
    have il : i < σ.length := by rw [e.len]; exact (List.getElem?_eq_some_iff.mp hi).1
    refine set_id ?_
    rw [List.getElem?_eq_getElem il] <;> rfl
  rw [eσ] at e2
  exact h _ σ F H D e2 d
theorem trl_in {g : Gr} {w p : Nat} (bk : Beam g w p) : ∀ q ∈ trlP g p, 0 ≤ q.1 ∧ q.1 < g.length ∧ 0 ≤ q.2 ∧ q.2 < w := fun q hq => by
  obtain ⟨r, c, n, _, go, e⟩ := bk.trl
  rw [e] at hq
  exact trail_inn go.2 q hq
/-- all tiles -/
def allK (h w : Nat) : List (List Int) := (List.range h).flatMap fun (r : Nat) => (List.range w).map fun (c : Nat) => [((r : Nat) : Int), ((c : Nat) : Int)]
theorem allK_len (h w : Nat) : (allK h w).length = h * w := by
  unfold allK
  rw [List.length_flatMap]
  simp only [List.length_map, List.length_range, List.map_const', List.sum_replicate_nat]
theorem allK_mem {h w : Nat} {q : Int × Int} (k : 0 ≤ q.1 ∧ q.1 < h ∧ 0 ≤ q.2 ∧ q.2 < w) : kk q ∈ allK h w := by
  obtain ⟨k1, k2, k3, k4⟩ := k
  refine List.mem_flatMap.mpr ⟨q.1.toNat, List.mem_range.mpr (by omega), List.mem_map.mpr ⟨q.2.toNat, List.mem_range.mpr (by omega), ?_⟩⟩
  show [_, _] = [_, _]
  rw [Int.toNat_of_nonneg k1, Int.toNat_of_nonneg k3]
/-- the loop over a beam's tiles: the set has them all -/
theorem ws_forY {P : Program} {w0 : World} {B : Org} {C : Addr} {Γ : Ct} {Kf : PySem.W.Frag} {iS ix : Nat} {ta : TA} {A : AE} (hne : iS ≠ ix) (h : WA B C Γ ta fun Γ1 rs => ∃ (g : Gr) (w p : Nat) (ks : List (List Int)) (sl : Sl), rs = [.d (.room g), .d (.int (p : Nat))] ∧ Grid 8 10 g w ∧ p < 2 * (g.length + w) ∧ g.length * w < 63 ∧
    Γ1[iS]? = some (.mo (MSt P w0 ks)) ∧ (∀ k ∈ ks, k ∈ allK g.length w) ∧ Γ1[ix]? = some sl ∧ (sl = .un ∨ ∃ x, sl = .d x) ∧ ∃ Γ2, Γ1.set iS (.mo (MSt P w0 (ks ++ (trlP g p).map kk))) = Γ2 ∧ A.nx Γ2 ∧ ∀ d, A.nx (Γ2.set ix (.d d))) : WS B C Γ (tForY ix ta (sp_pathY C) (tSetAdd Kf P w0 iS ix)) A := fun S σ F H D e d =>
  h S σ F H _ e fun Γ1 S1 F1 H1 rs T vs e1 m1 rv fr ⟨g, w, p, ks, sl, er, G, hp, few, hS, hin, hx, hsl, Γ2, eΓ, k1, k2⟩ => by
    subst er
    obtain ⟨v, v', T1, T2, rfl, r1, r2⟩ := vs2 rv
    obtain ⟨x, w', rfl, R, _⟩ := r1.2.roomI
    obtain rfl := r2.2.intI
    obtain ⟨a, ha, hSa, L0, h1, h2, h3, h4⟩ := e1.sl iS _ hS
    have bk := beam G hp
    refine ⟨fun ls => ls = (trlP g p).map kk, ⟨x, p, w, g, rfl, R.same e1.sub, G, hp, fun L tl _ => by rw [tl.one bk.trl]; rfl⟩, ?_⟩
    rintro ls qs tt H2 rfl sm tp htt
    have inn : ∀ k ∈ (trlP g p).map kk, k ∈ allK g.length w := fun k hk => by
      obtain ⟨q, hq, rfl⟩ := List.mem_map.mp hk
      obtain ⟨r, c, n, _, go, e⟩ := bk.trl
      rw [e] at hq
      exact allK_mem (trail_inn go.2 q hq)
    have nt : tt ≠ a := fun z => by
      have := sm _ _ h1
      rw [← z, htt] at this
      cases this
    have up : ∀ {L : List (Addr × List Int)} {b : Addr} {xs : List V}, H2 b = some (.tup xs) → upd H2 a (SetTO P w0 a L) b = some (.tup xs) := fun {L b xs} hb => by
      rw [upd_ne fun z => by rw [z, sm _ _ h1] at hb; cases hb]
      exact hb
    have ixl : ix < σ.length := by rw [e1.len]; exact (List.getElem?_eq_some_iff.mp hx).1
    have hu : ∀ e ∈ L0, H2 e.1 = some (.tup (e.2.map V.int)) := fun e he => sm _ _ (e1.sub _ _ (h2 e he))
    refine ⟨fun j σ' H' => ∃ (ov : Option V) (L : List (Addr × List Int)), σ' = σ.set ix ov ∧ (σ[ix]? = some ov ∨ ∃ (q : Addr) (k : List Int), ov = some (.ref q) ∧ H2 q = some (.tup (k.map V.int))) ∧ H' = upd H2 a (SetTO P w0 a L) ∧ (∀ e ∈ L, H2 e.1 = some (.tup (e.2.map V.int))) ∧ (L.map (·.2)).Nodup ∧ ∀ q, q ∈ L.map (·.2) ↔ q ∈ ks ++ ((trlP g p).map kk).take j, ⟨?_, ?_, ?_, ?_⟩⟩
    · refine ⟨_, L0, (set_id (List.getElem?_eq_getElem ixl)).symm, .inl (List.getElem?_eq_getElem ixl), ?_, hu, h3, fun q => by rw [List.take_zero, List.append_nil]; exact h4 q⟩
      funext b
      by_cases z : b = a
      · rw [z, upd_same]
        exact sm _ _ h1
      · rw [upd_ne z]
    · rintro j σ' H' ⟨ov, L, _, _, rfl, _⟩
      exact ⟨upd_ne nt, fun b hb => upd_ne fun z => by rw [z, h1] at hb; cases hb⟩
    · rintro j q σ' H' hq ⟨ov, L, rfl, hov, rfl, hL, nd, mem⟩
      have hj : j < qs.length := (List.getElem?_eq_some_iff.mp hq).1
      rw [tp.1] at hj
      have hk : ((trlP g p).map kk)[j]? = some (((trlP g p).map kk)[j]'hj) := List.getElem?_eq_getElem hj
      generalize ((trlP g p).map kk)[j]'hj = k at hk
      have hq2 := tp.2 j q k hq hk
      have ia : (σ.set ix (some (V.ref q)))[iS]? = some (some (.ref a)) := by rw [List.getElem?_set_ne hne.symm]; exact ha
      rw [List.set_set]
      have le : L.length ≤ (allK g.length w).length := by
        have := nodup_le _ (allK g.length w) nd (fun y hy => by
          rcases List.mem_append.mp ((mem y).mp hy) with z | z
          · exact hin y z
          · exact inn y (List.mem_of_mem_take z))
        rw [List.length_map] at this
        exact this
      rw [allK_len] at le
      refine ⟨q, a, L, k, by rw [List.getElem?_set_self ixl], ia, upd_same, fun e he => SqT.of (up (hL e he)), SqT.of (up hq2), by omega, fun L' c1 c2 => ?_⟩
      refine ⟨_, L', rfl, .inr ⟨q, k, rfl, hq2⟩, upd_upd, ?_⟩
      rw [take_snoc hk]
      by_cases z : k ∈ L.map (·.2)
      · rw [c1 z]
        refine ⟨hL, nd, fun y => ?_⟩
        rw [mem y, ← List.append_assoc, List.mem_append (t := [k]), List.mem_singleton]
        exact ⟨.inl, fun h => h.elim id fun h => by rw [h]; exact (mem k).mp z⟩
      · have pm := c2 z
        refine ⟨fun e he => ?_, ?_, fun y => ?_⟩
        · rcases List.mem_cons.mp (pm.mem_iff.mp he) with rfl | he
          · exact hq2
          · exact hL e he
        · exact ((pm.map (·.2)).nodup_iff).mpr (List.nodup_cons.mpr ⟨z, nd⟩)
        · rw [(pm.map (·.2)).mem_iff, ← List.append_assoc, List.mem_append (t := [k]), List.mem_singleton, ← mem y]
          show y ∈ k :: L.map (·.2) ↔ _
          rw [List.mem_cons]
          exact ⟨fun h => h.symm, fun h => h.symm⟩
    · rintro σ' H' ⟨ov, L, rfl, hov, rfl, hL, nd, mem⟩
      have gr := ov_gr e1.sub sm
      have e2 := e1.ext gr
      have e0 : e2.sub = e2.sub := rfl
      have fr2 : ∀ {b : Addr} {xs : List V}, H2 b = some (.tup xs) → Ov F1 H1 H2 b = some (.tup xs) := fun {b xs} hb => ov_tup hb
      have ma : a ∈ S1 iS := by rw [hSa]; exact List.mem_singleton.mpr rfl
      have fa : Ov F1 H1 H2 a = none := e2.fz iS a ma
      have tl : ((trlP g p).map kk).take qs.length = (trlP g p).map kk := by rw [tp.1]; exact List.take_length
      rw [tl] at mem
      obtain ⟨e3, m3⟩ := Env.chg (m' := MSt P w0 (ks ++ (trlP g p).map kk)) (F' := Ov F1 H1 H2) (H' := upd H2 a (SetTO P w0 a L)) (T := S1 iS) e2 hS ha ⟨Same.refl _, fun b o hb => by rw [upd_ne fun z => by rw [z, fa] at hb; cases hb]; exact e2.sub _ _ hb, fun b o hb he => by rw [upd_ne fun z => hb (by rw [z]; exact ma)]; exact he, fun b hb _ => hb, fun b hb => by
          rw [hSa] at hb
          rw [List.mem_singleton.mp hb, upd_same]
          exact ⟨(fun z => by cases z), (fun _ z => by cases z)⟩, fun b hb => e2.fz iS b hb, fun b hb => .inl hb⟩ ⟨hSa, L, upd_same, fun e he => fr2 (hL e he), nd, mem⟩
      rw [eΓ] at e3
      have sf : Same F (Ov F1 H1 H2) := m1.fr.trans gr.f
      rcases hov with hov | ⟨q, k, rfl, hq⟩
      · rw [set_id hov]
        exact d.nx _ _ _ _ _ sf e3 k1
      · refine d.nx _ _ _ _ _ sf (e3.putD (x := .tup (k.map Da.int)) (by rw [← eΓ, List.length_set, ← e1.len]; exact ixl) (.tup' (fr2 hq) ?_)) (k2 _)
        clear hq
        induction k with
        | nil => exact .nil
        | cons i k ih => exact .cons (.int i) ih
end My
namespace My
open PySem PySem.Spec PyProof.Rows L2
/-! never_passed -/
def mirS (s : Sg) : Bool := decide (s ≠ .d)
theorem mir_in : ∀ s, inS "rfRF" s = mirS s := by
  intro s
  cases s <;> decide +kernel
noncomputable def pasL (g : Gr) (p n : Nat) : List (Int × Int) := (List.range n).flatMap fun i => trlP (itG g p i) p
theorem pasL_succ {g : Gr} {p n : Nat} : pasL g p (n + 1) = pasL g p n ++ trlP (itG g p n) p := by
  unfold pasL
  rw [List.range_succ, List.flatMap_append]
  simp
noncomputable def nevL (g : Gr) (p n : Nat) : List (Int × Int) := (tiles mirS g).filter fun q => decide (q ∉ pasL g p n)
noncomputable def nevD (g : Gr) (p n k : Nat) : List Da := dPs (((tiles mirS g).take k).filter fun q => decide (q ∉ pasL g p n))
theorem nevD_snoc {g : Gr} {p n k : Nat} {q : Int × Int} (h : (tiles mirS g)[k]? = some q) : nevD g p n (k + 1) = if q ∈ pasL g p n then nevD g p n k else nevD g p n k ++ [dP q] := by
  unfold nevD dPs
  rw [take_snoc h, List.filter_append, List.map_append]
  by_cases z : q ∈ pasL g p n
  · rw [if_pos z]
    simp [z]
  · rw [if_neg z]
    simp [z]
theorem pas_in {g : Gr} {w p : Nat} (G : Grid 8 10 g w) (hp : p < 2 * (g.length + w)) {n : Nat} : ∀ k ∈ (pasL g p n).map kk, k ∈ allK g.length w := fun k hk => by
  obtain ⟨q, hq, rfl⟩ := List.mem_map.mp hk
  obtain ⟨i, _, hq⟩ := List.mem_flatMap.mp hq
  obtain ⟨Gi, li, _⟩ := itG_grid G hp i
  have := trl_in (beam Gi (p := p) (by rw [li]; exact hp)) q hq
  rw [li] at this
  exact allK_mem this
theorem tiles_le64 {f : Sg → Bool} {g : Gr} {w : Nat} (G : Grid 8 10 g w) : (tiles f g).length ≤ 64 := by
  have h1 := tilesTo_len f g w (fun l hl => Nat.le_of_eq (G.ln l hl)) g.length
  have h2 : g.length * w ≤ 8 * 8 := Nat.mul_le_mul G.hm G.wm
  exact Nat.le_trans h1 h2
def PNev (U : Addr) : DP := fun ds R X => ∃ g w x, ds = [.room g, x] ∧ Grid 8 10 g w ∧ g.length * w < 63 ∧ NR x ∧ (isPortD g.length w x = false → X ⟨U, none⟩) ∧ (∀ p n f : Nat, x = .int p → p < 2 * (g.length + w) → n ≤ 1024 → Rho g p n f → R (.mo (ML (dPs (nevL g p n)))))
section
variable {B : Org} {C U : Addr} {Γ : Ct} {K : Ct → Rs → Prop} {E : XK} {Kf : PySem.W.Frag}
theorem wf_tilesW {g : Gr} {w : Nat} {z : Str} {f : Sg → Bool} (G : Grid 8 10 g w) (hf : ∀ s, inS z s = f s) (k : K Γ (.d (.lst (dPs (tiles f g))))) : WF B C Γ (sp_tiles Kf) E [.d (.tup (dLns g)), .d (.str z)] K := fun S σ F H vs T Q e rv c => by
  obtain ⟨v, v', T', U', rfl, r1, r2⟩ := vs2 rv
  obtain rfl := r2.2.strI
  obtain ⟨a, xs, rfl, h2, h3⟩ := r1.2.tupI
  obtain rfl := ats_lines_inv h3
  have hm := G.hm
  have hw := G.wm
  exact ⟨a, z, g, f, rfl, .inr (SqT.of (e.sub _ _ h2)), by omega, fun l hl => by rw [G.ln l hl]; omega, hf, fun p ws H' hp s h t => c.ext e (ov_gr e.sub s) (.lst' (by rw [ov_new hp]; exact h) (dPs_ats (H2 := H) t.ov)) k⟩
end
local macro_rules | `(tactic| walk_at "sm") => `(tactic| first
  | exact .int _
  | exact .bl _
  | exact .str _
  | exact .non
  | exact sm_dP _
  | exact sm_dPs (by omega)
  | exact sm_dNs (by omega)
  | exact sm_lns (by omega)
  | exact sm_lnsT (by omega)
  | (refine .lst (Nat.le_of_ble_eq_true rfl) ?_; walk_at "sms")
  | (refine .tup (Nat.le_of_ble_eq_true rfl) ?_; walk_at "sms"))
local macro_rules | `(tactic| walk_at "sms") => `(tactic| first
  | exact sm_nil
  | ((refine sm_cons ?a ?b); (case a => walk_at "sm"); (case b => walk_at "sms")))
local macro_rules | `(tactic| walk_at "set") => `(tactic| (simp only [List.set_cons_zero, List.set_cons_succ] <;> rfl))
local macro_rules | `(tactic| walk_at "put") => `(tactic| first
  | exact .nil _
  | (refine .cons (.d _) (ltL rfl) ?_; walk_at "put")
  | (refine .cons (.m _) (ltL rfl) ?_; walk_at "put"))
local macro_rules | `(tactic| walk_at "puts") => `(tactic| (refine ⟨?g2, ?g3, ?pa, ?pb, ?pc⟩; (case pa => walk_at "put"); (case pb => walk_at "set"); try (case g2 => skip)))
local macro_rules | `(tactic| walk_at "k") => `(tactic| first
  | ((refine ⟨_, ?g2, .d _, ltL rfl, ?pb, ?pc⟩); (case pb => walk_at "set"))
  | ((refine ⟨_, ?g2, .m _, ltL rfl, ?pb, ?pc⟩); (case pb => walk_at "set"))
  | ((refine ⟨?g2, ltL rfl, ?pb, ?pc⟩); (case pb => walk_at "set"))
  | refine ⟨_, .d _, ?_⟩
  | refine ⟨_, .m _, ?_⟩
  | refine ⟨_, _, _, rfl, by assumption, by assumption, ?_⟩
  | refine ⟨_, rfl, ?_⟩
  | refine ⟨_, .m, ?_⟩
  | refine ⟨_, .d, ?_⟩
  | refine ⟨_, .a rfl, ?_⟩
  | refine ⟨⟨_, .a rfl⟩, ?_⟩
  | refine ⟨⟨_, .m⟩, ?_⟩
  | refine ⟨⟨_, .d⟩, ?_⟩
  | refine ⟨fun _ => ?_, fun hz => absurd hz Bool.false_ne_true⟩
  | refine ⟨fun _ => ?_, fun hz => absurd hz.symm Bool.false_ne_true⟩
  | refine ⟨fun hz => absurd hz Bool.false_ne_true, fun _ => ?_⟩
  | refine ⟨fun hz => absurd hz.symm Bool.false_ne_true, fun _ => ?_⟩
  | ((refine ⟨Nat.le_of_ble_eq_true rfl, rfl, ?g2, ?g3, ?pa, ?pb, ?pc⟩); (case pa => walk_at "put"); (case pb => walk_at "set"))
  | ((refine ⟨?g2, ?g3, ?pa, ?pb, ?pc⟩); (case pa => walk_at "put"); (case pb => walk_at "set"))
  | refine ⟨Nat.le_of_ble_eq_true rfl, ?_⟩)
local macro_rules | `(tactic| walk_at "app") => `(tactic| ((refine ⟨_, _, ?g2, .d _, rfl, ?hl, ?pb, ?pc⟩); (case pb => walk_at "set")))
local macro_rules | `(tactic| walk_at "w") => `(tactic| first
  | with_reducible refine ws_seq ?_
  | with_reducible refine ws_next ?_
  | with_reducible refine sw_set ?_
  | with_reducible refine ws_if ?_
  | with_reducible refine ws_put2 ?_
  | with_reducible refine ws_putL ?_
  | with_reducible refine sw_names2 ?_
  | with_reducible refine sw_names3 ?_
  | with_reducible refine sw_names4 ?_
  | with_reducible refine sw_names5 ?_
  | with_reducible refine sw_names6 ?_
  | with_reducible refine sw_names7 ?_
  | with_reducible refine sw_asg ?_
  | with_reducible refine sw_for ?_
  | with_reducible refine tg_name ?_
  | with_reducible refine tgs_nil ?_
  | with_reducible refine tgs_cons ?_
  | ((with_reducible refine tg_tup ?hn ?_); (case hn => rfl))
  | ((with_reducible refine tg_lst ?hn ?_); (case hn => rfl))
  | with_reducible refine ws_ret ?_
  | with_reducible refine ws_drop ?_
  | with_reducible refine sw_par ?_
  | with_reducible refine sw_par3 ?_
  | with_reducible refine w_int ?_
  | with_reducible refine w_str ?_
  | with_reducible refine w_bl ?_
  | with_reducible refine w_non ?_
  | ((with_reducible refine w_var (x := ?x0) ?hv ?_); (case hv => exact rfl))
  | ((with_reducible refine w_al (m := ?m0) ?hv ?_); (case hv => exact rfl))
  | ((with_reducible refine w_ix2 (a := ?a0) (b := ?b0) (ms := ?ms0) ?h1 ?h2 ?h3 ?hk); (case h1 => exact rfl); (case h2 => exact rfl); (case h3 => exact rfl))
  | with_reducible refine w_op ?_
  | with_reducible refine w_neg ?_
  | with_reducible refine w_un ?_
  | with_reducible refine wa_cons ?_
  | with_reducible refine wa_nil ?_
  | with_reducible refine waf_cons ?_
  | with_reducible refine waf_nil ?_
  | with_reducible refine w_tupF ?_
  | with_reducible refine w_lstF ?_
  | with_reducible refine w_cr ?_
  | with_reducible refine w_cb ?_
  | with_reducible refine w_mkBench ?_
  | ((with_reducible refine wb_now (s := ?s0) (o := ?o0) ?hv ?_); (case hv => exact rfl))
  | ((with_reducible refine wb_passes (s := ?s0) (o := ?o0) ?hv ?hl ?_); (case hv => exact rfl); (case hl => (first | assumption | omega)))
  | ((with_reducible refine wb_ops (s := ?s0) (o := ?o0) ?hv ?hl ?_); (case hv => exact rfl); (case hl => (first | assumption | omega)))
  | ((with_reducible refine wb_meth inb_beam (s := ?s0) (o := ?o0) ?hv ?_); (case hv => exact rfl))
  | ((with_reducible refine wb_meth inb_turn (s := ?s0) (o := ?o0) ?hv ?_); (case hv => exact rfl))
  | ((with_reducible refine wb_meth inb_turn_all (s := ?s0) (o := ?o0) ?hv ?_); (case hv => exact rfl))
  | ((with_reducible refine wb_meth inb_undo (s := ?s0) (o := ?o0) ?hv ?_); (case hv => exact rfl))
  | ((with_reducible refine wb_meth inb_redo (s := ?s0) (o := ?o0) ?hv ?_); (case hv => exact rfl))
  | ((with_reducible refine wb_meth inb_save (s := ?s0) (o := ?o0) ?hv ?_); (case hv => exact rfl))
  | ((with_reducible refine wb_meth inb_restore (s := ?s0) (o := ?o0) ?hv ?_); (case hv => exact rfl))
  | ((with_reducible refine wb_meth inb_state (s := ?s0) (o := ?o0) ?hv ?_); (case hv => exact rfl))
  | ((with_reducible refine wb_meth inb_back (s := ?s0) (o := ?o0) ?hv ?_); (case hv => exact rfl))
  | ((with_reducible refine wb_meth inb_batch (s := ?s0) (o := ?o0) ?hv ?_); (case hv => exact rfl))
  | ((with_reducible refine wb_meth inb_exec (s := ?s0) (o := ?o0) ?hv ?_); (case hv => exact rfl))
  | ((with_reducible refine wb_meth inb_step (s := ?s0) (o := ?o0) ?hv ?_); (case hv => exact rfl))
  | with_reducible refine w_pr ?_
  | with_reducible refine wf_rows ?_
  | with_reducible refine wf_text (by assumption) ?_
  | with_reducible refine wf_size (by assumption) ?_
  | with_reducible refine wf_turning (by assumption) ?_
  | with_reducible refine wu_inv (by assumption) ?_
  | with_reducible refine wc_lenO (by assumption) ?_
  | with_reducible refine wc_boolO (by assumption) ?_
  | ((with_reducible refine wc_lenL (l := ?l0) ?hv ?_); (case hv => first | exact .d | exact .m | (refine .a ?_; exact rfl)))
  | with_reducible refine wc_lenT ?_
  | ((with_reducible refine wc_listL (l := ?l0) ?hv ?_); (case hv => first | exact .d | exact .m | (refine .a ?_; exact rfl)))
  | with_reducible refine wc_listT ?_
  | ((with_reducible refine wc_tupL (l := ?l0) ?hv ?_); (case hv => first | exact .d | exact .m | (refine .a ?_; exact rfl)))
  | with_reducible refine wc_min2 ?_
  | with_reducible refine w_callO ?_
  | with_reducible refine w_chain ?_
  | with_reducible refine w_join ?_
  | with_reducible refine w_notV ?_
  | with_reducible refine w_andV ?_
  | with_reducible refine w_orV ?_
  | with_reducible refine w_if ?_
  | with_reducible refine wt_test ?_
  | with_reducible refine wt_B ?_
  | with_reducible refine wt_not ?_
  | with_reducible refine wt_and ?_
  | with_reducible refine wt_or ?_
  | with_reducible refine wo_none ?_
  | with_reducible refine wo_some ?_
  | with_reducible refine w_slL ?_
  | with_reducible refine w_slR ?_
  | with_reducible refine w_slS ?_
  | with_reducible refine w_revL ?_
  | ((with_reducible refine wr_eqNl (l := ?l0) ?hv ?_); (case hv => first | exact .d | exact .m | (refine .a ?_; exact rfl)))
  | ((with_reducible refine wr_neNl (l := ?l0) ?hv ?_); (case hv => first | exact .d | exact .m | (refine .a ?_; exact rfl)))
  | with_reducible refine wc_intB ?_
  | with_reducible refine wc_intI ?_
  | with_reducible refine wr_ixLn (by assumption) (by assumption) ?_
  | with_reducible refine wr_ixLn0 (by assumption) ?_
  | with_reducible refine wr_ixSg (by assumption) (by assumption) (by assumption) ?_
  | with_reducible refine wc_lenLn (by assumption) (by assumption) ?_
  | with_reducible refine wr_notInRf ?_
  | with_reducible refine wr_inRf ?_
  | with_reducible refine wr_eqR ?_
  | with_reducible refine wr_catR1 (by assumption) (by assumption) ?_
  | with_reducible refine wr_catR2 (by assumption) (by assumption) (by assumption) ?_
  | with_reducible refine wr_catG1 (by assumption) ?_
  | with_reducible refine wr_catG2 (by assumption) (by assumption) ?_
  | with_reducible refine wr_I0i ?_
  | with_reducible refine wr_I0b ?_
  | ((with_reducible refine wr_neF (u := ?u0) ?hv ?_); (case hv => exact rfl))
  | ((with_reducible refine wr_eqF (u := ?u0) ?hv ?_); (case hv => exact rfl))
  | ((with_reducible refine wr_eqS0 ?hc ?_); (case hc => decide +kernel))
  | ((with_reducible refine wr_neS0 ?hc ?_); (case hc => decide +kernel))
  | ((with_reducible refine wr_ixL (l := ?l0) (x := ?x0) ?hw ?hv ?_); (case hw => first | exact .d | exact .m | (refine .a ?_; exact rfl)); (case hv => exact rfl))
  | ((with_reducible refine wr_ixT (l := ?l0) (x := ?x0) ?hv ?_); (case hv => exact rfl))
  | with_reducible refine sg_name ?_
  | with_reducible refine wt_yes ?_
  | with_reducible refine w_repl ?_
  | with_reducible refine wi_rng1 ?_
  | with_reducible refine wi_rng2 ?_
  | ((with_reducible refine wi_fzA (l := ?l0) (Γ2 := ?g2) ?hv ?ht ?hs ?_); (case hv => exact rfl); (case ht => first | exact fun _ => id | apply_assumption); (case hs => walk_at "set"))
  | with_reducible refine wi_list ?_
  | with_reducible refine wi_tup ?_
  | with_reducible refine wi_str ?_
  | ((with_reducible refine sw_append (l := ?l0) ?hv ?_); (case hv => exact rfl))
  | with_reducible refine wr_isN ?_
  | with_reducible refine wr_notN ?_
  | with_reducible refine w_dnewK ?_
  | ((with_reducible refine w_dinS (z := ?z0) (l := ?l0) ?h1 ?h2 ?_); (case h1 => exact rfl); (case h2 => exact rfl))
  | with_reducible refine ws_dputS ?_
  | with_reducible refine w_appNew ?_
  | with_reducible refine w_bm ?_)
local macro_rules | `(tactic| walk_at "ws") => `(tactic| repeat (first | walk_at "w" | walk_at "k"))
local macro_rules | `(tactic| walk_at "wn") => `(tactic| repeat ((fail_if_success (with_reducible refine ws_seq ?_)); first | walk_at "w" | walk_at "k"))
section
variable {P : Program} {w : World} {K : PySem.W.Frag} {mg : Str → Option Value} {base : Heap}
theorem ok_never {C U fI f fp : Addr} {fd fdp : FuncData} (F : Fun K "never_passed" "never_passed" s_never_passed f fd) (T : RoomT K mg C fI) (g_check_port : GF P w K mg base "check_port" 3 (sp_port C U)) (g_follow : GF P w K mg base "follow" 6 (spD C PFollow)) (g_tiles_with : GF P w K mg base "tiles_with" 1 (sp_tiles K)) (p_rows : PR P w K mg base C "rows" 1 (sp_rows C))
    (m_path : mg "path" = some (.ref fp)) (k_path : PySem.W.keepIn K (.ref fp) = true) (FY : GFnY P w K mg base 4 fp fdp ["room", "port"] (sp_pathY C)) (b_path : Binds K fdp ["room", "port"] []) (b_set : mg "set" = none) (v_MIRRORS : ∃ t, mg "MIRRORS" = some (.str "rfRF" t)) :
    FnOk P w K mg base (L2.CX P w) 8 f fd ["room", "port"] (spD C (PNev U)) := by
  refine F.okX sc_never_passed (fun vs H Q E h => spD_len (n := 2) (fun ds R X ⟨g, w, p, e, _⟩ => by rw [e] <;> rfl) h) (fun cdv A outer s H vs Q E hr h => ?_)
  obtain ⟨v0, v1, rfl⟩ := vs_2 (spD_len (n := 2) (fun ds R X ⟨g, w, p, e, _⟩ => by rw [e] <;> rfl) h)
  refine ⟨_, (pss_cons (ps_expr (pe_c g_check_port (hr.mono (by decide)) (passes_call (takes_of rfl rfl rfl rfl) (fun _ _ _ _ h => h)) (pa_cons (pv 0) (pa_cons (pv 1) pa_nil))))
    (pss_cons (ps_asg (pe_c g_follow (hr.mono (by decide)) (passes_call (takes_of rfl rfl rfl rfl) (fun _ _ _ _ h => h)) (pa_cons (pv 0) (pa_cons (pv 1) pa_nil))) (pg_tup rfl (pgs_cons (pg_name (i := 2) sc_never_passed.nd rfl (Or.inl rfl)) (pgs_cons (pg_name (i := 3) sc_never_passed.nd rfl (Or.inl rfl)) pgs_nil))))
    (pss_cons (ps_set (i := 4) sc_never_passed.nd rfl (Or.inr rfl) (pe_callTy0 cr_set0T (by rfl) b_set (by decide +kernel)))
    (pss_cons (ps_for (passes_of rfl) rfl (pi_list (pv 2)) (pg_name (i := 5) sc_never_passed.nd rfl (Or.inl rfl))
      (pss_one (ps_forY (ix := 6) (passes_of rfl) rfl FY (hr.mono (by decide)) (by rfl) m_path k_path b_path (pa_cons (pv 5) (pa_cons (pv 1) pa_nil)) sc_never_passed.nd rfl rfl (psg_add (iS := 4) (ix := 6) hr.units rfl rfl (.inr (.inl rfl)) (.inl rfl) ⟨rfl, rfl⟩ ⟨rfl, rfl⟩ ⟨by rfl, by rfl, by rfl, by rfl⟩))))
    (pss_one (ps_ret (pe_lcG (own := [("tile", 6)]) (g := gName 6)  rfl sc_never_passed.nd (pi_list (pe_c g_tiles_with (hr.mono (by decide)) (passes_call (takes_of rfl rfl rfl rfl) (fun _ _ _ _ h => h)) (pa_cons (pe_pr (pv 0) T.cl p_rows (hr.mono (by decide))) (pa_cons (pe_gs v_MIRRORS) pa_nil)))) (blkOk_by (N := N_never_passed) (sc := defScope s_never_passed) (by decide +kernel)) (fun _ _ _ _ _ => (pg_name (i := 6) sc_never_passed.nd rfl (Or.inl rfl))) (fun _ _ _ _ _ => pts_one (pt_cmpR (op_inT true hr.units) (pv 6) (pv 4) (by rfl))) (fun _ _ _ _ _ => (pv 6))))))))), ?_⟩
  refine d_enter (n := 5) h (fun B ds R X hT hE ⟨g, ww, x, e, G, few, nx, b1, k⟩ _ => ?_) (fun _ _ z => z)
  subst e
  show WS _ _ [.d (.room g), .d x, .un, .un, .un, .un, .un] _ _
  walk_at "ws"
  refine wf_portE hE G nx (fun p hx hp => ?_) b1
  subst hx
  walk_at "ws"
  refine wf_follow G hp fun n f hn rho => ?_
  walk_at "ws"
  refine wc_set0 ?_
  walk_at "ws"
  refine ⟨fun j Γ => ∃ s5 s6, Γ = [.d (.room g), .d (.int (p : Nat)), .d (.lst (roomsD g p n)), .d (.int (f : Nat)), .mo (MSt P w ((pasL g p j).map kk)), s5, s6] ∧ (s6 = .un ∨ ∃ x, s6 = .d x), ⟨_, _, rfl, .inl rfl⟩, ?_, ?_⟩
  · rintro j x Γ2 hx ⟨s5, s6, rfl, hs6⟩
    have hj : j < n := by
      have := (List.getElem?_eq_some_iff.mp hx).1
      rw [roomsD_len] at this
      exact this
    rw [roomsD_at hj] at hx
    cases hx
    obtain ⟨Gj, lj, _⟩ := itG_grid G hp j
    walk_at "w"
    walk_at "k"
    refine ws_forY (by decide) ?_
    walk_at "ws"
    have inn := pas_in G hp (n := j)
    rw [← lj] at inn
    exact ⟨itG g p j, ww, p, _, s6, rfl, Gj, by rw [lj]; exact hp, by rw [lj]; exact few, rfl, inn, rfl, hs6, _, by walk_at "set", ⟨_, _, by rw [pasL_succ, List.map_append] <;> rfl, hs6⟩, fun d => ⟨_, _, by rw [pasL_succ, List.map_append] <;> rfl, .inr ⟨d, rfl⟩⟩⟩
  rintro Γ2 ⟨s5, s6, rfl, hs6⟩
  rw [roomsD_len]
  refine ws_drop6 (i := 6) (by rfl) hs6 (by walk_at "set") ?_
  clear hs6 s6
  walk_at "ws"
  refine w_lcF (is := [6]) (nevD g p n) (fun _ h => h) ?_
  walk_at "ws"
  refine wf_tilesW G mir_in ?_
  walk_at "ws"
  have hlt : (tiles mirS g).length ≤ 64 := tiles_le64 G
  refine ⟨rfl, by rw [dPs_len]; exact sz4 (by omega), rfl, fun i x hx => ?_, ?_⟩
  · obtain ⟨q, hq, rfl⟩ := dPs_inv hx
    walk_at "ws"
    refine wr_inSt (by rfl) ?_
    rw [show decide (kk q ∈ (pasL g p n).map kk) = decide (q ∈ pasL g p n) from decide_eq_decide.mpr kk_mem]
    refine ⟨_, rfl, fun z => ?_, fun z => ?_⟩
    · refine w_var (by rfl) ⟨_, .d _, rfl, ?_⟩
      rw [nevD_snoc hq, if_neg (by simpa using z)]
    · exact ⟨rfl, by rw [nevD_snoc hq, if_pos (by simpa using z)]⟩
  have e : nevD g p n (dPs (tiles mirS g)).length = dPs (nevL g p n) := by
    unfold nevD nevL
    rw [dPs_len, List.take_length]
  rw [e]
  exact k p n f rfl hp hn rho
end
end My
namespace My
open PySem PySem.Spec PyProof.Rows L2
/-! repeats, told in other words -/
section
variable {B : Org} {C U : Addr} {Γ : Ct} {K : Ct → Rs → Prop} {E : XK} {g : Gr} {w p : Nat}
theorem wf_nev (G : Grid 8 10 g w) (few : g.length * w < 63) (hp : p < 2 * (g.length + w)) (kk : ∀ n f, n ≤ 1024 → Rho g p n f → K Γ (.mo (ML (dPs (nevL g p n))))) : WF B C Γ (spD C (PNev U)) E [.d (.room g), .d (.int (p : Nat))] K :=
  wf_d (P := PNev U) (ds := [.room g, .int p]) (KE := fun _ _ => False) xokF ⟨g, w, .int p, rfl, G, few, nr_int _, fun z => (portD_bad z rfl hp).elim, fun p' n f e _ hn r _ => by
    obtain rfl := int_inj e
    exact kk n f hn r⟩
end
/-- all tiles, by number -/
def spotsL (h w : Nat) : List (Int × Int) := (List.range (h * w)).map fun k => (((k / w : Nat) : Int), ((k % w : Nat) : Int))
theorem spotsL_len (h w : Nat) : (spotsL h w).length = h * w := by
  unfold spotsL
  rw [List.length_map, List.length_range]
theorem spotsL_flat {w : Nat} (hw : 0 < w) : ∀ h, spotsL h w = (List.range h).flatMap fun (r : Nat) => (List.range w).map fun (c : Nat) => ((r : Int), (c : Int))
  | 0 => by unfold spotsL; rw [Nat.zero_mul]; rfl
  | h + 1 => by
    rw [List.range_succ, List.flatMap_append, ← spotsL_flat hw h]
    unfold spotsL
    rw [Nat.succ_mul, List.range_add, List.map_append, List.map_map]
    congr 1
    simp only [List.flatMap_cons, List.flatMap_nil, List.append_nil]
    apply List.map_congr_left
    intro c hc
    have hc := List.mem_range.mp hc
    have e1 : (h * w + c) / w = h := by
      rw [Nat.mul_comm, Nat.mul_add_div hw, Nat.div_eq_of_lt hc, Nat.add_zero]
    have e2 : (h * w + c) % w = c := by
      rw [Nat.mul_comm, Nat.mul_add_mod, Nat.mod_eq_of_lt hc]
    show ((((h * w + c) / w : Nat) : Int), (((h * w + c) % w : Nat) : Int)) = _
    rw [e1, e2]
/-- the sign at a tile -/
def sgQ (g : Gr) (q : Int × Int) : Sg := sgAt g q.1.toNat q.2.toNat
theorem hit_sg {f : Sg → Bool} {g : Gr} {r c w : Nat} (G : Grid 8 10 g w) (hr : r < g.length) (hc : c < w) : hit f g r c = f (sgAt g r c) := by
  unfold hit sgAt rowAt
  have hl : (g.getD r []).length = w := by
    rw [List.getD_eq_getElem?_getD, List.getElem?_eq_getElem hr]
    exact G.ln _ (List.getElem_mem hr)
  generalize g.getD r [] = l at hl ⊢
  obtain ⟨x, hx⟩ : ∃ x, l[c]? = some x := ⟨l[c]'(by rw [hl]; exact hc), List.getElem?_eq_getElem _⟩
  rw [List.getD_eq_getElem?_getD, hx]
  rfl
theorem tiles_spots {f : Sg → Bool} {g : Gr} {w : Nat} (G : Grid 8 10 g w) : tiles f g = (spotsL g.length w).filter fun q => f (sgQ g q) := by
  rw [spotsL_flat G.w0]
  unfold tiles tilesTo
  rw [List.filter_flatMap]
  simp only [List.flatMap]
  congr 1
  apply List.map_congr_left
  intro r hr
  have hr := List.mem_range.mp hr
  have hl : (g.getD r []).length = w := by
    rw [List.getD_eq_getElem?_getD, List.getElem?_eq_getElem hr]
    exact G.ln _ (List.getElem_mem hr)
  unfold rowTiles
  rw [hl, List.filter_map]
  congr 1
  apply List.filter_congr
  intro c hc
  rw [hit_sg G hr (List.mem_range.mp hc)]
  rfl
theorem spotsL_at {h w k : Nat} (hk : k < h * w) : (spotsL h w)[k]? = some (((k / w : Nat) : Int), ((k % w : Nat) : Int)) := by
  unfold spotsL
  rw [List.getElem?_map, List.getElem?_range hk] <;> rfl
theorem spot_in {h w : Nat} {q : Int × Int} (hw : 0 < w) (hq : q ∈ spotsL h w) : ∃ a b : Nat, q = ((a : Int), (b : Int)) ∧ a < h ∧ b < w := by
  unfold spotsL at hq
  obtain ⟨k, hk, rfl⟩ := List.mem_map.mp hq
  have hk := List.mem_range.mp hk
  exact ⟨k / w, k % w, rfl, Nat.div_lt_of_lt_mul (by rw [Nat.mul_comm]; exact hk), Nat.mod_lt _ hw⟩
theorem in_spots {h w : Nat} {q : Int × Int} (hw : 0 < w) (k : 0 ≤ q.1 ∧ q.1 < h ∧ 0 ≤ q.2 ∧ q.2 < w) : q ∈ spotsL h w := by
  rw [spotsL_flat hw]
  obtain ⟨k1, k2, k3, k4⟩ := k
  refine List.mem_flatMap.mpr ⟨q.1.toNat, List.mem_range.mpr (by omega), List.mem_map.mpr ⟨q.2.toNat, List.mem_range.mpr (by omega), ?_⟩⟩
  rw [Int.toNat_of_nonneg k1, Int.toNat_of_nonneg k3]
theorem spotsL_nd {h w : Nat} (hw : 0 < w) : (spotsL h w).Nodup := by
  unfold spotsL
  refine List.pairwise_map.mpr (List.Pairwise.imp_of_mem ?_ (List.pairwise_lt_range (n := h * w)))
  intro a b _ _ hab e
  injection e with e1 e2
  have e1 : a / w = b / w := by omega
  have e2 : a % w = b % w := by omega
  have h1 := Nat.div_add_mod a w
  have h2 := Nat.div_add_mod b w
  rw [e1, e2] at h1
  omega
/-- counted one by one they are all -/
theorem sum_count {l : List (Int × Int)} : ∀ {s : List (Int × Int)}, s.Nodup → (∀ q ∈ l, q ∈ s) → (s.map fun q => l.count q).sum = l.length := by
  induction l with
  | nil =>
    intro s _ _
    induction s with
    | nil => rfl
    | cons a s ih =>
      rw [List.map_cons, List.sum_cons, ih (List.nodup_cons.mp ‹_›).2 (fun _ h => by cases h)]
      rfl
  | cons x l ih =>
    intro s nd hs
    have h1 := ih nd (fun q hq => hs q (List.mem_cons_of_mem _ hq))
    have h2 : (s.map fun q => (x :: l).count q).sum = (s.map fun q => l.count q).sum + (s.map fun q => if x = q then 1 else 0).sum := by
      clear h1 nd hs ih
      induction s with
      | nil => rfl
      | cons a s ih =>
        rw [List.map_cons, List.sum_cons, List.map_cons, List.sum_cons, List.map_cons, List.sum_cons, ih, List.count_cons]
        by_cases z : x = a
        · simp [z]
          omega
        · simp [z]
          omega
    have h3 : ∀ {s : List (Int × Int)}, s.Nodup → x ∈ s → (s.map fun q => if x = q then 1 else 0).sum = 1 := by
      intro s
      induction s with
      | nil => exact fun _ h => by cases h
      | cons a s ih =>
        intro nd hx
        rw [List.nodup_cons] at nd
        rw [List.map_cons, List.sum_cons]
        by_cases z : x = a
        · subst z
          have : (s.map fun q => if x = q then 1 else 0).sum = 0 := by
            have hn := nd.1
            clear ih nd hx
            induction s with
            | nil => rfl
            | cons b s ih2 =>
              rw [List.map_cons, List.sum_cons, ih2 (fun z => hn (List.mem_cons_of_mem _ z)), if_neg (fun z => hn (by rw [z]; exact List.mem_cons_self))]
          rw [this, if_pos rfl]
        · rw [if_neg z, ih nd.2 ((List.mem_cons.mp hx).resolve_left z)]
    rw [h2, h1, h3 nd (hs x List.mem_cons_self), List.length_cons]
theorem cnt_none {g : Gr} {p : Nat} {q : Int × Int} : ∀ n, cntP g p q n = 0 ↔ q ∉ pasL g p n
  | 0 => by
    constructor
    · intro _ h
      cases h
    · exact fun _ => rfl
  | n + 1 => by
    rw [pasL_succ, List.mem_append, not_or, ← cnt_none n]
    show cntP g p q n + (trlP (itG g p n) p).count q = 0 ↔ _
    rw [Nat.add_eq_zero_iff, List.count_eq_zero]
theorem text_new {g : Gr} {w p n f i : Nat} (G : Grid 8 10 g w) (hp : p < 2 * (g.length + w)) (r : Rho g p n f) (hi : i < n) : inV (V.str (gtext (itG g p i))) (((List.range i).map fun k => Da.str (gtext (itG g p k))).map fv) = false := by
  rw [List.map_map]
  unfold inV
  rw [List.any_eq_false]
  intro x hx z
  obtain ⟨k, hk, rfl⟩ := List.mem_map.mp hx
  have hk := List.mem_range.mp hk
  have e : gtext (itG g p k) = gtext (itG g p i) := by
    have z : eqV (V.str (gtext (itG g p k))) (V.str (gtext (itG g p i))) = true := z
    simpa [eqV] using z
  exact r.dis k i hk hi (gtext_inj (itG_grid G hp k).1 (itG_grid G hp i).1 e)
theorem sg_dot (s : Sg) : (!decide (V.str s.str = V.str ".")) = mirS s := by cases s <;> decide +kernel
theorem sum_cast {α : Type} (h : α → Nat) : ∀ l : List α, (l.map fun q => ((h q : Nat) : Int)).sum = (((l.map h).sum : Nat) : Int)
  | [] => rfl
  | a :: l => by
    rw [List.map_cons, List.sum_cons, List.map_cons, List.sum_cons, sum_cast h l, Int.natCast_add]
theorem sum_all {g : Gr} {w p : Nat} (G : Grid 8 10 g w) (bk : Beam g w p) : ((spotsL g.length w).map fun q => ((cntP g p q 1 : Nat) : Int)).sum = (((trlP g p).length : Nat) : Int) := by
  have e : ∀ q, cntP g p q 1 = (trlP g p).count q := fun q => Nat.zero_add _
  rw [sum_cast (fun q => cntP g p q 1), show ((spotsL g.length w).map fun q => cntP g p q 1) = (spotsL g.length w).map fun q => (trlP g p).count q from List.map_congr_left fun q _ => e q, sum_count (spotsL_nd G.w0) fun q hq => in_spots G.w0 (trl_in bk q hq)]
/-- the mirrors among the first k tiles -/
def mrD (g : Gr) (h w k : Nat) : List Da := dPs (((spotsL h w).take k).filter fun q => mirS (sgQ g q))
theorem mrD_snoc {g : Gr} {h w k : Nat} {q : Int × Int} (e : (spotsL h w)[k]? = some q) : mrD g h w (k + 1) = if mirS (sgQ g q) = true then mrD g h w k ++ [dP q] else mrD g h w k := by
  unfold mrD dPs
  rw [take_snoc e, List.filter_append, List.map_append]
  by_cases z : mirS (sgQ g q) = true
  · rw [if_pos z]
    simp [z]
  · rw [if_neg z]
    simp [z]
end My
namespace My
open PySem PySem.Spec PyProof.Rows L2
/-! the law's own course of beams at one port -/
noncomputable def courseD (g : Gr) (p n : Nat) : List Da := (List.range n).map fun i => .tup [.int (exitP (itG g p i) p : Nat), .lst (dPs (trlP (itG g p i) p)), .lst (dLns (itG g p (i + 1)))]
theorem courseD_len {g : Gr} {p n : Nat} : (courseD g p n).length = n := by
  unfold courseD
  rw [List.length_map, List.length_range]
theorem courseD_at {g : Gr} {p n i : Nat} (h : i < n) : (courseD g p n)[i]? = some (.tup [.int (exitP (itG g p i) p : Nat), .lst (dPs (trlP (itG g p i) p)), .lst (dLns (itG g p (i + 1)))]) := by
  unfold courseD
  rw [List.getElem?_map, List.getElem?_range h] <;> rfl
theorem courseD_succ {g : Gr} {p n : Nat} : courseD g p (n + 1) = courseD g p n ++ [.tup [.int (exitP (itG g p n) p : Nat), .lst (dPs (trlP (itG g p n) p)), .lst (dLns (itG g p (n + 1)))]] := by
  unfold courseD
  rw [List.range_succ, List.map_append] <;> rfl
/-- rows as a key -/
def keyG (g : Gr) : List Key := g.map fun l => .inr (lstr l)
theorem keyG_da {g : Gr} : Rs.d (.tup (dLns g)) = .d (DKt.da (keyG g)) := by
  show Rs.d (.tup (dLns g)) = .d (.tup ((keyG g).map kD))
  unfold keyG dLns
  rw [List.map_map] <;> rfl
theorem keyG_inj {g k : Gr} (e : keyG g = keyG k) : g = k := by
  refine List.map_inj_right (fun _ _ z => ?_) |>.mp (show g.map (fun l => (Sum.inr (lstr l) : Key)) = k.map _ from e)
  injection z with z
  exact lstr_inj z
noncomputable def numsK (g : Gr) (p n : Nat) : List (List Key × Da) := (List.range n).map fun i => (keyG (itG g p i), .int (i : Nat))
theorem numsK_succ {g : Gr} {p n : Nat} : numsK g p (n + 1) = numsK g p n ++ [(keyG (itG g p n), .int (n : Nat))] := by
  unfold numsK
  rw [List.range_succ, List.map_append] <;> rfl
theorem numsK_none {g : Gr} {p n k : Nat} (h : ∀ i, i < n → itG g p i ≠ itG g p k) : valD (numsK g p n) (keyG (itG g p k)) = none := by
  rw [valD_none]
  intro e he z
  unfold numsK at he
  obtain ⟨i, hi, rfl⟩ := List.mem_map.mp he
  exact h i (List.mem_range.mp hi) (keyG_inj z)
theorem numsK_some {g : Gr} {p n k : Nat} (e : itG g p n = itG g p k) : ∀ m, k < m → (∀ i j, i < j → j < m → itG g p i ≠ itG g p j) → valD (numsK g p m) (keyG (itG g p n)) = some (.int (k : Nat))
  | 0, h, _ => absurd h (by omega)
  | m + 1, h, dis => by
    have h0 : valD (numsK g p m) (keyG (itG g p m)) = none := numsK_none fun i hi => dis i m hi (by omega)
    have hv := valD_put (numsK g p m) (keyG (itG g p m)) (keyG (itG g p n)) (.int (m : Nat))
    rw [putD_new h0, ← numsK_succ] at hv
    rw [hv]
    by_cases hk : k = m
    · subst hk
      rw [if_pos (by rw [e])]
    · rw [if_neg fun z => dis k m (by omega) (by omega) (e.symm.trans (keyG_inj z))]
      exact numsK_some e m (by omega) fun i j h1 h2 => dis i j h1 (by omega)
def PCourse : DP := fun ds R _ => ∃ g w p, ds = [.lst (dLns g), .int (p : Nat)] ∧ Grid 8 10 g w ∧ p < 2 * (g.length + w) ∧ ∀ n f, n ≤ 1024 → Rho g p n f → R (.d (.tup [.lst (courseD g p n), .int (f : Nat)]))
def ixF (n f k : Nat) : Nat := if k < n then k else f + (k - f) % (n - f)
def PIndex : DP := fun ds R _ => ∃ g p n f k, ds = [.tup [.lst (courseD g p n), .int (f : Nat)], .int (k : Nat)] ∧ f < n ∧ n ≤ 1024 ∧ k ≤ 1000000000000000000 ∧ R (.d (.int (ixF n f k : Nat)))
/-- the source of numbers, as an own object -/
def FSn : Fam Unit := ⟨fun o _ => MSo o, fun _ _ => rfl, fun ⟨e, k, _⟩ q => ⟨e, k, q⟩⟩
def PNum : MP Unit := fun _ ds R _ => ds = [] ∧ ∀ m : Nat, 0 < m → m ≤ 1000000000000000000 → R () (.d (.int (m : Nat)))
abbrev s_l_course : Stmt := (top 46)
abbrev N_l_course : List Str := ["_law_lines_here", "_law_port", "_law_found", "_law_seen"]
theorem sc_l_course : FnScope N_l_course ["_law_lines_here", "_law_port"] (defScope s_l_course) := ⟨rfl, rfl, rfl, by decide +kernel, rfl, by decide +kernel, by decide +kernel⟩

abbrev s_l_index : Stmt := (top 49)
abbrev N_l_index : List Str := ["_law_course_here", "_law_number_here", "_law_many", "_law_start"]
theorem sc_l_index : FnScope N_l_index ["_law_course_here", "_law_number_here"] (defScope s_l_index) := ⟨rfl, rfl, rfl, by decide +kernel, rfl, by decide +kernel, by decide +kernel⟩

abbrev s_l_number : Stmt := (top 48)
abbrev N_l_number : List Str := ["_law_d"]
theorem sc_l_number : FnScope N_l_number ["_law_d"] (defScope s_l_number) := ⟨rfl, rfl, rfl, by decide +kernel, rfl, by decide +kernel, by decide +kernel⟩

local macro_rules | `(tactic| walk_at "sm") => `(tactic| first
  | exact .int _
  | exact .bl _
  | exact .str _
  | exact .non
  | exact sm_dP _
  | exact sm_dPs (by omega)
  | exact sm_dNs (by omega)
  | exact sm_lns (by omega)
  | exact sm_lnsT (by omega)
  | (refine .lst (Nat.le_of_ble_eq_true rfl) ?_; walk_at "sms")
  | (refine .tup (Nat.le_of_ble_eq_true rfl) ?_; walk_at "sms"))
local macro_rules | `(tactic| walk_at "sms") => `(tactic| first
  | exact sm_nil
  | ((refine sm_cons ?a ?b); (case a => walk_at "sm"); (case b => walk_at "sms")))
local macro_rules | `(tactic| walk_at "set") => `(tactic| (simp only [List.set_cons_zero, List.set_cons_succ] <;> rfl))
local macro_rules | `(tactic| walk_at "put") => `(tactic| first
  | exact .nil _
  | (refine .cons (.d _) (ltL rfl) ?_; walk_at "put")
  | (refine .cons (.m _) (ltL rfl) ?_; walk_at "put"))
local macro_rules | `(tactic| walk_at "puts") => `(tactic| (refine ⟨?g2, ?g3, ?pa, ?pb, ?pc⟩; (case pa => walk_at "put"); (case pb => walk_at "set"); try (case g2 => skip)))
local macro_rules | `(tactic| walk_at "k") => `(tactic| first
  | ((refine ⟨_, ?g2, .d _, ltL rfl, ?pb, ?pc⟩); (case pb => walk_at "set"))
  | ((refine ⟨_, ?g2, .m _, ltL rfl, ?pb, ?pc⟩); (case pb => walk_at "set"))
  | ((refine ⟨?g2, ltL rfl, ?pb, ?pc⟩); (case pb => walk_at "set"))
  | refine ⟨_, .d _, ?_⟩
  | refine ⟨_, .m _, ?_⟩
  | refine ⟨_, _, _, rfl, by assumption, by assumption, ?_⟩
  | refine ⟨_, rfl, ?_⟩
  | refine ⟨_, .m, ?_⟩
  | refine ⟨_, .d, ?_⟩
  | refine ⟨_, .a rfl, ?_⟩
  | refine ⟨⟨_, .a rfl⟩, ?_⟩
  | refine ⟨⟨_, .m⟩, ?_⟩
  | refine ⟨⟨_, .d⟩, ?_⟩
  | refine ⟨fun _ => ?_, fun hz => absurd hz Bool.false_ne_true⟩
  | refine ⟨fun _ => ?_, fun hz => absurd hz.symm Bool.false_ne_true⟩
  | refine ⟨fun hz => absurd hz Bool.false_ne_true, fun _ => ?_⟩
  | refine ⟨fun hz => absurd hz.symm Bool.false_ne_true, fun _ => ?_⟩
  | ((refine ⟨Nat.le_of_ble_eq_true rfl, rfl, ?g2, ?g3, ?pa, ?pb, ?pc⟩); (case pa => walk_at "put"); (case pb => walk_at "set"))
  | ((refine ⟨?g2, ?g3, ?pa, ?pb, ?pc⟩); (case pa => walk_at "put"); (case pb => walk_at "set"))
  | refine ⟨Nat.le_of_ble_eq_true rfl, ?_⟩)
local macro_rules | `(tactic| walk_at "app") => `(tactic| ((refine ⟨_, _, ?g2, .d _, rfl, ?hl, ?pb, ?pc⟩); (case pb => walk_at "set")))
local macro_rules | `(tactic| walk_at "w") => `(tactic| first
  | with_reducible refine ws_seq ?_
  | with_reducible refine ws_next ?_
  | with_reducible refine sw_set ?_
  | with_reducible refine ws_if ?_
  | with_reducible refine ws_put2 ?_
  | with_reducible refine ws_putL ?_
  | with_reducible refine sw_names2 ?_
  | with_reducible refine sw_names3 ?_
  | with_reducible refine sw_names4 ?_
  | with_reducible refine sw_names5 ?_
  | with_reducible refine sw_names6 ?_
  | with_reducible refine sw_names7 ?_
  | with_reducible refine sw_asg ?_
  | with_reducible refine sw_for ?_
  | with_reducible refine tg_name ?_
  | with_reducible refine tgs_nil ?_
  | with_reducible refine tgs_cons ?_
  | ((with_reducible refine tg_tup ?hn ?_); (case hn => rfl))
  | ((with_reducible refine tg_lst ?hn ?_); (case hn => rfl))
  | with_reducible refine ws_ret ?_
  | with_reducible refine ws_drop ?_
  | with_reducible refine sw_par ?_
  | with_reducible refine sw_par3 ?_
  | with_reducible refine w_int ?_
  | with_reducible refine w_str ?_
  | with_reducible refine w_bl ?_
  | with_reducible refine w_non ?_
  | ((with_reducible refine w_var (x := ?x0) ?hv ?_); (case hv => exact rfl))
  | ((with_reducible refine w_al (m := ?m0) ?hv ?_); (case hv => exact rfl))
  | ((with_reducible refine w_ix2 (a := ?a0) (b := ?b0) (ms := ?ms0) ?h1 ?h2 ?h3 ?hk); (case h1 => exact rfl); (case h2 => exact rfl); (case h3 => exact rfl))
  | with_reducible refine w_op ?_
  | with_reducible refine w_neg ?_
  | with_reducible refine w_un ?_
  | with_reducible refine wa_cons ?_
  | with_reducible refine wa_nil ?_
  | with_reducible refine waf_cons ?_
  | with_reducible refine waf_nil ?_
  | with_reducible refine w_tupF ?_
  | with_reducible refine w_lstF ?_
  | with_reducible refine w_cr ?_
  | with_reducible refine w_cb ?_
  | with_reducible refine w_mkBench ?_
  | ((with_reducible refine wb_now (s := ?s0) (o := ?o0) ?hv ?_); (case hv => exact rfl))
  | ((with_reducible refine wb_passes (s := ?s0) (o := ?o0) ?hv ?hl ?_); (case hv => exact rfl); (case hl => (first | assumption | omega)))
  | ((with_reducible refine wb_ops (s := ?s0) (o := ?o0) ?hv ?hl ?_); (case hv => exact rfl); (case hl => (first | assumption | omega)))
  | ((with_reducible refine wb_meth inb_beam (s := ?s0) (o := ?o0) ?hv ?_); (case hv => exact rfl))
  | ((with_reducible refine wb_meth inb_turn (s := ?s0) (o := ?o0) ?hv ?_); (case hv => exact rfl))
  | ((with_reducible refine wb_meth inb_turn_all (s := ?s0) (o := ?o0) ?hv ?_); (case hv => exact rfl))
  | ((with_reducible refine wb_meth inb_undo (s := ?s0) (o := ?o0) ?hv ?_); (case hv => exact rfl))
  | ((with_reducible refine wb_meth inb_redo (s := ?s0) (o := ?o0) ?hv ?_); (case hv => exact rfl))
  | ((with_reducible refine wb_meth inb_save (s := ?s0) (o := ?o0) ?hv ?_); (case hv => exact rfl))
  | ((with_reducible refine wb_meth inb_restore (s := ?s0) (o := ?o0) ?hv ?_); (case hv => exact rfl))
  | ((with_reducible refine wb_meth inb_state (s := ?s0) (o := ?o0) ?hv ?_); (case hv => exact rfl))
  | ((with_reducible refine wb_meth inb_back (s := ?s0) (o := ?o0) ?hv ?_); (case hv => exact rfl))
  | ((with_reducible refine wb_meth inb_batch (s := ?s0) (o := ?o0) ?hv ?_); (case hv => exact rfl))
  | ((with_reducible refine wb_meth inb_exec (s := ?s0) (o := ?o0) ?hv ?_); (case hv => exact rfl))
  | ((with_reducible refine wb_meth inb_step (s := ?s0) (o := ?o0) ?hv ?_); (case hv => exact rfl))
  | with_reducible refine w_pr ?_
  | with_reducible refine wf_rows ?_
  | with_reducible refine wf_text (by assumption) ?_
  | with_reducible refine wf_size (by assumption) ?_
  | with_reducible refine wf_turning (by assumption) ?_
  | with_reducible refine wu_inv (by assumption) ?_
  | with_reducible refine wc_lenO (by assumption) ?_
  | with_reducible refine wc_boolO (by assumption) ?_
  | ((with_reducible refine wc_lenL (l := ?l0) ?hv ?_); (case hv => first | exact .d | exact .m | (refine .a ?_; exact rfl)))
  | with_reducible refine wc_lenT ?_
  | ((with_reducible refine wc_listL (l := ?l0) ?hv ?_); (case hv => first | exact .d | exact .m | (refine .a ?_; exact rfl)))
  | with_reducible refine wc_listT ?_
  | ((with_reducible refine wc_tupL (l := ?l0) ?hv ?_); (case hv => first | exact .d | exact .m | (refine .a ?_; exact rfl)))
  | with_reducible refine wc_min2 ?_
  | with_reducible refine w_callO ?_
  | with_reducible refine w_chain ?_
  | with_reducible refine w_join ?_
  | with_reducible refine w_notV ?_
  | with_reducible refine w_andV ?_
  | with_reducible refine w_orV ?_
  | with_reducible refine w_if ?_
  | with_reducible refine wt_test ?_
  | with_reducible refine wt_B ?_
  | with_reducible refine wt_not ?_
  | with_reducible refine wt_and ?_
  | with_reducible refine wt_or ?_
  | with_reducible refine wo_none ?_
  | with_reducible refine wo_some ?_
  | with_reducible refine w_slL ?_
  | with_reducible refine w_slR ?_
  | with_reducible refine w_slS ?_
  | with_reducible refine w_revL ?_
  | ((with_reducible refine wr_eqNl (l := ?l0) ?hv ?_); (case hv => first | exact .d | exact .m | (refine .a ?_; exact rfl)))
  | ((with_reducible refine wr_neNl (l := ?l0) ?hv ?_); (case hv => first | exact .d | exact .m | (refine .a ?_; exact rfl)))
  | with_reducible refine wc_intB ?_
  | with_reducible refine wc_intI ?_
  | with_reducible refine wr_ixLn (by assumption) (by assumption) ?_
  | with_reducible refine wr_ixLn0 (by assumption) ?_
  | with_reducible refine wr_ixSg (by assumption) (by assumption) (by assumption) ?_
  | with_reducible refine wc_lenLn (by assumption) (by assumption) ?_
  | with_reducible refine wr_notInRf ?_
  | with_reducible refine wr_inRf ?_
  | with_reducible refine wr_eqR ?_
  | with_reducible refine wr_catR1 (by assumption) (by assumption) ?_
  | with_reducible refine wr_catR2 (by assumption) (by assumption) (by assumption) ?_
  | with_reducible refine wr_catG1 (by assumption) ?_
  | with_reducible refine wr_catG2 (by assumption) (by assumption) ?_
  | with_reducible refine wr_I0i ?_
  | with_reducible refine wr_I0b ?_
  | ((with_reducible refine wr_neF (u := ?u0) ?hv ?_); (case hv => exact rfl))
  | ((with_reducible refine wr_eqF (u := ?u0) ?hv ?_); (case hv => exact rfl))
  | ((with_reducible refine wr_eqS0 ?hc ?_); (case hc => decide +kernel))
  | ((with_reducible refine wr_neS0 ?hc ?_); (case hc => decide +kernel))
  | ((with_reducible refine wr_ixL (l := ?l0) (x := ?x0) ?hw ?hv ?_); (case hw => first | exact .d | exact .m | (refine .a ?_; exact rfl)); (case hv => exact rfl))
  | ((with_reducible refine wr_ixT (l := ?l0) (x := ?x0) ?hv ?_); (case hv => exact rfl))
  | with_reducible refine sg_name ?_
  | with_reducible refine wt_yes ?_
  | with_reducible refine w_repl ?_
  | with_reducible refine wi_rng1 ?_
  | with_reducible refine wi_rng2 ?_
  | ((with_reducible refine wi_fzA (l := ?l0) (Γ2 := ?g2) ?hv ?ht ?hs ?_); (case hv => exact rfl); (case ht => first | exact fun _ => id | apply_assumption); (case hs => walk_at "set"))
  | with_reducible refine wi_list ?_
  | with_reducible refine wi_tup ?_
  | with_reducible refine wi_str ?_
  | ((with_reducible refine sw_append (l := ?l0) ?hv ?_); (case hv => exact rfl))
  | with_reducible refine wr_isN ?_
  | with_reducible refine wr_notN ?_
  | with_reducible refine w_dnewK ?_
  | ((with_reducible refine w_dinS (z := ?z0) (l := ?l0) ?h1 ?h2 ?_); (case h1 => exact rfl); (case h2 => exact rfl))
  | with_reducible refine ws_dputS ?_
  | with_reducible refine w_appNew ?_
  | with_reducible refine w_bm ?_)
local macro_rules | `(tactic| walk_at "ws") => `(tactic| repeat (first | walk_at "w" | walk_at "k"))
local macro_rules | `(tactic| walk_at "wn") => `(tactic| repeat ((fail_if_success (with_reducible refine ws_seq ?_)); first | walk_at "w" | walk_at "k"))
section
variable {P : Program} {w : World} {K : PySem.W.Frag} {mg : Str → Option Value} {base : Heap}
theorem ok_lcourse {C f : Addr} {fd : FuncData} (F : Fun K "_law_course" "_law_course" s_l_course f fd) (T : Txt mg) (g_l_beam : GF P w K mg base "_law_beam" 2 (spD C PBeam)) :
    FnOk P w K mg base (L2.CX P w) 3 f fd ["_law_lines_here", "_law_port"] (spD C PCourse) := by
  refine F.okX sc_l_course (fun vs H Q E h => spD_len (n := 2) (fun ds R X ⟨g, w, p, e, _⟩ => by rw [e] <;> rfl) h) (fun cdv A outer s H vs Q E hr h => ?_)
  obtain ⟨v0, v1, rfl⟩ := vs_2 (spD_len (n := 2) (fun ds R X ⟨g, w, p, e, _⟩ => by rw [e] <;> rfl) h)
  refine ⟨_, (pss_cons (ps_par (i := 2) (j := 3) (by rfl) sc_l_course.nd rfl rfl (by decide) rfl rfl (pa_cons (pe_lst pa_nil) (pa_cons pe_dnewT pa_nil)) (by rfl))
    (pss_cons (ps_while (passes_of rfl) (pt_cmp (pc_dnotin (hu_of hr) (pe_callTy call_tuple_of (by rfl) T.b_tuple (by decide +kernel) (pa_cons (pv 0) pa_nil)) (pv 3)))
      (pss_cons (ps_dput (hu_of hr) (pv 3) (pe_callTy call_tuple_of (by rfl) T.b_tuple (by decide +kernel) (pa_cons (pv 0) pa_nil)) (pe_callB call_len_seq (by rfl) T.b_len PySem.boot_len (pa_cons (pv 2) pa_nil)) (by rfl))
      (pss_cons (ps_expr (pe_bm PySem.F.plainAttrs_list PySem.F.slot_list_append PySem.F.type_list_append mt_append (pv 2) (pa_cons (pe_c g_l_beam (hr.mono (by decide)) passL (pa_cons (pv 0) (pa_cons (pv 1) pa_nil))) pa_nil)))
      (pss_one (ps_set (i := 0) sc_l_course.nd rfl (Or.inl rfl) (pe_ix ix_tup (pe_ix ix_list (pv 2) (pe_un un_neg pe_int) (fun _ _ => rfl)) pe_int (fun _ _ => rfl)))))))
    (pss_one (ps_ret (pe_tup (pa_cons (pv 2) (pa_cons (pe_dget (hu_of hr) (pv 3) (pe_callTy call_tuple_of (by rfl) T.b_tuple (by decide +kernel) (pa_cons (pv 0) pa_nil)) (fun _ _ => rfl)) pa_nil))))))), ?_⟩
  refine d_enter (n := 2) h (fun B ds R X hT hE ⟨g, ww, p, e, G, hp, k⟩ _ => ?_) (fun _ _ z => z)
  subst e
  obtain ⟨n, f, hn, rho⟩ := Rho.ex G hp
  have k := k n f hn rho
  show WS _ _ [.d (.lst (dLns g)), .d (.int (p : Nat)), .un, .un] _ _
  walk_at "ws"
  refine w_dnewT ?_
  walk_at "ws"
  refine ws_while (fun m Γ => ∃ k, k ≤ n ∧ m = n - k ∧ Γ = [.d (.lst (dLns (itG g p k))), .d (.int (p : Nat)), .mo (ML (courseD g p k)), .mo (MDz DKt (numsK g p k))]) n ⟨0, Nat.zero_le _, rfl, rfl⟩ ?_
  rintro m Γ2 ⟨j, hj, rfl, rfl⟩
  obtain ⟨Gj, lj, _⟩ := itG_grid G hp j
  refine wt_B (w_dnotin (Z := DKt) ?_)
  walk_at "ws"
  refine ⟨keyG (itG g p j), keyG_da, ?_⟩
  walk_at "ws"
  refine ⟨_, _, rfl, rfl, ?_⟩
  rcases Nat.lt_or_ge j n with hjn | hjn
  · have hno := numsK_none (g := g) (p := p) (n := j) (k := j) fun i hi => rho.dis i j hi hjn
    rw [hno]
    walk_at "ws"
    refine ws_dput (Z := DKt) ?_
    walk_at "ws"
    rw [courseD_len]
    refine ⟨_, _, .d _, rfl, ?_⟩
    walk_at "ws"
    refine ⟨keyG (itG g p j), numsK g p j, _, keyG_da, rfl, ?_, by walk_at "set", ?_⟩
    · unfold numsK
      rw [List.length_map, List.length_range]
      omega
    rw [putD_new hno, ← numsK_succ]
    walk_at "ws"
    refine wf_lbeam Gj (by rw [lj]; exact hp) ?_
    walk_at "ws"
    walk_at "app"
    · rw [courseD_len]
      omega
    walk_at "ws"
    refine wr_ixL (.a rfl) (atI_last _ _) ?_
    walk_at "ws"
    exact ⟨n - (j + 1), by omega, j + 1, hjn, rfl, by rw [courseD_succ] <;> rfl⟩
  · have e : j = n := by omega
    subst e
    have hso := numsK_some rho.eq j rho.lt rho.dis
    rw [hso]
    refine ⟨_, rfl, fun z => (by cases z), fun _ => ?_⟩
    refine ws_fz 2 (by rfl) (hT 2) (by walk_at "set") ?_
    walk_at "ws"
    refine w_dget (Z := DKt) ?_
    walk_at "ws"
    refine ⟨keyG (itG g p j), _, _, keyG_da, rfl, hso, ?_⟩
    walk_at "ws"
    exact k
theorem ok_lindex {C f : Addr} {fd : FuncData} (F : Fun K "_law_index" "_law_index" s_l_index f fd) (T : Txt mg) :
    FnOk P w K mg base (L2.CX P w) 1 f fd ["_law_course_here", "_law_number_here"] (spD C PIndex) := by
  refine F.okX sc_l_index (fun vs H Q E h => spD_len (n := 2) (fun ds R X ⟨g, w, p, f, k, e, _⟩ => by rw [e] <;> rfl) h) (fun cdv A outer s H vs Q E hr h => ?_)
  obtain ⟨v0, v1, rfl⟩ := vs_2 (spD_len (n := 2) (fun ds R X ⟨g, w, p, f, k, e, _⟩ => by rw [e] <;> rfl) h)
  refine ⟨_, (pss_cons (ps_par (i := 2) (j := 3) (by rfl) sc_l_index.nd rfl rfl (by decide) rfl rfl (pa_cons (pe_callB call_len_seq (by rfl) T.b_len PySem.boot_len (pa_cons (pe_ix ix_tup (pv 0) pe_int (fun _ _ => rfl)) pa_nil)) (pa_cons (pe_ix ix_tup (pv 0) pe_int (fun _ _ => rfl)) pa_nil)) (by rfl))
    (pss_one (ps_ret (pe_ifExp (pt_cmpR op_lt (pv 1) (pv 2) (nomark _)) (pv 1) (pe_op op_add (pv 3) (pe_op op_mod (pe_op op_sub (pv 1) (pv 3)) (pe_op op_sub (pv 2) (pv 3)))))))), ?_⟩
  refine d_enter (n := 2) h (fun B ds R X hT hE ⟨g, p, n, f, k, e, hf, hn, hk, kk⟩ _ => ?_) (fun _ _ z => z)
  subst e
  show WS _ _ [.d (.tup [.lst (courseD g p n), .int (f : Nat)]), .d (.int (k : Nat)), .un, .un] _ _
  walk_at "ws"
  rw [courseD_len]
  walk_at "ws"
  refine ⟨fun c1 => ?_, fun c1 => ?_⟩
  · have c1 := of_decide_eq_true c1
    walk_at "ws"
    rw [ixF, if_pos (by omega)] at kk
    exact kk
  · have c1 := of_decide_eq_false c1
    walk_at "ws"
    have e1 : ((k : Nat) : Int) - ((f : Nat) : Int) = ((k - f : Nat) : Int) := by omega
    have e2 : ((n : Nat) : Int) - ((f : Nat) : Int) = ((n - f : Nat) : Int) := by omega
    rw [e1, e2]
    refine wr_Ii (by omega) ?_
    walk_at "ws"
    rw [ixF, if_neg (by omega)] at kk
    exact kk
theorem ok_lnumber {C f : Addr} {fd : FuncData} (F : Fun K "_law_number" "_law_number" s_l_number f fd) (T : Txt mg) (g_l_below : GF P w K mg base "_law_below" 1 sp_below) :
    FnOk P w K mg base (L2.CX P w) 2 f fd ["_law_d"] (spM FSn C PNum) := by
  refine F.okX sc_l_number (fun vs H Q E h => spM_len (n := 0) (fun s ds R X ⟨e, _⟩ => by rw [e] <;> rfl) h) (fun cdv A outer s H vs Q E hr h => ?_)
  have hl := spM_len (n := 0) (fun s ds R X ⟨e, _⟩ => by rw [e] <;> rfl) h
  obtain ⟨v0, rfl⟩ : ∃ a, vs = [a] := by
    match vs, hl with
    | [a], _ => exact ⟨a, rfl⟩
  refine ⟨_, (pss_one (ps_ret (pe_ix ix_list (pe_lst (pa_cons (pe_op op_add pe_int (pe_c g_l_below (hr.mono (by decide)) passL (pa_cons (pv 0) (pa_cons pe_int pa_nil)))) (pa_cons (pe_op op_sub (pe_op op_pow pe_int pe_int) (pe_c g_l_below (hr.mono (by decide)) passL (pa_cons (pv 0) (pa_cons (pe_op op_pow pe_int pe_int) pa_nil)))) pa_nil))) (pe_c g_l_below (hr.mono (by decide)) passL (pa_cons (pv 0) (pa_cons pe_int pa_nil))) (fun _ _ => rfl)))), ?_⟩
  refine m_enter (n := 0) h (fun B a st ds R X hT hE ⟨e, k⟩ _ => ?_) (fun _ _ z => z)
  subst e
  show WS _ _ [.mo (MSo (some a))] _ _
  walk_at "ws"
  refine wf_below (by rfl) (by decide) (by decide) fun x hx => ?_
  walk_at "ws"
  refine wr_Ii ⟨by decide, by decide, by decide⟩ ?_
  rw [show (10 : Int) ^ (Int.toNat 18) = 1000000000000000000 from by decide]
  walk_at "ws"
  refine wr_Ii ⟨by decide, by decide, by decide⟩ ?_
  rw [show (10 : Int) ^ (Int.toNat 6) = 1000000 from by decide]
  walk_at "ws"
  refine wf_below (by rfl) (by decide) (by decide) fun y hy => ?_
  walk_at "ws"
  refine wf_below (by rfl) (by decide) (by decide) fun z hz => ?_
  obtain ⟨m, hm, m0, m1⟩ : ∃ m : Nat, ([.int (1 + ((x : Nat) : Int)), .int (1000000000000000000 - ((y : Nat) : Int))] : List Da)[z]? = some (.int (m : Nat)) ∧ 0 < m ∧ m ≤ 1000000000000000000 := by
    have hz : z < 2 := by omega
    match z, hz with
    | 0, _ => exact ⟨1 + x, by show some (Da.int _) = some (.int _); rw [Int.natCast_add] <;> rfl, by omega, by omega⟩
    | 1, _ => exact ⟨1000000000000000000 - y, by show some (Da.int _) = some (.int _); rw [show ((1000000000000000000 - y : Nat) : Int) = 1000000000000000000 - ((y : Nat) : Int) from by omega], by omega, by omega⟩
  refine wr_ixL .m (atI_nat hm) ?_
  exact ⟨(), rfl, k m m0 m1⟩
end
section
variable {B : Org} {C : Addr} {Γ : Ct} {K : Ct → Rs → Prop} {E : XK} {g : Gr} {w p : Nat}
theorem wf_course (G : Grid 8 10 g w) (hp : p < 2 * (g.length + w)) (kk : ∀ n f, n ≤ 1024 → Rho g p n f → K Γ (.d (.tup [.lst (courseD g p n), .int (f : Nat)]))) : WF B C Γ (spD C PCourse) E [.d (.lst (dLns g)), .d (.int (p : Nat))] K :=
  wf_d (P := PCourse) (ds := [.lst (dLns g), .int p]) (KE := fun _ _ => False) xokF ⟨g, w, p, rfl, G, hp, fun n f hn r _ => kk n f hn r⟩
theorem wf_ix {n f k : Nat} (hf : f < n) (hn : n ≤ 1024) (hk : k ≤ 1000000000000000000) (kk : K Γ (.d (.int (ixF n f k : Nat)))) : WF B C Γ (spD C PIndex) E [.d (.tup [.lst (courseD g p n), .int (f : Nat)]), .d (.int (k : Nat))] K :=
  wf_d (P := PIndex) (ds := [.tup [.lst (courseD g p n), .int (f : Nat)], .int k]) (KE := fun _ _ => False) xokF ⟨g, p, n, f, k, rfl, hf, hn, hk, fun _ => kk⟩
theorem wf_num {j : Nat} (hj : Γ[j]? = some (.mo MS)) (k : ∀ m : Nat, 0 < m → m ≤ 1000000000000000000 → K Γ (.d (.int (m : Nat)))) : WF B C Γ (spM FSn C PNum) E [.al j] K :=
  wf_m (M := FSn) (P := PNum) (o := none) (s := ()) (ds := []) (KE := fun _ _ => False) xokF hj ⟨rfl, fun m h0 h1 _ => by
    rw [show (FSn).m none () = MS from rfl, set_gm hj]
    exact k m h0 h1⟩
end
theorem ixF_it {g : Gr} {p n f : Nat} (r : Rho g p n f) (k : Nat) : itG g p (ixF n f k) = itG g p k ∧ ixF n f k < n := by
  have h := r.lt
  unfold ixF
  by_cases z : k < n
  · rw [if_pos z]
    exact ⟨rfl, z⟩
  · rw [if_neg z]
    have := Nat.mod_lt (k - f) (show 0 < n - f by omega)
    exact ⟨(r.at_ (by omega)).symm, by omega⟩
/-! how long: finer bounds -/
theorem Rho.le {g : Gr} {w p n f : Nat} (G : Grid 8 10 g w) (hp : p < 2 * (g.length + w)) (r : Rho g p n f) : n ≤ 2 ^ gcount g := by
  have nd : ((List.range n).map (itG g p)).Nodup := by
    refine List.pairwise_map.mpr (List.Pairwise.imp_of_mem ?_ (List.pairwise_lt_range (n := n)))
    intro a b _ hb hab e
    exact r.dis a b hab (List.mem_range.mp hb) e
  have le := nodup_le _ (gvar g) nd (fun x hx => by
    obtain ⟨i, _, rfl⟩ := List.mem_map.mp hx
    exact gvar_mem (itG_grid G hp i).2.2.symm)
  rw [List.length_map, List.length_range, gvar_len] at le
  exact le
theorem trl_short {g : Gr} {w p t : Nat} (G : Grid 8 10 g w) (bk : Beam g w p) (ht : gcount g ≤ t) : (trlP g p).length ≤ 2 ^ t * (g.length * (w * 4)) := by
  obtain ⟨r, c, n, h1, h2, e⟩ := bk.trl
  obtain ⟨n', k1, k2, k3⟩ := leaves (h := g.length) (w := w) (x := enter g r c) ⟨rfl, G.ln⟩ (enter_dir g r c) (enter_out (places_beside (List.mem_of_getElem? h1)))
  have en : n = n' := h2.one ⟨k2, k3⟩
  rw [e, trail_len, en]
  exact Nat.le_trans k1 (Nat.mul_le_mul_right _ (Nat.pow_le_pow_right (by decide) ht))
theorem pas_short {g : Gr} {w p n t : Nat} (G : Grid 8 10 g w) (hp : p < 2 * (g.length + w)) (ht : gcount g ≤ t) : (pasL g p n).length ≤ n * (2 ^ t * (g.length * (w * 4))) := by
  induction n with
  | zero => exact Nat.le_of_eq (by rw [Nat.zero_mul]; rfl)
  | succ n ih =>
    obtain ⟨Gi, li, bi⟩ := itG_grid G hp n
    have h1 := trl_short Gi (beam Gi (p := p) (by rw [li]; exact hp)) (t := t) (by rw [gcount_bas bi]; exact ht)
    rw [li] at h1
    rw [pasL_succ, List.length_append, Nat.succ_mul]
    exact Nat.add_le_add ih h1
theorem eqv_dP (p q : Int × Int) : (py (dP p)).eqv (py (dP q)) = decide (p = q) := by
  have h := count_py [p] q
  rw [show dPs [p] = [dP p] from rfl, List.countP_singleton, List.count_singleton] at h
  by_cases z : p = q
  · rw [decide_eq_true z]
    rw [if_pos (show (p == q) = true from beq_iff_eq.mpr z)] at h
    by_cases y : (py (dP p)).eqv (py (dP q)) = true
    · exact y
    · rw [if_neg y] at h
      cases h
  · rw [decide_eq_false z]
    rw [if_neg (show ¬ (p == q) = true from fun y => z (beq_iff_eq.mp y))] at h
    by_cases y : (py (dP p)).eqv (py (dP q)) = true
    · rw [if_pos y] at h
      cases h
    · exact Bool.eq_false_iff.mpr y
theorem any_py (q : Int × Int) : ∀ L : List (Int × Int), ((pys (dPs L)).any fun z => PyData.eqv z (py (dP q))) = decide (q ∈ L)
  | [] => rfl
  | a :: L => by
    show (pys (dP a :: dPs L)).any _ = _
    rw [pys, List.any_cons, any_py q L, eqv_dP]
    by_cases z : a = q
    · simp [z]
    · have : ¬ q = a := fun y => z y.symm
      simp [z, this]
end My
namespace My
open PySem PySem.Spec PyProof.Rows L2
/-- what the law names -/
structure Kit (P : Program) (w : World) (K : PySem.W.Frag) (mg : Str → Option Value) (base : Heap) (C m : Addr) (c : Nat → Addr) : Prop where
  T : ∃ fI, RoomT K mg C fI
  g_l_random : GF P w K mg base "_law_random" 1 (sp_random K)
  g_l_below : GF P w K mg base "_law_below" 1 sp_below
  g_l_lines : GF P w K mg base "_law_lines" 2 sp_lines
  g_l_room : GF P w K mg base "_law_room" 6 (sp_lroom K C)
  g_l_edges : GF P w K mg base "_law_edges" 1 (sp_edges K)
  g_l_course : GF P w K mg base "_law_course" 3 (spD C PCourse)
  g_l_number : GF P w K mg base "_law_number" 2 (spM FSn C PNum)
  g_l_index : GF P w K mg base "_law_index" 1 (spD C PIndex)
  g_l_equal : GF P w K mg base "_law_equal" 5 (sp_same 4)
  g_l_spots : GF P w K mg base "_law_spots" 1 (sp_spots K)
  p_rows : PR P w K mg base C "rows" 1 (sp_rows C)
  eq : ∃ f fd, MOf K C "__eq__" f ∧ NeC K C f ∧ FnR P w K mg base (L2.CX P w) 1 f (sp_eq C) ∧ FnOk P w K mg base (L2.CX P w) 1 f fd ["self", "other"] (sp_eq C) ∧ PySem.W.isFn K (.ref f) = true ∧ Binds K fd ["self", "other"] []
  g_find_cycle : GF P w K mg base "find_cycle" 8 (spD C (PCyc (c 1)))
  g_after_beams : GF P w K mg base "after_beams" 8 (spD C (PAft (c 1) (c 3)))
  g_nth_exit : GF P w K mg base "nth_exit" 8 (spD C (PNth (c 1) (c 3)))
  g_count_passes : GF P w K mg base "count_passes" 8 (spD C (PCnt (c 1) (c 2) (c 3)))
  g_never : GF P w K mg base "never_passed" 8 (spD C (PNev (c 1)))
abbrev s_law : Stmt := (top 51)
abbrev N_law : List Str := ["_law_script", "_law_d", "_law_step", "_law_lines_here", "_law_room_here", "_law_port", "_law_course_here", "_law_beams", "_law_start", "_law_number_here", "_law_at", "_law_one", "_law_counts", "_law_due", "_law_size", "_law_late", "_law_rest", "_law_seen", "_law_found", "_law_spot"]
theorem sc_law : FnScope N_law ["_law_script"] (defScope s_law) := ⟨rfl, rfl, rfl, by decide +kernel, rfl, by decide +kernel, by decide +kernel⟩

local macro_rules | `(tactic| walk_at "sm") => `(tactic| first
  | exact .int _
  | exact .bl _
  | exact .str _
  | exact .non
  | exact sm_dP _
  | exact sm_dPs (by omega)
  | exact sm_dNs (by omega)
  | exact sm_lns (by omega)
  | exact sm_lnsT (by omega)
  | (refine .lst (Nat.le_of_ble_eq_true rfl) ?_; walk_at "sms")
  | (refine .tup (Nat.le_of_ble_eq_true rfl) ?_; walk_at "sms"))
local macro_rules | `(tactic| walk_at "sms") => `(tactic| first
  | exact sm_nil
  | ((refine sm_cons ?a ?b); (case a => walk_at "sm"); (case b => walk_at "sms")))
local macro_rules | `(tactic| walk_at "set") => `(tactic| (simp only [List.set_cons_zero, List.set_cons_succ] <;> rfl))
local macro_rules | `(tactic| walk_at "put") => `(tactic| first
  | exact .nil _
  | (refine .cons (.d _) (ltL rfl) ?_; walk_at "put")
  | (refine .cons (.m _) (ltL rfl) ?_; walk_at "put"))
local macro_rules | `(tactic| walk_at "puts") => `(tactic| (refine ⟨?g2, ?g3, ?pa, ?pb, ?pc⟩; (case pa => walk_at "put"); (case pb => walk_at "set"); try (case g2 => skip)))
local macro_rules | `(tactic| walk_at "k") => `(tactic| first
  | ((refine ⟨_, ?g2, .d _, ltL rfl, ?pb, ?pc⟩); (case pb => walk_at "set"))
  | ((refine ⟨_, ?g2, .m _, ltL rfl, ?pb, ?pc⟩); (case pb => walk_at "set"))
  | ((refine ⟨?g2, ltL rfl, ?pb, ?pc⟩); (case pb => walk_at "set"))
  | refine ⟨_, .d _, ?_⟩
  | refine ⟨_, .m _, ?_⟩
  | refine ⟨_, _, _, rfl, by assumption, by assumption, ?_⟩
  | refine ⟨_, rfl, ?_⟩
  | refine ⟨_, .m, ?_⟩
  | refine ⟨_, .d, ?_⟩
  | refine ⟨_, .a rfl, ?_⟩
  | refine ⟨⟨_, .a rfl⟩, ?_⟩
  | refine ⟨⟨_, .m⟩, ?_⟩
  | refine ⟨⟨_, .d⟩, ?_⟩
  | refine ⟨fun _ => ?_, fun hz => absurd hz Bool.false_ne_true⟩
  | refine ⟨fun _ => ?_, fun hz => absurd hz.symm Bool.false_ne_true⟩
  | refine ⟨fun hz => absurd hz Bool.false_ne_true, fun _ => ?_⟩
  | refine ⟨fun hz => absurd hz.symm Bool.false_ne_true, fun _ => ?_⟩
  | ((refine ⟨Nat.le_of_ble_eq_true rfl, rfl, ?g2, ?g3, ?pa, ?pb, ?pc⟩); (case pa => walk_at "put"); (case pb => walk_at "set"))
  | ((refine ⟨?g2, ?g3, ?pa, ?pb, ?pc⟩); (case pa => walk_at "put"); (case pb => walk_at "set"))
  | refine ⟨Nat.le_of_ble_eq_true rfl, ?_⟩)
local macro_rules | `(tactic| walk_at "app") => `(tactic| ((refine ⟨_, _, ?g2, .d _, rfl, ?hl, ?pb, ?pc⟩); (case pb => walk_at "set")))
local macro_rules | `(tactic| walk_at "w") => `(tactic| first
  | with_reducible refine ws_seq ?_
  | with_reducible refine ws_next ?_
  | with_reducible refine sw_set ?_
  | with_reducible refine ws_if ?_
  | with_reducible refine ws_put2 ?_
  | with_reducible refine ws_putL ?_
  | with_reducible refine sw_names2 ?_
  | with_reducible refine sw_names3 ?_
  | with_reducible refine sw_names4 ?_
  | with_reducible refine sw_names5 ?_
  | with_reducible refine sw_names6 ?_
  | with_reducible refine sw_names7 ?_
  | with_reducible refine sw_asg ?_
  | with_reducible refine sw_for ?_
  | with_reducible refine tg_name ?_
  | with_reducible refine tgs_nil ?_
  | with_reducible refine tgs_cons ?_
  | ((with_reducible refine tg_tup ?hn ?_); (case hn => rfl))
  | ((with_reducible refine tg_lst ?hn ?_); (case hn => rfl))
  | with_reducible refine ws_ret ?_
  | with_reducible refine ws_drop ?_
  | with_reducible refine sw_par ?_
  | with_reducible refine sw_par3 ?_
  | with_reducible refine w_int ?_
  | with_reducible refine w_str ?_
  | with_reducible refine w_bl ?_
  | with_reducible refine w_non ?_
  | ((with_reducible refine w_var (x := ?x0) ?hv ?_); (case hv => exact rfl))
  | ((with_reducible refine w_al (m := ?m0) ?hv ?_); (case hv => exact rfl))
  | ((with_reducible refine w_ix2 (a := ?a0) (b := ?b0) (ms := ?ms0) ?h1 ?h2 ?h3 ?hk); (case h1 => exact rfl); (case h2 => exact rfl); (case h3 => exact rfl))
  | with_reducible refine w_op ?_
  | with_reducible refine w_neg ?_
  | with_reducible refine w_un ?_
  | with_reducible refine wa_cons ?_
  | with_reducible refine wa_nil ?_
  | with_reducible refine waf_cons ?_
  | with_reducible refine waf_nil ?_
  | with_reducible refine w_tupF ?_
  | with_reducible refine w_lstF ?_
  | with_reducible refine w_cr ?_
  | with_reducible refine w_cb ?_
  | with_reducible refine w_mkBench ?_
  | ((with_reducible refine wb_now (s := ?s0) (o := ?o0) ?hv ?_); (case hv => exact rfl))
  | ((with_reducible refine wb_passes (s := ?s0) (o := ?o0) ?hv ?hl ?_); (case hv => exact rfl); (case hl => (first | assumption | omega)))
  | ((with_reducible refine wb_ops (s := ?s0) (o := ?o0) ?hv ?hl ?_); (case hv => exact rfl); (case hl => (first | assumption | omega)))
  | ((with_reducible refine wb_meth inb_beam (s := ?s0) (o := ?o0) ?hv ?_); (case hv => exact rfl))
  | ((with_reducible refine wb_meth inb_turn (s := ?s0) (o := ?o0) ?hv ?_); (case hv => exact rfl))
  | ((with_reducible refine wb_meth inb_turn_all (s := ?s0) (o := ?o0) ?hv ?_); (case hv => exact rfl))
  | ((with_reducible refine wb_meth inb_undo (s := ?s0) (o := ?o0) ?hv ?_); (case hv => exact rfl))
  | ((with_reducible refine wb_meth inb_redo (s := ?s0) (o := ?o0) ?hv ?_); (case hv => exact rfl))
  | ((with_reducible refine wb_meth inb_save (s := ?s0) (o := ?o0) ?hv ?_); (case hv => exact rfl))
  | ((with_reducible refine wb_meth inb_restore (s := ?s0) (o := ?o0) ?hv ?_); (case hv => exact rfl))
  | ((with_reducible refine wb_meth inb_state (s := ?s0) (o := ?o0) ?hv ?_); (case hv => exact rfl))
  | ((with_reducible refine wb_meth inb_back (s := ?s0) (o := ?o0) ?hv ?_); (case hv => exact rfl))
  | ((with_reducible refine wb_meth inb_batch (s := ?s0) (o := ?o0) ?hv ?_); (case hv => exact rfl))
  | ((with_reducible refine wb_meth inb_exec (s := ?s0) (o := ?o0) ?hv ?_); (case hv => exact rfl))
  | ((with_reducible refine wb_meth inb_step (s := ?s0) (o := ?o0) ?hv ?_); (case hv => exact rfl))
  | with_reducible refine w_pr ?_
  | with_reducible refine wf_rows ?_
  | with_reducible refine wf_text (by assumption) ?_
  | with_reducible refine wf_size (by assumption) ?_
  | with_reducible refine wf_turning (by assumption) ?_
  | with_reducible refine wu_inv (by assumption) ?_
  | with_reducible refine wc_lenO (by assumption) ?_
  | with_reducible refine wc_boolO (by assumption) ?_
  | ((with_reducible refine wc_lenL (l := ?l0) ?hv ?_); (case hv => first | exact .d | exact .m | (refine .a ?_; exact rfl)))
  | with_reducible refine wc_lenT ?_
  | ((with_reducible refine wc_listL (l := ?l0) ?hv ?_); (case hv => first | exact .d | exact .m | (refine .a ?_; exact rfl)))
  | with_reducible refine wc_listT ?_
  | ((with_reducible refine wc_tupL (l := ?l0) ?hv ?_); (case hv => first | exact .d | exact .m | (refine .a ?_; exact rfl)))
  | with_reducible refine wc_min2 ?_
  | with_reducible refine w_callO ?_
  | with_reducible refine w_chain ?_
  | with_reducible refine w_join ?_
  | with_reducible refine w_notV ?_
  | with_reducible refine w_andV ?_
  | with_reducible refine w_orV ?_
  | with_reducible refine w_if ?_
  | with_reducible refine wt_test ?_
  | with_reducible refine wt_B ?_
  | with_reducible refine wt_not ?_
  | with_reducible refine wt_and ?_
  | with_reducible refine wt_or ?_
  | with_reducible refine wo_none ?_
  | with_reducible refine wo_some ?_
  | with_reducible refine w_slL ?_
  | with_reducible refine w_slR ?_
  | with_reducible refine w_slS ?_
  | with_reducible refine w_revL ?_
  | ((with_reducible refine wr_eqNl (l := ?l0) ?hv ?_); (case hv => first | exact .d | exact .m | (refine .a ?_; exact rfl)))
  | ((with_reducible refine wr_neNl (l := ?l0) ?hv ?_); (case hv => first | exact .d | exact .m | (refine .a ?_; exact rfl)))
  | with_reducible refine wc_intB ?_
  | with_reducible refine wc_intI ?_
  | with_reducible refine wr_ixLn (by assumption) (by assumption) ?_
  | with_reducible refine wr_ixLn0 (by assumption) ?_
  | with_reducible refine wr_ixSg (by assumption) (by assumption) (by assumption) ?_
  | with_reducible refine wc_lenLn (by assumption) (by assumption) ?_
  | with_reducible refine wr_notInRf ?_
  | with_reducible refine wr_inRf ?_
  | with_reducible refine wr_eqR ?_
  | with_reducible refine wr_catR1 (by assumption) (by assumption) ?_
  | with_reducible refine wr_catR2 (by assumption) (by assumption) (by assumption) ?_
  | with_reducible refine wr_catG1 (by assumption) ?_
  | with_reducible refine wr_catG2 (by assumption) (by assumption) ?_
  | with_reducible refine wr_I0i ?_
  | with_reducible refine wr_I0b ?_
  | ((with_reducible refine wr_neF (u := ?u0) ?hv ?_); (case hv => exact rfl))
  | ((with_reducible refine wr_eqF (u := ?u0) ?hv ?_); (case hv => exact rfl))
  | ((with_reducible refine wr_eqS0 ?hc ?_); (case hc => decide +kernel))
  | ((with_reducible refine wr_neS0 ?hc ?_); (case hc => decide +kernel))
  | ((with_reducible refine wr_ixL (l := ?l0) (x := ?x0) ?hw ?hv ?_); (case hw => first | exact .d | exact .m | (refine .a ?_; exact rfl)); (case hv => exact rfl))
  | ((with_reducible refine wr_ixT (l := ?l0) (x := ?x0) ?hv ?_); (case hv => exact rfl))
  | with_reducible refine sg_name ?_
  | with_reducible refine wt_yes ?_
  | with_reducible refine w_repl ?_
  | with_reducible refine wi_rng1 ?_
  | with_reducible refine wi_rng2 ?_
  | ((with_reducible refine wi_fzA (l := ?l0) (Γ2 := ?g2) ?hv ?ht ?hs ?_); (case hv => exact rfl); (case ht => first | exact fun _ => id | apply_assumption); (case hs => walk_at "set"))
  | with_reducible refine wi_list ?_
  | with_reducible refine wi_tup ?_
  | with_reducible refine wi_str ?_
  | ((with_reducible refine sw_append (l := ?l0) ?hv ?_); (case hv => exact rfl))
  | with_reducible refine wr_isN ?_
  | with_reducible refine wr_notN ?_
  | with_reducible refine w_dnewK ?_
  | ((with_reducible refine w_dinS (z := ?z0) (l := ?l0) ?h1 ?h2 ?_); (case h1 => exact rfl); (case h2 => exact rfl))
  | with_reducible refine ws_dputS ?_
  | with_reducible refine w_appNew ?_
  | with_reducible refine w_bm ?_)
local macro_rules | `(tactic| walk_at "ws") => `(tactic| repeat (first | walk_at "w" | walk_at "k"))
local macro_rules | `(tactic| walk_at "wn") => `(tactic| repeat ((fail_if_success (with_reducible refine ws_seq ?_)); first | walk_at "w" | walk_at "k"))
section
variable {P : Program} {w : World} {K : PySem.W.Frag} {mg : Str → Option Value} {base : Heap}
theorem ok_law {f C m P0 : Addr} {c : Nat → Addr} {fd : FuncData} (F : Fun K "law" "law" s_law f fd) (Z : Kit P w K mg base C m c) : FnOk P w K mg base (L2.CX P w) 12 f fd ["_law_script"] (sp_law K P0) := by
  obtain ⟨fI, T⟩ := Z.T
  have g_l_random := Z.g_l_random
  have g_l_below := Z.g_l_below
  have g_l_lines := Z.g_l_lines
  have g_l_room := Z.g_l_room
  have g_l_edges := Z.g_l_edges
  have g_l_course := Z.g_l_course
  have g_l_number := Z.g_l_number
  have g_l_index := Z.g_l_index
  have g_l_equal := Z.g_l_equal
  have g_l_spots := Z.g_l_spots
  have p_rows := Z.p_rows
  obtain ⟨fq, fdq, m_eq, m_ne, f_eq, fo_eq, i_eq, b_eq⟩ := Z.eq
  have g_find_cycle := Z.g_find_cycle
  have g_after_beams := Z.g_after_beams
  have g_nth_exit := Z.g_nth_exit
  have g_count_passes := Z.g_count_passes
  have g_never_passed := Z.g_never
  refine F.okX sc_law (fun vs H Q E h => ?_) (fun cdv A outer s H vs Q E hr h => ?_)
  · obtain ⟨a, ns, rfl, _⟩ := h
    rfl
  · obtain ⟨a, ns, rfl, hn, hS, hP, q⟩ := h
    refine ⟨_, (pss_cons (ps_set (i := 1) sc_law.nd rfl (Or.inl rfl) (pe_c g_l_random (hr.mono (by decide)) passL (pa_cons (pv 0) (pa_cons pe_int pa_nil))))
    (pss_cons (ps_for (passes_of rfl) rfl (pi_range1 (by rfl) T.b_range (pa_cons pe_int pa_nil)) (pg_name (i := 2) sc_law.nd rfl (Or.inl rfl))
      (pss_cons (ps_set (i := 3) sc_law.nd rfl (Or.inl rfl) (pe_c g_l_lines (hr.mono (by decide)) passL (pa_cons (pv 1) (pa_cons pe_int (pa_cons pe_int pa_nil)))))
      (pss_cons (ps_par (i := 4) (j := 5) (by rfl) sc_law.nd rfl rfl (by decide) rfl rfl (pa_cons (pe_c g_l_room (hr.mono (by decide)) passL (pa_cons (pv 3) pa_nil)) (pa_cons (pe_c g_l_below (hr.mono (by decide)) passL (pa_cons (pv 1) (pa_cons (pe_callB call_len_seq (by rfl) T.b_len PySem.boot_len (pa_cons (pe_c g_l_edges (hr.mono (by decide)) passL (pa_cons (pv 3) pa_nil)) pa_nil)) pa_nil))) pa_nil)) (by rfl))
      (pss_cons (ps_set (i := 6) sc_law.nd rfl (Or.inl rfl) (pe_c g_l_course (hr.mono (by decide)) passL (pa_cons (pv 3) (pa_cons (pv 5) pa_nil))))
      (pss_cons (ps_asg (pv 6) (pg_tup rfl (pgs_cons (pg_name (i := 7) sc_law.nd rfl (Or.inl rfl)) (pgs_cons (pg_name (i := 8) sc_law.nd rfl (Or.inl rfl)) pgs_nil))))
      (pss_cons (ps_if (pt_not (pt_val (pe_c g_l_equal (hr.mono (by decide)) passL (pa_cons (pe_c g_find_cycle (hr.mono (by decide)) passL (pa_cons (pv 4) (pa_cons (pv 5) pa_nil))) (pa_cons (pe_tup (pa_cons (pv 8) (pa_cons (pe_op op_sub (pe_callB call_len_seq (by rfl) T.b_len PySem.boot_len (pa_cons (pv 7) pa_nil)) (pv 8)) pa_nil))) pa_nil)))))
        (pss_one (ps_ret pe_bl))
        pss_nil)
      (pss_cons (ps_set (i := 9) sc_law.nd rfl (Or.inl rfl) (pe_c g_l_number (hr.mono (by decide)) passL (pa_cons (pv 1) pa_nil)))
      (pss_cons (ps_if (pt_not (pt_val (pe_c g_l_equal (hr.mono (by decide)) passL (pa_cons (pe_c g_nth_exit (hr.mono (by decide)) passL (pa_cons (pv 4) (pa_cons (pv 5) (pa_cons (pv 9) pa_nil)))) (pa_cons (pe_ix ix_tup (pe_ix ix_list (pv 7) (pe_c g_l_index (hr.mono (by decide)) passL (pa_cons (pv 6) (pa_cons (pe_op op_sub (pv 9) pe_int) pa_nil))) (fun _ _ => rfl)) pe_int (fun _ _ => rfl)) pa_nil)))))
        (pss_one (ps_ret pe_bl))
        pss_nil)
      (pss_cons (ps_if (pt_not (pt_val (pe_c g_l_equal (hr.mono (by decide)) passL (pa_cons (pe_pr (pe_c g_after_beams (hr.mono (by decide)) passL (pa_cons (pv 4) (pa_cons (pv 5) (pa_cons (pv 9) pa_nil)))) T.cl p_rows (hr.mono (by decide))) (pa_cons (pe_callTy call_tuple_of (by rfl) T.b_tuple (by decide +kernel) (pa_cons (pe_ix ix_tup (pe_ix ix_list (pv 7) (pe_c g_l_index (hr.mono (by decide)) passL (pa_cons (pv 6) (pa_cons (pe_op op_sub (pv 9) pe_int) pa_nil))) (fun _ _ => rfl)) pe_int (fun _ _ => rfl)) pa_nil)) pa_nil)))))
        (pss_one (ps_ret pe_bl))
        pss_nil)
      (pss_cons (ps_if (pt_cmpR (op_neO m_ne f_eq (hr.mono (by decide))) (pe_c g_after_beams (hr.mono (by decide)) passL (pa_cons (pv 4) (pa_cons (pv 5) (pa_cons pe_int pa_nil)))) (pv 4) (nomark _))
        (pss_one (ps_ret pe_bl))
        pss_nil)
      (pss_cons (ps_set (i := 10) sc_law.nd rfl (Or.inr rfl) (pe_tup (pa_cons (pe_c g_l_below (hr.mono (by decide)) passL (pa_cons (pv 1) (pa_cons (pe_callB call_len_seq (by rfl) T.b_len PySem.boot_len (pa_cons (pv 3) pa_nil)) pa_nil))) (pa_cons (pe_c g_l_below (hr.mono (by decide)) passL (pa_cons (pv 1) (pa_cons (pe_callB call_len_str (by rfl) T.b_len PySem.boot_len (pa_cons (pe_ix ix_list (pv 3) pe_int (fun _ _ => rfl)) pa_nil)) pa_nil))) pa_nil))))
      (pss_cons (ps_setLcG (i := 12) (own := [("_law_one", 11)]) (g := gName 11)  rfl sc_law.nd rfl rfl (sw_true rfl rfl rfl (by decide +kernel)) (pi_list (pv 7)) (blkOk_by (N := N_law) (sc := defScope s_law) (by decide +kernel)) (fun _ _ _ _ _ => (pg_name (i := 11) sc_law.nd rfl (Or.inl rfl))) (fun _ _ _ _ _ => pts_nil) (fun _ _ _ _ _ => (pe_bm PySem.F.plainAttrs_list PySem.F.slot_list_count PySem.F.type_list_count (mt_countD (u65 hr)) (pe_ix ix_tup (pv 11) pe_int (fun _ _ => rfl)) (pa_cons (pv 10) pa_nil))))
      (pss_cons (ps_set (i := 13) sc_law.nd rfl (Or.inl rfl) (pe_callB (cr_sum rfl) (by rfl) T.b_sum (by decide +kernel) (pa_cons (pe_slice sl_list (pv 12) po_none (po_some (pv 9))) pa_nil)))
      (C8.pss_cut (ps_if (pt_cmpR op_gt (pv 9) (pe_callB call_len_seq (by rfl) T.b_len PySem.boot_len (pa_cons (pv 12) pa_nil)) (nomark _))
        (pss_cons (ps_par (i := 14) (j := 15) (by rfl) sc_law.nd rfl rfl (by decide) rfl rfl (pa_cons (pe_op op_sub (pe_callB call_len_seq (by rfl) T.b_len PySem.boot_len (pa_cons (pv 12) pa_nil)) (pv 8)) (pa_cons (pe_slice sl_list (pv 12) (po_some (pv 8)) po_none) pa_nil)) (by rfl))
        (pss_cons (ps_set (i := 16) sc_law.nd rfl (Or.inl rfl) (pe_op op_mod (pe_op op_sub (pv 9) (pv 8)) (pv 14)))
        (pss_one (ps_set (i := 13) sc_law.nd rfl (Or.inl rfl) (pe_op op_add (pe_op op_add (pe_callB (cr_sum rfl) (by rfl) T.b_sum (by decide +kernel) (pa_cons (pe_slice sl_list (pv 12) po_none (po_some (pv 8))) pa_nil)) (pe_op op_mul (pe_op op_fdivW (pe_op op_sub (pv 9) (pv 8)) (pv 14)) (pe_callB (cr_sum rfl) (by rfl) T.b_sum (by decide +kernel) (pa_cons (pv 15) pa_nil)))) (pe_callB (cr_sum rfl) (by rfl) T.b_sum (by decide +kernel) (pa_cons (pe_slice sl_list (pv 15) po_none (po_some (pv 16))) pa_nil)))))))
        pss_nil)
      (pss_cons (ps_if (pt_not (pt_val (pe_c g_l_equal (hr.mono (by decide)) passL (pa_cons (pe_c g_count_passes (hr.mono (by decide)) passL (pa_cons (pv 4) (pa_cons (pv 5) (pa_cons (pv 10) (pa_cons (pv 9) pa_nil))))) (pa_cons (pv 13) pa_nil)))))
        (pss_one (ps_ret pe_bl))
        pss_nil)
      (pss_cons (ps_set (i := 17) sc_law.nd rfl (Or.inr rfl) (pe_lst pa_nil))
      (pss_cons (ps_for (passes_of rfl) rfl (pi_list (pv 7)) (pg_name (i := 11) sc_law.nd rfl (Or.inl rfl))
        (pss_one (ps_set (i := 17) sc_law.nd rfl (Or.inr rfl) (pe_op op_cat (pv 17) (pe_ix ix_tup (pv 11) pe_int (fun _ _ => rfl))))))
      (pss_cons (ps_set (i := 18) sc_law.nd rfl (Or.inl rfl) (pe_c g_never_passed (hr.mono (by decide)) passL (pa_cons (pv 4) (pa_cons (pv 5) pa_nil))))
      (pss_cons (ps_if (pt_not (pt_val (pe_c g_l_equal (hr.mono (by decide)) passL (pa_cons (pv 18) (pa_cons (pe_lcG (own := [("_law_spot", 19)]) (g := gName 19)  rfl sc_law.nd (pi_list (pe_c g_l_spots (hr.mono (by decide)) passL (pa_cons (pv 3) (pa_cons pe_str pa_nil)))) (blkOk_by (N := N_law) (sc := defScope s_law) (by decide +kernel)) (fun _ _ _ _ _ => (pg_name (i := 19) sc_law.nd rfl (Or.inl rfl))) (fun _ _ _ _ _ => pts_one (pt_cmpR (op_notInD (u65 hr)) (pv 19) (pv 17) (by rfl))) (fun _ _ _ _ _ => (pv 19))) pa_nil)))))
        (pss_one (ps_ret pe_bl))
        pss_nil)
      (pss_one (ps_expr (pe_bm PySem.F.plainAttrs_list PySem.F.slot_list_append PySem.F.type_list_append mt_append (pv 18) (pa_cons pe_int pa_nil)))))))))))))))))))))))
    (pss_one (ps_ret pe_bl)))), ?_⟩
    refine ⟨_, rfl, a, ns, 5, rfl, hS, hn, by decide, by decide, fun d H1 hd s1 d1 => ?_⟩
    dsimp only
    refine law_enter (n := 18) (C := C) d1 q ?_ _
    show WS _ _ [.un, .mo MS, .un, .un, .un, .un, .un, .un, .un, .un, .un, .un, .un, .un, .un, .un, .un, .un, .un, .un] _ _
    walk_at "ws"
    refine ⟨⟨by decide, by decide⟩, ?_⟩
    refine ⟨fun _ Γ => ∃ s2 s3 s4 s5 s6 s7 s8 s9 s10 s11 s12 s13 s14 s15 s16 s17 s18 s19, Γ = [.un, .mo MS, s2, s3, s4, s5, s6, s7, s8, s9, s10, s11, s12, s13, s14, s15, s16, s17, s18, s19] ∧ (s11 = .un ∨ ∃ x, s11 = .d x) ∧ (s19 = .un ∨ ∃ x, s19 = .d x), ⟨_, _, _, _, _, _, _, _, _, _, _, _, _, _, _, _, _, _, rfl, .inl rfl, .inl rfl⟩, ?_, ?_⟩
    · rintro i x Γ2 hx ⟨s2, s3, s4, s5, s6, s7, s8, s9, s10, s11, s12, s13, s14, s15, s16, s17, s18, s19, rfl, h11, h19⟩
      walk_at "wn"
      refine ws_drop6 (i := 11) (by rfl) h11 (by walk_at "set") ?_
      refine ws_drop6 (i := 19) (by rfl) h19 (by walk_at "set") ?_
      clear h11 s11 h19 s19
      walk_at "ws"
      refine wf_lines (m := 6) (t := 7) (by rfl) (by decide) (by decide) (by decide) fun g0 ww G8 => ?_
      have G0 := G8.mono (m' := 8) (t' := 10) (by decide) (by decide)
      have hgm := G8.hm
      have hwm := G8.wm
      have hg0 := G8.h0
      have hw0 := G8.w0
      have few : g0.length * ww < 63 := Nat.lt_of_le_of_lt (Nat.mul_le_mul hgm hwm) (by decide)
      walk_at "k"
      refine ws_fz 3 (by rfl) (fun _ => id) (by walk_at "set") ?_
      walk_at "ws"
      refine wf_lroom .d G0 ?_
      walk_at "ws"
      refine wf_edges .d G0 ?_
      walk_at "ws"
      rw [dEs_len, edges_len']
      refine wf_below (by rfl) (by omega) (by omega) fun p hp => ?_
      have hp : p < 2 * (g0.length + ww) := by omega
      walk_at "ws"
      refine wf_course G0 hp fun n f hn rho => ?_
      have hfn := rho.lt
      walk_at "ws"
      refine wf_cyc G0 hp fun n' f' _ rho' => ?_
      obtain ⟨e1, e2⟩ := rho.one rho'
      subst e1 e2
      walk_at "ws"
      rw [courseD_len]
      walk_at "ws"
      have efn : ((n : Nat) : Int) - ((f : Nat) : Int) = ((n - f : Nat) : Int) := by omega
      rw [efn]
      refine wf_equal .d .d (by walk_at "sm") ?_
      walk_at "ws"
      refine wf_num (by rfl) fun mm m0 m1 => ?_
      obtain ⟨k, rfl⟩ : ∃ k, mm = k + 1 := ⟨mm - 1, by omega⟩
      obtain ⟨ei, li⟩ := ixF_it rho k
      walk_at "ws"
      refine wf_nth (k := k) G0 hp (by omega) ?_
      walk_at "ws"
      have ek : ((k + 1 : Nat) : Int) - 1 = ((k : Nat) : Int) := by omega
      rw [ek]
      refine wf_ix hfn hn (by omega) ?_
      walk_at "ws"
      refine wr_ixL .d (atI_nat (courseD_at li)) ?_
      walk_at "ws"
      rw [ei]
      refine wf_equal .d .d (.int _) ?_
      walk_at "ws"
      refine wf_aft (k := k + 1) G0 hp (by omega) ?_
      walk_at "ws"
      rw [ek]
      refine wf_ix hfn hn (by omega) ?_
      walk_at "ws"
      refine wr_ixL .d (atI_nat (courseD_at li)) ?_
      walk_at "ws"
      have ei2 : itG g0 p (ixF n f k + 1) = itG g0 p (k + 1) := by
        show outG (itG g0 p (ixF n f k)) p = outG (itG g0 p k) p
        rw [ei]
      rw [ei2]
      obtain ⟨Gk, lk, _⟩ := itG_grid G0 hp (k + 1)
      refine wf_equal .d .d (sm_lnsT (by rw [lk]; omega)) ?_
      walk_at "ws"
      refine wf_aft (k := 0) G0 hp (by omega) ?_
      walk_at "ws"
      refine wr_neOs rfl ?_
      walk_at "ws"
      rw [dLns_len]
      refine wf_below (by rfl) (by omega) (by omega) fun a0 ha => ?_
      have ha : a0 < g0.length := by omega
      walk_at "ws"
      obtain ⟨l0, hl0, ll0⟩ : ∃ l0, g0[0]? = some l0 ∧ l0.length = ww := ⟨g0[0]'hg0, List.getElem?_eq_getElem _, G0.ln _ (List.getElem_mem _)⟩
      have hd0 : (dLns g0)[0]? = some (.str (lstr l0)) := by
        unfold dLns
        rw [List.getElem?_map, hl0] <;> rfl
      refine wr_ixL .d (atI_nat hd0) ?_
      walk_at "ws"
      refine wc_lenS (by rw [lstr_len, ll0]; exact sz2 (by omega)) ?_
      rw [lstr_len, ll0]
      walk_at "ws"
      refine wf_below (by rfl) (by omega) (by omega) fun b0 hb => ?_
      have hb : b0 < ww := by omega
      walk_at "ws"
      refine w_lcL (is := [11]) (dIs (cntL g0 p ((a0 : Int), (b0 : Int)) n)) (fun _ h => h) ?_
      walk_at "ws"
      refine ⟨rfl, by rw [courseD_len]; exact sz4 (by omega), by rw [dIs_len, cntL_len, courseD_len], fun j z d hz hd => ?_, ?_⟩
      · have hj : j < n := by
          have := (List.getElem?_eq_some_iff.mp hz).1
          rw [courseD_len] at this
          exact this
        rw [courseD_at hj] at hz
        cases hz
        unfold dIs cntL at hd
        rw [List.getElem?_map, List.getElem?_map, List.getElem?_range hj] at hd
        cases hd
        obtain ⟨Gj, lj, _⟩ := itG_grid G0 hp j
        walk_at "ws"
        refine wm_countD (x := dP ((a0 : Int), (b0 : Int))) .d (pl_dP _) (fun d hd => by
          obtain ⟨p, _, rfl⟩ := List.mem_map.mp hd
          exact pl_dP _) (fun d hd => by
          obtain ⟨p, _, rfl⟩ := List.mem_map.mp hd
          exact tupF_dP _) ?_
        rw [count_py]
        exact ⟨.d _, rfl⟩
      walk_at "ws"
      rw [cutD_take]
      rw [dIs_take]
      refine wc_sum .m ?_
      walk_at "ws"
      refine ws_cut (fun Γ1 => ∃ s12 s14 s15 s16, Γ1 = [.un, .mo MS, .d x, .d (.lst (dLns g0)), .d (.room g0), .d (.int (p : Nat)), .d (.tup [.lst (courseD g0 p n), .int (f : Nat)]), .d (.lst (courseD g0 p n)), .d (.int (f : Nat)), .d (.int (k + 1 : Nat)), .d (.tup [.int (a0 : Nat), .int (b0 : Nat)]), .un, s12, .d (.int (cntP g0 p ((a0 : Int), (b0 : Int)) (k + 1) : Nat)), s14, s15, s16, s17, s18, .un]) ?_ ?_
      · walk_at "ws"
        rw [dIs_len, cntL_len]
        walk_at "ws"
        refine ⟨fun c1 => ?_, fun c1 => ?_⟩
        · have c1 := of_decide_eq_true c1
          walk_at "ws"
          rw [dIs_len, cntL_len, efn]
          walk_at "ws"
          rw [cutD_drop, dIs_drop]
          walk_at "ws"
          have e1 : ((k + 1 : Nat) : Int) - ((f : Nat) : Int) = ((k + 1 - f : Nat) : Int) := by omega
          rw [e1]
          refine wr_Ii (by omega) ?_
          rw [← Int.natCast_emod]
          walk_at "ws"
          rw [cutD_take, dIs_take, show (cntL g0 p ((a0 : Int), (b0 : Int)) n).take f = cntL g0 p ((a0 : Int), (b0 : Int)) f from cntL_take (by omega)]
          refine wc_sum .m ?_
          rw [cntL_sum]
          walk_at "ws"
          rw [e1]
          have logn : ((n - f : Nat) : Int).natAbs.log2 < 9000 := by
            rw [Int.natAbs_natCast]
            exact Nat.lt_of_le_of_lt (Nat.log2_le_self _) (by omega)
          refine wr_Ii ⟨by omega, logn⟩ ?_
          rw [← Int.natCast_ediv]
          have hlt := Nat.mod_lt (k + 1 - f) (show 0 < n - f by omega)
          have hc := rho.cnt ((a0 : Int), (b0 : Int)) ((k + 1 - f) % (n - f)) ((k + 1 - f) / (n - f))
          have hm := Nat.mod_add_div (k + 1 - f) (n - f)
          rw [Nat.mul_comm] at hm
          rw [show f + (k + 1 - f) / (n - f) * (n - f) + (k + 1 - f) % (n - f) = k + 1 by omega] at hc
          have h1 := cntP_mono (g := g0) (p := p) (q := ((a0 : Int), (b0 : Int))) (show f ≤ n by omega)
          have hz : (k + 1 - f) / (n - f) ≤ k + 1 - f := Nat.div_le_self _ _
          generalize hr : (k + 1 - f) % (n - f) = r at *
          generalize hq : (k + 1 - f) / (n - f) = z at *
          walk_at "ws"
          refine wc_sum (.a rfl) ?_
          rw [cntL_drop (by omega)]
          walk_at "ws"
          refine wr_Ii (.inl ⟨by omega, by omega⟩) ?_
          walk_at "ws"
          rw [cutD_take, dIs_take]
          refine wc_sum .m ?_
          rw [cntL_part (by omega)]
          walk_at "ws"
          have ev : ((cntP g0 p ((a0 : Int), (b0 : Int)) f : Nat) : Int) + (z : Int) * (((cntP g0 p ((a0 : Int), (b0 : Int)) n : Nat) : Int) - ((cntP g0 p ((a0 : Int), (b0 : Int)) f : Nat) : Int)) + (((cntP g0 p ((a0 : Int), (b0 : Int)) (f + r) : Nat) : Int) - ((cntP g0 p ((a0 : Int), (b0 : Int)) f : Nat) : Int)) = ((cntP g0 p ((a0 : Int), (b0 : Int)) (k + 1) : Nat) : Int) := by
            rw [hc, Int.natCast_add, Int.natCast_mul, Int.natCast_sub h1]
            omega
          rw [ev]
          exact ⟨_, _, _, _, rfl⟩
        · have c1 := of_decide_eq_false c1
          walk_at "ws"
          rw [cntL_take (by omega), cntL_sum]
          exact ⟨_, _, _, _, rfl⟩
      rintro Γ1 ⟨s12, s14, s15, s16, rfl⟩
      walk_at "ws"
      refine wf_cnt G0 hp ha hb (by omega) ?_
      walk_at "ws"
      refine wf_equal .d .d (.int _) ?_
      walk_at "ws"
      have nle : n ≤ 128 := Nat.le_trans (rho.le G0 hp) (Nat.le_trans (Nat.pow_le_pow_right (by decide) G8.tu) (by decide))
      have area : g0.length * (ww * 4) ≤ 144 := by
        have := Nat.mul_le_mul hgm (show ww * 4 ≤ 24 by omega)
        exact this
      refine ⟨fun j Γ => ∃ s11, Γ = [.un, .mo MS, .d x, .d (.lst (dLns g0)), .d (.room g0), .d (.int (p : Nat)), .d (.tup [.lst (courseD g0 p n), .int (f : Nat)]), .d (.lst (courseD g0 p n)), .d (.int (f : Nat)), .d (.int (k + 1 : Nat)), .d (.tup [.int (a0 : Nat), .int (b0 : Nat)]), s11, s12, .d (.int (cntP g0 p ((a0 : Int), (b0 : Int)) (k + 1) : Nat)), s14, s15, s16, .mo (ML (dPs (pasL g0 p j))), s18, .un] ∧ (s11 = .un ∨ ∃ x, s11 = .d x), ⟨_, rfl, .inl rfl⟩, ?_, ?_⟩
      · rintro j z Γ2 hz ⟨s11, rfl, _⟩
        have hj : j < n := by
          have := (List.getElem?_eq_some_iff.mp hz).1
          rw [courseD_len] at this
          exact this
        rw [courseD_at hj] at hz
        cases hz
        have sh := pas_short (n := j + 1) G0 hp G8.tu
        have sh2 : (j + 1) * (2 ^ 7 * (g0.length * (ww * 4))) ≤ 128 * (2 ^ 7 * 144) := Nat.mul_le_mul (by omega) (Nat.mul_le_mul_left _ area)
        rw [pasL_succ, List.length_append] at sh
        walk_at "ws"
        refine wr_cat (.a rfl) .d (by rw [dPs_len, dPs_len, sizeLine_eq]; omega) ?_
        walk_at "ws"
        exact ⟨_, by rw [pasL_succ, show dPs (pasL g0 p j ++ trlP (itG g0 p j) p) = dPs (pasL g0 p j) ++ dPs (trlP (itG g0 p j) p) from List.map_append ..], .inr ⟨_, rfl⟩⟩
      rintro Γ2 ⟨s11, rfl, h11⟩
      rw [courseD_len]
      walk_at "ws"
      refine wf_nev G0 few hp fun n' f' _ rho' => ?_
      obtain ⟨e1, e2⟩ := rho.one rho'
      subst e1 e2
      walk_at "ws"
      refine w_lcF (is := [19]) (nevD g0 p n) (fun _ h => h) ?_
      walk_at "ws"
      refine wf_spots .d G0 mir_in ?_
      walk_at "ws"
      have tl := tiles_le64 (f := mirS) G0
      refine ⟨rfl, by rw [dPs_len]; exact sz4 (by omega), rfl, fun i x hx => ?_, ?_⟩
      · obtain ⟨q, hq, rfl⟩ := dPs_inv hx
        walk_at "ws"
        refine wr_notInD (.a rfl) (pl_dP _) (pl_dPs _) ?_
        rw [any_py]
        refine ⟨_, rfl, fun z => ?_, fun z => ?_⟩
        · refine w_var (by rfl) ⟨_, .d _, rfl, ?_⟩
          rw [nevD_snoc hq, if_neg (by simpa using z)]
        · exact ⟨rfl, by rw [nevD_snoc hq, if_pos (by simpa using z)]⟩
      have e : nevD g0 p n (dPs (tiles mirS g0)).length = dPs (nevL g0 p n) := by
        unfold nevD nevL
        rw [dPs_len, List.take_length]
      rw [e]
      have nl : (nevL g0 p n).length ≤ 64 := Nat.le_trans (List.length_filter_le _ _) tl
      walk_at "ws"
      refine wf_equal (.a rfl) .m (sm_dPs (by omega)) ?_
      walk_at "ws"
      walk_at "app"
      · rw [dPs_len]
        omega
      exact ⟨_, _, _, _, _, _, _, _, _, _, _, _, _, _, _, _, _, _, rfl, h11, .inl rfl⟩
    rintro Γ2 ⟨s2, s3, s4, s5, s6, s7, s8, s9, s10, s11, s12, s13, s14, s15, s16, s17, s18, s19, rfl, _⟩
    walk_at "ws"
    rfl
end
end My
namespace My
open PySem PySem.Spec PyProof.Rows L2
section
variable {P : Program} {w : World} {K : PySem.W.Frag} {mg : Str → Option Value} {base : Heap}
theorem fnr0 {k : Nat} {f : Addr} {fd : FuncData} {ps : List Str} {sp : Sp} (hb : Binds K fd ps []) (O : FnOk P w K mg base CX0 k f fd ps sp) : FnR P w K mg base (L2.CX P w) k f sp :=
  fnR_of0 (FnR.imp (O.raw hb .nil) fun vs H Q E h => by rw [List.append_nil]; exact h)
theorem fnrX {k : Nat} {f : Addr} {fd : FuncData} {ps : List Str} {sp : Sp} (hb : Binds K fd ps []) (O : FnOk P w K mg base (L2.CX P w) k f fd ps sp) : FnR P w K mg base (L2.CX P w) k f sp :=
  FnR.imp (O.raw hb .nil) fun vs H Q E h => by rw [List.append_nil]; exact h
theorem fok0 {k : Nat} {f : Addr} {fd : FuncData} {ps : List Str} {sp : Sp} (F : FnOk P w K mg base CX0 k f fd ps sp) : FnOk P w K mg base (L2.CX P w) k f fd ps sp :=
  ⟨F.len, fun A outer s H args us vs Q E hr e0 hb r hs => codeAny_mono (F.run A outer s H args us vs Q E hr e0 hb r hs) fun r s' h => by
    cases r with
    | ok fl => cases fl <;> exact h
    | error e => exact False.elim h⟩
set_option maxHeartbeats 8000000 in
theorem kit_of {h : Heap} (X : K.In h) (G : h.Ns mainGlobals mg) (c : SaysY gs [("law", none)] exB h K) : Kit P w K mg base (He.ga K "Room") (He.ga K "MirrorError") (eA K) := by
  obtain ⟨cf, m1⟩ := He.ba c.more
  obtain ⟨cg, m2⟩ := He.ba m1
  obtain ⟨cr, ce⟩ := He.ba m2
  have fk : ∀ (i : Nat) {f : He.Fa} (hi : fas[i]? = some f := by rfl), f.ok K = true := fun i f hi => List.all_eq_true.mp cf f (List.mem_of_getElem? hi)
  have ok : ∀ d ∈ gs, d.ok K = true := List.all_eq_true.mp cg
  obtain ⟨r_cread, cr1⟩ := He.ba cr
  obtain ⟨r_cms, cr2⟩ := He.ba cr1
  obtain ⟨r_cmt, cr3⟩ := He.ba cr2
  obtain ⟨r_cmp, cr4⟩ := He.ba cr3
  obtain ⟨r_prows, cr5⟩ := He.ba cr4
  obtain ⟨r_ha, cr6⟩ := He.ba cr5
  obtain ⟨r_hn, cr7⟩ := He.ba cr6
  obtain ⟨r_htk, cr8⟩ := He.ba cr7
  obtain ⟨r_hmr, cr9⟩ := He.ba cr8
  obtain ⟨r_kO, cr10⟩ := He.ba cr9
  obtain ⟨r_kL, cr11⟩ := He.ba cr10
  obtain ⟨r_ptext, cr12⟩ := He.ba cr11
  obtain ⟨r_fncall, cr13⟩ := He.ba cr12
  obtain ⟨r_psize, r_ne⟩ := He.ba cr13
  obtain ⟨d_l_below, F_l_below⟩ := c.fn ok 0
  have B_l_below := F_l_below.binds (ps := ["_law_d", "_law_limit"]) (fun _ _ _ _ _ _ us hl => match us, hl with | [_, _], _ => rfl)
  obtain ⟨d_fault_in_row, F_fault_in_row⟩ := c.fn ok 1
  have B_fault_in_row := F_fault_in_row.binds (ps := ["rows", "number", "allowed"]) (fun _ _ _ _ _ _ us hl => match us, hl with | [_, _, _], _ => rfl)
  obtain ⟨d_tiles_with, F_tiles_with⟩ := c.fn ok 2
  have B_tiles_with := F_tiles_with.binds (ps := ["rows", "signs"]) (fun _ _ _ _ _ _ us hl => match us, hl with | [_, _], _ => rfl)
  obtain ⟨d_check_rows, F_check_rows⟩ := c.fn ok 3
  have B_check_rows := F_check_rows.binds (ps := ["rows"]) (fun _ _ _ _ _ _ us hl => match us, hl with | [_], _ => rfl)
  obtain ⟨d_port_places, F_port_places⟩ := c.fn ok 4
  have B_port_places := F_port_places.binds (ps := ["height", "width"]) (fun _ _ _ _ _ _ us hl => match us, hl with | [_, _], _ => rfl)
  obtain ⟨d_Room_init, F_Room_init⟩ := c.fn ok 5
  obtain ⟨d_Room_parse, F_Room_parse⟩ := c.fn ok 6
  have B_Room_parse := F_Room_parse.binds (ps := ["cls", "text"]) (fun _ _ _ _ _ _ us hl => match us, hl with | [_, _], _ => rfl)
  obtain ⟨d_l_room, F_l_room⟩ := c.fn ok 7
  have B_l_room := F_l_room.binds (ps := ["_law_lines_here"]) (fun _ _ _ _ _ _ us hl => match us, hl with | [_], _ => rfl)
  obtain ⟨d_l_edges, F_l_edges⟩ := c.fn ok 8
  have B_l_edges := F_l_edges.binds (ps := ["_law_lines_here"]) (fun _ _ _ _ _ _ us hl => match us, hl with | [_], _ => rfl)
  obtain ⟨d_l_beam, F_l_beam⟩ := c.fn ok 9
  have B_l_beam := F_l_beam.binds (ps := ["_law_lines_here", "_law_port"]) (fun _ _ _ _ _ _ us hl => match us, hl with | [_, _], _ => rfl)
  obtain ⟨d_l_course, F_l_course⟩ := c.fn ok 10
  have B_l_course := F_l_course.binds (ps := ["_law_lines_here", "_law_port"]) (fun _ _ _ _ _ _ us hl => match us, hl with | [_, _], _ => rfl)
  obtain ⟨d_l_number, F_l_number⟩ := c.fn ok 11
  have B_l_number := F_l_number.binds (ps := ["_law_d"]) (fun _ _ _ _ _ _ us hl => match us, hl with | [_], _ => rfl)
  obtain ⟨d_l_index, F_l_index⟩ := c.fn ok 12
  have B_l_index := F_l_index.binds (ps := ["_law_course_here", "_law_number_here"]) (fun _ _ _ _ _ _ us hl => match us, hl with | [_, _], _ => rfl)
  obtain ⟨d_l_equal, F_l_equal⟩ := c.fn ok 13
  have B_l_equal := F_l_equal.binds (ps := ["_law_actual", "_law_expected"]) (fun _ _ _ _ _ _ us hl => match us, hl with | [_, _], _ => rfl)
  obtain ⟨d_l_spots, F_l_spots⟩ := c.fn ok 14
  have B_l_spots := F_l_spots.binds (ps := ["_law_lines_here", "_law_signs"]) (fun _ _ _ _ _ _ us hl => match us, hl with | [_, _], _ => rfl)
  obtain ⟨d_Room_rows, F_Room_rows⟩ := c.fn ok 15
  have B_Room_rows := F_Room_rows.binds (ps := ["self"]) (fun _ _ _ _ _ _ us hl => match us, hl with | [_], _ => rfl)
  obtain ⟨d_Room_eq, F_Room_eq⟩ := c.fn ok 16
  have B_Room_eq := F_Room_eq.binds (ps := ["self", "other"]) (fun _ _ _ _ _ _ us hl => match us, hl with | [_, _], _ => rfl)
  obtain ⟨d_is_number, F_is_number⟩ := c.fn ok 17
  have B_is_number := F_is_number.binds (ps := ["value", "lowest", "highest"]) (fun _ _ _ _ _ _ us hl => match us, hl with | [_, _, _], _ => rfl)
  obtain ⟨d_Room_len, F_Room_len⟩ := c.fn ok 18
  have B_Room_len := F_Room_len.binds (ps := ["self"]) (fun _ _ _ _ _ _ us hl => match us, hl with | [_], _ => rfl)
  obtain ⟨d_check_port, F_check_port⟩ := c.fn ok 19
  have B_check_port := F_check_port.binds (ps := ["room", "port"]) (fun _ _ _ _ _ _ us hl => match us, hl with | [_, _], _ => rfl)
  obtain ⟨d_Room_text, F_Room_text⟩ := c.fn ok 20
  have B_Room_text := F_Room_text.binds (ps := ["self"]) (fun _ _ _ _ _ _ us hl => match us, hl with | [_], _ => rfl)
  obtain ⟨d_step_inward, F_step_inward⟩ := c.fn ok 21
  have B_step_inward := F_step_inward.binds (ps := ["place", "height", "width"]) (fun _ _ _ _ _ _ us hl => match us, hl with | [_, _, _], _ => rfl)
  obtain ⟨d_thrown, F_thrown⟩ := c.fn ok 22
  have B_thrown := F_thrown.binds (ps := ["sign", "down", "right"]) (fun _ _ _ _ _ _ us hl => match us, hl with | [_, _, _], _ => rfl)
  obtain ⟨d_turned, F_turned⟩ := c.fn ok 23
  have B_turned := F_turned.binds (ps := ["sign"]) (fun _ _ _ _ _ _ us hl => match us, hl with | [_], _ => rfl)
  obtain ⟨d_run_beam, F_run_beam⟩ := c.fn ok 24
  have B_run_beam := F_run_beam.binds (ps := ["rows", "place"]) (fun _ _ _ _ _ _ us hl => match us, hl with | [_, _], _ => rfl)
  obtain ⟨d_Room_call, F_Room_call⟩ := c.fn ok 25
  have B_Room_call := F_Room_call.binds (ps := ["self", "port"]) (fun _ _ _ _ _ _ us hl => match us, hl with | [_, _], _ => rfl)
  obtain ⟨d_follow, F_follow⟩ := c.fn ok 26
  have B_follow := F_follow.binds (ps := ["room", "port"]) (fun _ _ _ _ _ _ us hl => match us, hl with | [_, _], _ => rfl)
  obtain ⟨d_find_cycle, F_find_cycle⟩ := c.fn ok 27
  have B_find_cycle := F_find_cycle.binds (ps := ["room", "port"]) (fun _ _ _ _ _ _ us hl => match us, hl with | [_, _], _ => rfl)
  obtain ⟨d_check_beams, F_check_beams⟩ := c.fn ok 28
  have B_check_beams := F_check_beams.binds (ps := ["number", "lowest"]) (fun _ _ _ _ _ _ us hl => match us, hl with | [_, _], _ => rfl)
  obtain ⟨d_room_after, F_room_after⟩ := c.fn ok 29
  have B_room_after := F_room_after.binds (ps := ["room", "port", "number"]) (fun _ _ _ _ _ _ us hl => match us, hl with | [_, _, _], _ => rfl)
  obtain ⟨d_after_beams, F_after_beams⟩ := c.fn ok 30
  have B_after_beams := F_after_beams.binds (ps := ["room", "port", "number"]) (fun _ _ _ _ _ _ us hl => match us, hl with | [_, _, _], _ => rfl)
  obtain ⟨d_nth_exit, F_nth_exit⟩ := c.fn ok 31
  have B_nth_exit := F_nth_exit.binds (ps := ["room", "port", "number"]) (fun _ _ _ _ _ _ us hl => match us, hl with | [_, _, _], _ => rfl)
  obtain ⟨d_Room_size, F_Room_size⟩ := c.fn ok 32
  have B_Room_size := F_Room_size.binds (ps := ["self"]) (fun _ _ _ _ _ _ us hl => match us, hl with | [_], _ => rfl)
  obtain ⟨d_check_tile, F_check_tile⟩ := c.fn ok 33
  have B_check_tile := F_check_tile.binds (ps := ["room", "at"]) (fun _ _ _ _ _ _ us hl => match us, hl with | [_, _], _ => rfl)
  obtain ⟨d_path, F_path⟩ := c.fn ok 34
  have B_path := F_path.binds (ps := ["room", "port"]) (fun _ _ _ _ _ _ us hl => match us, hl with | [_, _], _ => rfl)
  obtain ⟨d_count_passes, F_count_passes⟩ := c.fn ok 35
  have B_count_passes := F_count_passes.binds (ps := ["room", "port", "at", "number"]) (fun _ _ _ _ _ _ us hl => match us, hl with | [_, _, _, _], _ => rfl)
  obtain ⟨d_never_passed, F_never_passed⟩ := c.fn ok 36
  have B_never_passed := F_never_passed.binds (ps := ["room", "port"]) (fun _ _ _ _ _ _ us hl => match us, hl with | [_, _], _ => rfl)
  obtain ⟨d_l_random, F_l_random⟩ := c.fn ok 37
  have B_l_random := F_l_random.binds (ps := ["_law_script", "_law_salt"]) (fun _ _ _ _ _ _ us hl => match us, hl with | [_, _], _ => rfl)
  obtain ⟨d_l_lines, F_l_lines⟩ := c.fn ok 38
  have B_l_lines := F_l_lines.binds (ps := ["_law_d", "_law_most", "_law_turning"]) (fun _ _ _ _ _ _ us hl => match us, hl with | [_, _, _], _ => rfl)
  have T0 : Txt mg := ⟨He.str_ok X G (fk 0), He.str_ok X G (fk 1), He.str_ok X G (fk 2), He.str_ok X G (fk 3), He.free_ok X G (fk 4), He.free_ok X G (fk 5), He.free_ok X G (fk 6), He.free_ok X G (fk 7), He.free_ok X G (fk 8), He.free_ok X G (fk 9), He.free_ok X G (fk 10), He.free_ok X G (fk 11), He.free_ok X G (fk 12), He.free_ok X G (fk 13), He.free_ok X G (fk 14), He.free_ok X G (fk 15), He.free_ok X G (fk 16), He.free_ok X G (fk 17), He.free_ok X G (fk 18), He.free_ok X G (fk 19)⟩
  have gR : mg "Room" = some (.ref (He.ga K "Room")) := (He.glo_ok X G (fk 20))
  have T1 : TxtC K mg (He.ga K "Room") := ⟨T0, ⟨gR, _, creadB_ok r_cread, cintB_ok r_cms, cintB_ok r_cmt⟩⟩
  have T : RoomT K mg (He.ga K "Room") (He.ma K (He.ga K "Room") "__init__") := ⟨T1, He.cls_ok (fk 21), He.noat_ok (fk 22), He.noat_ok (fk 23), He.mkr_ok (fk 24)⟩
  have G_below : GF P w K mg base "_law_below" 1 sp_below := gf_of F_l_below (He.glo_ok X G (fk 25)) B_l_below (ok_below F_l_below T0)
  have G_fault : GF P w K mg base "fault_in_row" 1 (sp_fault K) := gf_of F_fault_in_row (He.glo_ok X G (fk 26)) B_fault_in_row (ok_fault F_fault_in_row T1)
  have G_tiles : GF P w K mg base "tiles_with" 1 (sp_tiles K) := gf_of F_tiles_with (He.glo_ok X G (fk 27)) B_tiles_with (ok_tiles F_tiles_with T0)
  have G_check : GF P w K mg base "check_rows" 2 (sp_check K) := gf_of F_check_rows (He.glo_ok X G (fk 28)) B_check_rows (ok_check F_check_rows T1 G_fault G_tiles)
  have G_places : GF P w K mg base "port_places" 1 sp_places := gf_of F_port_places (He.glo_ok X G (fk 29)) B_port_places (ok_places F_port_places T0)
  have I : FnR P w K mg base (L2.CX P w) 3 (He.ma K (He.ga K "Room") "__init__") (sp_star (He.ga K "Room")) := ok_init F_Room_init T G_check G_places
  have PM : ParseM P w K mg base (He.ga K "Room") := ⟨_, _, _, creadB_ok r_cread, cmB_ok r_cmp, fnrX B_Room_parse (ok_parse F_Room_parse T I)⟩
  have G_lroom : GF P w K mg base "_law_room" 6 (sp_lroom K (He.ga K "Room")) := gf_ofX F_l_room (He.glo_ok X G (fk 30)) B_l_room (ok_lroom F_l_room T PM)
  have G_edges : GF P w K mg base "_law_edges" 1 (sp_edges K) := gf_of F_l_edges (He.glo_ok X G (fk 31)) B_l_edges (ok_edges F_l_edges T0)
  have G_lbeam : GF P w K mg base "_law_beam" 2 (spD (He.ga K "Room") PBeam) := gf_ofX F_l_beam (He.glo_ok X G (fk 32)) B_l_beam (ok_lbeam F_l_beam T0 G_edges)
  have G_lcourse : GF P w K mg base "_law_course" 3 (spD (He.ga K "Room") PCourse) := gf_ofX F_l_course (He.glo_ok X G (fk 33)) B_l_course (ok_lcourse F_l_course T0 G_lbeam)
  have G_lnum : GF P w K mg base "_law_number" 2 (spM FSn (He.ga K "Room") PNum) := gf_ofX F_l_number (He.glo_ok X G (fk 34)) B_l_number (ok_lnumber F_l_number T0 G_below)
  have G_lix : GF P w K mg base "_law_index" 1 (spD (He.ga K "Room") PIndex) := gf_ofX F_l_index (He.glo_ok X G (fk 35)) B_l_index (ok_lindex F_l_index T0)
  have G_lequal : GF P w K mg base "_law_equal" 5 (sp_same 4) := gf_of F_l_equal (He.glo_ok X G (fk 36)) B_l_equal (ok_same F_l_equal T0 (He.glo_ok X G (fk 36)) B_l_equal 4)
  have G_spots : GF P w K mg base "_law_spots" 1 (sp_spots K) := gf_of F_l_spots (He.glo_ok X G (fk 37)) B_l_spots (ok_spots F_l_spots T0)
  have P_rows : PR P w K mg base (He.ga K "Room") "rows" 1 (sp_rows (He.ga K "Room")) := ⟨_, _, _, propB_ok r_prows, ok_rows F_Room_rows T, B_Room_rows⟩
  have R : RoomI K (He.ga K "Room") := ⟨oo_ok r_ha, oo_ok r_hn, ob_ok r_htk, ob_ok r_hmr, ob_ok r_kO, ob_ok r_kL⟩
  have tyq : PySem.W.typeIn K (.ref (He.ma K (He.ga K "Room") "__eq__")) = some (.type "function") := eq_of_beq (He.meth_ok (fk 38)).fn
  have O_eq : FnOk P w K mg base (L2.CX P w) 1 (He.ma K (He.ga K "Room") "__eq__") d_Room_eq ["self", "other"] (sp_eq (He.ga K "Room")) := fok0 (ok_eq F_Room_eq T R)
  have EPort : ErrC K mg "UnknownPort" (eA K 1) := let ⟨u1, u2, u3, u4⟩ := He.exc_ok (fk 39); ⟨He.glo_ok X G (fk 40), u1, u2, u3, u4⟩
  have G_isnum : GF P w K mg base "is_number" 1 sp_isnum := gf_of F_is_number (He.glo_ok X G (fk 41)) B_is_number (ok_isnum F_is_number T0)
  have m_len : MOf K (He.ga K "Room") "__len__" (He.ma K (He.ga K "Room") "__len__") := ⟨(He.meth_ok (fk 42)).at_, (He.meth_ok (fk 42)).fn⟩
  have f_len : FnR P w K mg base (L2.CX P w) 1 (He.ma K (He.ga K "Room") "__len__") (sp_len (He.ga K "Room")) := fnr0 B_Room_len (ok_len F_Room_len T)
  have G_port : GF P w K mg base "check_port" 3 (sp_port (He.ga K "Room") (eA K 1)) := gf_ofX F_check_port (He.glo_ok X G (fk 43)) B_check_port (ok_port F_check_port T EPort G_isnum m_len f_len)
  have P_text : PR P w K mg base (He.ga K "Room") "text" 1 (sp_text (He.ga K "Room")) := ⟨_, _, _, propB_ok r_ptext, ok_text F_Room_text T, B_Room_text⟩
  have m_call : StX.CallO K (He.ga K "Room") (He.ma K (He.ga K "Room") "__call__") := ⟨(He.meth_ok (fk 44)).at_, (He.meth_ok (fk 44)).fn, r_fncall⟩
  have G_inward : GF P w K mg base "step_inward" 1 sp_inward := gf_of F_step_inward (He.glo_ok X G (fk 45)) B_step_inward (ok_inward F_step_inward)
  have G_thrown : GF P w K mg base "thrown" 1 sp_thrown := gf_of F_thrown (He.glo_ok X G (fk 46)) B_thrown (ok_thrown F_thrown T0)
  have G_turned : GF P w K mg base "turned" 1 sp_turned := gf_of F_turned (He.glo_ok X G (fk 47)) B_turned (ok_turned F_turned)
  have G_run : GF P w K mg base "run_beam" 2 (sp_run K) := gf_of F_run_beam (He.glo_ok X G (fk 48)) B_run_beam (ok_run F_run_beam T0 G_inward G_thrown G_turned)
  have f_call : FnR P w K mg base (L2.CX P w) 5 (He.ma K (He.ga K "Room") "__call__") (sp_call (He.ga K "Room") (eA K 1)) := fnrX B_Room_call (ok_call F_Room_call T G_port G_run I)
  have G_follow : GF P w K mg base "follow" 6 (spD (He.ga K "Room") PFollow) := gf_ofX F_follow (He.glo_ok X G (fk 49)) B_follow (ok_follow F_follow T P_text m_call f_call)
  have G_find_cycle : GF P w K mg base "find_cycle" 8 (spD (He.ga K "Room") (PCyc (eA K 1))) := gf_ofX F_find_cycle (He.glo_ok X G (fk 50)) B_find_cycle (ok_find_cycle F_find_cycle T G_port G_follow)
  have ENum : ErrC K mg "InvalidNumber" (eA K 3) := let ⟨u1, u2, u3, u4⟩ := He.exc_ok (fk 51); ⟨He.glo_ok X G (fk 52), u1, u2, u3, u4⟩
  have G_beams : GF P w K mg base "check_beams" 2 (sp_beams (eA K 3)) := gf_ofX F_check_beams (He.glo_ok X G (fk 53)) B_check_beams (ok_beams F_check_beams G_isnum (He.int_ok X G (fk 54)) ENum)
  have G_rafter : GF P w K mg base "room_after" 7 (spD (He.ga K "Room") PAfter) := gf_ofX F_room_after (He.glo_ok X G (fk 55)) B_room_after (ok_room_after F_room_after T G_follow)
  have G_after_beams : GF P w K mg base "after_beams" 8 (spD (He.ga K "Room") (PAft (eA K 1) (eA K 3))) := gf_ofX F_after_beams (He.glo_ok X G (fk 56)) B_after_beams (ok_after_beams F_after_beams T G_port G_beams G_rafter)
  have G_nth_exit : GF P w K mg base "nth_exit" 8 (spD (He.ga K "Room") (PNth (eA K 1) (eA K 3))) := gf_ofX F_nth_exit (He.glo_ok X G (fk 57)) B_nth_exit (ok_nth_exit F_nth_exit T G_port G_beams G_rafter m_call f_call)
  have ETile : ErrC K mg "UnknownTile" (eA K 2) := let ⟨u1, u2, u3, u4⟩ := He.exc_ok (fk 58); ⟨He.glo_ok X G (fk 59), u1, u2, u3, u4⟩
  have P_size : PR P w K mg base (He.ga K "Room") "size" 1 (sp_size (He.ga K "Room")) := ⟨_, _, _, propB_ok r_psize, ok_size F_Room_size T, B_Room_size⟩
  have G_tile : GF P w K mg base "check_tile" 3 (sp_tile (He.ga K "Room") (eA K 2)) := gf_ofX F_check_tile (He.glo_ok X G (fk 60)) B_check_tile (ok_tile F_check_tile T ETile G_isnum P_size)
  have Kpath : GFn P w K mg base 4 (He.ga K "path") d_path ["room", "port"] (sp_path (He.ga K "Room") (eA K 1)) := ok_path F_path T G_port G_places G_run P_rows P_size
  have G_count_passes : GF P w K mg base "count_passes" 8 (spD (He.ga K "Room") (PCnt (eA K 1) (eA K 2) (eA K 3))) := gf_ofX F_count_passes (He.glo_ok X G (fk 61)) B_count_passes (ok_count_passes F_count_passes T G_port G_tile G_beams G_follow (He.glo_ok X G (fk 62)) F_path.kp Kpath B_path)
  have KpathY : GFnY P w K mg base 4 (He.ga K "path") d_path ["room", "port"] (sp_pathY (He.ga K "Room")) := ok_pathY F_path T G_port G_places G_run P_rows P_size
  have G_never : GF P w K mg base "never_passed" 8 (spD (He.ga K "Room") (PNev (eA K 1))) := gf_ofX F_never_passed (He.glo_ok X G (fk 63)) B_never_passed (ok_never F_never_passed T G_port G_follow G_tiles P_rows (He.glo_ok X G (fk 62)) F_path.kp KpathY B_path (He.free_ok X G (fk 19)) (He.str_ok X G (fk 64)))
  exact ⟨⟨_, T⟩,
    gf_of F_l_random (He.glo_ok X G (fk 65)) B_l_random (ok_random F_l_random T0),
    G_below,
    gf_of F_l_lines (He.glo_ok X G (fk 66)) B_l_lines (ok_lines F_l_lines T0 G_below),
    G_lroom,
    G_edges,
    G_lcourse,
    G_lnum,
    G_lix,
    G_lequal,
    G_spots,
    P_rows,
    ⟨_, _, ⟨(He.meth_ok (fk 38)).at_, (He.meth_ok (fk 38)).fn⟩, neB_ok r_ne tyq, fnr0 B_Room_eq (ok_eq F_Room_eq T R), O_eq, (He.meth_ok (fk 38)).fn, B_Room_eq⟩,
    G_find_cycle,
    G_after_beams,
    G_nth_exit,
    G_count_passes,
    G_never⟩
end
theorem lawAt {l : PySem.W.OpenLaw} {w : World} {mg : Str → Option Value} {fa : Addr} {h : Heap} {K : PySem.W.Frag} (X : K.In h) (c : SaysY gs [("law", none)] exB h K) (G : h.Ns mainGlobals mg) (hfa : mg "law" = some (.ref fa)) :
    LamX.LawAtS l w K (L2.CX l.prog w) 12 63 "_law_script" mg fa h := by
  obtain ⟨cf, m1⟩ := He.ba c.more
  obtain ⟨cg, m2⟩ := He.ba m1
  have fk : ∀ (i : Nat) {f : He.Fa} (hi : fas[i]? = some f := by rfl), f.ok K = true := fun i f hi => List.all_eq_true.mp cf f (List.mem_of_getElem? hi)
  have ok : ∀ d ∈ gs, d.ok K = true := List.all_eq_true.mp cg
  obtain ⟨fd, F⟩ := c.fn ok 39
  have hL : mg "law" = some (.ref (He.ga K "law")) := He.glo_ok X G (fk 67)
  obtain rfl : fa = He.ga K "law" := by
    rw [hfa] at hL
    cases hL
    rfl
  obtain ⟨oc, od, kV, doc, pm, an, cdv, ct, osl, e, lk, hcd⟩ := F.ex
  obtain ⟨c0, rfl⟩ := He.codeIn_ref hcd
  have hc0 : fd.code = .ref c0 := by rw [e] <;> rfl
  have ec : He.codeOf K ("law", none) = c0 := He.codeOf_eq (p := ("law", none)) (c := c0) lk hc0
  have ep : He.cT K ("law", none) = (c0, He.tabOf K c0) := by
    unfold He.cT
    rw [ec]
  have mem : (("law", none) : He.Defn) ∈ [(("law", none) : He.Defn)] := List.mem_singleton.mpr rfl
  have one : ∀ {q : Addr × Addr → Prop}, q (c0, He.tabOf K c0) → ∀ p ∈ [(c0, He.tabOf K c0)], q p := fun {q} hq p hp => by rw [List.mem_singleton.mp hp]; exact hq
  have h1 := c.hd _ mem
  have h2 := c.out _ mem
  have h3 := c.empty _ mem
  rw [ep] at h1 h2 h3
  refine ⟨fd, [(c0, He.tabOf K c0)], sp_law K (He.tabOf K c0), one h3, one h2, one (PySem.W.codeHd_of_K X h1), fun s u => ?_, fun H a ns hn _ hT hS => ?_, fun base Xb Gb TB => ?_⟩
  · rw [e]
    exact BindsTo.of_eq rfl
  · exact ⟨a, ns, rfl, hn, hS, hT (c0, He.tabOf K c0) (List.mem_singleton.mpr rfl), fun _ => rfl⟩
  · exact ok_law (F := F) (kit_of X G c)
end My
open PySem PySem.W PySem.Calls PyProof.Rows
theorem PySem.Challenge.cw_mirrorturns_k05_the_same_port_again_holds : PySem.Challenge.rw_mirrorturns_k05_the_same_port_again.Holds := by
  w_on; o_law
  refine HandSHeadRun.head_any (r := My.Rw) (q := view My.Rw.prog [51]) (H := My.hk) (ob := My.obY My.asL My.gs [("law", none)] My.exB) (M := 8000) (loose := (My.names0 ++ My.names1 ++ My.names2)) (d := HandSHeadRun.topDef My.Rw.prog 51) (kwd := []) (My.obY_eq My.asL My.gs [("law", none)] My.exB)
    (by kernel_rfl) (fun s => by kernel_rfl) My.topRun (by kernel_rfl) (by kernel_rfl) (by kernel_rfl) (by rfl) (by first | assumption | decide +kernel) (by decide +kernel) ⟨rfl, rfl, rfl, rfl, rfl, by decide +kernel⟩ ?hw ?hc
  case hw => w_witness2
  case hc =>
    refine LamX.walk_ofTsE (l := PySem.Challenge.rw_mirrorturns_k05_the_same_port_again) (n := 63) (k := 12) (x := "_law_script") (CX := fun w => L2.CX (PySem.Challenge.rw_mirrorturns_k05_the_same_port_again).prog w) rfl (by decide) (by kernel_rfl) ⟨rfl, by decide, by decide⟩ ?F ?E
    case E =>
      intro w H s e s' z
      obtain ⟨_, _, _, _, _, _, _, _, _, _, _, _, z⟩ := z
      exact z
    case F =>
      intro w mg fa h Y G hmg0
      obtain ⟨K, KX, c⟩ := Y
      have hmg : mg ("law" : PySem.Str) = some (.ref fa) := by
        have e : (HandSHeadRun.topDef My.Rw.prog 51).name = ("law" : PySem.Str) := by kernel_rfl
        rw [← e]
        exact hmg0
      exact ⟨K, KX, My.lawAt KX c G hmg⟩
