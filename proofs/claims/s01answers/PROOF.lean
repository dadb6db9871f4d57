import PyProof.Rows.All
import Wide.All
import OpenK.AllK
import Wide.FinOn
import Open.SpecLaws
import KE.OsGo
import HandS.ForSpec
import HandS.ForMost
import HandS.Walk
import HandS.Zip
import HandS.Codes
import HandS.CallLocal
import HandS.SortKw
import PySem.Challenge.RW_blockprices_s01_answers
import KE.KMinKey
import KE.KEqDeep
import HandS.HeadHook2
set_option Elab.async false
set_option linter.all false
set_option maxRecDepth 100000
set_option maxHeartbeats 2000000
/-! # blockprices: heaps and relations -/
namespace Bp
open PySem PySem.Spec PyProof.Rows L2
open Kv438 (Block Market Operation Response)

/-! ### the text -/
def top (i : Nat) : Stmt := PySem.Challenge.pw_blockprices_s01_answers.main.body.getD i (.Pass ⟨0, 0, 0, 0⟩)

/-! ### pairs of lists -/
inductive A2 {α β : Type} (R : α → β → Prop) : List α → List β → Prop
  | nil : A2 R [] []
  | cons {a b l m} : R a b → A2 R l m → A2 R (a :: l) (b :: m)
section
variable {α β γ : Type} {R S : α → β → Prop}
theorem A2.len : ∀ {l : List α} {m : List β}, A2 R l m → l.length = m.length
  | _, _, .nil => rfl
  | _, _, .cons _ t => congrArg (· + 1) (A2.len t)
theorem A2.mono (f : ∀ a b, R a b → S a b) : ∀ {l : List α} {m : List β}, A2 R l m → A2 S l m
  | _, _, .nil => .nil
  | _, _, .cons h t => .cons (f _ _ h) (A2.mono f t)
theorem A2.app : ∀ {l l' : List α} {m m' : List β}, A2 R l m → A2 R l' m' → A2 R (l ++ l') (m ++ m')
  | _, _, _, _, .nil, q => q
  | _, _, _, _, .cons h t, q => .cons h (A2.app t q)
theorem A2.one {a : α} {b : β} (h : R a b) : A2 R [a] [b] := .cons h .nil
theorem A2.at1 : ∀ {l : List α} {m : List β} {i : Nat} {a : α}, A2 R l m → l[i]? = some a → ∃ b, m[i]? = some b ∧ R a b
  | _, _, _, _, .nil, e => by simp at e
  | _, _, 0, a, .cons h _, e => by simp at e; subst e; exact ⟨_, rfl, h⟩
  | _, _, i + 1, a, .cons _ t, e => by
    obtain ⟨b, q, r⟩ := A2.at1 (i := i) (a := a) t (by simpa using e)
    exact ⟨b, by simpa using q, r⟩
theorem A2.at2 : ∀ {l : List α} {m : List β} {i : Nat} {b : β}, A2 R l m → m[i]? = some b → ∃ a, l[i]? = some a ∧ R a b
  | _, _, _, _, .nil, e => by simp at e
  | _, _, 0, b, .cons h _, e => by simp at e; subst e; exact ⟨_, rfl, h⟩
  | _, _, i + 1, b, .cons _ t, e => by
    obtain ⟨a, q, r⟩ := A2.at2 (i := i) (b := b) t (by simpa using e)
    exact ⟨a, by simpa using q, r⟩
theorem A2.take : ∀ {l : List α} {m : List β} (n : Nat), A2 R l m → A2 R (l.take n) (m.take n)
  | _, _, 0, _ => .nil
  | _, _, _ + 1, .nil => .nil
  | _, _, n + 1, .cons h t => .cons h (A2.take n t)
theorem A2.drop : ∀ {l : List α} {m : List β} (n : Nat), A2 R l m → A2 R (l.drop n) (m.drop n)
  | _, _, 0, q => q
  | _, _, _ + 1, .nil => .nil
  | _, _, n + 1, .cons _ t => A2.drop n t
theorem A2.set : ∀ {l : List α} {m : List β} (n : Nat) {a : α} {b : β}, A2 R l m → R a b → A2 R (l.set n a) (m.set n b)
  | _, _, _, _, _, .nil, _ => .nil
  | _, _, 0, _, _, .cons _ t, h => .cons h t
  | _, _, n + 1, _, _, .cons h' t, h => .cons h' (A2.set n t h)
theorem A2.erase : ∀ {l : List α} {m : List β} (n : Nat), A2 R l m → A2 R (l.eraseIdx n) (m.eraseIdx n)
  | _, _, _, .nil => .nil
  | _, _, 0, .cons _ t => t
  | _, _, n + 1, .cons h t => .cons h (A2.erase n t)
theorem A2.mapL {f : γ → α} : ∀ {l : List γ} {m : List β}, A2 (fun c b => R (f c) b) l m → A2 R (l.map f) m
  | _, _, .nil => .nil
  | _, _, .cons h t => .cons h (A2.mapL t)
theorem A2.unmapL {f : γ → α} : ∀ {l : List γ} {m : List β}, A2 R (l.map f) m → A2 (fun c b => R (f c) b) l m
  | [], _, h => by cases h; exact .nil
  | c :: l, _, h => by
    cases h with
    | cons h t => exact .cons h (A2.unmapL t)
theorem A2.monoAt : ∀ {l : List α} {m : List β}, A2 R l m → (∀ (i : Nat) a b, l[i]? = some a → R a b → S a b) → A2 S l m
  | _, _, .nil, _ => .nil
  | _, _, .cons h t, f => .cons (f 0 _ _ rfl h) (A2.monoAt t fun i a b e r => f (i + 1) a b (by simpa using e) r)
theorem A2.modify {g : β → β} : ∀ {l : List α} {m : List β} (n : Nat), A2 R l m → (∀ a b, l[n]? = some a → m[n]? = some b → R a b → S a (g b)) → (∀ (i : Nat) a b, i ≠ n → l[i]? = some a → R a b → S a b) → A2 S l (m.modify n g)
  | _, _, n, .nil, _, _ => by
    cases n <;> exact .nil
  | _, _, 0, .cons h t, f1, f2 => .cons (f1 _ _ rfl rfl h) (A2.monoAt t fun i a b e r => f2 (i + 1) a b (by omega) (by simpa using e) r)
  | _, _, n + 1, .cons h t, f1, f2 => .cons (f2 0 _ _ (by omega) rfl h) (A2.modify n t (fun a b e1 e2 r => f1 a b (by simpa using e1) (by simpa using e2) r) fun i a b ne e r => f2 (i + 1) a b (by omega) (by simpa using e) r)
end

/-! ### values -/
abbrev nV (n : Nat) : V := .int (n : Int)
def nL (l : List Nat) : List V := l.map nV
theorem nL_len (l : List Nat) : (nL l).length = l.length := List.length_map ..
theorem nL_at {l : List Nat} {i : Nat} {n : Nat} (h : l[i]? = some n) : (nL l)[i]? = some (nV n) := by
  unfold nL; rw [List.getElem?_map, h] <;> rfl
theorem nL_at' {l : List Nat} {i : Nat} {v : V} (h : (nL l)[i]? = some v) : ∃ n, l[i]? = some n ∧ v = nV n := by
  unfold nL at h
  rw [List.getElem?_map] at h
  cases e : l[i]? with
  | none => rw [e] at h; cases h
  | some n => rw [e] at h; exact ⟨n, rfl, (Option.some.inj h).symm⟩
theorem nL_ints (l : List Nat) : nL l = (l.map fun n : Nat => (n : Int)).map V.int := by
  unfold nL; rw [List.map_map]; rfl
theorem nL_app (l m : List Nat) : nL l ++ nL m = nL (l ++ m) := by unfold nL; rw [List.map_append]

/-! ### heaps -/
/-- what is new in H' -/
def frs (H H' : Hp) : Hp := fun b => match H b with
  | some _ => none
  | none => H' b
theorem frs_at {H H' : Hp} {b : Addr} (h : H b = none) : frs H H' b = H' b := by unfold frs; rw [h]
theorem frs_old {H H' : Hp} {b : Addr} {o : HO} (h : H b = some o) : frs H H' b = none := by unfold frs; rw [h]
theorem frs_some {H H' : Hp} {b : Addr} {o : HO} (h : frs H H' b = some o) : H b = none ∧ H' b = some o := by
  cases e : H b with
  | none => rw [frs_at e] at h; exact ⟨rfl, h⟩
  | some u => rw [frs_old e] at h; cases h
theorem frs_sub (H H' : Hp) : Same (frs H H') H' := fun _ _ h => (frs_some h).2
theorem frs_r (H : Hp) {H1 H2 : Hp} (s : Same H1 H2) : Same (frs H H1) (frs H H2) := fun b o h => by
  obtain ⟨h1, h2⟩ := frs_some h
  rw [frs_at h1]; exact s b o h2
theorem frs_l {H H1 : Hp} (s : Same H H1) (H2 : Hp) : Same (frs H1 H2) (frs H H2) := fun b o h => by
  obtain ⟨h1, h2⟩ := frs_some h
  rw [frs_at (s.free h1)]; exact h2
theorem same_new {H : Hp} {p : Addr} {o : HO} (h : H p = none) : Same H (upd H p o) := fun b x e => by rw [upd_ne (ne_of_none e h)]; exact e
/-- a thing that is new since H may change: what stood in H stays -/
theorem same_upd {H H' : Hp} {p : Addr} {o : HO} (s : Same H H') (h : H p = none) : Same H (upd H' p o) := fun b x e => by rw [upd_ne (ne_of_none e h)]; exact s b x e

/-! ### relations -/
abbrev Rel (α : Type) := Hp → V → α → Prop
def Mono {α : Type} (R : Rel α) : Prop := ∀ H H' v x, Same H H' → R H v x → R H' v x
def RN : Rel Nat := fun _ v n => v = nV n
def RNs : Rel (List Nat) := fun H v l => ∃ a, v = .ref a ∧ H a = some (.lst (nL l))
def RIs : Rel (List Int) := fun H v l => ∃ a, v = .ref a ∧ H a = some (.lst (l.map V.int))
def RL {α : Type} (R : Rel α) : Rel (List α) := fun H v xs => ∃ a vs, v = .ref a ∧ H a = some (.lst vs) ∧ A2 (R H) vs xs
theorem monoN : Mono RN := fun _ _ _ _ _ h => h
theorem monoNs : Mono RNs := fun _ _ _ _ s ⟨a, e, h⟩ => ⟨a, e, s _ _ h⟩
theorem monoIs : Mono RIs := fun _ _ _ _ s ⟨a, e, h⟩ => ⟨a, e, s _ _ h⟩
theorem monoL {α : Type} {R : Rel α} (m : Mono R) : Mono (RL R) := fun _ _ _ _ s ⟨a, vs, e, h, q⟩ => ⟨a, vs, e, s _ _ h, q.mono fun _ _ r => m _ _ _ _ s r⟩
theorem A2_nL {l : List Nat} : A2 (fun v (n : Nat) => v = nV n) (nL l) l := by
  induction l with
  | nil => exact .nil
  | cons n l ih => exact .cons rfl ih
theorem nL_A2 : ∀ {vs : List V} {l : List Nat}, A2 (fun v (n : Nat) => v = nV n) vs l → vs = nL l
  | _, _, .nil => rfl
  | _, _, .cons h t => by rw [h, nL_A2 t]; rfl
theorem RNs_of {H : Hp} {v : V} {l : List Nat} (h : RL RN H v l) : RNs H v l := by
  obtain ⟨a, vs, e, h, q⟩ := h
  exact ⟨a, e, by rw [h, nL_A2 q]⟩
/-- a choice -/
structure Ch where
  total : Nat
  prices : List Nat
def chF (t : Nat) (p : Addr) : List (Str × V) := [("total", nV t), ("prices", .ref p)]
def bkF (s : Nat) (d : Addr) : List (Str × V) := [("seats", nV s), ("demand", .ref d)]
def plF (mp ms : Nat) (l : Addr) : List (Str × V) := [("max_price", nV mp), ("max_step", nV ms), ("blocks", .ref l)]
def ssF (v : V) : List (Str × V) := [("planner", v)]
def RCh (C : Addr) : Rel Ch := fun H v c => ∃ a dx p, v = .ref a ∧ H a = some (.ins C dx (chF c.total p)) ∧ H p = some (.lst (nL c.prices))
def RB (C : Addr) : Rel Block := fun H v b => ∃ a dx d, v = .ref a ∧ H a = some (.ins C dx (bkF b.seats d)) ∧ H d = some (.lst (nL b.demand))
/-- a planner, to be read -/
def RP (CP CB : Addr) : Rel Market := fun H v m => ∃ p dx l, v = .ref p ∧ H p = some (.ins CP dx (plF m.maxPrice m.maxStep l)) ∧ RL (RB CB) H (.ref l) m.blocks
theorem monoCh {C : Addr} : Mono (RCh C) := fun _ _ _ _ s ⟨a, dx, p, e, h, q⟩ => ⟨a, dx, p, e, s _ _ h, s _ _ q⟩
theorem monoB {C : Addr} : Mono (RB C) := fun _ _ _ _ s ⟨a, dx, p, e, h, q⟩ => ⟨a, dx, p, e, s _ _ h, s _ _ q⟩
theorem monoP {CP CB : Addr} : Mono (RP CP CB) := fun _ _ _ _ s ⟨a, dx, p, e, h, q⟩ => ⟨a, dx, p, e, s _ _ h, monoL monoB _ _ _ _ s q⟩

theorem lk_here {k : Str} {v : V} {r : List (Str × V)} : List.lookup k ((k, v) :: r) = some v := by
  have e : (k == k) = true := beq_self_eq_true k
  simp only [List.lookup, e]
theorem lk_past {k g : Str} {v : V} {r : List (Str × V)} (h : (k == g) = false) : List.lookup k ((g, v) :: r) = List.lookup k r := by
  simp only [List.lookup, h]
theorem ch_total (t : Nat) (p : Addr) : (chF t p).lookup ("total" : Str) = some (nV t) := lk_here
theorem ch_prices (t : Nat) (p : Addr) : (chF t p).lookup ("prices" : Str) = some (.ref p) := (lk_past (by decide +kernel)).trans lk_here
theorem bk_seats (t : Nat) (p : Addr) : (bkF t p).lookup ("seats" : Str) = some (nV t) := lk_here
theorem bk_demand (t : Nat) (p : Addr) : (bkF t p).lookup ("demand" : Str) = some (.ref p) := (lk_past (by decide +kernel)).trans lk_here
theorem pl_price (t u : Nat) (p : Addr) : (plF t u p).lookup ("max_price" : Str) = some (nV t) := lk_here
theorem pl_step (t u : Nat) (p : Addr) : (plF t u p).lookup ("max_step" : Str) = some (nV u) := (lk_past (by decide +kernel)).trans lk_here
theorem pl_blocks (t u : Nat) (p : Addr) : (plF t u p).lookup ("blocks" : Str) = some (.ref p) := (lk_past (by decide +kernel)).trans ((lk_past (by decide +kernel)).trans lk_here)
theorem ss_planner (v : V) : (ssF v).lookup ("planner" : Str) = some v := lk_here

theorem pf_here {f : Str} {v x : V} {r : List (Str × V)} : putF f v ((f, x) :: r) = (f, v) :: r := if_pos rfl
theorem pf_past {f g : Str} {v x : V} {r : List (Str × V)} (h : ¬ g = f) : putF f v ((g, x) :: r) = (g, x) :: putF f v r := if_neg h
theorem ch_new (t : Nat) (p : Addr) : putF "prices" (.ref p) (putF "total" (nV t) []) = chF t p := (pf_past (by decide +kernel)).trans rfl
theorem bk_new (t : Nat) (p : Addr) : putF "demand" (.ref p) (putF "seats" (nV t) []) = bkF t p := (pf_past (by decide +kernel)).trans rfl
theorem pl_new (t u : Nat) (p : Addr) : putF "blocks" (.ref p) (putF "max_step" (nV u) (putF "max_price" (nV t) [])) = plF t u p := by
  have e1 : putF "max_step" (nV u) (putF "max_price" (nV t) []) = [(("max_price" : Str), nV t), ("max_step", nV u)] := (pf_past (by decide +kernel)).trans rfl
  rw [e1]
  exact (pf_past (by decide +kernel)).trans (congrArg _ ((pf_past (by decide +kernel)).trans rfl))
theorem bk_put_seats (t u : Nat) (p : Addr) : putF "seats" (nV u) (bkF t p) = bkF u p := pf_here
theorem bk_put_demand (t : Nat) (p q : Addr) : putF "demand" (.ref q) (bkF t p) = bkF t q := (pf_past (by decide +kernel)).trans (congrArg _ pf_here)
theorem pl_put_step (t u w : Nat) (p : Addr) : putF "max_step" (nV w) (plF t u p) = plF t w p := (pf_past (by decide +kernel)).trans (congrArg _ pf_here)
theorem ss_put (v w : V) : putF "planner" w (ssF v) = ssF w := pf_here

/-! ### what stands of the top -/
structure Txt (K : PySem.W.Frag) (mg : Str → Option Value) (CB CC CP CS aS aR : Addr) : Prop where
  clB : Cls K CB
  clC : Cls K CC
  clP : Cls K CP
  clS : Cls K CS
  nBs : NoAttr K CB "seats"
  nBd : NoAttr K CB "demand"
  nCt : NoAttr K CC "total"
  nCp : NoAttr K CC "prices"
  nPp : NoAttr K CP "max_price"
  nPs : NoAttr K CP "max_step"
  nPb : NoAttr K CP "blocks"
  nSp : NoAttr K CS "planner"
  gSession : mg "Session" = some (.ref CS)
  len : mg "len" = none
  range : mg "range" = none
  zip : mg "zip" = none
  max : mg "max" = none
  min : mg "min" = none
  sum : mg "sum" = none
  sorted : mg "sorted" = none
  reversed : mg "reversed" = none
  cGREATEST_PRICE : ∃ u, mg "GREATEST_PRICE" = some u ∧ RelV (.int 7) u
  cGREATEST_STEP : ∃ u, mg "GREATEST_STEP" = some u ∧ RelV (.int 7) u
  cMOST_PEOPLE : ∃ u, mg "MOST_PEOPLE" = some u ∧ RelV (.int 999) u
  cMOST_BLOCKS : ∃ u, mg "MOST_BLOCKS" = some u ∧ RelV (.int 5) u
  cNO_BLOCK : ∃ u, mg "NO_BLOCK" = some u ∧ RelV (.int (-2)) u
  cNO_PLANNER : ∃ u, mg "NO_PLANNER" = some u ∧ RelV (.int (-11)) u
  cOUT_OF_RANGE : ∃ u, mg "OUT_OF_RANGE" = some u ∧ RelV (.int (-22)) u
  cTOO_MANY_BLOCKS : ∃ u, mg "TOO_MANY_BLOCKS" = some u ∧ RelV (.int (-28)) u
  cNO_PRICE_LIST : ∃ u, mg "NO_PRICE_LIST" = some u ∧ RelV (.int (-33)) u
  cCREATE : ∃ u, mg "CREATE" = some u ∧ RelV (.int 0) u
  cSINGLES : ∃ u, mg "SINGLES" = some u ∧ RelV (.ref aS) u
  cWITH_ROW : ∃ u, mg "WITH_ROW" = some u ∧ RelV (.ref aR) u
  sS : ∀ H, SqT K H aS (nL [2, 1, 1, 2, 1, 1, 2, 2, 2, 0, 0, 0, 0, 0, 0, 0, 2, 1, 1, 1, 1, 1, 0])
  sR : ∀ H, SqT K H aR (nL [1, 4, 12, 13, 14])

/-! ### mirror -/
def tbl (b : Block) : List Nat := (List.range b.demand.length).map fun p => p * min b.seats (b.demand.getD p 0)
def atb (b : Block) : List Nat := (List.range b.demand.length).map fun p => min b.seats (b.demand.getD p 0)
def totalAt (ts : List (List Nat)) (ps : List Nat) : Nat := ((ts.zip ps).map fun q => q.1.getD q.2 0).sum
def ahead (a b s : Nat) : Bool := decide (b ≤ a) && decide (a ≤ b + s)
def keeps (l : List Nat) (s : Nat) : Bool := (l.zip (l.drop 1)).all fun q => ahead q.1 q.2 s
def okp (p s : Nat) : List Nat → Bool
  | [] => true
  | x :: _ => ahead p x s
def led (p : Nat) (ls : List (List Nat)) (s : Nat) : List (List Nat) := (ls.filter (okp p s)).map fun r => p :: r
def ordL (mp ms : Nat) : Nat → List (List Nat)
  | 0 => [[]]
  | c + 1 => (List.range (mp + 1)).flatMap fun p => led p (ordL mp ms c) ms
/-- the first greatest -/
def fbGo (b : Ch) : List Ch → Ch
  | [] => b
  | c :: r => fbGo (if b.total < c.total then c else b) r
def fb : List Ch → Ch
  | [] => ⟨0, []⟩
  | c :: r => fbGo c r
def ledBy (p e : Nat) (cs : List Ch) (ms : Nat) : Ch :=
  ⟨e + (fb ((cs.drop (p - ms)).take (p + 1 - (p - ms)))).total, p :: (fb ((cs.drop (p - ms)).take (p + 1 - (p - ms)))).prices⟩
def chs (mp ms : Nat) : List (List Nat) → List Ch
  | [] => (List.range (mp + 1)).map fun _ => ⟨0, []⟩
  | t :: ts => (List.range (mp + 1)).map fun p => ledBy p (t.getD p 0) (chs mp ms ts) ms
def bestOrd (ts : List (List Nat)) (mp ms : Nat) : Ch := fb (chs mp ms ts)
def bestOf (ts : List (List Nat)) (ls : List (List Nat)) : Ch := fb (ls.map fun l => ⟨totalAt ts l, l⟩)
def maxL (l : List Nat) : Nat := l.foldl max 0
def firstIx (x : Nat) : List Nat → Nat
  | [] => 0
  | y :: r => if y = x then 0 else firstIx x r + 1
def singles (ts : List (List Nat)) : Ch := ⟨(ts.map maxL).sum, ts.map fun t => firstIx (maxL t) t⟩
end Bp

/-! # blockprices: three rules that the layer lacks -/
namespace Bp
open PySem PySem.Spec PyProof.Rows L2

/-! ### a call of a local that holds one of several defs -/
def tCallS (i : Nat) (S : Addr → Sp → Prop) (t : TA) : TE := fun σ H Q => ∃ f sp, σ[i]? = some (some (.ref f)) ∧ S f sp ∧ t σ H fun vs H1 => sp vs H1 Q (fun _ _ _ => False)
theorem pe_callR {X : Cx} {k i : Nat} {x : Str} {p pos : Pos} {e : Expr} {es : List Expr} {t : TA} {S : Addr → Sp → Prop} (A : ∀ f sp, S f sp → Held X.prog X.w X.K X.mg X.base k f sp) (hr : Room k X.A) (hN : X.N[i]? = some x) (hv : Vis X.env.scope x) (ha : PA X (e :: es) t)
    (d1 : (x == ("__debug__" : Str)) = false := by decide) (d2 : (x == ("__classdict__" : Str)) = false := by decide)
    (d3 : starEach (e :: es) X.env = (false, eval e X.env) :: starEach es X.env := by rfl) (d4 : (backTo pos (starEach es X.env)).any (·.1) = false := by rfl) : PE X (.Call (.Name x p) (e :: es) [] pos) (tCallS i S t) := by
  constructor
  intro pins s σ H Q I ⟨f, sp, h1, h2, h3⟩
  obtain ⟨fd, ps, F, kp, b⟩ := (A f sp h2).ex
  have z := pe_callL (i := i) (p := p) (f := f) (sp := sp) (dvs := []) (E := fun _ _ _ => False) F hr hN hv kp b .nil (fun _ _ _ _ _ _ _ z => z.elim) ha d1 d2 d3 d4
  refine z.run pins s σ H Q I ⟨h1, ?_⟩
  have e1 : (fun (vs : List V) (H1 : Hp) => sp (vs ++ []) H1 Q fun _ _ _ => False) = fun vs H1 => sp vs H1 Q fun _ _ _ => False := by
    funext vs H1; rw [List.append_nil]
  show t σ H fun vs H1 => sp (vs ++ []) H1 Q fun _ _ _ => False
  rw [e1]; exact h3

/-! ### d[k], d a dict of the top with keys that are ints -/
def IntKeys (es : Array DictEntry) : Prop := ∀ e ∈ es, ∃ k t, e.key = .int k t ∧ e.hash = hashInt k
def KInt (K : PySem.W.Frag) (a : Addr) (k : Int) (v : V) : Prop :=
  ∃ es n u, K.lookup a = some ⟨.type "dict", none, .dict es n, #[]⟩ ∧ IntKeys es ∧ findBy Value.isInt es k = some u ∧ RelV v u
def rIxKI (K : PySem.W.Frag) : R2 := fun x y H Q => ∃ p k v, x = .ref p ∧ y = .int k ∧ KInt K p k v ∧ Q v H
theorem ix_kint {X : Cx} : IxR X (rIxKI X.K) := by
  intro value slice pins s σ H x y v u Q I rx ry ⟨p, k, r, ex, ey, ⟨es, n, u0, hl, hk, hf, ru⟩, q⟩ hs
  subst ex; subst ey
  obtain rfl : v = Value.ref p := rx
  obtain ⟨t, rfl⟩ := (show ∃ t, u = Value.int k t from ry)
  have hm : s.heap.MapOf (intKind X.prog X.w) p (fun j => findBy Value.isInt es j) := ⟨_, es, n, I.kIn _ _ hl, ⟨rfl, rfl, rfl⟩, rfl, fun e he => by
    obtain ⟨j, t', e1, e2⟩ := hk e he
    exact ⟨j, by rw [e1]; exact intKind_is _ _ j t', e2⟩, fun _ => rfl⟩
  exact tail_any hm.typeIs slot_dict_getitem.lookup (wpAny_getItem_of (intKind_is X.prog X.w k t) hm hf ⟨r, H, I.tok _, ru, q⟩) hs

/-! ### max(xs, default=d) -/
section
variable {prog : Program} {w : World} {A : Around} {R : Result → Shared → Prop} {I : Addr} {fp wr : List Addr} {n : Nat} {P : Nat → Value → Prop} {St : Nat → Heap → Prop}
theorem nm_loop : (toString "max" ++ toString ".loop" : String) = "max.loop" := by decide
theorem mx_go (W : Walks prog w A.in1 I fp wr n P St) (bt : Nat → Nat → Bool) (cm : CmpOf prog w A.in1 .Gt P bt) (S : Addr) (nS : S ∉ fp) (kw : List (Str × Value)) :
    ∀ (k j : Nat) (s : Shared) (b : Value) (c : Nat), n - (j + 1) = k → j + 1 ≤ n → St (j + 1) s.heap → P (argBest bt j) b → s.heap.get? S = some { cls := .type "list", dict := none, data := .seq #[b, b] c, slots := #[] } →
      (∀ v h2 tk, P (argBest bt (n - 1)) v → (∀ a o, a ∉ wr → a ≠ S → s.heap.get? a = some o → h2.get? a = some o) → R (.ok (.ret v)) { s with heap := h2, toks := tk }) →
      codeAny (model prog w) A (.builtin "max.loop" ⟨[.ref I, .none, .ref S], kw⟩) R s := by
  have nSw : S ∉ wr := fun h => nS (W.sub _ h)
  intro k
  induction k with
  | zero =>
    intro j s b c hk hj st pb hS hR
    have ej : j + 1 = n := by omega
    refine codeAny_builtin PySem.F.entry_max_loop ?_; rw [Around.under_plainId PySem.F.plain_max_loop _]
    show wpAny _ A.in1 (seqItems? (.ref S) >>= _) _ _ s; refine wpAny_bind (wpAny_seqItems hS rfl ?_)
    show wpAny _ A.in1 (tryCatch (pyNext (.ref I)) _ >>= _) _ _ s
    refine wpAny_bind (wpAny_tryCatch (W.done s _ _ (ej ▸ st) fun h1 tk kp => ?_))
    have hS1 := kp S _ nSw hS
    show wpAny _ A.in1 (updateSeq S (fun _ => #[]) >>= _) _ _ _
    refine wpAny_bind (wpAny_updateSeq hS1 rfl (wpAny_bind (wpAny_letGo (wpAny_pure ?_))))
    exact hR b _ tk (by rw [← ej]; exact pb) fun a o na nb e => (Heap.get?_update_other _ _ (Ne.symm nb)).trans (kp a o na e)
  | succ k ih =>
    intro j s b c hk hj st pb hS hR
    have lt : j + 1 < n := by omega
    refine codeAny_builtin PySem.F.entry_max_loop ?_; rw [Around.under_plainId PySem.F.plain_max_loop _]
    show wpAny _ A.in1 (seqItems? (.ref S) >>= _) _ _ s; refine wpAny_bind (wpAny_seqItems hS rfl ?_)
    show wpAny _ A.in1 (tryCatch (pyNext (.ref I)) _ >>= _) _ _ s
    refine wpAny_bind (wpAny_tryCatch (W.item (j + 1) s _ _ lt st fun v h1 tk pv1 st1 kp => ?_))
    have hS1 := kp S _ nSw hS
    show wpAny _ A.in1 (tryCatch (holding [v, v] (richCompare .Gt v b >>= _)) _ >>= _) _ _ _
    refine wpAny_bind (wpAny_tryCatch (wpAny_holding (wpAny_bind (cm (j + 1) (argBest bt j) v b _ _ _ pv1 pb ?_))))
    refine wpAny_bind (wpAny_holding (wpAny_truthy_bool ?_)); refine wpAny_bind (wpAny_letGo (wpAny_pure ?_))
    cases hb : bt (j + 1) (argBest bt j) with
    | true =>
      simp only [if_true]
      refine wpAny_bind (wpAny_updateSeq hS1 rfl (wpAny_bind (wpAny_letGo ?_)))
      rw [nm_loop]
      refine wpAny_pure ⟨plainId_quiet PySem.F.plain_max_loop _, ih (j + 1) _ v _ (by omega) lt (W.frame _ _ _ st1 fun a ha o e => ?_) (by simp only [argBest, hb, if_true]; exact pv1) (Heap.get?_update_self _ hS1 rfl) fun v2 h2 tk2 pv2 kp2 => ?_⟩
      · exact (Heap.get?_update_other _ _ (fun h : S = a => nS (by rw [h]; exact ha))).trans e
      · exact hR v2 h2 tk2 pv2 fun a o na nb e => kp2 a o na nb ((Heap.get?_update_other _ _ (Ne.symm nb)).trans (kp a o na e))
    | false =>
      simp only [Bool.false_eq_true, if_false]
      refine wpAny_bind (wpAny_letGo ?_); rw [nm_loop]
      refine wpAny_pure ⟨plainId_quiet PySem.F.plain_max_loop _, ih (j + 1) _ b c (by omega) lt st1 (by simp only [argBest, hb, Bool.false_eq_true, if_false]; exact pb) hS1 fun v2 h2 tk2 pv2 kp2 => ?_⟩
      exact hR v2 h2 tk2 pv2 fun a o na nb e => kp2 a o na nb (kp a o na e)
theorem mx_first (W : Walks prog w A.in1 I fp wr n P St) (bt : Nat → Nat → Bool) (cm : CmpOf prog w A.in1 .Gt P bt) (S : Addr) (nS : S ∉ fp) (kw : List (Str × Value)) (hn : 0 < n) {s : Shared} {c : Nat} (st : St 0 s.heap)
    (hS : s.heap.get? S = some { cls := .type "list", dict := none, data := .seq #[] c, slots := #[] })
    (hR : ∀ v h2 tk, P (argBest bt (n - 1)) v → (∀ a o, a ∉ wr → a ≠ S → s.heap.get? a = some o → h2.get? a = some o) → R (.ok (.ret v)) { s with heap := h2, toks := tk }) :
    codeAny (model prog w) A (.builtin "max.loop" ⟨[.ref I, .none, .ref S], kw⟩) R s := by
  have nSw : S ∉ wr := fun h => nS (W.sub _ h)
  refine codeAny_builtin PySem.F.entry_max_loop ?_; rw [Around.under_plainId PySem.F.plain_max_loop _]
  show wpAny _ A.in1 (seqItems? (.ref S) >>= _) _ _ s; refine wpAny_bind (wpAny_seqItems hS rfl ?_)
  show wpAny _ A.in1 (tryCatch (pyNext (.ref I)) _ >>= _) _ _ s
  refine wpAny_bind (wpAny_tryCatch (W.item 0 s _ _ hn st fun v h1 tk pv1 st1 kp => ?_))
  have hS1 := kp S _ nSw hS
  show wpAny _ A.in1 (updateSeq S (fun _ => #[v, v]) >>= _) _ _ _
  refine wpAny_bind (wpAny_updateSeq hS1 rfl ?_); rw [nm_loop]
  refine wpAny_pure ⟨plainId_quiet PySem.F.plain_max_loop _, mx_go W bt cm S nS kw _ 0 _ v _ rfl hn (W.frame _ _ _ st1 fun a ha o e => ?_) pv1 (Heap.get?_update_self _ hS1 rfl) fun v2 h2 tk2 pv2 kp2 => ?_⟩
  · exact (Heap.get?_update_other _ _ (fun h : S = a => nS (by rw [h]; exact ha))).trans e
  · exact hR v2 h2 tk2 pv2 fun a o na nb e => kp2 a o na nb ((Heap.get?_update_other _ _ (Ne.symm nb)).trans (kp a o na e))
theorem mx_none (W : Walks prog w A.in1 I fp wr 0 P St) (S : Addr) (nS : S ∉ fp) (d : Value) {s : Shared} {c : Nat} (st : St 0 s.heap)
    (hS : s.heap.get? S = some { cls := .type "list", dict := none, data := .seq #[] c, slots := #[] })
    (hR : ∀ h2 tk, (∀ a o, a ∉ wr → a ≠ S → s.heap.get? a = some o → h2.get? a = some o) → R (.ok (.ret d)) { s with heap := h2, toks := tk }) :
    codeAny (model prog w) A (.builtin "max.loop" ⟨[.ref I, .none, .ref S], [(Str.ofString "default", d)]⟩) R s := by
  refine codeAny_builtin PySem.F.entry_max_loop ?_; rw [Around.under_plainId PySem.F.plain_max_loop _]
  show wpAny _ A.in1 (seqItems? (.ref S) >>= _) _ _ s; refine wpAny_bind (wpAny_seqItems hS rfl ?_)
  show wpAny _ A.in1 (tryCatch (pyNext (.ref I)) _ >>= _) _ _ s
  refine wpAny_bind (wpAny_tryCatch (W.done s _ _ st fun h1 tk kp => ?_))
  refine wpAny_bind (wpAny_rule ?_)
  exact wpAny_pure (hR h1 tk fun a o na _ e => kp a o na e)
theorem args_maxD (a v : Value) : argsOk "max" ⟨[a], [(Str.ofString "default", v)]⟩ := by
  unfold argsOk
  kernel_rfl
end
section
variable {prog : Program} {w : World} {A : Around} {E : Value → Shared → Prop} {s : Shared} {l : Addr} {xs : Array (Int × Tok)}
theorem max_dflt {Q : Value → Shared → Prop} {d : Value} (hh : A.handled = none) (hl : s.heap.IsList l (intItems xs))
    (h0 : xs.size = 0 → ∀ h2 tk, (∀ b o, s.heap.get? b = some o → h2.get? b = some o) → Q d { s with heap := h2, toks := tk })
    (h : 0 < xs.size → ∀ v h2 tk, (intItems xs)[argBest (fun i j => decide (numAt xs i > numAt xs j)) (xs.size - 1)]? = some v → (∀ b o, s.heap.get? b = some o → h2.get? b = some o) → Q v { s with heap := h2, toks := tk }) :
    wpAny (model prog w) A (call (.builtin "max") [.ref l] [(Str.ofString "default", d)]) Q E s := by
  refine PyProof.Rows.kmk_tree PySem.F.kind_max PySem.F.plain_max PySem.F.entry_max (args_maxD _ _) ?_
  show wpAny _ A.in1 (Builtin.Builtins.bindParams "max" ["key", "default"] 0 ⟨[], [(Str.ofString "default", d)]⟩ >>= _) _ _ s
  refine wpAny_bind (wpAny_of_eq (show Builtin.Builtins.bindParams "max" ["key", "default"] 0 ⟨[], [(Str.ofString "default", d)]⟩ = pure [none, some d] from rfl) ?_)
  refine wpAny_bind (wpAny_pure ?_)
  refine wpAny_bind (iter_intList hl fun s2 e st hfp hlI => ?_)
  subst e
  refine wpAny_bind (wpAny_newObj_type ?_)
  have hSf : (s.heap.push { cls := .type "list_iterator", data := .fields #[.ref l, .int 0 0] }).objs.size ∉ [s.heap.objs.size, l] := fun hm => Nat.lt_irrefl _ (hfp _ hm)
  rw [nm_loop]
  have W := Walks.list (prog := prog) (w := w) (A := A.in1) hh s.heap.objs.size l hlI (intItems xs)
  refine wpAny_pure ⟨plainId_quiet PySem.F.plain_max_loop _, ?_⟩
  have old : ∀ {h2 : Heap}, (∀ b o, b ∉ [s.heap.objs.size] → b ≠ (s.heap.push { cls := .type "list_iterator", data := .fields #[.ref l, .int 0 0] }).objs.size → ((s.heap.push { cls := .type "list_iterator", data := .fields #[.ref l, .int 0 0] }).push { cls := .type "list", data := .seq #[] }).get? b = some o → h2.get? b = some o) → ∀ b o, s.heap.get? b = some o → h2.get? b = some o := by
    intro h2 k b o e
    have hb : b < s.heap.objs.size := Heap.lt_size e
    refine k b o (fun m => ?_) ?_ (Heap.get?_push_of_some _ (Heap.get?_push_of_some _ e))
    · rw [List.mem_singleton.mp m] at hb
      exact Nat.lt_irrefl _ hb
    · rw [Heap.size_push]
      exact Nat.ne_of_lt (Nat.lt_succ_of_lt hb)
  have hsz : (intItems xs).size = xs.size := by simp [intItems]
  by_cases hz : xs.size = 0
  · have W0 := hsz.trans hz ▸ W
    exact mx_none W0 _ hSf d (W.frame _ _ _ st fun b _ o e => Heap.get?_push_of_some _ e) (Heap.get?_push_size _ rfl) fun h2 tk kp => h0 hz h2 tk (old kp)
  · refine mx_first W _ (CmpOf.ints_gt (numAt xs) fun _ _ => intItems_at) _ hSf _ (by rw [hsz]; omega) (W.frame _ _ _ st fun b _ o e => Heap.get?_push_of_some _ e) (Heap.get?_push_size _ rfl) fun v h2 tk pv1 kp => ?_
    rw [hsz] at pv1
    exact h (by omega) v h2 tk pv1 (old kp)
end
def rMaxD (K : PySem.W.Frag) : List V → List V → Hp → VK → Prop := fun vs zs H Q => ∃ (a : Addr) (ns : List Int) (d : Int), vs = [V.ref a] ∧ zs = [V.int d] ∧ SqL K H a (ns.map V.int) ∧ (ns = [] → Q (.int d) H) ∧ ∀ m, m ∈ ns → (∀ y, y ∈ ns → y ≤ m) → Q (.int m) H
theorem cr_maxD {X : Cx} (hc : X.calm = true) : CallRK X (.builtin "max") [Str.ofString "default"] (rMaxD X.K) := by
  intro pins s σ H vs zs us ws Q I r rz ⟨a, ns, d, e1, e2, hs, q0, q1⟩
  subst e1; subst e2
  obtain ⟨its, rv, hl, hz⟩ := I.list hs
  obtain rfl := Vals.ref1 r
  obtain ⟨w1, rfl, t, rfl⟩ := vals1 rz
  obtain ⟨xs, e⟩ := rv.ints.allInts.items
  have hn : numsOf (intItems xs).toList = ns := by rw [← e]; exact rv.ints.numsOf
  rw [nums_intItems] at hn
  have hL : s.heap.IsList a (intItems xs) := e ▸ hl.isList
  subst hn
  refine max_dflt (I.ok.hd hc) hL (fun h0 h2 tk k => ?_) (fun h0 v h2 tk hv k => ?_)
  · refine ⟨.int d, H, I.kept k, ⟨_, rfl⟩, q0 ?_⟩
    apply List.eq_nil_of_length_eq_zero
    simpa using h0
  · obtain ⟨t2, rfl⟩ := intItems_at hv
    obtain ⟨g1, g2⟩ := argBest_gt (numAt xs) (xs.size - 1)
    refine ⟨.int _, H, I.kept k, ⟨_, rfl⟩, q1 _ ?_ fun y hy => ?_⟩
    · rw [numAt_eq]; exact PySem.getD_mem (by rw [List.length_map, Array.length_toList]; omega)
    · obtain ⟨j, hj, rfl⟩ := mem_getD hy
      rw [List.length_map, Array.length_toList] at hj
      rw [← numAt_eq]; exact g2 j (by omega)
end Bp

/-! # blockprices: comprehensions, the small defs -/
namespace Bp
open PySem PySem.Spec PyProof.Rows L2
open C8 (Cal pe_c Mak pe_mk pe_gc)
open Kv438 (Block Market Operation Response)

/-! ### comprehensions -/
theorem take_snoc {α : Type} : ∀ {l : List α} {i : Nat} {x : α}, l[i]? = some x → l.take (i + 1) = l.take i ++ [x]
  | [], i, x, h => by simp at h
  | a :: l, 0, x, h => by
    have e : a = x := Option.some.inj h
    subst e; rfl
  | a :: l, i + 1, x, h => by
    have ih := take_snoc (l := l) (i := i) (x := x) h
    show a :: l.take (i + 1) = a :: l.take i ++ [x]
    rw [ih]; rfl
section
variable {α : Type} {R : Rel α} {J : It} {n : Nat} {G : Hp → Prop} {Y : Nat → Hp → V → Hp → Prop} {g : TG} {tt : TT} {te : TE} {vs : List Nat} {σ : L2.St} {H1 : Hp} {D : Addr} {Qd : Hp → Prop}
theorem lc_gen {Z : Hp → Hp} (wk : Walk J n G Y) (ys : List (Option α)) (hys : ys.length = n) (hn : n ≤ 1000000) (hD : H1 D = none) (mR : Mono R) (z1 : ∀ H H', Same H H' → Same (Z H) (Z H')) (z2 : ∀ H o, Same (Z H) (Z (upd H D o)))
    (hG : ∀ H, Same H1 H → G H)
    (hb : ∀ i x H H' oy, ys[i]? = some oy → Same H1 H → (∃ us, H D = some (.lst us)) → Y i H x H' → ∀ (Qs : VK) (Qn : Hp → Prop), (∀ y v H4, oy = some y → Same H H4 → R (Z H4) v y → Qs v H4) → (∀ H4, oy = none → Same H H4 → Qn H4) →
      g x (wipe σ vs) H' fun σ2 H2 => wipe σ2 vs = wipe σ vs ∧ tt σ2 H2 fun b H3 => if b = true then te σ2 H3 Qs else Qn H3)
    (hd : ∀ H' us, Same H1 H' → H' D = some (.lst us) → A2 (R (Z H')) us (ys.filterMap id) → Qd H') :
    ∃ W : Nat → Nat → Hp → Prop, (∃ m, W 0 m (upd H1 D (.lst []))) ∧ ∀ i m H, W i m H →
      (J.stop i H ∧ Qd H) ∨ (J.go i H ∧ ∃ Nx : Hp → Prop, (∀ H', Nx H' → ∃ m', m' < m ∧ W (i + 1) m' H') ∧ ∀ x H', J.yld i H x H' → g x (wipe σ vs) H' fun σ2 H2 => wipe σ2 vs = wipe σ vs ∧ tt σ2 H2 fun b H3 =>
        if b = true then te σ2 H3 fun y H4 => ∃ acc, H4 D = some (.lst acc) ∧ acc.length < sizeLine ∧ Nx (upd H4 D (.lst (acc ++ [y]))) else Nx H3) := by
  refine lc_it wk (fun i H => Same H1 H ∧ ∃ us, H D = some (.lst us) ∧ us.length ≤ i ∧ A2 (R (Z H)) us ((ys.take i).filterMap id)) ⟨same_new hD, [], upd_same, Nat.le_refl _, .nil⟩ (fun i H _ p => hG H p.1) ?_ ?_
  · rintro i x H H' hi ⟨s1, us, hu, hl, q⟩ hy
    obtain ⟨oy, ho⟩ : ∃ oy, ys[i]? = some oy := ⟨ys[i]'(by omega), List.getElem?_eq_getElem (by omega)⟩
    have ht := take_snoc ho
    refine hb i x H H' oy ho s1 ⟨us, hu⟩ hy _ _ (fun y v H4 e s2 r => ?_) (fun H4 e s2 => ?_)
    · subst e
      have h4 := s2 _ _ hu
      refine ⟨us, h4, Nat.lt_of_le_of_lt (Nat.le_trans hl (by omega : i ≤ 1000000)) (by decide), same_upd (s1.trans s2) hD, _, upd_same, by rw [List.length_append]; exact Nat.add_le_add_right hl 1, ?_⟩
      rw [ht, List.filterMap_append]
      have s3 : Same (Z H4) (Z (upd H4 D (.lst (us ++ [v])))) := z2 _ _
      exact A2.app (q.mono fun _ _ z => mR _ _ _ _ ((z1 _ _ s2).trans s3) z) (A2.one (mR _ _ _ _ s3 r))
    · subst e
      refine ⟨s1.trans s2, us, s2 _ _ hu, Nat.le_succ_of_le hl, ?_⟩
      rw [ht, List.filterMap_append]
      show A2 _ us (_ ++ [])
      rw [List.append_nil]
      exact q.mono fun _ _ z => mR _ _ _ _ (z1 _ _ s2) z
  · rintro H ⟨s1, us, hu, _, q⟩
    rw [List.take_of_length_le (by omega)] at q
    exact hd H us s1 hu q
/-- every item new -/
theorem lc_new (wk : Walk J n G Y) (ys : List (Option α)) (hys : ys.length = n) (hn : n ≤ 1000000) (hD : H1 D = none) (mR : Mono R) (hG : ∀ H, Same H1 H → G H)
    (hb : ∀ i x H H' oy, ys[i]? = some oy → Same H1 H → Y i H x H' → ∀ (Qs : VK) (Qn : Hp → Prop), (∀ y v H4, oy = some y → Same H H4 → R (frs H H4) v y → Qs v H4) → (∀ H4, oy = none → Same H H4 → Qn H4) →
      g x (wipe σ vs) H' fun σ2 H2 => wipe σ2 vs = wipe σ vs ∧ tt σ2 H2 fun b H3 => if b = true then te σ2 H3 Qs else Qn H3)
    (hd : ∀ H', Same H1 H' → RL R (frs H1 H') (.ref D) (ys.filterMap id) → Qd H') :
    ∃ W : Nat → Nat → Hp → Prop, (∃ m, W 0 m (upd H1 D (.lst []))) ∧ ∀ i m H, W i m H →
      (J.stop i H ∧ Qd H) ∨ (J.go i H ∧ ∃ Nx : Hp → Prop, (∀ H', Nx H' → ∃ m', m' < m ∧ W (i + 1) m' H') ∧ ∀ x H', J.yld i H x H' → g x (wipe σ vs) H' fun σ2 H2 => wipe σ2 vs = wipe σ vs ∧ tt σ2 H2 fun b H3 =>
        if b = true then te σ2 H3 fun y H4 => ∃ acc, H4 D = some (.lst acc) ∧ acc.length < sizeLine ∧ Nx (upd H4 D (.lst (acc ++ [y]))) else Nx H3) := by
  refine lc_gen (R := R) (Z := frs (upd H1 D (.lst []))) wk ys hys hn hD mR (fun _ _ s => frs_r _ s) (fun H o b u e => ?_) hG (fun i x H H' oy ho s1 hu hy Qs Qn f1 f2 => hb i x H H' oy ho s1 hy Qs Qn (fun y v H4 e s2 r => f1 y v H4 e s2 (mR _ _ _ _ ?_ r)) f2) (fun H' us s1 hu q => hd H' s1 ⟨D, us, rfl, by rw [frs_at hD]; exact hu, q.mono fun _ _ z => mR _ _ _ _ (frs_l (same_new hD) H') z⟩)
  · obtain ⟨h1, h2⟩ := frs_some e
    have ne : b ≠ D := fun q => by rw [q, upd_same] at h1; cases h1
    rw [frs_at h1, upd_ne ne]
    exact h2
  · intro b u e2
    obtain ⟨h1, h2⟩ := frs_some e2
    obtain ⟨us, hu⟩ := hu
    have ne : b ≠ D := fun q => by rw [q, hu] at h1; cases h1
    rw [frs_at (by rw [upd_ne ne]; exact s1.free h1)]
    exact h2
/-- every item old -/
theorem lc_old (wk : Walk J n G Y) (ys : List (Option α)) (hys : ys.length = n) (hn : n ≤ 1000000) (hD : H1 D = none) (mR : Mono R) (hG : ∀ H, Same H1 H → G H)
    (hb : ∀ i x H H' oy, ys[i]? = some oy → Same H1 H → Y i H x H' → ∀ (Qs : VK) (Qn : Hp → Prop), (∀ y v H4, oy = some y → Same H H4 → R H1 v y → Qs v H4) → (∀ H4, oy = none → Same H H4 → Qn H4) →
      g x (wipe σ vs) H' fun σ2 H2 => wipe σ2 vs = wipe σ vs ∧ tt σ2 H2 fun b H3 => if b = true then te σ2 H3 Qs else Qn H3)
    (hd : ∀ H', Same H1 H' → RL R H' (.ref D) (ys.filterMap id) → Qd H') :
    ∃ W : Nat → Nat → Hp → Prop, (∃ m, W 0 m (upd H1 D (.lst []))) ∧ ∀ i m H, W i m H →
      (J.stop i H ∧ Qd H) ∨ (J.go i H ∧ ∃ Nx : Hp → Prop, (∀ H', Nx H' → ∃ m', m' < m ∧ W (i + 1) m' H') ∧ ∀ x H', J.yld i H x H' → g x (wipe σ vs) H' fun σ2 H2 => wipe σ2 vs = wipe σ vs ∧ tt σ2 H2 fun b H3 =>
        if b = true then te σ2 H3 fun y H4 => ∃ acc, H4 D = some (.lst acc) ∧ acc.length < sizeLine ∧ Nx (upd H4 D (.lst (acc ++ [y]))) else Nx H3) :=
  lc_gen (R := R) (Z := fun _ => H1) wk ys hys hn hD mR (fun _ _ _ => Same.refl _) (fun _ _ => Same.refl _) hG (fun i x H H' oy ho s1 _ hy Qs Qn f1 f2 => hb i x H H' oy ho s1 hy Qs Qn f1 f2) fun H' us s1 hu q => hd H' s1 ⟨D, us, rfl, hu, q.mono fun _ _ z => mR _ _ _ _ s1 z⟩
end
theorem fm_some {α : Type} (l : List α) : (l.map some).filterMap id = l := by
  induction l with
  | nil => rfl
  | cons a l ih => simpa using ih

theorem cut_nat (xs : List V) (i j : Nat) (hi : i ≤ xs.length) (hj : j ≤ xs.length) : cutV xs (some (i : Int)) (some (j : Int)) = (xs.drop i).take (j - i) := by
  unfold cutV
  rw [HT.sIx_nat, HT.sIx_nat, Nat.min_eq_left hi, Nat.min_eq_left hj]
theorem fbGo_snoc : ∀ (l : List Ch) (b c : Ch), fbGo b (l ++ [c]) = if (fbGo b l).total < c.total then c else fbGo b l
  | [], b, c => rfl
  | x :: l, b, c => fbGo_snoc l _ c
theorem keeps_iff {s : Nat} : ∀ {l : List Nat}, keeps l s = true ↔ ∀ (k : Nat) x y, l[k]? = some x → l[k + 1]? = some y → ahead x y s = true
  | [] => by simp [keeps]
  | [a] => by
    refine ⟨fun _ k x y _ h => ?_, fun _ => rfl⟩
    simp at h
  | a :: b :: l => by
    have ih := keeps_iff (s := s) (l := b :: l)
    have e : keeps (a :: b :: l) s = (ahead a b s && keeps (b :: l) s) := rfl
    rw [e, Bool.and_eq_true, ih]
    refine ⟨fun ⟨h1, h2⟩ k x y hx hy => ?_, fun h => ⟨h 0 a b rfl rfl, fun k x y hx hy => h (k + 1) x y (by simpa using hx) (by simpa using hy)⟩⟩
    cases k with
    | zero =>
      have e1 : a = x := Option.some.inj hx
      have e2 : b = y := Option.some.inj hy
      subst e1; subst e2; exact h1
    | succ k => exact h2 k x y (by simpa using hx) (by simpa using hy)
/-- a call's promise becomes a callable name -/
theorem cal_of {P : Program} {w : World} {K : PySem.W.Frag} {mg : Str → Option Value} {base : Heap} {k : Nat} {x : Str} {f : Addr} {fd : FuncData} {ps : List Str} {sp : Sp} (G : FnOk P w K mg base CX0 k f fd ps sp) (hm : mg x = some (.ref f)) (kp : PySem.W.keepIn K (.ref f) = true) (b : L2.Binds K fd ps []) : Cal P w K mg base k x sp [] :=
  ⟨f, fd, ps, [], G, hm, kp, b, .nil⟩

section
variable {P : Program} {w : World} {K : PySem.W.Frag} {mg : Str → Option Value} {base : Heap} {CB CC CP CS aS aR : Addr}
/-! ### the classes -/
def spInitB (C : Addr) : Sp := fun vs H Q _ => ∃ (x dx : Addr) (s : Nat) (d : Addr), vs = [.ref x, nV s, .ref d] ∧ H x = some (.ins C dx []) ∧
  ∀ H' : Hp, H' x = some (.ins C dx (bkF s d)) → (∀ b o, H b = some o → b ≠ x → H' b = some o) → (∀ b, b ≠ x → H' b = H b) → Q .non H'
def spInitC (C : Addr) : Sp := fun vs H Q _ => ∃ (x dx : Addr) (s : Nat) (d : Addr), vs = [.ref x, nV s, .ref d] ∧ H x = some (.ins C dx []) ∧
  ∀ H' : Hp, H' x = some (.ins C dx (chF s d)) → (∀ b, b ≠ x → H' b = H b) → Q .non H'
def spInitP (C : Addr) : Sp := fun vs H Q _ => ∃ (x dx : Addr) (mp ms : Nat), vs = [.ref x, nV mp, nV ms] ∧ H x = some (.ins C dx []) ∧
  ∀ (H' : Hp) (l : Addr), H l = none → H' x = some (.ins C dx (plF mp ms l)) → H' l = some (.lst []) → (∀ b, b ≠ x → b ≠ l → H' b = H b) → Q .non H'
def spInitS (C : Addr) : Sp := fun vs H Q _ => ∃ (x dx : Addr), vs = [.ref x] ∧ H x = some (.ins C dx []) ∧
  ∀ H' : Hp, H' x = some (.ins C dx (ssF .non)) → (∀ b, b ≠ x → H' b = H b) → Q .non H'
abbrev s_Block : Stmt := inClass (top 6) 0
abbrev n_Block : List Str := ["self", "seats", "demand"]
theorem sc_Block : FnScope n_Block ["self", "seats", "demand"] (defScope s_Block) := ⟨rfl, rfl, rfl, by decide +kernel, rfl, by decide +kernel, by decide +kernel⟩
theorem ok_Block {f : Addr} {fd : FuncData} (F : Fun K "__init__" "Block.__init__" s_Block f fd) (T : Txt K mg CB CC CP CS aS aR) : FnOk P w K mg base CX0 1 f fd ["self", "seats", "demand"] (spInitB CB) := by
  refine F.ok sc_Block (fun vs H Q E h => ?_) (fun cdv A outer s H vs Q E hr h => ?_)
  · obtain ⟨x, dx, z, d, rfl, _⟩ := h
    rfl
  · obtain ⟨x, dx, z, d, rfl, hp, k⟩ := h
    refine ⟨_, (pss_cons (ps_fld (pv 0) (pv 1) rfl)
      (pss_one (ps_fld (pv 0) (pv 2) rfl))), ?_⟩
    refine ⟨_, rfl, _, rfl, x, CB, dx, [], rfl, hp, T.clB, T.nBs, (by show 0 < 1000; decide), ?_⟩
    refine ⟨_, rfl, _, rfl, x, CB, dx, _, rfl, upd_same, T.clB, T.nBd, (by show 1 < 1000; decide), ?_⟩
    exact k _ (Eq.trans upd_same (congrArg (fun q => some (HO.ins CB dx q)) (bk_new z d))) (fun b o e hb => by rw [upd_ne hb, upd_ne hb]; exact e) fun b hb => by rw [upd_ne hb, upd_ne hb]
abbrev s_Choice : Stmt := inClass (top 7) 0
abbrev n_Choice : List Str := ["self", "total", "prices"]
theorem sc_Choice : FnScope n_Choice ["self", "total", "prices"] (defScope s_Choice) := ⟨rfl, rfl, rfl, by decide +kernel, rfl, by decide +kernel, by decide +kernel⟩
theorem ok_Choice {f : Addr} {fd : FuncData} (F : Fun K "__init__" "Choice.__init__" s_Choice f fd) (T : Txt K mg CB CC CP CS aS aR) : FnOk P w K mg base CX0 1 f fd ["self", "total", "prices"] (spInitC CC) := by
  refine F.ok sc_Choice (fun vs H Q E h => ?_) (fun cdv A outer s H vs Q E hr h => ?_)
  · obtain ⟨x, dx, z, d, rfl, _⟩ := h
    rfl
  · obtain ⟨x, dx, z, d, rfl, hp, k⟩ := h
    refine ⟨_, (pss_cons (ps_fld (pv 0) (pv 1) rfl)
      (pss_one (ps_fld (pv 0) (pv 2) rfl))), ?_⟩
    refine ⟨_, rfl, _, rfl, x, CC, dx, [], rfl, hp, T.clC, T.nCt, (by show 0 < 1000; decide), ?_⟩
    refine ⟨_, rfl, _, rfl, x, CC, dx, _, rfl, upd_same, T.clC, T.nCp, (by show 1 < 1000; decide), ?_⟩
    exact k _ (Eq.trans upd_same (congrArg (fun q => some (HO.ins CC dx q)) (ch_new z d))) fun b hb => by rw [upd_ne hb, upd_ne hb]
abbrev s_Planner : Stmt := inClass (top 31) 0
abbrev n_Planner : List Str := ["self", "max_price", "max_step"]
theorem sc_Planner : FnScope n_Planner ["self", "max_price", "max_step"] (defScope s_Planner) := ⟨rfl, rfl, rfl, by decide +kernel, rfl, by decide +kernel, by decide +kernel⟩
theorem ok_Planner {f : Addr} {fd : FuncData} (F : Fun K "__init__" "Planner.__init__" s_Planner f fd) (T : Txt K mg CB CC CP CS aS aR) : FnOk P w K mg base CX0 1 f fd ["self", "max_price", "max_step"] (spInitP CP) := by
  refine F.ok sc_Planner (fun vs H Q E h => ?_) (fun cdv A outer s H vs Q E hr h => ?_)
  · obtain ⟨x, dx, z, d, rfl, _⟩ := h
    rfl
  · obtain ⟨x, dx, z, d, rfl, hp, k⟩ := h
    refine ⟨_, (pss_cons (ps_fld (pv 0) (pv 1) rfl)
      (pss_cons (ps_fld (pv 0) (pv 2) rfl)
      (pss_one (ps_fld (pv 0) (pe_lst pa_nil) rfl)))), ?_⟩
    refine ⟨_, rfl, _, rfl, x, CP, dx, [], rfl, hp, T.clP, T.nPp, (by show 0 < 1000; decide), ?_⟩
    refine ⟨_, rfl, _, rfl, x, CP, dx, _, rfl, upd_same, T.clP, T.nPs, (by show 1 < 1000; decide), ?_⟩
    refine ⟨Nat.zero_le _, fun l hl => ?_⟩
    have nlx : l ≠ x := fun q => by rw [q, upd_same] at hl; cases hl
    have hl0 : H l = none := by rw [upd_ne nlx, upd_ne nlx] at hl; exact hl
    refine ⟨_, rfl, x, CP, dx, _, rfl, Eq.trans (upd_ne nlx.symm) upd_same, T.clP, T.nPb, (by show 2 < 1000; decide), ?_⟩
    exact k _ l hl0 (Eq.trans upd_same (congrArg (fun q => some (HO.ins CP dx q)) (pl_new z d l))) (by rw [upd_ne nlx, upd_same]) fun b hb hbl => by rw [upd_ne hb, upd_ne hbl, upd_ne hb, upd_ne hb]
abbrev s_Session : Stmt := inClass (top 32) 0
abbrev n_Session : List Str := ["self"]
theorem sc_Session : FnScope n_Session ["self"] (defScope s_Session) := ⟨rfl, rfl, rfl, by decide +kernel, rfl, by decide +kernel, by decide +kernel⟩
theorem ok_Session {f : Addr} {fd : FuncData} (F : Fun K "__init__" "Session.__init__" s_Session f fd) (T : Txt K mg CB CC CP CS aS aR) : FnOk P w K mg base CX0 1 f fd ["self"] (spInitS CS) := by
  refine F.ok sc_Session (fun vs H Q E h => ?_) (fun cdv A outer s H vs Q E hr h => ?_)
  · obtain ⟨x, dx, rfl, _⟩ := h
    rfl
  · obtain ⟨x, dx, rfl, hp, k⟩ := h
    refine ⟨_, (pss_one (ps_fld (pv 0) pe_non rfl)), ?_⟩
    refine ⟨_, rfl, x, CS, dx, [], rfl, hp, T.clS, T.nSp, (by show 0 < 1000; decide), ?_⟩
    exact k _ upd_same fun b hb => by rw [upd_ne hb]

/-! ### ordering -/
def spAhead : Sp := fun vs H Q _ => ∃ a b s : Nat, vs = [nV a, nV b, nV s] ∧ Q (.bl (ahead a b s)) H
abbrev s_may_stand_ahead : Stmt := top 1
abbrev n_may_stand_ahead : List Str := ["price", "worse_price", "max_step"]
theorem sc_may_stand_ahead : FnScope n_may_stand_ahead ["price", "worse_price", "max_step"] (defScope s_may_stand_ahead) := ⟨rfl, rfl, rfl, by decide +kernel, rfl, by decide +kernel, by decide +kernel⟩
theorem ok_may_stand_ahead {f : Addr} {fd : FuncData} (F : Fun K "may_stand_ahead" "may_stand_ahead" s_may_stand_ahead f fd) : FnOk P w K mg base CX0 1 f fd ["price", "worse_price", "max_step"] spAhead := by
  refine F.ok sc_may_stand_ahead (fun vs H Q E h => ?_) (fun cdv A outer s H vs Q E hr h => ?_)
  · obtain ⟨a, b, z, rfl, _⟩ := h
    rfl
  · obtain ⟨a, b, z, rfl, q⟩ := h
    refine ⟨_, (pss_one (ps_ret (pe_chain op_le op_le (pv 1) (pv 0) (pe_op op_add (pv 1) (pv 2))))), ?_⟩
    refine ⟨_, rfl, _, rfl, _, _, rfl, rfl, _, rfl, ?_⟩
    have e1 : decide ((b : Int) ≤ (a : Int)) = decide (b ≤ a) := decide_eq_decide.mpr (by omega)
    refine ite2 (fun hc => ?_) (fun hc => ?_)
    · refine ⟨_, rfl, _, rfl, _, _, rfl, rfl, _, _, rfl, rfl, ?_⟩
      have e2 : decide ((a : Int) ≤ (b : Int) + (z : Int)) = decide (a ≤ b + z) := decide_eq_decide.mpr (by omega)
      have e3 : ahead a b z = decide (a ≤ b + z) := by unfold ahead; rw [← e1, hc, Bool.true_and]
      show Q (.bl (decide ((a : Int) ≤ (b : Int) + (z : Int)))) H
      rw [e2, ← e3]; exact q
    · have e3 : ahead a b z = false := by
        unfold ahead
        rw [← e1, Bool.eq_false_iff.mpr hc, Bool.false_and]
      show Q (.bl false) H
      rw [← e3]; exact q
def spKeeps : Sp := fun vs H Q _ => ∃ (a : Addr) (l : List Nat) (s : Nat), vs = [.ref a, nV s] ∧ H a = some (.lst (nL l)) ∧ l.length ≤ 1000000 ∧ Q (.bl (keeps l s)) H
abbrev s_keeps_order : Stmt := top 2
abbrev n_keeps_order : List Str := ["prices", "max_step", "i"]
theorem sc_keeps_order : FnScope n_keeps_order ["prices", "max_step"] (defScope s_keeps_order) := ⟨rfl, rfl, rfl, by decide +kernel, rfl, by decide +kernel, by decide +kernel⟩
theorem ok_keeps_order {f : Addr} {fd : FuncData} (F : Fun K "keeps_order" "keeps_order" s_keeps_order f fd) (T : Txt K mg CB CC CP CS aS aR) (c_may_stand_ahead : Cal P w K mg base 1 "may_stand_ahead" spAhead []) : FnOk P w K mg base CX0 2 f fd ["prices", "max_step"] spKeeps := by
  refine F.ok sc_keeps_order (fun vs H Q E h => ?_) (fun cdv A outer s H vs Q E hr h => ?_)
  · obtain ⟨a, b, z, rfl, _⟩ := h
    rfl
  · obtain ⟨a, l, z, rfl, ha, hlen, q⟩ := h
    refine ⟨_, (pss_cons (ps_for PassesOwn.never rfl (pi_range1 rfl T.range (pa_cons (pe_op op_sub (pe_callB call_len_seq rfl T.len PySem.boot_len (pa_cons (pv 0) pa_nil)) pe_int) pa_nil)) (pg_name (i := 2) sc_keeps_order.nd rfl (.inl rfl)) (pss_one (ps_if (pt_not (pt_val (pe_c c_may_stand_ahead hr (by decide) rfl (pa_cons (pe_ix ix_list (pv 0) (pv 2) (fun _ _ => rfl)) (pa_cons (pe_ix ix_list (pv 0) (pe_op op_add (pv 2) pe_int) (fun _ _ => rfl)) (pa_cons (pv 1) pa_nil)))))) (pss_one (ps_ret pe_bl)) pss_nil)))
      (pss_one (ps_ret pe_bl))), ?_⟩
    have e0 : ((nL l).length : Int) = (l.length : Int) := by rw [nL_len]
    refine ⟨_, rfl, a, _, rfl, .inl (SqL.of ha), _, _, rfl, rfl, _, rfl, (by rw [e0]; omega), (by rw [e0]; omega), for_range (lo := 0) (n := (((nL l).length : Int) - 1).toNat) (fun i σ H' => ∃ v : Option V, σ = [some (.ref a), some (nV z), v] ∧ H' = H ∧ ∀ (k : Nat) x y, k < i → l[k]? = some x → l[k + 1]? = some y → ahead x y z = true)
      ⟨none, rfl, rfl, fun k x y hk => absurd hk (Nat.not_lt_zero _)⟩ ?_ ?_⟩
    · rintro i σ H' hi ⟨v, rfl, rfl, hk⟩
      rw [e0] at hi
      have h1 : i < l.length := by omega
      have h2 : i + 1 < l.length := by omega
      have g1 := List.getElem?_eq_getElem h1
      have g2 := List.getElem?_eq_getElem h2
      have n1 : atI (nL l) ((0 : Int) + (i : Int)) = some (nV l[i]) := at_of (by omega) (nL_at g1)
      have n2 : atI (nL l) ((0 : Int) + (i : Int) + 1) = some (nV l[i + 1]) := at_of (j := i + 1) (by omega) (nL_at g2)
      refine ⟨_, rfl, _, rfl, a, _, _, _, rfl, rfl, SqL.of ha, n1, ?_⟩
      refine ⟨_, rfl, _, rfl, _, _, rfl, rfl, a, _, _, _, rfl, rfl, SqL.of ha, n2, _, rfl, _, _, _, rfl, _, rfl, ?_⟩
      refine ite2 (fun hc => ?_) (fun hc => ?_)
      · have hf : ahead l[i] l[i + 1] z = false := by simpa using hc
        have e : keeps l z = false := by
          rw [Bool.eq_false_iff]
          intro hk2
          rw [keeps_iff.mp hk2 i _ _ g1 g2] at hf
          cases hf
        show Q (.bl false) H'
        rw [← e]; exact q
      · have ht : ahead l[i] l[i + 1] z = true := by simpa using hc
        refine ⟨_, rfl, rfl, fun k x y hk2 hx hy => ?_⟩
        by_cases e : k = i
        · subst e
          rw [g1] at hx; rw [g2] at hy
          rw [← Option.some.inj hx, ← Option.some.inj hy]
          exact ht
        · exact hk k x y (by omega) hx hy
    · rintro σ H' ⟨v, rfl, rfl, hk⟩
      have e : keeps l z = true := keeps_iff.mpr fun k x y hx hy => hk k x y (by
        have := (List.getElem?_eq_some_iff.mp hy).1
        rw [e0]; omega) hx hy
      show Q (.bl true) H'
      rw [← e]; exact q
end
end Bp

/-! # blockprices: ordered lists, tables -/
namespace Bp
open PySem PySem.Spec PyProof.Rows L2
open C8 (Cal pe_c Mak pe_mk pe_gc)
open Kv438 (Block Market Operation Response)

theorem yes_go {te : TE} {σ : L2.St} {H : Hp} {Qs : VK} {Qn : Hp → Prop} (h : te σ H Qs) : tYes σ H fun b H3 => if b = true then te σ H3 Qs else Qn H3 := by
  show if true = true then te σ H Qs else Qn H
  rw [if_pos rfl]
  exact h
theorem led_len {p s : Nat} {ls : List (List Nat)} {c : Nat} (h : ∀ l ∈ ls, l.length = c) : ∀ l ∈ led p ls s, l.length = c + 1 := by
  intro l hl
  unfold led at hl
  obtain ⟨r, hr, rfl⟩ := List.mem_map.mp hl
  rw [List.length_cons, h r (List.mem_filter.mp hr).1]
theorem ordL_len {mp ms : Nat} : ∀ c, ∀ l ∈ ordL mp ms c, l.length = c
  | 0, l, h => by
    have e : l = [] := by simpa [ordL] using h
    rw [e] <;> rfl
  | c + 1, l, h => by
    unfold ordL at h
    obtain ⟨p, _, hp⟩ := List.mem_flatMap.mp h
    exact led_len (ordL_len c) l hp
theorem led_count (p s : Nat) (ls : List (List Nat)) : (led p ls s).length ≤ ls.length := by
  unfold led
  rw [List.length_map]
  exact List.length_filter_le ..
theorem flat_count {α : Type} {f : α → List (List Nat)} {n : Nat} : ∀ (l : List α), (∀ a ∈ l, (f a).length ≤ n) → (l.flatMap f).length ≤ l.length * n
  | [], _ => by simp
  | a :: l, h => by
    rw [List.flatMap_cons, List.length_append, List.length_cons, Nat.succ_mul]
    have h1 := h a (List.mem_cons_self ..)
    have h2 := flat_count l fun b hb => h b (List.mem_cons_of_mem _ hb)
    omega
theorem ordL_count {mp ms : Nat} : ∀ c, (ordL mp ms c).length ≤ (mp + 1) ^ c
  | 0 => Nat.le_refl _
  | c + 1 => by
    unfold ordL
    refine Nat.le_trans (flat_count (n := (mp + 1) ^ c) _ fun p _ => Nat.le_trans (led_count _ _ _) (ordL_count c)) ?_
    rw [List.length_range, Nat.pow_succ, Nat.mul_comm]
    exact Nat.le_refl _
theorem pow_small {mp c : Nat} (h : mp ≤ 7) (hc : c ≤ 5) : (mp + 1) ^ c ≤ 32768 :=
  Nat.le_trans (Nat.pow_le_pow_left (by omega : mp + 1 ≤ 8) c) (Nat.pow_le_pow_right (n := 8) (by decide) hc)
theorem led_ys (p s : Nat) (ls : List (List Nat)) : (ls.map fun l => if okp p s l = true then some (p :: l) else none).filterMap id = led p ls s := by
  unfold led
  induction ls with
  | nil => rfl
  | cons l ls ih =>
    rw [List.map_cons, List.filter_cons]
    by_cases h : okp p s l = true
    · rw [if_pos h, if_pos h, List.map_cons, ← ih]; rfl
    · rw [if_neg h, if_neg h, ← ih]; rfl
theorem A2.mem1 {α β : Type} {R : α → β → Prop} {l : List α} {m : List β} {a : α} (q : A2 R l m) (h : a ∈ l) : ∃ b ∈ m, R a b := by
  obtain ⟨i, hi⟩ := List.getElem?_of_mem h
  obtain ⟨b, hb, r⟩ := q.at1 hi
  exact ⟨b, List.mem_of_getElem? hb, r⟩

section
variable {P : Program} {w : World} {K : PySem.W.Frag} {mg : Str → Option Value} {base : Heap} {CB CC CP CS aS aR : Addr}
def spLed : Sp := fun vs H Q _ => ∃ (p : Nat) (v : V) (s : Nat) (ls : List (List Nat)), vs = [nV p, v, nV s] ∧ RL RNs H v ls ∧ ls.length ≤ 1000000 ∧ (∀ l ∈ ls, l.length ≤ 1000) ∧
  ∀ H' u, Same H H' → RL RNs (frs H H') u (led p ls s) → Q u H'
abbrev s_lists_led_by : Stmt := top 4
abbrev n_lists_led_by : List Str := ["price", "lists", "max_step", "rest"]
theorem sc_lists_led_by : FnScope n_lists_led_by ["price", "lists", "max_step"] (defScope s_lists_led_by) := ⟨rfl, rfl, rfl, by decide +kernel, rfl, by decide +kernel, by decide +kernel⟩
theorem ok_lists_led_by {f : Addr} {fd : FuncData} (F : Fun K "lists_led_by" "lists_led_by" s_lists_led_by f fd) (c_may_stand_ahead : Cal P w K mg base 1 "may_stand_ahead" spAhead []) : FnOk P w K mg base CX0 2 f fd ["price", "lists", "max_step"] spLed := by
  refine F.ok sc_lists_led_by (fun vs H Q E h => ?_) (fun cdv A outer s H vs Q E hr h => ?_)
  · obtain ⟨p, v, z, ls, rfl, _⟩ := h
    rfl
  · obtain ⟨p, v, z, ls, rfl, ⟨a, us, rfl, ha, hA⟩, hlen, hin, k⟩ := h
    refine ⟨_, (pss_one (ps_ret (pe_lc (own := [("rest", 3)]) (g := gName 3) (tt := tOr (tNot (fun σ H Q => tVar 3 σ H fun x H2 => ∃ k, TruV K x H2 k ∧ Q k H2)) (tB (tCall spAhead [] C8.E0 (tCons (tVar 0) (tCons (tOp (rIxL K) (tVar 3) (tC (.int 0))) (tCons (tVar 2) tNil)))))) rfl sc_lists_led_by.nd (pi_list (pv 1)) (blkOk_by (own := [("rest", 3)]) (N := n_lists_led_by) (sc := defScope s_lists_led_by) (by decide +kernel)) (fun _ _ _ _ _ => (pg_name (i := 3) sc_lists_led_by.nd rfl (.inl rfl))) (fun _ _ _ _ _ => (pts_one (PW.pt (pw_or (pt_not (pt_truth (pv 3) (by intro _; rfl))) (pw_or1 (pt_val (pe_c c_may_stand_ahead hr (by decide) rfl (pa_cons (pv 0) (pa_cons (pe_ix ix_list (pv 3) pe_int (fun _ _ => rfl)) (pa_cons (pv 2) pa_nil)))))))))) (fun _ _ _ _ _ => (pe_op op_cat (pe_lst (pa_cons (pv 0) pa_nil)) (pv 3)))))), ?_⟩
    refine ⟨_, rfl, a, rfl, ⟨_, SqL.of ha⟩, fun D hD => ?_⟩
    refine lc_new (R := RNs) walk_list (ls.map fun l => if okp p z l = true then some (p :: l) else none) (by rw [List.length_map]; exact hA.len.symm) (by rw [hA.len]; exact hlen) hD monoNs (fun H' s1 => SqL.of (s1 _ _ ha)) ?_ fun H' s1 r => k _ _ s1 (by rw [led_ys] at r; exact r)
    rintro i x H1 H2 oy ho s1 ⟨rfl, hx⟩ Qs Qn f1 f2
    obtain ⟨l, hl, b, rfl, hb⟩ := hA.at1 hx
    have hb1 : H2 b = some (.lst (nL l)) := s1 _ _ hb
    rw [List.getElem?_map, hl] at ho
    have eo : (if okp p z l = true then some (p :: l) else none) = oy := Option.some.inj ho
    have hll := hin l (List.mem_of_getElem? hl)
    have take_it : okp p z l = true → tOp rCat (tLst (tCons (tVar 0) tNil)) (tVar 3) [some (nV p), some (.ref a), some (nV z), some (.ref b)] H2 Qs := by
      intro hk
      rw [if_pos hk] at eo
      refine ⟨_, rfl, (by show 1 ≤ sizeLine; decide), fun p1 n1 => ?_⟩
      have nb : b ≠ p1 := ne_of_none hb1 n1
      refine ⟨_, rfl, p1, b, _, _, rfl, rfl, upd_same, (by rw [upd_ne nb]; exact hb1), ?_, fun p2 n2 => ?_⟩
      · rw [nL_len]
        exact Nat.le_trans (Nat.add_le_add_left hll 1) (by decide)
      · have s2 := same_new (o := .lst [nV p]) n1
        have s3 := same_new (o := .lst ([nV p] ++ nL l)) n2
        refine f1 _ _ _ eo.symm (s2.trans s3) ⟨p2, rfl, ?_⟩
        rw [frs_at (s2.free n2), upd_same] <;> rfl
    refine ⟨rfl, ?_⟩
    refine ⟨_, rfl, !(nL l).isEmpty, .inl ⟨_, SqL.of hb1, rfl⟩, ?_⟩
    cases l with
    | nil => exact iteT (take_it rfl)
    | cons y l =>
      refine iteF ?_
      refine ⟨_, rfl, _, rfl, b, _, _, _, rfl, rfl, SqL.of hb1, (at_of (j := 0) rfl rfl), _, rfl, p, y, z, rfl, _, rfl, ?_⟩
      refine ite2 (fun h => take_it h) (fun h => ?_)
      refine f2 _ ?_ (Same.refl _)
      rw [← eo]
      exact if_neg h
def spOrd : Sp := fun vs H Q _ => ∃ (c mp ms : Nat), vs = [nV c, nV mp, nV ms] ∧ mp ≤ 7 ∧ c ≤ 5 ∧ ∀ H' u, Same H H' → RL RNs (frs H H') u (ordL mp ms c) → Q u H'
abbrev s_ordered_lists : Stmt := top 3
abbrev n_ordered_lists : List Str := ["count", "max_price", "max_step", "lists", "length", "longer", "price"]
theorem sc_ordered_lists : FnScope n_ordered_lists ["count", "max_price", "max_step"] (defScope s_ordered_lists) := ⟨rfl, rfl, rfl, by decide +kernel, rfl, by decide +kernel, by decide +kernel⟩
theorem ok_ordered_lists {f : Addr} {fd : FuncData} (F : Fun K "ordered_lists" "ordered_lists" s_ordered_lists f fd) (T : Txt K mg CB CC CP CS aS aR) (c_lists_led_by : Cal P w K mg base 2 "lists_led_by" spLed []) : FnOk P w K mg base CX0 3 f fd ["count", "max_price", "max_step"] spOrd := by
  refine F.ok sc_ordered_lists (fun vs H Q E h => ?_) (fun cdv A outer s H vs Q E hr h => ?_)
  · obtain ⟨c, mp, ms, rfl, _⟩ := h
    rfl
  · obtain ⟨c, mp, ms, rfl, hmp, hc, k⟩ := h
    refine ⟨_, (pss_cons (ps_set (i := 3) sc_ordered_lists.nd rfl (.inl rfl) (pe_lst (pa_cons (pe_lst pa_nil) pa_nil)))
      (pss_cons (ps_for PassesOwn.never rfl (pi_range1 rfl T.range (pa_cons (pv 0) pa_nil)) (pg_name (i := 4) sc_ordered_lists.nd rfl (.inl rfl)) (pss_cons (ps_set (i := 5) sc_ordered_lists.nd rfl (.inl rfl) (pe_lst pa_nil))
      (pss_cons (ps_for PassesOwn.never rfl (pi_range1 rfl T.range (pa_cons (pe_op op_add (pv 1) pe_int) pa_nil)) (pg_name (i := 6) sc_ordered_lists.nd rfl (.inl rfl)) (pss_one (ps_expr (pe_bm PySem.F.plainAttrs_list PySem.F.slot_list_extend PySem.F.type_list_extend mt_extend (pv 5) (pa_cons (pe_c c_lists_led_by hr (by decide) rfl (pa_cons (pv 6) (pa_cons (pv 3) (pa_cons (pv 2) pa_nil)))) pa_nil)))))
      (pss_one (ps_set (i := 3) sc_ordered_lists.nd rfl (.inl rfl) (pv 5))))))
      (pss_one (ps_ret (pv 3))))), ?_⟩
    refine ⟨Nat.zero_le _, fun p1 n1 => ⟨by show 1 ≤ sizeLine; decide, fun p2 n2 => ?_⟩⟩
    have s1 := same_new (o := .lst []) n1
    have s2 := same_new (o := .lst [V.ref p1]) n2
    have n12 : p1 ≠ p2 := fun q => by rw [← q, upd_same] at n2; cases n2
    refine ⟨_, rfl, _, rfl, (by omega), (by omega), for_range (lo := 0) (n := ((c : Nat) : Int).toNat) (fun i σ H' => ∃ (v : V) (x4 x5 x6 : Option V), σ = [some (nV c), some (nV mp), some (nV ms), some v, x4, x5, x6] ∧ Same H H' ∧ RL RNs (frs H H') v (ordL mp ms i))
      ⟨.ref p2, none, none, none, rfl, s1.trans s2, p2, [V.ref p1], rfl, ?_, .cons ⟨p1, rfl, ?_⟩ .nil⟩ ?_ ?_⟩
    · rw [frs_at (s1.free n2), upd_same]
    · rw [frs_at n1, upd_ne n12, upd_same] <;> rfl
    · rintro i σ H' hi ⟨v, x4, x5, x6, rfl, sH, hv⟩
      have hi5 : i < 5 := by omega
      refine ⟨Nat.zero_le _, fun lo nlo => ?_⟩
      have nloH : H lo = none := sH.free nlo
      refine ⟨_, rfl, _, _, rfl, rfl, _, rfl, (by omega), (by omega), for_range (lo := 0) (n := (((mp : Nat) : Int) + 1).toNat) (fun j σ H2 => ∃ (x6 : Option V) (us : List V), σ = [some (nV c), some (nV mp), some (nV ms), some v, some (.int (0 + (i : Int))), some (.ref lo), x6] ∧ Same H' H2 ∧ H2 lo = some (.lst us) ∧ A2 (RNs (frs (upd H' lo (.lst [])) H2)) us ((List.range j).flatMap fun p => led p (ordL mp ms i) ms))
        ⟨x6, [], rfl, same_new nlo, upd_same, .nil⟩ ?_ ?_⟩
      · rintro j σ H2 hj ⟨x6, us, rfl, s2', hu, hA⟩
        have hcnt : (ordL mp ms i).length ≤ 32768 := Nat.le_trans (ordL_count i) (pow_small hmp (by omega))
        refine ⟨_, rfl, .inl ⟨rfl, _, SqL.of hu⟩, _, rfl, _, rfl, _, rfl, ?_⟩
        refine ⟨j, v, ms, ordL mp ms i, (by simp), monoL monoNs _ _ _ _ ((frs_sub _ _).trans s2') hv, (by omega), (fun l hl => by rw [ordL_len i l hl]; omega), fun H3 u s3 hr3 => ?_⟩
        obtain ⟨b, zs, rfl, hb, hZ⟩ := hr3
        obtain ⟨nb, hb3⟩ := frs_some hb
        have nbl : b ≠ lo := fun q => by rw [q, hu] at nb; cases nb
        have hus := hA.len
        have hzs := hZ.len
        have hc1 : ((List.range j).flatMap fun p => led p (ordL mp ms i) ms).length ≤ j * 32768 := by
          have := flat_count (f := fun p => led p (ordL mp ms i) ms) (n := 32768) (List.range j) fun p _ => Nat.le_trans (led_count _ _ _) hcnt
          rw [List.length_range] at this
          exact this
        have hc2 := Nat.le_trans (led_count j ms (ordL mp ms i)) hcnt
        refine ⟨lo, b, us, zs, rfl, rfl, s3 _ _ hu, hb3, ?_, ?_⟩
        · have hj8 : j < 8 := by omega
          have : us.length + zs.length ≤ 8 * 32768 := by rw [hus, hzs]; omega
          exact Nat.le_trans this (by decide)
        · refine ⟨_, _, rfl, same_upd (s2'.trans s3) nlo, upd_same, ?_⟩
          have z1 : Same (frs (upd H' lo (.lst [])) H2) (frs (upd H' lo (.lst [])) (upd H3 lo (.lst (us ++ zs)))) := fun q o e => by
            obtain ⟨h1, h2⟩ := frs_some e
            have ne : q ≠ lo := fun e => by rw [e, upd_same] at h1; cases h1
            rw [frs_at h1, upd_ne ne]
            exact s3 _ _ h2
          have z2 : Same (frs H2 H3) (frs (upd H' lo (.lst [])) (upd H3 lo (.lst (us ++ zs)))) := fun q o e => by
            obtain ⟨h1, h2⟩ := frs_some e
            have ne : q ≠ lo := fun e => by rw [e, hu] at h1; cases h1
            rw [frs_at (by rw [upd_ne ne]; exact s2'.free h1), upd_ne ne]
            exact h2
          rw [List.range_succ, List.flatMap_append, List.flatMap_singleton]
          exact A2.app (hA.mono fun _ _ r => monoNs _ _ _ _ z1 r) (hZ.mono fun _ _ r => monoNs _ _ _ _ z2 r)
      · rintro σ H2 ⟨x6, us, rfl, s2', hu, hA⟩
        refine ⟨_, rfl, _, _, _, _, rfl, sH.trans s2', lo, us, rfl, by rw [frs_at nloH]; exact hu, ?_⟩
        have e : (((mp : Nat) : Int) + 1).toNat = mp + 1 := by omega
        rw [e] at hA
        have z : Same (frs (upd H' lo (.lst [])) H2) (frs H H2) := frs_l (sH.trans (same_new nlo)) H2
        exact hA.mono fun _ _ r => monoNs _ _ _ _ z r
    · rintro σ H' ⟨v, x4, x5, x6, rfl, sH, hv⟩
      rw [Int.toNat_natCast] at hv
      exact ⟨_, rfl, k _ _ sH hv⟩

/-! ### blocks -/
def spAttAt (CB : Addr) : Sp := fun vs H Q _ => ∃ (v : V) (p : Nat) (b : Block), vs = [v, nV p] ∧ RB CB H v b ∧ p < b.demand.length ∧ Q (nV (min b.seats (b.demand.getD p 0))) H
abbrev s_attendance_at : Stmt := top 8
abbrev n_attendance_at : List Str := ["block", "price"]
theorem sc_attendance_at : FnScope n_attendance_at ["block", "price"] (defScope s_attendance_at) := ⟨rfl, rfl, rfl, by decide +kernel, rfl, by decide +kernel, by decide +kernel⟩
theorem ok_attendance_at {f : Addr} {fd : FuncData} (F : Fun K "attendance_at" "attendance_at" s_attendance_at f fd) (T : Txt K mg CB CC CP CS aS aR) : FnOk P w K mg base CX0 1 f fd ["block", "price"] (spAttAt CB) := by
  refine F.ok sc_attendance_at (fun vs H Q E h => ?_) (fun cdv A outer s H vs Q E hr h => ?_)
  · obtain ⟨v, p, b, rfl, _⟩ := h
    rfl
  · obtain ⟨v, p, b, rfl, ⟨a, dx, d, rfl, ha, hd⟩, hp, q⟩ := h
    refine ⟨_, (pss_one (ps_ret (pe_callB (call_min2 rfl) rfl T.min (by decide +kernel) (pa_cons (pe_fld (pv 0) rfl) (pa_cons (pe_ix ix_list (pe_fld (pv 0) rfl) (pv 1) (fun _ _ => rfl)) pa_nil))))), ?_⟩
    have g := List.getElem?_eq_getElem hp
    refine ⟨_, rfl, a, CB, dx, _, _, rfl, ha, T.clB, T.nBs, bk_seats _ _, _, rfl, a, CB, dx, _, _, rfl, ha, T.clB, T.nBd, bk_demand _ _, _, rfl, d, _, _, _, rfl, rfl, SqL.of hd, atI_nat (nL_at g), _, _, rfl, ?_⟩
    have e : (if ((b.demand[p] : Nat) : Int) < (b.seats : Int) then ((b.demand[p] : Nat) : Int) else (b.seats : Int)) = ((min b.seats (b.demand.getD p 0) : Nat) : Int) := by
      rw [List.getD_eq_getElem?_getD, g, Option.getD_some]
      split <;> omega
    show Q (.int (if ((b.demand[p] : Nat) : Int) < (b.seats : Int) then ((b.demand[p] : Nat) : Int) else (b.seats : Int))) H
    rw [e]
    exact q
def spRevAt (CB : Addr) : Sp := fun vs H Q _ => ∃ (v : V) (p : Nat) (b : Block), vs = [v, nV p] ∧ RB CB H v b ∧ p < b.demand.length ∧ p ≤ 1000000 ∧ Q (nV (p * min b.seats (b.demand.getD p 0))) H
abbrev s_revenue_at : Stmt := top 9
abbrev n_revenue_at : List Str := ["block", "price"]
theorem sc_revenue_at : FnScope n_revenue_at ["block", "price"] (defScope s_revenue_at) := ⟨rfl, rfl, rfl, by decide +kernel, rfl, by decide +kernel, by decide +kernel⟩
theorem ok_revenue_at {f : Addr} {fd : FuncData} (F : Fun K "revenue_at" "revenue_at" s_revenue_at f fd) (T : Txt K mg CB CC CP CS aS aR) (c_attendance_at : Cal P w K mg base 1 "attendance_at" (spAttAt CB) []) : FnOk P w K mg base CX0 2 f fd ["block", "price"] (spRevAt CB) := by
  refine F.ok sc_revenue_at (fun vs H Q E h => ?_) (fun cdv A outer s H vs Q E hr h => ?_)
  · obtain ⟨v, p, b, rfl, _⟩ := h
    rfl
  · obtain ⟨v, p, b, rfl, hb, hp, hp2, q⟩ := h
    refine ⟨_, (pss_one (ps_ret (pe_op op_mul (pv 1) (pe_c c_attendance_at hr (by decide) rfl (pa_cons (pv 0) (pa_cons (pv 1) pa_nil)))))), ?_⟩
    refine ⟨_, rfl, _, rfl, _, rfl, v, p, b, rfl, hb, hp, _, _, rfl, rfl, .inl ⟨?_, ?_⟩, ?_⟩
    · omega
    · omega
    · have e : (p : Int) * ((min b.seats (b.demand.getD p 0) : Nat) : Int) = ((p * min b.seats (b.demand.getD p 0) : Nat) : Int) := (Int.natCast_mul _ _).symm
      show Q (.int ((p : Int) * ((min b.seats (b.demand.getD p 0) : Nat) : Int))) H
      rw [e]
      exact q
theorem range_ys {α : Type} (n : Nat) (f : Nat → α) : ((List.range n).map fun p => some (f p)).filterMap id = (List.range n).map f := by
  have e : ((List.range n).map fun p => some (f p)) = ((List.range n).map f).map some := by rw [List.map_map]; rfl
  rw [e, fm_some]
theorem range_at {α : Type} {n i : Nat} {f : Nat → α} {a : α} (h : ((List.range n).map f)[i]? = some a) : i < n ∧ f i = a := by
  obtain ⟨h1, h2⟩ := List.getElem?_eq_some_iff.mp h
  rw [List.length_map, List.length_range] at h1
  refine ⟨h1, ?_⟩
  rw [List.getElem_map, List.getElem_range] at h2
  exact h2
def spTbl (CB : Addr) (g : Block → List Nat) : Sp := fun vs H Q _ => ∃ (v : V) (b : Block), vs = [v] ∧ RB CB H v b ∧ b.demand.length ≤ 1000 ∧ ∀ H' u, Same H H' → RNs (frs H H') u (g b) → Q u H'
abbrev s_revenue_table : Stmt := top 10
abbrev n_revenue_table : List Str := ["block", "price"]
theorem sc_revenue_table : FnScope n_revenue_table ["block"] (defScope s_revenue_table) := ⟨rfl, rfl, rfl, by decide +kernel, rfl, by decide +kernel, by decide +kernel⟩
theorem ok_revenue_table {f : Addr} {fd : FuncData} (F : Fun K "revenue_table" "revenue_table" s_revenue_table f fd) (T : Txt K mg CB CC CP CS aS aR) (c_revenue_at : Cal P w K mg base 2 "revenue_at" (spRevAt CB) []) : FnOk P w K mg base CX0 3 f fd ["block"] (spTbl CB tbl) := by
  refine F.ok sc_revenue_table (fun vs H Q E h => ?_) (fun cdv A outer s H vs Q E hr h => ?_)
  · obtain ⟨v, b, rfl, _⟩ := h
    rfl
  · obtain ⟨v, b, rfl, hb, hlen, k⟩ := h
    obtain ⟨a, dx, d, rfl, ha, hd⟩ := id hb
    refine ⟨_, (pss_one (ps_ret (pe_lc (own := [("price", 1)]) (g := gName 1) rfl sc_revenue_table.nd (pi_range1 rfl T.range (pa_cons (pe_callB call_len_seq rfl T.len PySem.boot_len (pa_cons (pe_fld (pv 0) rfl) pa_nil)) pa_nil)) (blkOk_by (own := [("price", 1)]) (N := n_revenue_table) (sc := defScope s_revenue_table) (by decide +kernel)) (fun _ _ _ _ _ => (pg_name (i := 1) sc_revenue_table.nd rfl (.inl rfl))) (fun _ _ _ _ _ => pts_nil) (fun _ _ _ _ _ => (pe_c c_revenue_at hr (by decide) rfl (pa_cons (pv 0) (pa_cons (pv 1) pa_nil))))))), ?_⟩
    have e0 : ((nL b.demand).length : Int) = (b.demand.length : Int) := by rw [nL_len]
    refine ⟨_, rfl, a, CB, dx, _, _, rfl, ha, T.clB, T.nBd, bk_demand _ _, d, _, rfl, .inl (SqL.of hd), _, rfl, (by rw [e0]; omega), (by rw [e0]; omega), fun D hD => ?_⟩
    have en : ((nL b.demand).length : Int).toNat = b.demand.length := by rw [e0]; omega
    rw [en]
    refine lc_new (R := RN) walk_range ((List.range b.demand.length).map fun p => some (p * min b.seats (b.demand.getD p 0))) (by simp) (by omega) hD monoN (fun _ _ => trivial) ?_ fun H' s1 r => k _ _ s1 (RNs_of (by rw [range_ys] at r; exact r))
    rintro i x H1 H2 oy ho s1 ⟨rfl, rfl⟩ Qs Qn f1 f2
    obtain ⟨hi, eo⟩ := range_at ho
    refine ⟨rfl, yes_go ?_⟩
    refine ⟨_, rfl, _, rfl, _, i, b, (by simp), monoB _ _ _ _ s1 hb, hi, by omega, f1 _ _ _ eo.symm (Same.refl _) rfl⟩
abbrev s_attendance_table : Stmt := top 11
abbrev n_attendance_table : List Str := ["block", "price"]
theorem sc_attendance_table : FnScope n_attendance_table ["block"] (defScope s_attendance_table) := ⟨rfl, rfl, rfl, by decide +kernel, rfl, by decide +kernel, by decide +kernel⟩
theorem ok_attendance_table {f : Addr} {fd : FuncData} (F : Fun K "attendance_table" "attendance_table" s_attendance_table f fd) (T : Txt K mg CB CC CP CS aS aR) (c_attendance_at : Cal P w K mg base 1 "attendance_at" (spAttAt CB) []) : FnOk P w K mg base CX0 2 f fd ["block"] (spTbl CB atb) := by
  refine F.ok sc_attendance_table (fun vs H Q E h => ?_) (fun cdv A outer s H vs Q E hr h => ?_)
  · obtain ⟨v, b, rfl, _⟩ := h
    rfl
  · obtain ⟨v, b, rfl, hb, hlen, k⟩ := h
    obtain ⟨a, dx, d, rfl, ha, hd⟩ := id hb
    refine ⟨_, (pss_one (ps_ret (pe_lc (own := [("price", 1)]) (g := gName 1) rfl sc_attendance_table.nd (pi_range1 rfl T.range (pa_cons (pe_callB call_len_seq rfl T.len PySem.boot_len (pa_cons (pe_fld (pv 0) rfl) pa_nil)) pa_nil)) (blkOk_by (own := [("price", 1)]) (N := n_attendance_table) (sc := defScope s_attendance_table) (by decide +kernel)) (fun _ _ _ _ _ => (pg_name (i := 1) sc_attendance_table.nd rfl (.inl rfl))) (fun _ _ _ _ _ => pts_nil) (fun _ _ _ _ _ => (pe_c c_attendance_at hr (by decide) rfl (pa_cons (pv 0) (pa_cons (pv 1) pa_nil))))))), ?_⟩
    have e0 : ((nL b.demand).length : Int) = (b.demand.length : Int) := by rw [nL_len]
    refine ⟨_, rfl, a, CB, dx, _, _, rfl, ha, T.clB, T.nBd, bk_demand _ _, d, _, rfl, .inl (SqL.of hd), _, rfl, (by rw [e0]; omega), (by rw [e0]; omega), fun D hD => ?_⟩
    have en : ((nL b.demand).length : Int).toNat = b.demand.length := by rw [e0]; omega
    rw [en]
    refine lc_new (R := RN) walk_range ((List.range b.demand.length).map fun p => some (min b.seats (b.demand.getD p 0))) (by simp) (by omega) hD monoN (fun _ _ => trivial) ?_ fun H' s1 r => k _ _ s1 (RNs_of (by rw [range_ys] at r; exact r))
    rintro i x H1 H2 oy ho s1 ⟨rfl, rfl⟩ Qs Qn f1 f2
    obtain ⟨hi, eo⟩ := range_at ho
    refine ⟨rfl, yes_go ?_⟩
    refine ⟨_, rfl, _, rfl, _, i, b, (by simp), monoB _ _ _ _ s1 hb, hi, f1 _ _ _ eo.symm (Same.refl _) rfl⟩
end
end Bp

/-! # blockprices: choices -/
namespace Bp
open PySem PySem.Spec PyProof.Rows L2
open C8 (Cal pe_c Mak pe_mk pe_gc)
open Kv438 (Block Market Operation Response)

theorem getD_at {l : List Nat} {i n : Nat} (h : l[i]? = some n) : l.getD i 0 = n := by
  rw [List.getD_eq_getElem?_getD, h, Option.getD_some]
theorem at_lt {l : List Nat} {i : Nat} (h : i < l.length) : l[i]? = some (l.getD i 0) := by
  rw [List.getD_eq_getElem?_getD, List.getElem?_eq_getElem h, Option.getD_some]
theorem zip_ys {α β γ : Type} (l : List α) (m : List β) (f : α × β → γ) : ((l.zip m).map fun q => some (f q)).filterMap id = (l.zip m).map f := by
  have e : ((l.zip m).map fun q => some (f q)) = ((l.zip m).map f).map some := by rw [List.map_map]; rfl
  rw [e, fm_some]
theorem map_ys {α γ : Type} (l : List α) (f : α → γ) : (l.map fun q => some (f q)).filterMap id = l.map f := by
  have e : (l.map fun q => some (f q)) = (l.map f).map some := by rw [List.map_map]; rfl
  rw [e, fm_some]
theorem zip_at {α β : Type} {l : List α} {m : List β} {i : Nat} {a : α} {b : β} (h1 : l[i]? = some a) (h2 : m[i]? = some b) : (l.zip m)[i]? = some (a, b) := by
  rw [List.zip, List.getElem?_zipWith, h1, h2]
theorem sum_cast : ∀ l : List Nat, (l.map fun n : Nat => (n : Int)).sum = ((l.sum : Nat) : Int)
  | [] => rfl
  | n :: l => by
    rw [List.map_cons, List.sum_cons, List.sum_cons, sum_cast l, Int.natCast_add]
/-! ### the greatest of a list -/
theorem foldl_max_ge : ∀ (l : List Nat) (b : Nat), b ≤ l.foldl max b ∧ ∀ x ∈ l, x ≤ l.foldl max b
  | [], b => ⟨Nat.le_refl _, fun _ h => absurd h (by simp)⟩
  | a :: l, b => by
    obtain ⟨h1, h2⟩ := foldl_max_ge l (max b a)
    rw [List.foldl_cons]
    refine ⟨Nat.le_trans (Nat.le_max_left ..) h1, fun x hx => ?_⟩
    rcases List.mem_cons.mp hx with e | m
    · rw [e]; exact Nat.le_trans (Nat.le_max_right ..) h1
    · exact h2 x m
theorem foldl_max_mem : ∀ (l : List Nat) (b : Nat), l.foldl max b = b ∨ l.foldl max b ∈ l
  | [], b => .inl rfl
  | a :: l, b => by
    rw [List.foldl_cons]
    rcases foldl_max_mem l (max b a) with e | m
    · rw [e]
      by_cases h : a ≤ b
      · exact .inl (Nat.max_eq_left h)
      · exact .inr (by rw [Nat.max_eq_right (by omega)]; exact List.mem_cons_self ..)
    · exact .inr (List.mem_cons_of_mem _ m)
theorem maxL_ge {l : List Nat} {x : Nat} (h : x ∈ l) : x ≤ maxL l := (foldl_max_ge l 0).2 x h
theorem maxL_mem {l : List Nat} (h : l ≠ []) : maxL l ∈ l := by
  rcases foldl_max_mem l 0 with e | m
  · cases l with
    | nil => exact absurd rfl h
    | cons a l =>
      have h1 := maxL_ge (List.mem_cons_self (a := a) (l := l))
      have e' : maxL (a :: l) = 0 := e
      have : a = 0 := by omega
      rw [e', ← this]
      exact List.mem_cons_self ..
  · exact m
theorem maxL_is {l : List Nat} {m : Int} (h1 : m ∈ l.map fun n : Nat => (n : Int)) (h2 : ∀ y, y ∈ (l.map fun n : Nat => (n : Int)) → y ≤ m) : m = (maxL l : Int) := by
  obtain ⟨x, hx, rfl⟩ := List.mem_map.mp h1
  have h3 := maxL_ge hx
  have h4 := h2 _ (List.mem_map.mpr ⟨_, maxL_mem (List.ne_nil_of_mem hx), rfl⟩)
  omega
theorem firstIx_at : ∀ {l : List Nat} {x : Nat}, x ∈ l → l[firstIx x l]? = some x ∧ ∀ (m : Nat) y, m < firstIx x l → l[m]? = some y → y ≠ x
  | [], x, h => absurd h (by simp)
  | a :: l, x, h => by
    unfold firstIx
    by_cases e : a = x
    · rw [if_pos e]
      exact ⟨by rw [e]; rfl, fun m y hm _ => absurd hm (Nat.not_lt_zero _)⟩
    · rw [if_neg e]
      obtain ⟨h1, h2⟩ := firstIx_at (l := l) (x := x) (by
        rcases List.mem_cons.mp h with q | q
        · exact absurd q.symm e
        · exact q)
      refine ⟨by simpa using h1, fun m y hm hy => ?_⟩
      cases m with
      | zero =>
        have e2 : a = y := Option.some.inj hy
        rw [← e2]; exact e
      | succ m => exact h2 m y (by omega) (by simpa using hy)
/-! ### the first best -/
theorem fbGo_mem : ∀ (l : List Ch) (b : Ch), fbGo b l = b ∨ fbGo b l ∈ l
  | [], b => .inl rfl
  | c :: l, b => by
    unfold fbGo
    rcases fbGo_mem l (if b.total < c.total then c else b) with e | m
    · rw [e]
      by_cases h : b.total < c.total
      · rw [if_pos h]; exact .inr (List.mem_cons_self ..)
      · rw [if_neg h]; exact .inl rfl
    · exact .inr (List.mem_cons_of_mem _ m)
theorem fb_mem {l : List Ch} (h : l ≠ []) : fb l ∈ l := by
  cases l with
  | nil => exact absurd rfl h
  | cons c l =>
    rcases fbGo_mem l c with e | m
    · show fbGo c l ∈ c :: l
      rw [e]; exact List.mem_cons_self ..
    · exact List.mem_cons_of_mem _ m
theorem fb_self (c : Ch) (l : List Ch) : fbGo c (c :: l) = fb (c :: l) := by
  show fbGo (if c.total < c.total then c else c) l = fbGo c l
  rw [if_neg (Nat.lt_irrefl _)]
theorem chs_len (mp ms : Nat) : ∀ (ts : List (List Nat)), (chs mp ms ts).length = mp + 1
  | [] => by simp [chs]
  | t :: ts => by simp [chs]
theorem chs_prices (mp ms : Nat) : ∀ (ts : List (List Nat)), ∀ c ∈ chs mp ms ts, c.prices.length = ts.length
  | [], c, h => by
    unfold chs at h
    obtain ⟨_, _, rfl⟩ := List.mem_map.mp h
    rfl
  | t :: ts, c, h => by
    unfold chs at h
    obtain ⟨p, hp, rfl⟩ := List.mem_map.mp h
    have hp1 : p < mp + 1 := List.mem_range.mp hp
    have hl := chs_len mp ms ts
    have ne : ((chs mp ms ts).drop (p - ms)).take (p + 1 - (p - ms)) ≠ [] := by
      intro e
      have := congrArg List.length e
      rw [List.length_take, List.length_drop, hl] at this
      simp at this
      omega
    have hm := List.mem_of_mem_drop (List.mem_of_mem_take (fb_mem ne))
    show (fb _).prices.length + 1 = ts.length + 1
    rw [chs_prices mp ms ts _ hm]

section
variable {P : Program} {w : World} {K : PySem.W.Frag} {mg : Str → Option Value} {base : Heap} {CB CC CP CS aS aR : Addr}
def spTotalAt : Sp := fun vs H Q _ => ∃ (tv pv : V) (ts : List (List Nat)) (ps : List Nat), vs = [tv, pv] ∧ RL RNs H tv ts ∧ RNs H pv ps ∧ ts.length ≤ 1000 ∧ (∀ (i : Nat) t p, ts[i]? = some t → ps[i]? = some p → p < t.length) ∧
  ∀ H', Same H H' → Q (nV (totalAt ts ps)) H'
abbrev s_total_at : Stmt := top 12
abbrev n_total_at : List Str := ["tables", "prices", "table", "price"]
theorem sc_total_at : FnScope n_total_at ["tables", "prices"] (defScope s_total_at) := ⟨rfl, rfl, rfl, by decide +kernel, rfl, by decide +kernel, by decide +kernel⟩
theorem ok_total_at {f : Addr} {fd : FuncData} (F : Fun K "total_at" "total_at" s_total_at f fd) (T : Txt K mg CB CC CP CS aS aR) : FnOk P w K mg base CX0 1 f fd ["tables", "prices"] spTotalAt := by
  refine F.ok sc_total_at (fun vs H Q E h => ?_) (fun cdv A outer s H vs Q E hr h => ?_)
  · obtain ⟨tv, pv', ts, ps, rfl, _⟩ := h
    rfl
  · obtain ⟨tv, pv', ts, ps, rfl, ⟨a, us, rfl, ha, hA⟩, ⟨b, rfl, hb⟩, hlen, hin, k⟩ := h
    refine ⟨_, (pss_one (ps_ret (pe_callB (cr_sum rfl) rfl T.sum (by decide +kernel) (pa_cons (pe_lc (own := [("table", 2), ("price", 3)]) (g := gTup K 2 (gCons (gName 2) (gCons (gName 3) gNil))) (te := tOp (rIxL K) (tVar 2) (tVar 3)) rfl sc_total_at.nd (pi_zip rfl T.zip (pa_cons (pv 0) (pa_cons (pv 1) pa_nil))) (blkOk_by (own := [("table", 2), ("price", 3)]) (N := n_total_at) (sc := defScope s_total_at) (by decide +kernel)) (fun _ _ _ _ _ => (pg_tup rfl (pgs_cons (pg_name (i := 2) sc_total_at.nd rfl (.inl rfl)) (pgs_cons (pg_name (i := 3) sc_total_at.nd rfl (.inl rfl)) pgs_nil)))) (fun _ _ _ _ _ => pts_nil) (fun _ _ _ _ _ => (pe_ix ix_list (pv 2) (pv 3) (fun _ _ => rfl)))) pa_nil)))), ?_⟩
    refine ⟨_, rfl, _, rfl, a, b, us, nL ps, rfl, SqL.of ha, SqL.of hb, fun D hD => ?_⟩
    refine lc_new (R := RN) (n := (ts.zip ps).length) (walk_zip (by rw [List.length_zip, hA.len, nL_len])) ((ts.zip ps).map fun q => some (q.1.getD q.2 0)) (by simp) (by rw [List.length_zip]; omega) hD monoN (fun H' s1 => ⟨SqL.of (s1 _ _ ha), SqL.of (s1 _ _ hb)⟩) ?_ fun H' s1 r => ?_
    · rintro i x H1 H2 oy ho s1 ⟨Tp, y1, y2, rfl, nT, rfl, g1, g2⟩ Qs Qn f1 f2
      obtain ⟨t, ht, c, rfl, hc⟩ := hA.at1 g1
      obtain ⟨p, hp, rfl⟩ := nL_at' g2
      have hlt := hin i t p ht hp
      have sT := same_new (o := .tup [V.ref c, nV p]) nT
      rw [List.getElem?_map, zip_at ht hp] at ho
      have eo := Option.some.inj ho
      refine ⟨Tp, _, rfl, SqT.of upd_same, rfl, _, _, rfl, _, _, rfl, rfl, rfl, yes_go ?_⟩
      refine ⟨_, rfl, _, rfl, c, _, _, _, rfl, rfl, SqL.of (sT _ _ (s1 _ _ hc)), atI_nat (nL_at (at_lt hlt)), ?_⟩
      exact f1 _ _ _ eo.symm sT rfl
    · rw [zip_ys] at r
      obtain ⟨q, e, hq⟩ := RNs_of r
      cases e
      refine ⟨D, _, rfl, SqL.of (by rw [← nL_ints]; exact frs_sub _ _ _ _ hq), ?_⟩
      rw [sum_cast]
      exact k H' s1
def spFirst (CC : Addr) : Sp := fun vs H Q _ => ∃ (v : V) (cs : List Ch), vs = [v] ∧ RL (RCh CC) H v cs ∧ cs ≠ [] ∧ ∀ u, RCh CC H u (fb cs) → Q u H
abbrev s_first_best : Stmt := top 17
abbrev n_first_best : List Str := ["choices", "best", "choice"]
theorem sc_first_best : FnScope n_first_best ["choices"] (defScope s_first_best) := ⟨rfl, rfl, rfl, by decide +kernel, rfl, by decide +kernel, by decide +kernel⟩
theorem ok_first_best {f : Addr} {fd : FuncData} (F : Fun K "first_best" "first_best" s_first_best f fd) (T : Txt K mg CB CC CP CS aS aR) : FnOk P w K mg base CX0 1 f fd ["choices"] (spFirst CC) := by
  refine F.ok sc_first_best (fun vs H Q E h => ?_) (fun cdv A outer s H vs Q E hr h => ?_)
  · obtain ⟨v, cs, rfl, _⟩ := h
    rfl
  · obtain ⟨v, cs, rfl, ⟨a, us, rfl, ha, hA⟩, hne, k⟩ := h
    refine ⟨_, (pss_cons (ps_set (i := 1) sc_first_best.nd rfl (.inl rfl) (pe_ix ix_list (pv 0) pe_int (fun _ _ => rfl)))
      (pss_cons (ps_for PassesOwn.never rfl (pi_list (pv 0)) (pg_name (i := 2) sc_first_best.nd rfl (.inl rfl)) (pss_one (ps_if (pt_cmpR op_gt (pe_fld (pv 2) rfl) (pe_fld (pv 1) rfl) (nomark _)) (pss_one (ps_set (i := 1) sc_first_best.nd rfl (.inl rfl) (pv 2))) pss_nil)))
      (pss_one (ps_ret (pv 1))))), ?_⟩
    cases hA with
    | nil => exact absurd rfl hne
    | @cons u0 c0 us cs h0 hA =>
    have hAll : A2 (RCh CC H) (u0 :: us) (c0 :: cs) := .cons h0 hA
    refine ⟨_, rfl, a, _, _, u0, rfl, rfl, SqL.of ha, at_of (j := 0) rfl rfl, ?_⟩
    refine ⟨_, rfl, a, rfl, ⟨_, SqL.of ha⟩, for_list (K := K) (a := a) (xs := u0 :: us) (fun i σ H' => ∃ (vb : V) (x2 : Option V), σ = [some (.ref a), some vb, x2] ∧ H' = H ∧ RCh CC H vb (fbGo c0 ((c0 :: cs).take i)))
      ⟨u0, none, rfl, rfl, h0⟩ (fun i σ H' _ ⟨_, _, _, e, _⟩ => by rw [e]; exact SqL.of ha) ?_ ?_⟩
    · rintro i y σ H' hi ⟨vb, x2, rfl, rfl, hb⟩
      obtain ⟨c, hc, hrc⟩ := hAll.at1 hi
      have ht := take_snoc hc
      obtain ⟨p, dx, q, rfl, hp, hq⟩ := id hrc
      obtain ⟨p2, dx2, q2, rfl, hp2, hq2⟩ := id hb
      refine ⟨_, rfl, p, CC, dx, _, _, rfl, hp, T.clC, T.nCt, ch_total _ _, _, rfl, p2, CC, dx2, _, _, rfl, hp2, T.clC, T.nCt, ch_total _ _, _, _, rfl, rfl, _, rfl, ?_⟩
      refine ite2 (fun hgt => ?_) (fun hgt => ?_)
      · have hlt : (fbGo c0 ((c0 :: cs).take i)).total < c.total := by have := of_decide_eq_true hgt; omega
        refine ⟨_, rfl, _, _, rfl, rfl, ?_⟩
        rw [ht, fbGo_snoc, if_pos hlt]
        exact hrc
      · have hlt : ¬ (fbGo c0 ((c0 :: cs).take i)).total < c.total := fun z => hgt (decide_eq_true (by omega))
        refine ⟨_, _, rfl, rfl, ?_⟩
        rw [ht, fbGo_snoc, if_neg hlt]
        exact hb
    · rintro σ H' ⟨vb, x2, rfl, rfl, hb⟩
      refine ⟨_, rfl, k vb ?_⟩
      rw [hAll.len, List.take_length, fb_self] at hb
      exact hb
theorem make_ch {H1 : Hp} {z : Int} {t : Nat} {p : Addr} {ps : List Nat} {Q : VK} (ez : z = (t : Int)) (hp : H1 p = some (.lst (nL ps))) (k : ∀ H' x dx, Same H1 H' → H1 x = none → H' x = some (.ins CC dx (chF t p)) → Q (.ref x) H') :
    ∀ x dx, H1 x = none → H1 dx = none → dx ≠ x → spInitC CC (.ref x :: ([.int z, .ref p] ++ [])) (upd (upd H1 dx (.own x)) x (.ins CC dx [])) (fun v H2 => v = .non ∧ Q (.ref x) H2) C8.E0 := by
  subst ez
  intro x dx nx nd ne
  refine ⟨x, dx, t, p, rfl, upd_same, fun H' hx hk => ⟨rfl, ?_⟩⟩
  refine k H' x dx (fun b o e => ?_) nx hx
  have nb := ne_of_none e nx
  rw [hk b nb, upd_ne nb, upd_ne (ne_of_none e nd)]
  exact e
def spLedBy (CC : Addr) : Sp := fun vs H Q _ => ∃ (p e : Nat) (v : V) (ms : Nat) (cs : List Ch), vs = [nV p, nV e, v, nV ms] ∧ RL (RCh CC) H v cs ∧ p < cs.length ∧ (∀ c ∈ cs, c.prices.length ≤ 1000) ∧
  ∀ H' u, Same H H' → RCh CC (frs H H') u (ledBy p e cs ms) → Q u H'
abbrev s_led_by : Stmt := top 15
abbrev n_led_by : List Str := ["price", "earned", "choices", "max_step", "lowest", "rest"]
theorem sc_led_by : FnScope n_led_by ["price", "earned", "choices", "max_step"] (defScope s_led_by) := ⟨rfl, rfl, rfl, by decide +kernel, rfl, by decide +kernel, by decide +kernel⟩
theorem ok_led_by {f : Addr} {fd : FuncData} (F : Fun K "led_by" "led_by" s_led_by f fd) (T : Txt K mg CB CC CP CS aS aR) (c_first_best : Cal P w K mg base 1 "first_best" (spFirst CC) []) (c_Choice : Mak P w K mg base 1 "Choice" CC (spInitC CC) []) : FnOk P w K mg base CX0 3 f fd ["price", "earned", "choices", "max_step"] (spLedBy CC) := by
  refine F.ok sc_led_by (fun vs H Q E h => ?_) (fun cdv A outer s H vs Q E hr h => ?_)
  · obtain ⟨p, e, v, ms, cs, rfl, _⟩ := h
    rfl
  · obtain ⟨p, e, v, ms, cs, rfl, ⟨a, us, rfl, ha, hA⟩, hp, hin, k⟩ := h
    refine ⟨_, (pss_cons (ps_set (i := 4) sc_led_by.nd rfl (.inl rfl) (pe_callB (call_max2 rfl) rfl T.max (by decide +kernel) (pa_cons pe_int (pa_cons (pe_op op_sub (pv 0) (pv 3)) pa_nil))))
      (pss_cons (ps_set (i := 5) sc_led_by.nd rfl (.inl rfl) (pe_c c_first_best hr (by decide) rfl (pa_cons (pe_slice sl_list (pv 2) (po_some (pv 4)) (po_some (pe_op op_add (pv 0) pe_int))) pa_nil)))
      (pss_one (ps_ret (pe_mk c_Choice hr (by decide) rfl (pa_cons (pe_op op_add (pv 1) (pe_fld (pv 5) rfl)) (pa_cons (pe_op op_cat (pe_lst (pa_cons (pv 0) pa_nil)) (pe_fld (pv 5) rfl)) pa_nil))))))), ?_⟩
    have elow : (if (p : Int) - (ms : Int) > 0 then (p : Int) - (ms : Int) else 0) = ((p - ms : Nat) : Int) := by split <;> omega
    refine ⟨_, rfl, _, rfl, _, _, rfl, rfl, _, _, rfl, ?_⟩
    show (tSeq _ _) _ _ _
    rw [elow]
    have hlu := hA.len
    refine ⟨_, rfl, _, rfl, _, rfl, _, rfl, _, _, rfl, rfl, _, rfl, a, us, rfl, SqL.of ha, fun c nc => ?_⟩
    have ecut : cutV us (some ((p - ms : Nat) : Int)) (some ((p : Int) + 1)) = (us.drop (p - ms)).take (p + 1 - (p - ms)) := cut_nat us (p - ms) (p + 1) (by omega) (by omega)
    have sc1 := same_new (o := .lst (cutV us (some ((p - ms : Nat) : Int)) (some ((p : Int) + 1)))) nc
    have hcut : A2 (RCh CC (upd H c (.lst (cutV us (some ((p - ms : Nat) : Int)) (some ((p : Int) + 1)))))) (cutV us (some ((p - ms : Nat) : Int)) (some ((p : Int) + 1))) ((cs.drop (p - ms)).take (p + 1 - (p - ms))) := by
      rw [ecut]
      exact ((hA.drop _).take _).mono fun _ _ r => monoCh _ _ _ _ (by rw [← ecut]; exact sc1) r
    have ne : (cs.drop (p - ms)).take (p + 1 - (p - ms)) ≠ [] := by
      intro e
      have := congrArg List.length e
      rw [List.length_take, List.length_drop] at this
      simp at this
      omega
    refine ⟨.ref c, _, rfl, ⟨c, _, rfl, upd_same, hcut⟩, ne, fun u hu => ?_⟩
    have hm : (fb ((cs.drop (p - ms)).take (p + 1 - (p - ms)))).prices.length ≤ 1000 := hin _ (List.mem_of_mem_drop (List.mem_of_mem_take (fb_mem ne)))
    obtain ⟨y, dy, yp, rfl, hy, hyp⟩ := hu
    refine ⟨_, rfl, _, rfl, y, CC, dy, _, _, rfl, hy, T.clC, T.nCt, ch_total _ _, _, _, rfl, rfl, _, rfl, (by show 1 ≤ sizeLine; decide), fun p1 n1 => ?_⟩
    have s1 := same_new (o := .lst [nV p]) n1
    refine ⟨_, rfl, y, CC, dy, _, _, rfl, s1 _ _ hy, T.clC, T.nCp, ch_prices _ _, p1, yp, _, _, rfl, rfl, upd_same, s1 _ _ hyp, ?_, fun p2 n2 => ?_⟩
    · rw [nL_len]
      exact Nat.le_trans (Nat.add_le_add_left hm 1) (by decide)
    · have s2 := same_new (o := .lst ([nV p] ++ nL (fb ((cs.drop (p - ms)).take (p + 1 - (p - ms)))).prices)) n2
      have sA := sc1.trans (s1.trans s2)
      have et : (e : Int) + ((fb ((cs.drop (p - ms)).take (p + 1 - (p - ms)))).total : Int) = ((e + (fb ((cs.drop (p - ms)).take (p + 1 - (p - ms)))).total : Nat) : Int) := (Int.natCast_add _ _).symm
      refine make_ch (t := e + (fb ((cs.drop (p - ms)).take (p + 1 - (p - ms)))).total) et (ps := p :: (fb ((cs.drop (p - ms)).take (p + 1 - (p - ms)))).prices) upd_same fun H' x dx sx nx hx => ?_
      have n2H : H p2 = none := (sc1.trans s1).free n2
      refine k H' _ (sA.trans sx) ⟨x, dx, p2, rfl, by rw [frs_at (sA.free nx)]; exact hx, ?_⟩
      rw [frs_at n2H]
      exact sx _ _ upd_same
end
end Bp

/-! # blockprices: the searches, the planner's helpers -/
namespace Bp
open PySem PySem.Spec PyProof.Rows L2
open C8 (Cal pe_c Mak pe_mk pe_gc)
open Kv438 (Block Market Operation Response)

/-- all but what stands at D -/
def but (D : Addr) (H : Hp) : Hp := fun b => if b = D then none else H b
theorem but_at {D b : Addr} {H : Hp} (h : b ≠ D) : but D H b = H b := by unfold but; rw [if_neg h]
theorem but_some {D b : Addr} {H : Hp} {o : HO} (h : but D H b = some o) : b ≠ D ∧ H b = some o := by
  by_cases e : b = D
  · unfold but at h; rw [if_pos e] at h; cases h
  · rw [but_at e] at h; exact ⟨e, h⟩
section
variable {α : Type} {R : Rel α} {J : It} {n : Nat} {G : Hp → Prop} {Y : Nat → Hp → V → Hp → Prop} {g : TG} {tt : TT} {te : TE} {vs : List Nat} {σ : L2.St} {H1 : Hp} {D : Addr} {Qd : Hp → Prop}
/-- items that lean on old things and new ones -/
theorem lc_mix (wk : Walk J n G Y) (ys : List (Option α)) (hys : ys.length = n) (hn : n ≤ 1000000) (hD : H1 D = none) (mR : Mono R) (hG : ∀ H, Same H1 H → G H)
    (hb : ∀ i x H H' oy, ys[i]? = some oy → Same H1 H → (∃ us, H D = some (.lst us)) → Y i H x H' → ∀ (Qs : VK) (Qn : Hp → Prop), (∀ y v H4, oy = some y → Same H H4 → R (but D H4) v y → Qs v H4) → (∀ H4, oy = none → Same H H4 → Qn H4) →
      g x (wipe σ vs) H' fun σ2 H2 => wipe σ2 vs = wipe σ vs ∧ tt σ2 H2 fun b H3 => if b = true then te σ2 H3 Qs else Qn H3)
    (hd : ∀ H', Same H1 H' → RL R H' (.ref D) (ys.filterMap id) → Qd H') :
    ∃ W : Nat → Nat → Hp → Prop, (∃ m, W 0 m (upd H1 D (.lst []))) ∧ ∀ i m H, W i m H →
      (J.stop i H ∧ Qd H) ∨ (J.go i H ∧ ∃ Nx : Hp → Prop, (∀ H', Nx H' → ∃ m', m' < m ∧ W (i + 1) m' H') ∧ ∀ x H', J.yld i H x H' → g x (wipe σ vs) H' fun σ2 H2 => wipe σ2 vs = wipe σ vs ∧ tt σ2 H2 fun b H3 =>
        if b = true then te σ2 H3 fun y H4 => ∃ acc, H4 D = some (.lst acc) ∧ acc.length < sizeLine ∧ Nx (upd H4 D (.lst (acc ++ [y]))) else Nx H3) :=
  lc_gen (R := R) (Z := but D) wk ys hys hn hD mR
    (fun H H' s b u e => by
      obtain ⟨ne, h⟩ := but_some e
      rw [but_at ne]; exact s _ _ h)
    (fun H o b u e => by
      obtain ⟨ne, h⟩ := but_some e
      rw [but_at ne, upd_ne ne]; exact h) hG hb fun H' us s1 hu q => hd H' s1 ⟨D, us, rfl, hu, q.mono fun _ _ z => mR _ _ _ _ (fun b u e => (but_some e).2) z⟩
end

theorem eqv_nL (l : List Nat) (m : List Int) : PyData.eqv (.list ((l.map fun n : Nat => (n : Int)).map PyData.int)) (.list (m.map PyData.int)) = decide ((l.map fun n : Nat => (n : Int)) = m) := by
  show PyData.eqvAll _ _ = _
  exact PySem.W.ked_eqvAll _ _
theorem shaped_ints (m : List Int) : SeqAt.shaped (.list (m.map PyData.int)) = true := by
  simp [SeqAt.shaped, PyData.canLay0, PyData.canLayAll0, PyData.depth, PyData.depthAll, PySem.W.ke_canLayAll0, PySem.W.ke_depthAll]
theorem dp_ints {K : PySem.W.Frag} {H : Hp} : ∀ m : List Int, DpAll K H (m.map V.int) (m.map PyData.int)
  | [] => .nil
  | i :: m => .cons (.int i) (dp_ints m)
theorem ninc_iff : ∀ {l : List Nat}, Kv438.isNonIncreasing l = true ↔ l.Pairwise (· ≥ ·)
  | [] => by simp [Kv438.isNonIncreasing]
  | [a] => by simp [Kv438.isNonIncreasing]
  | a :: b :: l => by
    have ih := ninc_iff (l := b :: l)
    have e : Kv438.isNonIncreasing (a :: b :: l) = (decide (b ≤ a) && Kv438.isNonIncreasing (b :: l)) := rfl
    rw [e, Bool.and_eq_true, ih, List.pairwise_cons (l := b :: l), decide_eq_true_eq]
    refine ⟨fun ⟨h1, h2⟩ => ⟨fun x hx => ?_, h2⟩, fun ⟨h1, h2⟩ => ⟨h1 b (List.mem_cons_self ..), h2⟩⟩
    rcases List.mem_cons.mp hx with q | q
    · rw [q]; exact h1
    · exact Nat.le_trans ((List.pairwise_cons.mp h2).1 x q) h1
theorem pair_cast {l : List Nat} : (l.map fun n : Nat => (n : Int)).Pairwise (· ≥ ·) ↔ l.Pairwise (· ≥ ·) := by
  rw [List.pairwise_map]
  refine ⟨fun h => h.imp fun {a b} q => ?_, fun h => h.imp fun {a b} q => ?_⟩ <;> omega
theorem sorted_same {l m : List Int} (p : m.Perm l) (o : m.Pairwise (· ≥ ·)) : l = m ↔ l.Pairwise (· ≥ ·) := by
  refine ⟨fun e => by rw [e]; exact o, fun h => ?_⟩
  exact p.symm.eq_of_pairwise (fun a b _ _ h1 h2 => by omega) h o

/-- a market as the document lets it be -/
structure GM (m : Market) : Prop where
  p1 : 1 ≤ m.maxPrice
  p7 : m.maxPrice ≤ 7
  s7 : m.maxStep ≤ 7
  n5 : m.blocks.length ≤ 5
  bl : ∀ b ∈ m.blocks, b.demand.length = m.maxPrice + 1
def refL (m : Market) (b p : Nat) : List Int := if b < m.blocks.length then (if m.maxPrice < p then [-22] else []) else [-2]

section
variable {P : Program} {w : World} {K : PySem.W.Frag} {mg : Str → Option Value} {base : Heap} {CB CC CP CS aS aR : Addr}
def spListed (CC : Addr) : Sp := fun vs H Q _ => ∃ (tv lv : V) (ts ls : List (List Nat)), vs = [tv, lv] ∧ RL RNs H tv ts ∧ RL RNs H lv ls ∧ ls ≠ [] ∧ ls.length ≤ 1000000 ∧ ts.length ≤ 1000 ∧
  (∀ l ∈ ls, ∀ (i : Nat) t p, ts[i]? = some t → l[i]? = some p → p < t.length) ∧ ∀ H' u, Same H H' → RCh CC H' u (bestOf ts ls) → Q u H'
abbrev s_best_listed : Stmt := top 16
abbrev n_best_listed : List Str := ["tables", "lists", "prices"]
theorem sc_best_listed : FnScope n_best_listed ["tables", "lists"] (defScope s_best_listed) := ⟨rfl, rfl, rfl, by decide +kernel, rfl, by decide +kernel, by decide +kernel⟩
theorem ok_best_listed {f : Addr} {fd : FuncData} (F : Fun K "best_listed" "best_listed" s_best_listed f fd) (T : Txt K mg CB CC CP CS aS aR) (c_first_best : Cal P w K mg base 1 "first_best" (spFirst CC) []) (c_Choice : Mak P w K mg base 1 "Choice" CC (spInitC CC) [])
    (c_total_at : Cal P w K mg base 1 "total_at" spTotalAt []) : FnOk P w K mg base CX0 3 f fd ["tables", "lists"] (spListed CC) := by
  refine F.ok sc_best_listed (fun vs H Q E h => ?_) (fun cdv A outer s H vs Q E hr h => ?_)
  · obtain ⟨tv, lv, ts, ls, rfl, _⟩ := h
    rfl
  · obtain ⟨tv, lv, ts, ls, rfl, hts, ⟨a, us, rfl, ha, hA⟩, hne, hlen, htl, hin, k⟩ := h
    refine ⟨_, (pss_one (ps_ret (pe_c c_first_best hr (by decide) rfl (pa_cons (pe_lc (own := [("prices", 2)]) (g := gName 2) rfl sc_best_listed.nd (pi_list (pv 1)) (blkOk_by (own := [("prices", 2)]) (N := n_best_listed) (sc := defScope s_best_listed) (by decide +kernel)) (fun _ _ _ _ _ => (pg_name (i := 2) sc_best_listed.nd rfl (.inl rfl))) (fun _ _ _ _ _ => pts_nil) (fun _ _ _ _ _ => (pe_mk c_Choice hr (by decide) rfl (pa_cons (pe_c c_total_at hr (by decide) rfl (pa_cons (pv 0) (pa_cons (pv 2) pa_nil))) (pa_cons (pv 2) pa_nil))))) pa_nil)))), ?_⟩
    refine ⟨_, rfl, a, rfl, ⟨_, SqL.of ha⟩, fun D hD => ?_⟩
    refine lc_mix (R := RCh CC) walk_list (ls.map fun l => some ⟨totalAt ts l, l⟩) (by rw [List.length_map]; exact hA.len.symm) (by rw [hA.len]; exact hlen) hD monoCh (fun H' s1 => SqL.of (s1 _ _ ha)) ?_ fun H' s1 r => ?_
    · rintro i x H1 H2 oy ho s1 ⟨us2, hu2⟩ ⟨rfl, hx⟩ Qs Qn f1 f2
      obtain ⟨l, hl, b, rfl, hb⟩ := hA.at1 hx
      rw [List.getElem?_map, hl] at ho
      have eo := Option.some.inj ho
      refine ⟨rfl, yes_go ?_⟩
      refine ⟨_, rfl, _, rfl, tv, .ref b, ts, l, rfl, monoL monoNs _ _ _ _ s1 hts, ⟨b, rfl, s1 _ _ hb⟩, htl, hin l (List.mem_of_getElem? hl), fun H3 s3 => ?_⟩
      refine ⟨_, rfl, ?_⟩
      have hb3 : H3 b = some (.lst (nL l)) := s3 _ _ (s1 _ _ hb)
      refine make_ch (t := totalAt ts l) rfl (ps := l) hb3 fun H4 y dy sy ny hy => ?_
      refine f1 _ _ _ eo.symm (s3.trans sy) ⟨y, dy, b, rfl, ?_, ?_⟩
      · rw [but_at (fun q => by rw [q, s3 _ _ hu2] at ny; cases ny)]; exact hy
      · rw [but_at (ne_of_none hb hD)]; exact sy _ _ hb3
    · rw [map_ys] at r
      refine ⟨.ref D, _, rfl, r, ?_, fun u hu => k _ _ s1 hu⟩
      intro e
      exact hne (List.map_eq_nil_iff.mp e)
def spSingles (CC : Addr) : Sp := fun vs H Q _ => ∃ (tv : V) (ts : List (List Nat)), vs = [tv] ∧ RL RNs H tv ts ∧ ts.length ≤ 1000 ∧ (∀ t ∈ ts, t ≠ []) ∧ ∀ H' u, Same H H' → RCh CC H' u (singles ts) → Q u H'
abbrev s_best_singles : Stmt := top 13
abbrev n_best_singles : List Str := ["tables", "prices", "total", "table"]
theorem sc_best_singles : FnScope n_best_singles ["tables"] (defScope s_best_singles) := ⟨rfl, rfl, rfl, by decide +kernel, rfl, by decide +kernel, by decide +kernel⟩
theorem ok_best_singles {f : Addr} {fd : FuncData} (F : Fun K "best_singles" "best_singles" s_best_singles f fd) (T : Txt K mg CB CC CP CS aS aR) (c_Choice : Mak P w K mg base 1 "Choice" CC (spInitC CC) []) : FnOk P w K mg base CX0 3 f fd ["tables"] (spSingles CC) := by
  refine F.ok sc_best_singles (fun vs H Q E h => ?_) (fun cdv A outer s H vs Q E hr h => ?_)
  · obtain ⟨tv, ts, rfl, _⟩ := h
    rfl
  · obtain ⟨tv, ts, rfl, ⟨a, us, rfl, ha, hA⟩, hlen, hne, k⟩ := h
    refine ⟨_, (pss_cons (ps_setLc (i := 1) (own := [("table", 3)]) (g := gName 3) (te := tBM K "list" (rIndex K) (tVar 3) (tCons (tCB (rMax K) (tCons (tVar 3) tNil)) tNil)) rfl sc_best_singles.nd rfl rfl (sw_true rfl rfl rfl (by decide +kernel)) (pi_list (pv 0)) (blkOk_by (own := [("table", 3)]) (N := n_best_singles) (sc := defScope s_best_singles) (by decide +kernel)) (fun _ _ _ _ _ => (pg_name (i := 3) sc_best_singles.nd rfl (.inl rfl))) (fun _ _ _ _ _ => pts_nil) (fun _ _ _ _ _ => (pe_bm PySem.F.plainAttrs_list PySem.F.slot_list_index PySem.F.type_list_index mt_index (pv 3) (pa_cons (pe_callB (cr_max rfl) rfl T.max (by decide +kernel) (pa_cons (pv 3) pa_nil)) pa_nil))))
      (pss_cons (ps_set (i := 2) sc_best_singles.nd rfl (.inl rfl) (pe_callB (cr_sum rfl) rfl T.sum (by decide +kernel) (pa_cons (pe_lc (own := [("table", 3)]) (g := gName 3) (te := tCB (rMax K) (tCons (tVar 3) tNil)) rfl sc_best_singles.nd (pi_list (pv 0)) (blkOk_by (own := [("table", 3)]) (N := n_best_singles) (sc := defScope s_best_singles) (by decide +kernel)) (fun _ _ _ _ _ => (pg_name (i := 3) sc_best_singles.nd rfl (.inl rfl))) (fun _ _ _ _ _ => pts_nil) (fun _ _ _ _ _ => (pe_callB (cr_max rfl) rfl T.max (by decide +kernel) (pa_cons (pv 3) pa_nil)))) pa_nil)))
      (pss_one (ps_ret (pe_mk c_Choice hr (by decide) rfl (pa_cons (pv 2) (pa_cons (pv 1) pa_nil))))))), ?_⟩
    refine ⟨_, rfl, a, rfl, ⟨_, SqL.of ha⟩, fun D hD => ?_⟩
    refine lc_new (R := RN) walk_list (ts.map fun t => some (firstIx (maxL t) t)) (by rw [List.length_map]; exact hA.len.symm) (by rw [hA.len]; omega) hD monoN (fun H' s1 => SqL.of (s1 _ _ ha)) ?_ fun H1 s1 r1 => ?_
    · rintro i x H1 H2 oy ho s1 ⟨rfl, hx⟩ Qs Qn f1 f2
      obtain ⟨t, ht, b, rfl, hb⟩ := hA.at1 hx
      rw [List.getElem?_map, ht] at ho
      have eo := Option.some.inj ho
      have tne := hne t (List.mem_of_getElem? ht)
      have hb1 : H2 b = some (.lst (nL t)) := s1 _ _ hb
      refine ⟨rfl, yes_go ?_⟩
      refine ⟨_, rfl, .inl ⟨rfl, _, SqL.of hb1⟩, _, rfl, b, _, rfl, SqL.of (by rw [← nL_ints]; exact hb1), (by rw [List.length_map]; exact List.length_pos_iff.mpr tne), fun m hm1 hm2 => ?_⟩
      have em := maxL_is hm1 hm2
      subst em
      obtain ⟨g1, g2⟩ := firstIx_at (maxL_mem tne)
      refine ⟨b, nL t, .int (maxL t), firstIx (maxL t) t, nV (maxL t), rfl, rfl, SqL.of hb1, rfl, ?_, nL_at g1, ?_, ?_, ?_⟩
      · unfold nL
        rw [List.all_map]
        exact List.all_eq_true.mpr fun _ _ => rfl
      · show (((maxL t : Nat) : Int) == (maxL t : Int)) = true
        exact beq_self_eq_true _
      · intro m z hm hz
        obtain ⟨y, hy, rfl⟩ := nL_at' hz
        have ny := g2 m y hm hy
        show (((y : Nat) : Int) == (maxL t : Int)) = false
        exact beq_eq_false_iff_ne.mpr fun q => ny (by omega)
      · exact f1 _ _ _ eo.symm (Same.refl _) rfl
    · rw [map_ys] at r1
      obtain ⟨q, e, hq⟩ := RNs_of r1
      cases e
      have hD1 : H1 D = some (.lst (nL (ts.map fun t => firstIx (maxL t) t))) := frs_sub _ _ _ _ hq
      have ha1 := s1 _ _ ha
      have hA1 := hA.mono fun _ _ z => monoNs _ _ _ _ s1 z
      refine ⟨_, rfl, a, rfl, ⟨_, SqL.of ha1⟩, fun D2 hD2 => ?_⟩
      refine lc_new (R := RN) walk_list (ts.map fun t => some (maxL t)) (by rw [List.length_map]; exact hA.len.symm) (by rw [hA.len]; omega) hD2 monoN (fun H' s2 => SqL.of (s2 _ _ ha1)) ?_ fun H2 s2 r2 => ?_
      · rintro i x H3 H4 oy ho s3 ⟨rfl, hx⟩ Qs Qn f1 f2
        obtain ⟨t, ht, b, rfl, hb⟩ := hA1.at1 hx
        rw [List.getElem?_map, ht] at ho
        have eo := Option.some.inj ho
        have tne := hne t (List.mem_of_getElem? ht)
        have hb1 : H4 b = some (.lst (nL t)) := s3 _ _ hb
        refine ⟨rfl, yes_go ?_⟩
        refine ⟨_, rfl, b, _, rfl, SqL.of (by rw [← nL_ints]; exact hb1), (by rw [List.length_map]; exact List.length_pos_iff.mpr tne), fun m hm1 hm2 => ?_⟩
        have em := maxL_is hm1 hm2
        subst em
        exact f1 _ _ _ eo.symm (Same.refl _) rfl
      · rw [map_ys] at r2
        obtain ⟨q, e, hq⟩ := RNs_of r2
        cases e
        refine ⟨D2, _, rfl, SqL.of (by rw [← nL_ints]; exact frs_sub _ _ _ _ hq), ?_⟩
        refine ⟨_, rfl, _, rfl, ?_⟩
        refine make_ch (t := (ts.map maxL).sum) (sum_cast _) (ps := ts.map fun t => firstIx (maxL t) t) (s2 _ _ hD1) fun H3 y dy sy ny hy => ?_
        exact k _ _ (s1.trans (s2.trans sy)) ⟨y, dy, D, rfl, hy, sy _ _ (s2 _ _ hD1)⟩
def spBestOrd (CC : Addr) : Sp := fun vs H Q _ => ∃ (tv : V) (mp ms : Nat) (ts : List (List Nat)), vs = [tv, nV mp, nV ms] ∧ RL RNs H tv ts ∧ mp ≤ 7 ∧ ts.length ≤ 5 ∧ (∀ t ∈ ts, t.length = mp + 1) ∧ ∀ H' u, Same H H' → RCh CC H' u (bestOrd ts mp ms) → Q u H'
theorem chs_at {mp ms : Nat} {t : List Nat} {ts : List (List Nat)} : chs mp ms (t :: ts) = (List.range (mp + 1)).map fun p => ledBy p (t.getD p 0) (chs mp ms ts) ms := rfl
abbrev s_best_ordered : Stmt := top 14
abbrev n_best_ordered : List Str := ["tables", "max_price", "max_step", "choices", "table", "price"]
theorem sc_best_ordered : FnScope n_best_ordered ["tables", "max_price", "max_step"] (defScope s_best_ordered) := ⟨rfl, rfl, rfl, by decide +kernel, rfl, by decide +kernel, by decide +kernel⟩
theorem ok_best_ordered {f : Addr} {fd : FuncData} (F : Fun K "best_ordered" "best_ordered" s_best_ordered f fd) (T : Txt K mg CB CC CP CS aS aR) (c_first_best : Cal P w K mg base 1 "first_best" (spFirst CC) []) (c_Choice : Mak P w K mg base 1 "Choice" CC (spInitC CC) [])
    (c_led_by : Cal P w K mg base 3 "led_by" (spLedBy CC) []) : FnOk P w K mg base CX0 4 f fd ["tables", "max_price", "max_step"] (spBestOrd CC) := by
  refine F.ok sc_best_ordered (fun vs H Q E h => ?_) (fun cdv A outer s H vs Q E hr h => ?_)
  · obtain ⟨tv, mp, ms, ts, rfl, _⟩ := h
    rfl
  · obtain ⟨tv, mp, ms, ts, rfl, ⟨a, us, rfl, ha, hA⟩, hmp, hts, hin, k⟩ := h
    refine ⟨_, (pss_cons (ps_set (i := 3) sc_best_ordered.nd rfl (.inr rfl) (pe_lc (own := [("price", 5)]) (g := gName 5) rfl sc_best_ordered.nd (pi_range1 rfl T.range (pa_cons (pe_op op_add (pv 1) pe_int) pa_nil)) (blkOk_by (own := [("price", 5)]) (N := n_best_ordered) (sc := defScope s_best_ordered) (by decide +kernel)) (fun _ _ _ _ _ => (pg_name (i := 5) sc_best_ordered.nd rfl (.inl rfl))) (fun _ _ _ _ _ => pts_nil) (fun _ _ _ _ _ => (pe_mk c_Choice hr (by decide) rfl (pa_cons pe_int (pa_cons (pe_lst pa_nil) pa_nil))))))
      (pss_cons (ps_for PassesOwn.never rfl (pi_reversed rfl T.reversed (pa_cons (pv 0) pa_nil)) (pg_name (i := 4) sc_best_ordered.nd rfl (.inr rfl)) (pss_one (ps_set (i := 3) sc_best_ordered.nd rfl (.inr rfl) (pe_lc (own := [("price", 5)]) (g := gName 5) (te := tCall (spLedBy CC) [] C8.E0 (tCons (tVar 5) (tCons (tOp (rIxL K) (tVar 4) (tVar 5)) (tCons (tVar 3) (tCons (tVar 2) tNil))))) rfl sc_best_ordered.nd (pi_range1 rfl T.range (pa_cons (pe_op op_add (pv 1) pe_int) pa_nil)) (blkOk_by (own := [("price", 5)]) (N := n_best_ordered) (sc := defScope s_best_ordered) (by decide +kernel)) (fun _ _ _ _ _ => (pg_name (i := 5) sc_best_ordered.nd rfl (.inl rfl))) (fun _ _ _ _ _ => pts_nil) (fun _ _ _ _ _ => (pe_c c_led_by hr (by decide) rfl (pa_cons (pv 5) (pa_cons (pe_ix ix_list (pv 4) (pv 5) (fun _ _ => rfl)) (pa_cons (pv 3) (pa_cons (pv 2) pa_nil))))))))))
      (pss_one (ps_ret (pe_c c_first_best hr (by decide) rfl (pa_cons (pv 3) pa_nil)))))), ?_⟩
    have e1 : (((mp : Nat) : Int) + 1).toNat = mp + 1 := by omega
    refine ⟨_, rfl, _, _, rfl, rfl, _, rfl, (by omega), (by omega), fun D hD => ?_⟩
    rw [e1]
    refine lc_new (R := RCh CC) walk_range ((List.range (mp + 1)).map fun _ => some ⟨0, []⟩) (by simp) (by omega) hD monoCh (fun _ _ => trivial) ?_ fun H1 s1 r1 => ?_
    · rintro i x H1 H2 oy ho s1 ⟨rfl, rfl⟩ Qs Qn f1 f2
      obtain ⟨hi, eo⟩ := range_at ho
      refine ⟨rfl, yes_go ?_⟩
      refine ⟨Nat.zero_le _, fun p1 n1 => ?_⟩
      have s2 := same_new (o := .lst []) n1
      refine make_ch (t := 0) rfl (ps := []) upd_same fun H3 y dy sy ny hy => ?_
      refine f1 _ _ _ eo.symm (s2.trans sy) ⟨y, dy, p1, rfl, ?_, ?_⟩
      · rw [frs_at (s2.free ny)]; exact hy
      · rw [frs_at n1]; exact sy _ _ upd_same
    · rw [range_ys] at r1
      have hu0 := hA.len
      refine ⟨_, rfl, a, us, rfl, SqL.of (s1 _ _ ha), for_it walk_rev (fun i σ H' => ∃ (v : V) (x4 x5 : Option V), σ = [some (.ref a), some (nV mp), some (nV ms), some v, x4, x5] ∧ Same H H' ∧ RL (RCh CC) H' v (chs mp ms (ts.drop (ts.length - i))))
        ⟨.ref D, none, none, rfl, s1, ?_⟩ (fun i σ H' _ ⟨_, _, _, _, s, _⟩ => SqL.of (s _ _ ha)) ?_ ?_⟩
      · rw [Nat.sub_zero, List.drop_length]
        exact monoL monoCh _ _ _ _ (frs_sub _ _) r1
      · rintro i x σ H2 H3 hi ⟨v, x4, x5, rfl, s2, hv⟩ ⟨rfl, hx⟩
        rw [hu0] at hx hi
        obtain ⟨t, ht, b, rfl, hb⟩ := hA.at1 hx
        have hdrop : ts.drop (ts.length - (i + 1)) = t :: ts.drop (ts.length - i) := by
          have h1 : ts.length - 1 - i = ts.length - (i + 1) := by omega
          have h2 : ts.length - i = ts.length - (i + 1) + 1 := by omega
          rw [h1] at ht
          rw [h2]
          exact List.drop_eq_getElem?_toList_append ▸ (by rw [ht]; rfl)
        have tl := hin t (List.mem_of_getElem? ht)
        refine ⟨_, rfl, _, _, rfl, rfl, _, rfl, (by omega), (by omega), fun D2 hD2 => ?_⟩
        rw [e1]
        refine lc_new (R := RCh CC) walk_range ((List.range (mp + 1)).map fun p => some (ledBy p (t.getD p 0) (chs mp ms (ts.drop (ts.length - i))) ms)) (by simp) (by omega) hD2 monoCh (fun _ _ => trivial) ?_ fun H4 s4 r4 => ?_
        · rintro j y H4 H5 oy ho s4 ⟨rfl, rfl⟩ Qs Qn f1 f2
          obtain ⟨hj, eo⟩ := range_at ho
          have hb5 : H5 b = some (.lst (nL t)) := s4 _ _ (s2 _ _ hb)
          refine ⟨rfl, yes_go ?_⟩
          refine ⟨_, rfl, _, rfl, _, rfl, b, _, _, _, rfl, rfl, SqL.of hb5, at_of (Int.zero_add _) (nL_at (at_lt (by omega))), _, rfl, _, rfl, j, t.getD j 0, v, ms, chs mp ms (ts.drop (ts.length - i)), ?_, monoL monoCh _ _ _ _ s4 hv, (by rw [chs_len]; exact hj), (fun c hc => ?_), fun H6 u s6 r6 => ?_⟩
          · simp
          · rw [chs_prices mp ms _ c hc, List.length_drop]; omega
          · exact f1 _ _ _ eo.symm s6 r6
        · rw [range_ys, ← chs_at, ← hdrop] at r4
          exact ⟨_, _, _, rfl, s2.trans s4, monoL monoCh _ _ _ _ (frs_sub _ _) r4⟩
      · rintro σ H2 ⟨v, x4, x5, rfl, s2, hv⟩
        rw [hu0, Nat.sub_self, List.drop_zero] at hv
        refine ⟨_, rfl, v, _, rfl, hv, ?_, fun u hu => k _ _ s2 hu⟩
        intro e
        have := congrArg List.length e
        rw [chs_len] at this
        simp at this
end
end Bp

/-! # blockprices: the planner's helpers -/
namespace Bp
open PySem PySem.Spec PyProof.Rows L2
open C8 (Cal pe_c Mak pe_mk pe_gc)
open Kv438 (Block Market Operation Response)

theorem RP_open {CP CB : Addr} {H : Hp} {v : V} {m : Market} (h : RP CP CB H v m) : ∃ p dx l us, v = .ref p ∧ H p = some (.ins CP dx (plF m.maxPrice m.maxStep l)) ∧ H l = some (.lst us) ∧ A2 (RB CB H) us m.blocks := by
  obtain ⟨p, dx, l, e, hp, a, us, e2, hl, hA⟩ := h
  cases e2
  exact ⟨p, dx, l, us, e, hp, hl, hA⟩
theorem tbl_len (b : Block) : (tbl b).length = b.demand.length := by simp [tbl]
theorem atb_len (b : Block) : (atb b).length = b.demand.length := by simp [atb]
section
variable {P : Program} {w : World} {K : PySem.W.Frag} {mg : Str → Option Value} {base : Heap} {CB CC CP CS aS aR : Addr}
def spHas (CP CB : Addr) : Sp := fun vs H Q _ => ∃ (v : V) (b : Nat) (m : Market), vs = [v, nV b] ∧ RP CP CB H v m ∧ Q (.bl (decide (b < m.blocks.length))) H
abbrev s_has_block : Stmt := top 33
abbrev n_has_block : List Str := ["planner", "block"]
theorem sc_has_block : FnScope n_has_block ["planner", "block"] (defScope s_has_block) := ⟨rfl, rfl, rfl, by decide +kernel, rfl, by decide +kernel, by decide +kernel⟩
theorem ok_has_block {f : Addr} {fd : FuncData} (F : Fun K "has_block" "has_block" s_has_block f fd) (T : Txt K mg CB CC CP CS aS aR) : FnOk P w K mg base CX0 1 f fd ["planner", "block"] (spHas CP CB) := by
  refine F.ok sc_has_block (fun vs H Q E h => ?_) (fun cdv A outer s H vs Q E hr h => ?_)
  · obtain ⟨v, b, m, rfl, _⟩ := h
    rfl
  · obtain ⟨v, b, m, rfl, hP, k⟩ := h
    obtain ⟨p, dx, l, us, rfl, hp, hl, hA⟩ := RP_open hP
    refine ⟨_, (pss_one (ps_ret (pe_cmpR op_lt (pv 1) (pe_callB call_len_seq rfl T.len PySem.boot_len (pa_cons (pe_fld (pv 0) rfl) pa_nil)) (nomark _)))), ?_⟩
    refine ⟨_, rfl, _, rfl, p, CP, dx, _, _, rfl, hp, T.clP, T.nPb, pl_blocks _ _ _, l, us, rfl, .inl (SqL.of hl), _, _, rfl, rfl, ?_⟩
    have e : decide ((b : Int) < (us.length : Int)) = decide (b < m.blocks.length) := decide_eq_decide.mpr (by rw [hA.len]; omega)
    show Q (.bl (decide ((b : Int) < (us.length : Int)))) H
    rw [e]; exact k
def spRefusal (CP CB : Addr) : Sp := fun vs H Q _ => ∃ (v : V) (b p : Nat) (m : Market), vs = [v, nV b, nV p] ∧ RP CP CB H v m ∧ ∀ H' u, Same H H' → RIs (frs H H') u (refL m b p) → Q u H'
theorem ris_new {H : Hp} {q : Addr} {l : List V} {is : List Int} (n : H q = none) (e : l = is.map V.int) : RIs (frs H (upd H q (.lst l))) (.ref q) is := ⟨q, rfl, by rw [frs_at n, upd_same, e]⟩
abbrev s_refusal_at : Stmt := top 34
abbrev n_refusal_at : List Str := ["planner", "block", "price"]
theorem sc_refusal_at : FnScope n_refusal_at ["planner", "block", "price"] (defScope s_refusal_at) := ⟨rfl, rfl, rfl, by decide +kernel, rfl, by decide +kernel, by decide +kernel⟩
theorem ok_refusal_at {f : Addr} {fd : FuncData} (F : Fun K "refusal_at" "refusal_at" s_refusal_at f fd) (T : Txt K mg CB CC CP CS aS aR) (c_has_block : Cal P w K mg base 1 "has_block" (spHas CP CB) []) : FnOk P w K mg base CX0 2 f fd ["planner", "block", "price"] (spRefusal CP CB) := by
  refine F.ok sc_refusal_at (fun vs H Q E h => ?_) (fun cdv A outer s H vs Q E hr h => ?_)
  · obtain ⟨v, b, p, m, rfl, _⟩ := h
    rfl
  · obtain ⟨v, b, p, m, rfl, hP, k⟩ := h
    obtain ⟨pp, dx, l, us, rfl, hp, hl, hA⟩ := RP_open hP
    refine ⟨_, (pss_cons (ps_if (pt_not (pt_val (pe_c c_has_block hr (by decide) rfl (pa_cons (pv 0) (pa_cons (pv 1) pa_nil))))) (pss_one (ps_ret (pe_lst (pa_cons (pe_gc rfl T.cNO_BLOCK) pa_nil)))) pss_nil)
      (pss_cons (ps_if (pt_cmpR op_gt (pv 2) (pe_fld (pv 0) rfl) (nomark _)) (pss_one (ps_ret (pe_lst (pa_cons (pe_gc rfl T.cOUT_OF_RANGE) pa_nil)))) pss_nil)
      (pss_one (ps_ret (pe_lst pa_nil))))), ?_⟩
    refine ⟨_, rfl, _, rfl, _, b, m, rfl, hP, _, rfl, ?_⟩
    refine ite2 (fun hc => ?_) (fun hc => ?_)
    · have hn : ¬ b < m.blocks.length := by simpa using hc
      refine ⟨(by show 1 ≤ sizeLine; decide), fun q nq => k _ _ (same_new nq) (ris_new nq ?_)⟩
      unfold refL; rw [if_neg hn]; rfl
    · have hn : b < m.blocks.length := by simpa using hc
      refine ⟨_, rfl, _, rfl, pp, CP, dx, _, _, rfl, hp, T.clP, T.nPp, pl_price _ _ _, _, _, rfl, rfl, _, rfl, ?_⟩
      refine ite2 (fun hc2 => ?_) (fun hc2 => ?_)
      · have h2 : m.maxPrice < p := by have := of_decide_eq_true hc2; omega
        refine ⟨(by show 1 ≤ sizeLine; decide), fun q nq => k _ _ (same_new nq) (ris_new nq ?_)⟩
        unfold refL; rw [if_pos hn, if_pos h2]; rfl
      · have h2 : ¬ m.maxPrice < p := fun z => hc2 (decide_eq_true (by omega))
        refine ⟨Nat.zero_le _, fun q nq => k _ _ (same_new nq) (ris_new nq ?_)⟩
        unfold refL; rw [if_pos hn, if_neg h2]; rfl
def spIsDem (CP CB : Addr) : Sp := fun vs H Q _ => ∃ (v : V) (d : Addr) (row : List Nat) (m : Market), vs = [v, .ref d] ∧ RP CP CB H v m ∧ H d = some (.lst (nL row)) ∧ ∀ H', Same H H' → Q (.bl (m.isDemand row)) H'
abbrev s_is_demand : Stmt := top 35
abbrev n_is_demand : List Str := ["planner", "demand"]
theorem sc_is_demand : FnScope n_is_demand ["planner", "demand"] (defScope s_is_demand) := ⟨rfl, rfl, rfl, by decide +kernel, rfl, by decide +kernel, by decide +kernel⟩
theorem ok_is_demand {f : Addr} {fd : FuncData} (F : Fun K "is_demand" "is_demand" s_is_demand f fd) (T : Txt K mg CB CC CP CS aS aR) : FnOk P w K mg base CX0 1 f fd ["planner", "demand"] (spIsDem CP CB) := by
  refine F.ok sc_is_demand (fun vs H Q E h => ?_) (fun cdv A outer s H vs Q E hr h => ?_)
  · obtain ⟨v, b, p, m, rfl, _⟩ := h
    rfl
  · obtain ⟨v, d, row, m, rfl, hP, hd, k⟩ := h
    obtain ⟨pp, dx, l, us, rfl, hp, hl, hA⟩ := RP_open hP
    refine ⟨_, (pss_cons (ps_if (pt_cmpR op_ne (pe_callB call_len_seq rfl T.len PySem.boot_len (pa_cons (pv 1) pa_nil)) (pe_op op_add (pe_fld (pv 0) rfl) pe_int) (nomark _)) (pss_one (ps_ret pe_bl)) pss_nil)
      (pss_cons (ps_if (pt_cmpR op_gt (pe_callB (cr_max rfl) rfl T.max (by decide +kernel) (pa_cons (pv 1) pa_nil)) (pe_gc rfl T.cMOST_PEOPLE) (nomark _)) (pss_one (ps_ret pe_bl)) pss_nil)
      (pss_one (ps_ret (pe_cmpR (op_eqD hr.units) (pv 1) (pe_callBK (cr_sortedRev (b := true)) rfl T.sorted (by decide +kernel) (pa_cons (pv 1) pa_nil) (pk_cons pe_bl pk_nil)) (nomark _)))))), ?_⟩
    have hdi : SqL K H d ((row.map fun n : Nat => (n : Int)).map V.int) := SqL.of (by rw [← nL_ints]; exact hd)
    refine ⟨_, rfl, d, _, rfl, .inl (SqL.of hd), _, rfl, pp, CP, dx, _, _, rfl, hp, T.clP, T.nPp, pl_price _ _ _, _, _, rfl, rfl, rfl, _, rfl, ?_⟩
    have el : (!decide (V.int ((nL row).length : Int) = V.int ((m.maxPrice : Int) + 1))) = !decide (row.length = m.maxPrice + 1) := by
      congr 1
      refine decide_eq_decide.mpr ⟨fun q => ?_, fun q => ?_⟩
      · have := V.int.inj q; rw [nL_len] at this; omega
      · rw [nL_len]; congr 1; omega
    refine ite2 (fun hc => ?_) (fun hc => ?_)
    · have hn : ¬ row.length = m.maxPrice + 1 := by
        have := el.symm.trans hc
        simpa using this
      have e : m.isDemand row = false := by
        unfold Market.isDemand
        rw [beq_eq_false_iff_ne.mpr hn, Bool.false_and, Bool.false_and]
      show Q (.bl false) H
      rw [← e]; exact k H (Same.refl _)
    · have hn : row.length = m.maxPrice + 1 := by
        rcases Nat.decEq row.length (m.maxPrice + 1) with q | q
        · refine absurd (el.trans ?_) hc
          rw [decide_eq_false q]; rfl
        · exact q
      have rne : row ≠ [] := fun q => by rw [q] at hn; cases hn
      refine ⟨_, rfl, d, _, rfl, hdi, (by rw [List.length_map]; omega), fun mx h1 h2 => ?_⟩
      have em := maxL_is h1 h2
      subst em
      refine ⟨_, _, rfl, rfl, _, rfl, ?_⟩
      refine ite2 (fun hc2 => ?_) (fun hc2 => ?_)
      · have h3 : 999 < maxL row := by have := of_decide_eq_true hc2; omega
        have e : m.isDemand row = false := by
          unfold Market.isDemand
          have : (row.all fun d => decide (d ≤ 999)) = false := by
            rw [Bool.eq_false_iff]
            intro q
            have := of_decide_eq_true (List.all_eq_true.mp q _ (maxL_mem rne))
            omega
          rw [this, Bool.and_false]
        show Q (.bl false) H
        rw [← e]; exact k H (Same.refl _)
      · have h3 : maxL row ≤ 999 := by
          have z0 : ¬ ((999 : Int) < (maxL row : Int)) := fun z => hc2 (decide_eq_true z)
          omega
        refine ⟨_, rfl, _, rfl, d, _, rfl, rfl, hdi, fun ns q hperm hord nq => ?_⟩
        have s1 := same_new (o := .lst (ns.map V.int)) nq
        refine ⟨_, _, .lst (SqL.of (by rw [← nL_ints]; exact s1 _ _ hd)) (dp_ints _), .lst (SqL.of upd_same) (dp_ints _), shaped_ints _, shaped_ints _, ?_⟩
        have e : m.isDemand row = PyData.eqv (.list ((row.map fun n : Nat => (n : Int)).map PyData.int)) (.list (ns.map PyData.int)) := by
          rw [eqv_nL]
          have hord' : ns.Pairwise (· ≥ ·) := hord
          have iff1 := (sorted_same hperm hord').trans (pair_cast.trans ninc_iff.symm)
          unfold Market.isDemand
          have a1 : (row.length == m.maxPrice + 1) = true := beq_iff_eq.mpr hn
          have a2 : (row.all fun d => decide (d ≤ 999)) = true := List.all_eq_true.mpr fun x hx => decide_eq_true (Nat.le_trans (maxL_ge hx) h3)
          rw [a1, a2, Bool.true_and, Bool.and_true]
          rw [Bool.eq_iff_iff, decide_eq_true_eq]
          exact iff1.symm
        show Q (.bl (PyData.eqv (.list ((row.map fun n : Nat => (n : Int)).map PyData.int)) (.list (ns.map PyData.int)))) _
        rw [← e]
        exact k _ s1
def spIsPrl (CP CB : Addr) : Sp := fun vs H Q _ => ∃ (v : V) (d : Addr) (row : List Nat) (m : Market), vs = [v, .ref d] ∧ RP CP CB H v m ∧ H d = some (.lst (nL row)) ∧ Q (.bl (m.isPriceList row)) H
abbrev s_is_price_list : Stmt := top 36
abbrev n_is_price_list : List Str := ["planner", "prices"]
theorem sc_is_price_list : FnScope n_is_price_list ["planner", "prices"] (defScope s_is_price_list) := ⟨rfl, rfl, rfl, by decide +kernel, rfl, by decide +kernel, by decide +kernel⟩
theorem ok_is_price_list {f : Addr} {fd : FuncData} (F : Fun K "is_price_list" "is_price_list" s_is_price_list f fd) (T : Txt K mg CB CC CP CS aS aR) : FnOk P w K mg base CX0 1 f fd ["planner", "prices"] (spIsPrl CP CB) := by
  refine F.ok sc_is_price_list (fun vs H Q E h => ?_) (fun cdv A outer s H vs Q E hr h => ?_)
  · obtain ⟨v, b, p, m, rfl, _⟩ := h
    rfl
  · obtain ⟨v, d, row, m, rfl, hP, hd, k⟩ := h
    obtain ⟨pp, dx, l, us, rfl, hp, hl, hA⟩ := RP_open hP
    refine ⟨_, (pss_one (ps_ret (pe_and (pe_cmpR op_eq (pe_callB call_len_seq rfl T.len PySem.boot_len (pa_cons (pv 1) pa_nil)) (pe_callB call_len_seq rfl T.len PySem.boot_len (pa_cons (pe_fld (pv 0) rfl) pa_nil)) (nomark _)) (pe_one (pe_cmpR op_le (pe_callBK (cr_maxD rfl) rfl T.max (by decide +kernel) (pa_cons (pv 1) pa_nil) (pk_cons pe_int pk_nil)) (pe_fld (pv 0) rfl) (nomark _)))))), ?_⟩
    have hdi : SqL K H d ((row.map fun n : Nat => (n : Int)).map V.int) := SqL.of (by rw [← nL_ints]; exact hd)
    refine ⟨_, rfl, d, _, rfl, .inl (SqL.of hd), _, rfl, pp, CP, dx, _, _, rfl, hp, T.clP, T.nPb, pl_blocks _ _ _, l, us, rfl, .inl (SqL.of hl), rfl, _, rfl, ?_⟩
    have el : decide (V.int ((nL row).length : Int) = V.int (us.length : Int)) = (row.length == m.blocks.length) := by
      rw [dec_int, nL_len, hA.len, Bool.eq_iff_iff, beq_iff_eq, beq_iff_eq]
      omega
    refine ite2 (fun hc => ?_) (fun hc => ?_)
    · rw [el] at hc
      have fin : ∀ mx : Int, ((mx ≤ (m.maxPrice : Int)) ↔ (row.all fun p => decide (p ≤ m.maxPrice)) = true) → tFld K (tVar 0) "max_price" [some (V.ref pp), some (V.ref d)] H fun y H2 => ∃ i j, V.int mx = V.int i ∧ y = V.int j ∧ Q (.bl (decide (i ≤ j))) H2 := by
        intro mx hmx
        refine ⟨_, rfl, pp, CP, dx, _, _, rfl, hp, T.clP, T.nPp, pl_price _ _ _, mx, _, rfl, rfl, ?_⟩
        have e : decide (mx ≤ (m.maxPrice : Int)) = m.isPriceList row := by
          unfold Market.isPriceList
          rw [hc, Bool.true_and, Bool.eq_iff_iff, decide_eq_true_eq]
          exact hmx
        rw [e]; exact k
      refine ⟨_, rfl, d, _, 0, rfl, rfl, hdi, fun e => ?_, fun mx h1 h2 => ?_⟩
      · have er : row = [] := List.map_eq_nil_iff.mp e
        refine fin 0 ⟨fun _ => by rw [er]; rfl, fun _ => by omega⟩
      · have em := maxL_is h1 h2
        have rne : row ≠ [] := fun q => by rw [q] at h1; cases h1
        refine fin mx ⟨fun q => List.all_eq_true.mpr fun x hx => decide_eq_true ?_, fun q => ?_⟩
        · have := maxL_ge hx; omega
        · have := of_decide_eq_true (List.all_eq_true.mp q _ (maxL_mem rne)); omega
    · rw [el] at hc
      have e : m.isPriceList row = false := by
        unfold Market.isPriceList
        rw [Bool.eq_false_iff.mpr hc, Bool.false_and]
      show Q (.bl false) H
      rw [← e]; exact k
def spTbls (CP CB : Addr) (g : Block → List Nat) : Sp := fun vs H Q _ => ∃ (v : V) (m : Market), vs = [v] ∧ RP CP CB H v m ∧ GM m ∧ ∀ H' u, Same H H' → RL RNs (frs H H') u (m.blocks.map g) → Q u H'
abbrev s_revenue_tables : Stmt := top 37
abbrev n_revenue_tables : List Str := ["planner", "block"]
theorem sc_revenue_tables : FnScope n_revenue_tables ["planner"] (defScope s_revenue_tables) := ⟨rfl, rfl, rfl, by decide +kernel, rfl, by decide +kernel, by decide +kernel⟩
theorem ok_revenue_tables {f : Addr} {fd : FuncData} (F : Fun K "revenue_tables" "revenue_tables" s_revenue_tables f fd) (T : Txt K mg CB CC CP CS aS aR) (c_revenue_table : Cal P w K mg base 3 "revenue_table" (spTbl CB tbl) []) : FnOk P w K mg base CX0 4 f fd ["planner"] (spTbls CP CB tbl) := by
  refine F.ok sc_revenue_tables (fun vs H Q E h => ?_) (fun cdv A outer s H vs Q E hr h => ?_)
  · obtain ⟨v, m, rfl, _⟩ := h
    rfl
  · obtain ⟨v, m, rfl, hP, hG, k⟩ := h
    obtain ⟨pp, dx, l, us, rfl, hp, hl, hA⟩ := RP_open hP
    refine ⟨_, (pss_one (ps_ret (pe_lc (own := [("block", 1)]) (g := gName 1) rfl sc_revenue_tables.nd (pi_list (pe_fld (pv 0) rfl)) (blkOk_by (own := [("block", 1)]) (N := n_revenue_tables) (sc := defScope s_revenue_tables) (by decide +kernel)) (fun _ _ _ _ _ => (pg_name (i := 1) sc_revenue_tables.nd rfl (.inl rfl))) (fun _ _ _ _ _ => pts_nil) (fun _ _ _ _ _ => (pe_c c_revenue_table hr (by decide) rfl (pa_cons (pv 1) pa_nil)))))), ?_⟩
    refine ⟨_, rfl, pp, CP, dx, _, _, rfl, hp, T.clP, T.nPb, pl_blocks _ _ _, l, rfl, ⟨_, SqL.of hl⟩, fun D hD => ?_⟩
    refine lc_new (R := RNs) walk_list (m.blocks.map fun b => some (tbl b)) (by rw [List.length_map]; exact hA.len.symm) (by rw [hA.len]; have := hG.n5; omega) hD monoNs (fun H' s1 => SqL.of (s1 _ _ hl)) ?_ fun H' s1 r => k _ _ s1 (by rw [map_ys] at r; exact r)
    rintro i x H1 H2 oy ho s1 ⟨rfl, hx⟩ Qs Qn f1 f2
    obtain ⟨b, hb, hrb⟩ := hA.at1 hx
    rw [List.getElem?_map, hb] at ho
    have eo := Option.some.inj ho
    refine ⟨rfl, yes_go ?_⟩
    refine ⟨_, rfl, _, b, rfl, monoB _ _ _ _ s1 hrb, ?_, fun H3 u s3 r => f1 _ _ _ eo.symm s3 r⟩
    rw [hG.bl b (List.mem_of_getElem? hb)]
    have := hG.p7
    omega
abbrev s_attendance_tables : Stmt := top 38
abbrev n_attendance_tables : List Str := ["planner", "block"]
theorem sc_attendance_tables : FnScope n_attendance_tables ["planner"] (defScope s_attendance_tables) := ⟨rfl, rfl, rfl, by decide +kernel, rfl, by decide +kernel, by decide +kernel⟩
theorem ok_attendance_tables {f : Addr} {fd : FuncData} (F : Fun K "attendance_tables" "attendance_tables" s_attendance_tables f fd) (T : Txt K mg CB CC CP CS aS aR) (c_attendance_table : Cal P w K mg base 2 "attendance_table" (spTbl CB atb) []) : FnOk P w K mg base CX0 3 f fd ["planner"] (spTbls CP CB atb) := by
  refine F.ok sc_attendance_tables (fun vs H Q E h => ?_) (fun cdv A outer s H vs Q E hr h => ?_)
  · obtain ⟨v, m, rfl, _⟩ := h
    rfl
  · obtain ⟨v, m, rfl, hP, hG, k⟩ := h
    obtain ⟨pp, dx, l, us, rfl, hp, hl, hA⟩ := RP_open hP
    refine ⟨_, (pss_one (ps_ret (pe_lc (own := [("block", 1)]) (g := gName 1) rfl sc_attendance_tables.nd (pi_list (pe_fld (pv 0) rfl)) (blkOk_by (own := [("block", 1)]) (N := n_attendance_tables) (sc := defScope s_attendance_tables) (by decide +kernel)) (fun _ _ _ _ _ => (pg_name (i := 1) sc_attendance_tables.nd rfl (.inl rfl))) (fun _ _ _ _ _ => pts_nil) (fun _ _ _ _ _ => (pe_c c_attendance_table hr (by decide) rfl (pa_cons (pv 1) pa_nil)))))), ?_⟩
    refine ⟨_, rfl, pp, CP, dx, _, _, rfl, hp, T.clP, T.nPb, pl_blocks _ _ _, l, rfl, ⟨_, SqL.of hl⟩, fun D hD => ?_⟩
    refine lc_new (R := RNs) walk_list (m.blocks.map fun b => some (atb b)) (by rw [List.length_map]; exact hA.len.symm) (by rw [hA.len]; have := hG.n5; omega) hD monoNs (fun H' s1 => SqL.of (s1 _ _ hl)) ?_ fun H' s1 r => k _ _ s1 (by rw [map_ys] at r; exact r)
    rintro i x H1 H2 oy ho s1 ⟨rfl, hx⟩ Qs Qn f1 f2
    obtain ⟨b, hb, hrb⟩ := hA.at1 hx
    rw [List.getElem?_map, hb] at ho
    have eo := Option.some.inj ho
    refine ⟨rfl, yes_go ?_⟩
    refine ⟨_, rfl, _, b, rfl, monoB _ _ _ _ s1 hrb, ?_, fun H3 u s3 r => f1 _ _ _ eo.symm s3 r⟩
    rw [hG.bl b (List.mem_of_getElem? hb)]
    have := hG.p7
    omega
def spAllOrd (CP CB : Addr) : Sp := fun vs H Q _ => ∃ (v : V) (m : Market), vs = [v] ∧ RP CP CB H v m ∧ GM m ∧ ∀ H' u, Same H H' → RL RNs (frs H H') u (ordL m.maxPrice m.maxStep m.blocks.length) → Q u H'
abbrev s_all_ordered : Stmt := top 39
abbrev n_all_ordered : List Str := ["planner"]
theorem sc_all_ordered : FnScope n_all_ordered ["planner"] (defScope s_all_ordered) := ⟨rfl, rfl, rfl, by decide +kernel, rfl, by decide +kernel, by decide +kernel⟩
theorem ok_all_ordered {f : Addr} {fd : FuncData} (F : Fun K "all_ordered" "all_ordered" s_all_ordered f fd) (T : Txt K mg CB CC CP CS aS aR) (c_ordered_lists : Cal P w K mg base 3 "ordered_lists" spOrd []) : FnOk P w K mg base CX0 4 f fd ["planner"] (spAllOrd CP CB) := by
  refine F.ok sc_all_ordered (fun vs H Q E h => ?_) (fun cdv A outer s H vs Q E hr h => ?_)
  · obtain ⟨v, m, rfl, _⟩ := h
    rfl
  · obtain ⟨v, m, rfl, hP, hG, k⟩ := h
    obtain ⟨pp, dx, l, us, rfl, hp, hl, hA⟩ := RP_open hP
    refine ⟨_, (pss_one (ps_ret (pe_c c_ordered_lists hr (by decide) rfl (pa_cons (pe_callB call_len_seq rfl T.len PySem.boot_len (pa_cons (pe_fld (pv 0) rfl) pa_nil)) (pa_cons (pe_fld (pv 0) rfl) (pa_cons (pe_fld (pv 0) rfl) pa_nil)))))), ?_⟩
    refine ⟨_, rfl, pp, CP, dx, _, _, rfl, hp, T.clP, T.nPb, pl_blocks _ _ _, l, us, rfl, .inl (SqL.of hl), _, rfl, pp, CP, dx, _, _, rfl, hp, T.clP, T.nPp, pl_price _ _ _, _, rfl, pp, CP, dx, _, _, rfl, hp, T.clP, T.nPs, pl_step _ _ _, m.blocks.length, m.maxPrice, m.maxStep, ?_, hG.p7, hG.n5, k⟩
    rw [hA.len]; rfl
def spBestCh (CP CB CC : Addr) : Sp := fun vs H Q _ => ∃ (v : V) (m : Market), vs = [v] ∧ RP CP CB H v m ∧ GM m ∧ ∀ H' u, Same H H' → RCh CC H' u (bestOrd (m.blocks.map tbl) m.maxPrice m.maxStep) → Q u H'
theorem tbls_len {m : Market} (hG : GM m) : ∀ t ∈ m.blocks.map tbl, t.length = m.maxPrice + 1 := by
  intro t ht
  obtain ⟨b, hb, rfl⟩ := List.mem_map.mp ht
  rw [tbl_len, hG.bl b hb]
abbrev s_best_choice : Stmt := top 40
abbrev n_best_choice : List Str := ["planner"]
theorem sc_best_choice : FnScope n_best_choice ["planner"] (defScope s_best_choice) := ⟨rfl, rfl, rfl, by decide +kernel, rfl, by decide +kernel, by decide +kernel⟩
theorem ok_best_choice {f : Addr} {fd : FuncData} (F : Fun K "best_choice" "best_choice" s_best_choice f fd) (T : Txt K mg CB CC CP CS aS aR) (c_best_ordered : Cal P w K mg base 4 "best_ordered" (spBestOrd CC) []) (c_revenue_tables : Cal P w K mg base 4 "revenue_tables" (spTbls CP CB tbl) []) : FnOk P w K mg base CX0 5 f fd ["planner"] (spBestCh CP CB CC) := by
  refine F.ok sc_best_choice (fun vs H Q E h => ?_) (fun cdv A outer s H vs Q E hr h => ?_)
  · obtain ⟨v, m, rfl, _⟩ := h
    rfl
  · obtain ⟨v, m, rfl, hP, hG, k⟩ := h
    obtain ⟨pp, dx, l, us, rfl, hp, hl, hA⟩ := RP_open hP
    refine ⟨_, (pss_one (ps_ret (pe_c c_best_ordered hr (by decide) rfl (pa_cons (pe_c c_revenue_tables hr (by decide) rfl (pa_cons (pv 0) pa_nil)) (pa_cons (pe_fld (pv 0) rfl) (pa_cons (pe_fld (pv 0) rfl) pa_nil)))))), ?_⟩
    refine ⟨_, rfl, _, m, rfl, hP, hG, fun H1 u s1 r1 => ?_⟩
    have hp1 := s1 _ _ hp
    refine ⟨_, rfl, pp, CP, dx, _, _, rfl, hp1, T.clP, T.nPp, pl_price _ _ _, _, rfl, pp, CP, dx, _, _, rfl, hp1, T.clP, T.nPs, pl_step _ _ _, u, m.maxPrice, m.maxStep, _, rfl, monoL monoNs _ _ _ _ (frs_sub _ _) r1, hG.p7, ?_, tbls_len hG, fun H2 c s2 r2 => k _ _ (s1.trans s2) r2⟩
    rw [List.length_map]; exact hG.n5
def spSingleCh (CP CB CC : Addr) : Sp := fun vs H Q _ => ∃ (v : V) (m : Market), vs = [v] ∧ RP CP CB H v m ∧ GM m ∧ ∀ H' u, Same H H' → RCh CC H' u (singles (m.blocks.map tbl)) → Q u H'
abbrev s_single_choice : Stmt := top 41
abbrev n_single_choice : List Str := ["planner"]
theorem sc_single_choice : FnScope n_single_choice ["planner"] (defScope s_single_choice) := ⟨rfl, rfl, rfl, by decide +kernel, rfl, by decide +kernel, by decide +kernel⟩
theorem ok_single_choice {f : Addr} {fd : FuncData} (F : Fun K "single_choice" "single_choice" s_single_choice f fd) (T : Txt K mg CB CC CP CS aS aR) (c_best_singles : Cal P w K mg base 3 "best_singles" (spSingles CC) []) (c_revenue_tables : Cal P w K mg base 4 "revenue_tables" (spTbls CP CB tbl) []) : FnOk P w K mg base CX0 5 f fd ["planner"] (spSingleCh CP CB CC) := by
  refine F.ok sc_single_choice (fun vs H Q E h => ?_) (fun cdv A outer s H vs Q E hr h => ?_)
  · obtain ⟨v, m, rfl, _⟩ := h
    rfl
  · obtain ⟨v, m, rfl, hP, hG, k⟩ := h
    refine ⟨_, (pss_one (ps_ret (pe_c c_best_singles hr (by decide) rfl (pa_cons (pe_c c_revenue_tables hr (by decide) rfl (pa_cons (pv 0) pa_nil)) pa_nil)))), ?_⟩
    refine ⟨_, rfl, _, m, rfl, hP, hG, fun H1 u s1 r1 => ?_⟩
    refine ⟨u, _, rfl, monoL monoNs _ _ _ _ (frs_sub _ _) r1, ?_, fun t ht e => ?_, fun H2 c s2 r2 => k _ _ (s1.trans s2) r2⟩
    · rw [List.length_map]; have := hG.n5; omega
    · have := tbls_len hG t ht
      rw [e] at this
      cases this
def spTold (CC : Addr) : Sp := fun vs H Q _ => ∃ (v : V) (c : Ch), vs = [v] ∧ RCh CC H v c ∧ c.prices.length ≤ 1000 ∧ ∀ H' u, Same H H' → RNs (frs H H') u (c.total :: c.prices) → Q u H'
abbrev s_told_whole : Stmt := top 42
abbrev n_told_whole : List Str := ["choice"]
theorem sc_told_whole : FnScope n_told_whole ["choice"] (defScope s_told_whole) := ⟨rfl, rfl, rfl, by decide +kernel, rfl, by decide +kernel, by decide +kernel⟩
theorem ok_told_whole {f : Addr} {fd : FuncData} (F : Fun K "told_whole" "told_whole" s_told_whole f fd) (T : Txt K mg CB CC CP CS aS aR) : FnOk P w K mg base CX0 1 f fd ["choice"] (spTold CC) := by
  refine F.ok sc_told_whole (fun vs H Q E h => ?_) (fun cdv A outer s H vs Q E hr h => ?_)
  · obtain ⟨v, m, rfl, _⟩ := h
    rfl
  · obtain ⟨v, c, rfl, ⟨a, dx, p, rfl, ha, hp⟩, hlen, k⟩ := h
    refine ⟨_, (pss_one (ps_ret (pe_op op_cat (pe_lst (pa_cons (pe_fld (pv 0) rfl) pa_nil)) (pe_fld (pv 0) rfl)))), ?_⟩
    refine ⟨_, rfl, a, CC, dx, _, _, rfl, ha, T.clC, T.nCt, ch_total _ _, (by show 1 ≤ sizeLine; decide), fun p1 n1 => ?_⟩
    have s1 := same_new (o := .lst [nV c.total]) n1
    refine ⟨_, rfl, a, CC, dx, _, _, rfl, s1 _ _ ha, T.clC, T.nCp, ch_prices _ _, p1, p, _, _, rfl, rfl, upd_same, s1 _ _ hp, ?_, fun p2 n2 => ?_⟩
    · rw [nL_len]
      exact Nat.le_trans (Nat.add_le_add_left hlen 1) (by decide)
    · exact k _ _ (s1.trans (same_new n2)) ⟨p2, rfl, by rw [frs_at (s1.free n2), upd_same]; rfl⟩
end
end Bp

/-! # blockprices: the mathematics -/
namespace Bp
open Kv438 (Block Market Operation Response)

/-! ### ordered lists -/
theorem filter_flat {α β : Type} (q : α → Bool) (g : α → List β) : ∀ l : List α, (l.filter q).flatMap g = l.flatMap fun a => if q a = true then g a else []
  | [] => rfl
  | a :: l => by
    rw [List.filter_cons, List.flatMap_cons, ← filter_flat q g l]
    by_cases h : q a = true
    · rw [if_pos h, if_pos h, List.flatMap_cons]
    · rw [if_neg h, if_neg h, List.nil_append]
theorem flat_filter {α β : Type} (q : β → Bool) (g : α → List β) : ∀ l : List α, (l.flatMap g).filter q = l.flatMap fun a => (g a).filter q
  | [] => rfl
  | a :: l => by rw [List.flatMap_cons, List.filter_append, List.flatMap_cons, flat_filter q g l]
theorem flat_congr {α β : Type} {f g : α → List β} : ∀ {l : List α}, (∀ a ∈ l, f a = g a) → l.flatMap f = l.flatMap g
  | [], _ => rfl
  | a :: l, h => by
    rw [List.flatMap_cons, List.flatMap_cons, h a (List.mem_cons_self ..), flat_congr fun b hb => h b (List.mem_cons_of_mem _ hb)]
theorem led_filter (p n s : Nat) (ls : List (List Nat)) : (led n ls s).filter (okp p s) = if ahead p n s = true then led n ls s else [] := by
  unfold led
  by_cases h : ahead p n s = true
  · rw [if_pos h]
    refine List.filter_eq_self.mpr fun l hl => ?_
    obtain ⟨r, _, rfl⟩ := List.mem_map.mp hl
    exact h
  · rw [if_neg h]
    refine List.filter_eq_nil_iff.mpr fun l hl => ?_
    obtain ⟨r, _, rfl⟩ := List.mem_map.mp hl
    exact h
theorem ahead_range {mp p s : Nat} (hp : p ≤ mp) : (List.range (mp + 1)).filter (fun n => ahead p n s) = (List.range (p + 1)).filter fun n => decide (p ≤ n + s) := by
  obtain ⟨d, rfl⟩ : ∃ d, mp = p + d := ⟨mp - p, by omega⟩
  rw [show p + d + 1 = (p + 1) + d by omega, List.range_add, List.filter_append]
  have h2 : ((List.range d).map fun x => p + 1 + x).filter (fun n => ahead p n s) = [] := by
    refine List.filter_eq_nil_iff.mpr fun x hx => ?_
    obtain ⟨j, _, rfl⟩ := List.mem_map.mp hx
    unfold ahead
    simp only [Bool.and_eq_true, decide_eq_true_eq]
    omega
  rw [h2, List.append_nil]
  refine List.filter_congr fun n hn => ?_
  have hn1 : n < p + 1 := List.mem_range.mp hn
  unfold ahead
  rw [show decide (n ≤ p) = true from decide_eq_true (by omega), Bool.true_and]
theorem ordA (m : Market) : ∀ (c p : Nat), p ≤ m.maxPrice → (ordL m.maxPrice m.maxStep c).filter (okp p m.maxStep) = m.orderedAfter c p
  | 0, p, _ => rfl
  | c + 1, p, hp => by
    unfold ordL Market.orderedAfter
    rw [flat_filter, ← ahead_range hp, filter_flat]
    refine flat_congr fun n hn => ?_
    have hn1 : n < m.maxPrice + 1 := List.mem_range.mp hn
    rw [led_filter]
    have e : led n (ordL m.maxPrice m.maxStep c) m.maxStep = (m.orderedAfter c n).map fun rest => n :: rest := by
      unfold led
      rw [ordA m c n (by omega)]
    rw [e]
theorem ord_is (m : Market) : m.orderedPrices = ordL m.maxPrice m.maxStep m.blocks.length := by
  unfold Market.orderedPrices
  cases h : m.blocks.length with
  | zero => rfl
  | succ c =>
    show _ = (List.range (m.maxPrice + 1)).flatMap fun p => led p (ordL m.maxPrice m.maxStep c) m.maxStep
    refine flat_congr fun n hn => ?_
    have hn1 : n < m.maxPrice + 1 := List.mem_range.mp hn
    unfold led
    rw [ordA m c n (by omega)]
theorem ordL_le {mp ms : Nat} : ∀ c, ∀ l ∈ ordL mp ms c, ∀ x ∈ l, x ≤ mp
  | 0, l, h, x, hx => by
    have e : l = [] := by simpa [ordL] using h
    rw [e] at hx; cases hx
  | c + 1, l, h, x, hx => by
    unfold ordL at h
    obtain ⟨p, hp, hl⟩ := List.mem_flatMap.mp h
    have hp1 : p < mp + 1 := List.mem_range.mp hp
    unfold led at hl
    obtain ⟨r, hr, rfl⟩ := List.mem_map.mp hl
    rcases List.mem_cons.mp hx with e | m
    · omega
    · exact ordL_le c r (List.mem_filter.mp hr).1 x m
theorem okp_rep (p s : Nat) : ∀ c, okp p s (List.replicate c p) = true
  | 0 => rfl
  | c + 1 => by
    show ahead p p s = true
    unfold ahead
    simp
theorem rep_led {mp ms p c : Nat} (h : List.replicate c p ∈ ordL mp ms c) : List.replicate (c + 1) p ∈ led p (ordL mp ms c) ms :=
  List.mem_map.mpr ⟨_, List.mem_filter.mpr ⟨h, okp_rep p ms c⟩, rfl⟩
theorem rep_mem {mp ms p : Nat} (hp : p ≤ mp) : ∀ c, List.replicate c p ∈ ordL mp ms c
  | 0 => by simp [ordL]
  | c + 1 => List.mem_flatMap.mpr ⟨p, List.mem_range.mpr (by omega), rep_led (rep_mem hp c)⟩
theorem led_ne {mp ms p : Nat} (hp : p ≤ mp) (c : Nat) : led p (ordL mp ms c) ms ≠ [] := List.ne_nil_of_mem (rep_led (rep_mem hp c))
theorem ordL_ne (mp ms c : Nat) : ordL mp ms c ≠ [] := List.ne_nil_of_mem (rep_mem (Nat.zero_le _) c)

/-! ### the first best -/
theorem fbGo_app : ∀ (l m : List Ch) (b : Ch), fbGo b (l ++ m) = fbGo (fbGo b l) m
  | [], _, _ => rfl
  | _ :: l, m, _ => fbGo_app l m _
theorem fbGo_fb : ∀ (g : List Ch) (b : Ch), g ≠ [] → fbGo b g = if b.total < (fb g).total then fb g else b
  | [], _, h => absurd rfl h
  | [c], b, _ => rfl
  | c :: d :: g, b, _ => by
    have ih1 := fbGo_fb (d :: g) (if b.total < c.total then c else b) (List.cons_ne_nil _ _)
    have ih2 := fbGo_fb (d :: g) c (List.cons_ne_nil _ _)
    show fbGo (if b.total < c.total then c else b) (d :: g) = if b.total < (fbGo c (d :: g)).total then fbGo c (d :: g) else b
    rw [ih1, ih2]
    generalize fb (d :: g) = z
    by_cases h1 : b.total < c.total
    · rw [if_pos h1]
      by_cases h2 : c.total < z.total
      · rw [if_pos h2, if_pos (by omega)]
      · rw [if_neg h2, if_pos h1]
    · rw [if_neg h1]
      by_cases h2 : c.total < z.total
      · rw [if_pos h2]
      · rw [if_neg h2, if_neg h1, if_neg (by omega)]
theorem fbGo_flat : ∀ (gs : List (List Ch)) (b : Ch), (∀ g ∈ gs, g ≠ []) → fbGo b (gs.map fb) = fbGo b gs.flatten
  | [], _, _ => rfl
  | g :: gs, b, h => by
    have hg := h g (List.mem_cons_self ..)
    rw [List.flatten_cons, fbGo_app, ← fbGo_flat gs _ fun x hx => h x (List.mem_cons_of_mem _ hx)]
    show fbGo (if b.total < (fb g).total then fb g else b) (gs.map fb) = _
    rw [fbGo_fb g b hg]
theorem fb_flat {gs : List (List Ch)} (h : ∀ g ∈ gs, g ≠ []) : fb (gs.map fb) = fb gs.flatten := by
  cases gs with
  | nil => rfl
  | cons g gs =>
    have hg := h g (List.mem_cons_self ..)
    show fbGo (fb g) (gs.map fb) = fb (g ++ gs.flatten)
    rw [fbGo_flat gs _ fun x hx => h x (List.mem_cons_of_mem _ hx)]
    cases g with
    | nil => exact absurd rfl hg
    | cons c g =>
      show fbGo (fbGo c g) gs.flatten = fbGo c (g ++ gs.flatten)
      rw [fbGo_app]
theorem fbGo_map (e p : Nat) : ∀ (l : List Ch) (b : Ch), fbGo ⟨e + b.total, p :: b.prices⟩ (l.map fun c => ⟨e + c.total, p :: c.prices⟩) = ⟨e + (fbGo b l).total, p :: (fbGo b l).prices⟩
  | [], _ => rfl
  | c :: l, b => by
    show fbGo (if e + b.total < e + c.total then _ else _) _ = ⟨e + (fbGo (if b.total < c.total then c else b) l).total, p :: (fbGo (if b.total < c.total then c else b) l).prices⟩
    by_cases h : b.total < c.total
    · rw [if_pos h, if_pos (by omega), fbGo_map e p l c]
    · rw [if_neg h, if_neg (by omega), fbGo_map e p l b]
theorem fb_map (e p : Nat) {l : List Ch} (h : l ≠ []) : fb (l.map fun c => ⟨e + c.total, p :: c.prices⟩) = ⟨e + (fb l).total, p :: (fb l).prices⟩ := by
  cases l with
  | nil => exact absurd rfl h
  | cons c l => exact fbGo_map e p l c
theorem fbGo_fm (value : List Nat → Nat) : ∀ (l : List (List Nat)) (b : List Nat), ∃ d, fbGo ⟨value b, b⟩ (l.map fun x => ⟨value x, x⟩) = ⟨value d, d⟩ ∧
    l.foldl (fun (best : Nat × List Nat) prices => let v := value prices; if best.1 < v then (v, prices) else best) (value b, b) = (value d, d)
  | [], b => ⟨b, rfl, rfl⟩
  | x :: l, b => by
    show ∃ d, fbGo (if value b < value x then _ else _) _ = _ ∧ l.foldl _ (if value b < value x then _ else _) = _
    by_cases h : value b < value x
    · rw [if_pos h, if_pos h]; exact fbGo_fm value l x
    · rw [if_neg h, if_neg h]; exact fbGo_fm value l b
theorem fb_fm (value : List Nat → Nat) {l : List (List Nat)} (h : l ≠ []) : fb (l.map fun x => ⟨value x, x⟩) = ⟨value (Kv438.firstMaximum value l), Kv438.firstMaximum value l⟩ := by
  cases l with
  | nil => exact absurd rfl h
  | cons x l =>
    obtain ⟨d, h1, h2⟩ := fbGo_fm value l x
    have e : Kv438.firstMaximum value (x :: l) = d := congrArg Prod.snd h2
    rw [e]
    exact h1

/-! ### the search from the last block to the first -/
def chOf (ts : List (List Nat)) (l : List Nat) : Ch := ⟨totalAt ts l, l⟩
theorem total_cons (t : List Nat) (ts : List (List Nat)) (p : Nat) (l : List Nat) : totalAt (t :: ts) (p :: l) = t.getD p 0 + totalAt ts l := rfl
theorem fb_rep : ∀ (n : Nat) {l : List Ch}, l ≠ [] → (∀ c ∈ l, c = ⟨n, []⟩) → fb l = ⟨n, []⟩ := fun n l h1 h2 => h2 _ (fb_mem h1)
theorem slice_ne {α : Type} {l : List α} {mp ms p : Nat} (hl : l.length = mp + 1) (hp : p ≤ mp) : (l.drop (p - ms)).take (p + 1 - (p - ms)) ≠ [] := by
  intro e
  have := congrArg List.length e
  rw [List.length_take, List.length_drop, hl] at this
  simp at this
  omega
theorem slice_range {mp ms p : Nat} (hp : p ≤ mp) : ((List.range (mp + 1)).drop (p - ms)).take (p + 1 - (p - ms)) = (List.range (mp + 1)).filter fun n => ahead p n ms := by
  rw [ahead_range hp]
  have e1 : ((List.range (mp + 1)).drop (p - ms)).take (p + 1 - (p - ms)) = (List.range (p + 1)).drop (p - ms) := by
    obtain ⟨d, rfl⟩ : ∃ d, mp = p + d := ⟨mp - p, by omega⟩
    rw [show p + d + 1 = (p + 1) + d by omega, List.range_add, List.drop_append_of_le_length (by rw [List.length_range]; omega), List.take_append_of_le_length (by rw [List.length_drop, List.length_range]; exact Nat.le_refl _), List.take_of_length_le (by rw [List.length_drop, List.length_range]; exact Nat.le_refl _)]
  rw [e1]
  obtain ⟨d, hd⟩ : ∃ d, p + 1 = (p - ms) + d := ⟨p + 1 - (p - ms), by omega⟩
  rw [hd, List.range_add, List.filter_append, List.drop_append_of_le_length (by rw [List.length_range]; exact Nat.le_refl _), List.drop_of_length_le (by rw [List.length_range]; exact Nat.le_refl _), List.nil_append]
  have h1 : (List.range (p - ms)).filter (fun n => decide (p ≤ n + ms)) = [] := by
    refine List.filter_eq_nil_iff.mpr fun n hn => ?_
    have := List.mem_range.mp hn
    simp only [decide_eq_true_eq]
    omega
  have h2 : ((List.range d).map fun x => p - ms + x).filter (fun n => decide (p ≤ n + ms)) = (List.range d).map fun x => p - ms + x := by
    refine List.filter_eq_self.mpr fun n hn => ?_
    obtain ⟨j, _, rfl⟩ := List.mem_map.mp hn
    exact decide_eq_true (by omega)
  rw [h1, h2, List.nil_append]
theorem chs_is (mp ms : Nat) : ∀ (ts : List (List Nat)) (t : List Nat), chs mp ms (t :: ts) = (List.range (mp + 1)).map fun p => fb ((led p (ordL mp ms ts.length) ms).map (chOf (t :: ts)))
  | [], t => by
    rw [chs_at]
    refine List.map_congr_left fun p hp => ?_
    have hp1 : p < mp + 1 := List.mem_range.mp hp
    have e : fb (((chs mp ms []).drop (p - ms)).take (p + 1 - (p - ms))) = ⟨0, []⟩ := fb_rep 0 (slice_ne (chs_len mp ms []) (by omega)) fun c hc => by
      have hm : c ∈ (List.range (mp + 1)).map fun _ => (⟨0, []⟩ : Ch) := List.mem_of_mem_drop (List.mem_of_mem_take hc)
      obtain ⟨_, _, h⟩ := List.mem_map.mp hm
      exact h.symm
    unfold ledBy
    rw [e]
    rfl
  | t' :: ts, t => by
    rw [chs_at]
    refine List.map_congr_left fun p hp => ?_
    have hp1 : p < mp + 1 := List.mem_range.mp hp
    have ih := chs_is mp ms ts t'
    have e : fb (((chs mp ms (t' :: ts)).drop (p - ms)).take (p + 1 - (p - ms))) = fb (((ordL mp ms (ts.length + 1)).filter (okp p ms)).map (chOf (t' :: ts))) := by
      rw [ih, ← List.map_drop, ← List.map_take, slice_range (by omega)]
      have e2 : ((List.range (mp + 1)).filter fun n => ahead p n ms).map (fun n => fb ((led n (ordL mp ms ts.length) ms).map (chOf (t' :: ts)))) = (((List.range (mp + 1)).filter fun n => ahead p n ms).map fun n => (led n (ordL mp ms ts.length) ms).map (chOf (t' :: ts))).map fb := by
        rw [List.map_map]; rfl
      rw [e2, fb_flat]
      · congr 1
        show ((((List.range (mp + 1)).filter fun n => ahead p n ms).map fun n => (led n (ordL mp ms ts.length) ms).map (chOf (t' :: ts)))).flatten = (((List.range (mp + 1)).flatMap fun n => led n (ordL mp ms ts.length) ms).filter (okp p ms)).map (chOf (t' :: ts))
        rw [← List.flatMap_def, filter_flat, flat_filter, List.map_flatMap]
        refine flat_congr fun n _ => ?_
        rw [led_filter]
        by_cases h : ahead p n ms = true
        · rw [if_pos h, if_pos h]
        · rw [if_neg h, if_neg h]; rfl
      · intro g hg
        obtain ⟨n, hn, rfl⟩ := List.mem_map.mp hg
        have hn1 : n < mp + 1 := List.mem_range.mp (List.mem_filter.mp hn).1
        exact fun q => led_ne (by omega) _ (List.map_eq_nil_iff.mp q)
    have ne : ((ordL mp ms (ts.length + 1)).filter (okp p ms)).map (chOf (t' :: ts)) ≠ [] := by
      intro q
      have q2 := List.map_eq_nil_iff.mp q
      have hm : List.replicate (ts.length + 1) p ∈ (ordL mp ms (ts.length + 1)).filter (okp p ms) := List.mem_filter.mpr ⟨rep_mem (by omega) _, okp_rep p ms _⟩
      rw [q2] at hm
      cases hm
    show (⟨t.getD p 0 + (fb (((chs mp ms (t' :: ts)).drop (p - ms)).take (p + 1 - (p - ms)))).total, p :: (fb (((chs mp ms (t' :: ts)).drop (p - ms)).take (p + 1 - (p - ms)))).prices⟩ : Ch) = _
    rw [e, ← fb_map (t.getD p 0) p ne]
    unfold led
    rw [List.map_map, List.map_map]
    rfl
theorem bestOrd_is (ts : List (List Nat)) (mp ms : Nat) : bestOrd ts mp ms = bestOf ts (ordL mp ms ts.length) := by
  unfold bestOrd bestOf
  cases ts with
  | nil =>
    refine (fb_rep 0 ?_ fun c hc => ?_).trans ?_
    · intro e
      have := congrArg List.length e
      rw [chs_len] at this
      cases this
    · unfold chs at hc
      obtain ⟨_, _, h⟩ := List.mem_map.mp hc
      exact h.symm
    · rfl
  | cons t ts =>
    rw [chs_is]
    have e2 : (List.range (mp + 1)).map (fun n => fb ((led n (ordL mp ms ts.length) ms).map (chOf (t :: ts)))) = ((List.range (mp + 1)).map fun n => (led n (ordL mp ms ts.length) ms).map (chOf (t :: ts))).map fb := by
      rw [List.map_map]; rfl
    rw [e2, fb_flat]
    · show fb (((List.range (mp + 1)).map fun n => (led n (ordL mp ms ts.length) ms).map (chOf (t :: ts)))).flatten = fb (((List.range (mp + 1)).flatMap fun n => led n (ordL mp ms ts.length) ms).map (chOf (t :: ts)))
      rw [← List.flatMap_def, List.map_flatMap]
    · intro g hg
      obtain ⟨n, hn, rfl⟩ := List.mem_map.mp hg
      have hn1 : n < mp + 1 := List.mem_range.mp hn
      exact fun q => led_ne (by omega) _ (List.map_eq_nil_iff.mp q)

/-! ### revenues -/
theorem block_at {m : Market} {i : Nat} {b : Block} (h : m.blocks[i]? = some b) : m.block i = b := by
  unfold Market.block
  rw [List.getD_eq_getElem?_getD, h, Option.getD_some]
theorem tbl_at {b : Block} {p : Nat} (h : p < b.demand.length) : (tbl b).getD p 0 = p * min b.seats (b.demand.getD p 0) := by
  unfold tbl
  rw [List.getD_eq_getElem?_getD, List.getElem?_map, List.getElem?_range h]
  rfl
theorem atb_at {b : Block} {p : Nat} (h : p < b.demand.length) : (atb b).getD p 0 = min b.seats (b.demand.getD p 0) := by
  unfold atb
  rw [List.getD_eq_getElem?_getD, List.getElem?_map, List.getElem?_range h]
  rfl
/-- so many prices, none too great -/
def Prl (m : Market) (ps : List Nat) : Prop := ps.length = m.blocks.length ∧ ∀ p ∈ ps, p ≤ m.maxPrice
theorem prl_iff {m : Market} {ps : List Nat} : m.isPriceList ps = true ↔ Prl m ps := by
  unfold Market.isPriceList Prl
  rw [Bool.and_eq_true, beq_iff_eq, List.all_eq_true]
  simp only [decide_eq_true_eq]
theorem ordL_prl {m : Market} {l : List Nat} {s : Nat} (h : l ∈ ordL m.maxPrice s m.blocks.length) : Prl m l := ⟨ordL_len _ l h, ordL_le _ l h⟩
theorem tot_gen {m : Market} (hG : GM m) {ps : List Nat} (h : Prl m ps) {g : Block → List Nat} {F : Nat → Nat → Nat} (hF : ∀ i b p, m.blocks[i]? = some b → p < b.demand.length → (g b).getD p 0 = F i p) :
    (ps.zipIdx.map fun q => F q.2 q.1).sum = totalAt (m.blocks.map g) ps := by
  unfold totalAt
  congr 1
  refine List.ext_getElem? fun i => ?_
  rw [List.getElem?_map, List.getElem?_map, List.getElem?_zipIdx]
  by_cases hi : i < ps.length
  · have hp := List.getElem?_eq_getElem hi
    have hib : i < m.blocks.length := by rw [← h.1]; exact hi
    have hb := List.getElem?_eq_getElem hib
    have hz : ((m.blocks.map g).zip ps)[i]? = some (g m.blocks[i], ps[i]) := zip_at (by rw [List.getElem?_map, hb]; rfl) hp
    rw [hp, hz]
    show some (F (0 + i) ps[i]) = some ((g m.blocks[i]).getD ps[i] 0)
    rw [Nat.zero_add, hF i _ _ hb]
    rw [hG.bl _ (List.getElem_mem hib)]
    have := h.2 _ (List.getElem_mem hi)
    omega
  · rw [List.getElem?_eq_none (by omega), List.getElem?_eq_none (by rw [List.length_zip, List.length_map]; omega)]
    rfl
theorem rev_at {m : Market} {i p : Nat} {b : Block} (hb : m.blocks[i]? = some b) : m.revenue i p = p * min b.seats (b.demand.getD p 0) := by
  unfold Market.revenue Market.attendance
  rw [block_at hb]
theorem att_at {m : Market} {i p : Nat} {b : Block} (hb : m.blocks[i]? = some b) : m.attendance i p = min b.seats (b.demand.getD p 0) := by
  unfold Market.attendance
  rw [block_at hb]
theorem totR {m : Market} (hG : GM m) {ps : List Nat} (h : Prl m ps) : m.totalRevenue ps = totalAt (m.blocks.map tbl) ps :=
  tot_gen hG h fun i b p hb hp => by rw [tbl_at hp, rev_at hb]
theorem totA {m : Market} (hG : GM m) {ps : List Nat} (h : Prl m ps) : m.totalAttendance ps = totalAt (m.blocks.map atb) ps :=
  tot_gen hG h fun i b p hb hp => by rw [atb_at hp, att_at hb]
theorem bestOf_is {m : Market} (hG : GM m) {ls : List (List Nat)} (hne : ls ≠ []) (h : ∀ l ∈ ls, Prl m l) : bestOf (m.blocks.map tbl) ls = ⟨m.totalRevenue (Kv438.firstMaximum m.totalRevenue ls), Kv438.firstMaximum m.totalRevenue ls⟩ := by
  unfold bestOf
  rw [← fb_fm m.totalRevenue hne]
  congr 1
  exact List.map_congr_left fun l hl => by rw [totR hG (h l hl)]
theorem resp_is {m : Market} (hG : GM m) {ls : List (List Nat)} (hne : ls ≠ []) (h : ∀ l ∈ ls, Prl m l) : Kv438.bestResponse m ls = ⟨((bestOf (m.blocks.map tbl) ls).total : Int), (bestOf (m.blocks.map tbl) ls).prices⟩ := by
  unfold Kv438.bestResponse
  have e : ls.isEmpty = false := by
    cases ls with
    | nil => exact absurd rfl hne
    | cons _ _ => rfl
  rw [e, bestOf_is hG hne h]
  rfl
theorem best_is {m : Market} (hG : GM m) : Kv438.bestResponse m m.orderedPrices = ⟨((bestOrd (m.blocks.map tbl) m.maxPrice m.maxStep).total : Int), (bestOrd (m.blocks.map tbl) m.maxPrice m.maxStep).prices⟩ := by
  rw [ord_is, bestOrd_is, List.length_map]
  exact resp_is hG (ordL_ne _ _ _) fun l hl => ordL_prl hl
theorem bestP_is {m : Market} (hG : GM m) : m.totalRevenue m.bestPrices = (bestOrd (m.blocks.map tbl) m.maxPrice m.maxStep).total := by
  unfold Market.bestPrices
  rw [ord_is, bestOrd_is, List.length_map, bestOf_is hG (ordL_ne _ _ _) fun l hl => ordL_prl hl]
theorem bestOrd_len {m : Market} (hG : GM m) : (bestOrd (m.blocks.map tbl) m.maxPrice m.maxStep).prices.length = m.blocks.length := by
  rw [bestOrd_is, List.length_map]
  have hm : bestOf (m.blocks.map tbl) (ordL m.maxPrice m.maxStep m.blocks.length) ∈ (ordL m.maxPrice m.maxStep m.blocks.length).map fun l => (⟨totalAt (m.blocks.map tbl) l, l⟩ : Ch) := fb_mem fun q => ordL_ne _ _ _ (List.map_eq_nil_iff.mp q)
  obtain ⟨l, hl, e⟩ := List.mem_map.mp hm
  rw [← e]
  exact ordL_len _ l hl

/-! ### single prices -/
theorem firstIx_unique : ∀ {l : List Nat} {x r : Nat}, l[r]? = some x → (∀ (j : Nat) y, j < r → l[j]? = some y → y ≠ x) → firstIx x l = r
  | [], x, r, h, _ => by simp at h
  | a :: l, x, 0, h, _ => by
    have e : a = x := Option.some.inj h
    unfold firstIx
    rw [if_pos e]
  | a :: l, x, r + 1, h, h2 => by
    unfold firstIx
    rw [if_neg (h2 0 a (by omega) rfl), firstIx_unique (l := l) (x := x) (r := r) (by simpa using h) fun j y hj hy => h2 (j + 1) y (by omega) (by simpa using hy)]
theorem arg_fold (f : Nat → Nat) : ∀ (k : Nat), let r := (List.range (k + 1)).foldl (fun best price => if f best < f price then price else best) 0; r < k + 1 ∧ (∀ j, j < k + 1 → f j ≤ f r) ∧ ∀ j, j < r → f j < f r
  | 0 => by
    refine ⟨?_, fun j hj => ?_, fun j hj => ?_⟩
    · simp [List.range_succ]
    · have : j = 0 := by omega
      subst this
      simp [List.range_succ]
    · simp [List.range_succ] at hj
  | k + 1 => by
    obtain ⟨h1, h2, h3⟩ := arg_fold f k
    rw [List.range_succ, List.foldl_append]
    show (let r := (if f ((List.range (k + 1)).foldl (fun best price => if f best < f price then price else best) 0) < f (k + 1) then k + 1 else (List.range (k + 1)).foldl (fun best price => if f best < f price then price else best) 0); r < k + 1 + 1 ∧ (∀ j, j < k + 1 + 1 → f j ≤ f r) ∧ ∀ j, j < r → f j < f r)
    generalize (List.range (k + 1)).foldl (fun best price => if f best < f price then price else best) 0 = r at h1 h2 h3
    by_cases h : f r < f (k + 1)
    · simp only [if_pos h]
      refine ⟨by omega, fun j hj => ?_, fun j hj => ?_⟩
      · by_cases e : j = k + 1
        · rw [e]; exact Nat.le_refl _
        · have := h2 j (by omega); omega
      · have := h2 j (by omega); omega
    · simp only [if_neg h]
      refine ⟨by omega, fun j hj => ?_, h3⟩
      by_cases e : j = k + 1
      · rw [e]; omega
      · exact h2 j (by omega)
theorem single_is {m : Market} (hG : GM m) {i : Nat} {b : Block} (hb : m.blocks[i]? = some b) : m.bestSinglePrice i = firstIx (maxL (tbl b)) (tbl b) ∧ m.revenue i (m.bestSinglePrice i) = maxL (tbl b) ∧ m.bestSinglePrice i ≤ m.maxPrice := by
  have hlen := hG.bl b (List.mem_of_getElem? hb)
  obtain ⟨h1, h2, h3⟩ := arg_fold (m.revenue i) m.maxPrice
  have hr : ∀ j, j < m.maxPrice + 1 → (tbl b)[j]? = some (m.revenue i j) := fun j hj => by
    rw [rev_at hb, ← tbl_at (by omega)]
    exact at_lt (by rw [tbl_len]; omega)
  have eM : m.revenue i (m.bestSinglePrice i) = maxL (tbl b) := by
    have ne : tbl b ≠ [] := fun q => by
      have := congrArg List.length q
      rw [tbl_len, hlen] at this
      cases this
    refine Nat.le_antisymm (maxL_ge (List.mem_of_getElem? (hr _ h1))) ?_
    obtain ⟨j, hj⟩ := List.getElem?_of_mem (maxL_mem ne)
    have hj1 : j < m.maxPrice + 1 := by
      have := (List.getElem?_eq_some_iff.mp hj).1
      rw [tbl_len] at this
      omega
    rw [hr j hj1] at hj
    rw [← Option.some.inj hj]
    exact h2 j hj1
  refine ⟨(firstIx_unique ?_ fun j y hj hy => ?_).symm, eM, Nat.lt_succ_iff.mp h1⟩
  · rw [← eM]; exact hr _ h1
  · rw [hr j (Nat.lt_trans hj h1)] at hy
    have h4 := h3 j hj
    have e := Option.some.inj hy
    have h5 : m.revenue i j < m.revenue i (m.bestSinglePrice i) := h4
    omega
theorem unc_is {m : Market} (hG : GM m) : m.unconstrainedPrices = (singles (m.blocks.map tbl)).prices := by
  unfold Market.unconstrainedPrices singles
  refine List.ext_getElem? fun i => ?_
  rw [List.getElem?_map, List.getElem?_map, List.getElem?_map]
  by_cases hi : i < m.blocks.length
  · have hb := List.getElem?_eq_getElem hi
    rw [List.getElem?_range hi, hb]
    show some (m.bestSinglePrice i) = some _
    rw [(single_is hG hb).1]
  · rw [List.getElem?_eq_none (by rw [List.length_range]; omega), List.getElem?_eq_none (by omega)]
    rfl
theorem unc_prl {m : Market} (hG : GM m) : Prl m m.unconstrainedPrices := by
  unfold Market.unconstrainedPrices
  refine ⟨by rw [List.length_map, List.length_range], fun p hp => ?_⟩
  obtain ⟨i, hi, rfl⟩ := List.mem_map.mp hp
  exact (single_is hG (List.getElem?_eq_getElem (List.mem_range.mp hi))).2.2
theorem singles_total : ∀ (ts : List (List Nat)), (∀ t ∈ ts, t ≠ []) → totalAt ts (ts.map fun t => firstIx (maxL t) t) = (ts.map maxL).sum
  | [], _ => rfl
  | t :: ts, h => by
    rw [List.map_cons, total_cons, List.map_cons, List.sum_cons, singles_total ts fun x hx => h x (List.mem_cons_of_mem _ hx)]
    congr 1
    exact getD_at (firstIx_at (maxL_mem (h t (List.mem_cons_self ..)))).1
theorem tbls_ne {m : Market} (hG : GM m) : ∀ t ∈ m.blocks.map tbl, t ≠ [] := fun t ht e => by
  have := tbls_len hG t ht
  rw [e] at this
  cases this
theorem uncT_is {m : Market} (hG : GM m) : m.totalRevenue m.unconstrainedPrices = (singles (m.blocks.map tbl)).total := by
  rw [totR hG (unc_prl hG), unc_is hG]
  exact singles_total _ (tbls_ne hG)
theorem total_le : ∀ (ts : List (List Nat)) (l : List Nat), totalAt ts l ≤ (ts.map maxL).sum
  | [], l => by simp [totalAt]
  | t :: ts, [] => Nat.zero_le _
  | t :: ts, p :: l => by
    rw [total_cons, List.map_cons, List.sum_cons]
    refine Nat.add_le_add ?_ (total_le ts l)
    by_cases hp : p < t.length
    · exact maxL_ge (List.mem_of_getElem? (at_lt hp))
    · rw [List.getD_eq_getElem?_getD, List.getElem?_eq_none (by omega)]
      exact Nat.zero_le _
theorem loss_le {m : Market} (hG : GM m) : (bestOrd (m.blocks.map tbl) m.maxPrice m.maxStep).total ≤ (singles (m.blocks.map tbl)).total := by
  rw [bestOrd_is]
  have hm : bestOf (m.blocks.map tbl) (ordL m.maxPrice m.maxStep (m.blocks.map tbl).length) ∈ (ordL m.maxPrice m.maxStep (m.blocks.map tbl).length).map fun l => (⟨totalAt (m.blocks.map tbl) l, l⟩ : Ch) := fb_mem fun q => ordL_ne _ _ _ (List.map_eq_nil_iff.mp q)
  obtain ⟨l, hl, e⟩ := List.mem_map.mp hm
  rw [← e]
  exact total_le _ l
theorem isOrd_is {m : Market} {ps : List Nat} (h : Prl m ps) : m.isOrdered ps = keeps ps m.maxStep := by
  unfold Market.isOrdered keeps
  have e : (ps.all fun price => decide (price ≤ m.maxPrice)) = true := List.all_eq_true.mpr fun x hx => decide_eq_true (h.2 x hx)
  rw [e, Bool.true_and]
  rfl
theorem gm_step {m : Market} (hG : GM m) {s : Nat} (hs : s ≤ 7) : GM { m with maxStep := s } := ⟨hG.p1, hG.p7, hs, hG.n5, hG.bl⟩
theorem gm_erase {m : Market} (hG : GM m) (i : Nat) : GM { m with blocks := m.blocks.eraseIdx i } :=
  ⟨hG.p1, hG.p7, hG.s7, Nat.le_trans (List.length_eraseIdx_le ..) hG.n5, fun b hb => hG.bl b (List.mem_of_mem_eraseIdx hb)⟩
end Bp

/-! # blockprices: what an operation finds and leaves -/
namespace Bp
open PySem PySem.Spec PyProof.Rows L2
open C8 (Cal pe_c Mak pe_mk pe_gc)
open Kv438 (Block Market Operation Response)

/-! ### operations, by number and by arguments -/
def numOf : Operation → Nat
  | .create .. => 0 | .addBlock .. => 1 | .removeBlock .. => 2 | .setSeats .. => 3 | .setDemand .. => 4 | .setMaxStep .. => 5 | .swapBlocks .. => 6
  | .attendance .. => 7 | .revenue .. => 8 | .bestPrices => 9 | .unconstrainedPrices => 10 | .orderingLoss => 11 | .totalRevenue .. => 12
  | .isOrdered .. => 13 | .totalAttendance .. => 14 | .countOrdered => 15 | .bestWithPrice .. => 16 | .bestWithAttendance .. => 17
  | .bestSinglePrice .. => 18 | .revenueIfStep .. => 19 | .revenueWithout .. => 20 | .getBlock .. => 21 | .getState => 22
def argsOf : Operation → List Nat × Option (List Nat)
  | .create x y => ([x, y], none) | .addBlock x r => ([x], some r) | .removeBlock x => ([x], none) | .setSeats x y => ([x, y], none)
  | .setDemand x r => ([x], some r) | .setMaxStep x => ([x], none) | .swapBlocks x y => ([x, y], none)
  | .attendance x y => ([x, y], none) | .revenue x y => ([x, y], none) | .bestPrices => ([], none) | .unconstrainedPrices => ([], none)
  | .orderingLoss => ([], none) | .totalRevenue r => ([], some r) | .isOrdered r => ([], some r) | .totalAttendance r => ([], some r)
  | .countOrdered => ([], none) | .bestWithPrice x y => ([x, y], none) | .bestWithAttendance x => ([x], none)
  | .bestSinglePrice x => ([x], none) | .revenueIfStep x => ([x], none) | .revenueWithout x => ([x], none) | .getBlock x => ([x], none) | .getState => ([], none)
def mkt (m : Market) (op : Operation) : Market := ((⟨m⟩ : Kv438.Planner).run op).1.market
def outM (m : Market) (op : Operation) : List Int := Kv438Neutral.resultRow ((⟨m⟩ : Kv438.Planner).run op).2
theorem run_p1 {c : Prop} [Decidable c] {P : Kv438.Planner} {R : Response} {X : Kv438.Planner × Response} (h : X.1 = P) : (if c then (P, R) else X).1 = P := by
  by_cases hc : c
  · rw [if_pos hc]
  · rw [if_neg hc]; exact h
theorem mkt_pure {m : Market} {op : Operation} (h : 7 ≤ numOf op) : mkt m op = m := by
  unfold mkt
  cases op <;> first
    | exact absurd h (Nat.not_le_of_lt (Nat.le_of_ble_eq_true rfl))
    | rfl
    | exact congrArg Kv438.Planner.market (run_p1 rfl)
    | exact congrArg Kv438.Planner.market (run_p1 (run_p1 rfl))

/-! ### gates -/
theorem is_block {m : Market} {i : Nat} : (⟨m⟩ : Kv438.Planner).isBlock i = decide (i < m.blocks.length) := rfl
def gateB (m : Market) (i : Nat) (X : Kv438.Planner × Response) : Kv438.Planner × Response := if (⟨m⟩ : Kv438.Planner).isBlock i = false then (⟨m⟩, .error (-2)) else X
def gate (m : Market) (i p : Nat) (X : Kv438.Planner × Response) : Kv438.Planner × Response := if (⟨m⟩ : Kv438.Planner).isBlock i = false then (⟨m⟩, .error (-2)) else if m.maxPrice < p then (⟨m⟩, .error (-22)) else X
theorem gateB_no {m : Market} {i : Nat} {X : Kv438.Planner × Response} (h : ¬ i < m.blocks.length) : gateB m i X = (⟨m⟩, .error (-2)) := by
  unfold gateB; rw [is_block, decide_eq_false h, if_pos rfl]
theorem gateB_yes {m : Market} {i : Nat} {X : Kv438.Planner × Response} (h : i < m.blocks.length) : gateB m i X = X := by
  unfold gateB; rw [is_block, decide_eq_true h, if_neg (fun z => Bool.noConfusion z)]
theorem gate_no {m : Market} {i p : Nat} {X : Kv438.Planner × Response} (h : refL m i p ≠ []) : Kv438Neutral.resultRow (gate m i p X).2 = refL m i p := by
  unfold refL at h ⊢
  unfold gate
  rw [is_block]
  by_cases h1 : i < m.blocks.length
  · rw [if_pos h1] at h ⊢
    rw [decide_eq_true h1, if_neg (fun z => Bool.noConfusion z)]
    by_cases h2 : m.maxPrice < p
    · rw [if_pos h2, if_pos h2]; rfl
    · rw [if_neg h2] at h; exact absurd rfl h
  · rw [if_neg h1, decide_eq_false h1, if_pos rfl]; rfl
theorem refL_nil {m : Market} {i p : Nat} (h : refL m i p = []) : i < m.blocks.length ∧ p ≤ m.maxPrice := by
  unfold refL at h
  by_cases h1 : i < m.blocks.length
  · rw [if_pos h1] at h
    by_cases h2 : m.maxPrice < p
    · rw [if_pos h2] at h; cases h
    · exact ⟨h1, by omega⟩
  · rw [if_neg h1] at h; cases h
theorem gate_yes {m : Market} {i p : Nat} {X : Kv438.Planner × Response} (h : refL m i p = []) : gate m i p X = X := by
  obtain ⟨h1, h2⟩ := refL_nil h
  unfold gate
  rw [is_block, decide_eq_true h1, if_neg (fun z => Bool.noConfusion z), if_neg (by omega)]
theorem ints_nL (l : List Nat) : nL l = (Kv438Neutral.integers l).map V.int := by
  unfold nL Kv438Neutral.integers; rw [List.map_map]; rfl

/-! ### what stays -/
/-- what no operation on a planner changes -/
def keepO : HO → Bool
  | .ins _ _ fs => fs.length == 1
  | _ => true
structure Kp (l : Addr) (H H' : Hp) : Prop where
  dom : ∀ b, H' b = none → H b = none
  old : ∀ b o, H b = some o → b ≠ l → keepO o = true → H' b = some o
theorem Kp.of {l : Addr} {H H' : Hp} (s : Same H H') : Kp l H H' := ⟨fun _ h => s.free h, fun b o h _ _ => s b o h⟩
theorem Kp.trans {l : Addr} {H H1 H2 : Hp} (a : Kp l H H1) (b : Kp l H1 H2) : Kp l H H2 := ⟨fun x h => a.dom _ (b.dom _ h), fun x o h n k => b.old x o (a.old x o h n k) n k⟩
theorem upd_none {H : Hp} {p b : Addr} {o : HO} (h : upd H p o b = none) : H b = none ∧ b ≠ p := by
  have n : b ≠ p := fun e => by rw [e, upd_same] at h; cases h
  rw [upd_ne n] at h; exact ⟨h, n⟩
theorem Kp.updL {l : Addr} {H : Hp} {o : HO} : Kp l H (upd H l o) := ⟨fun _ h => (upd_none h).1, fun b u h n _ => by rw [upd_ne n]; exact h⟩
theorem Kp.updI {l p : Addr} {H : Hp} {o o0 : HO} (hp : H p = some o0) (hk : keepO o0 = false) : Kp l H (upd H p o) := ⟨fun _ h => (upd_none h).1, fun b u h n k => by
  rw [upd_ne (fun e => by rw [e, hp] at h; cases h; rw [hk] at k; cases k)]; exact h⟩

/-! ### a planner -/
def BkAt (CB r l : Addr) (H : Hp) (b : Addr) (k : Block) : Prop := ∃ dx d, H b = some (.ins CB dx (bkF k.seats d)) ∧ H d = some (.lst (nL k.demand)) ∧ d ≠ r ∧ d ≠ l
def PlAt (CP CB r : Addr) (H : Hp) (p l : Addr) (m : Market) : Prop := ∃ dx bs, H p = some (.ins CP dx (plF m.maxPrice m.maxStep l)) ∧ H l = some (.lst (bs.map V.ref)) ∧ A2 (BkAt CB r l H) bs m.blocks ∧ bs.Nodup ∧ l ≠ r
section
variable {CP CB r p l : Addr} {H H' : Hp} {m : Market}
theorem BkAt.same {b : Addr} {k : Block} (s : Same H H') (h : BkAt CB r l H b k) : BkAt CB r l H' b k := by
  obtain ⟨dx, d, h1, h2, h3⟩ := h
  exact ⟨dx, d, s _ _ h1, s _ _ h2, h3⟩
theorem PlAt.same (s : Same H H') (h : PlAt CP CB r H p l m) : PlAt CP CB r H' p l m := by
  obtain ⟨dx, bs, h1, h2, h3, h4⟩ := h
  exact ⟨dx, bs, s _ _ h1, s _ _ h2, h3.mono fun _ _ => BkAt.same s, h4⟩
theorem BkAt.rb {b : Addr} {k : Block} (h : BkAt CB r l H b k) : RB CB H (.ref b) k := by
  obtain ⟨dx, d, h1, h2, _⟩ := h
  exact ⟨b, dx, d, rfl, h1, h2⟩
theorem PlAt.rp (h : PlAt CP CB r H p l m) : RP CP CB H (.ref p) m := by
  obtain ⟨dx, bs, h1, h2, h3, _⟩ := h
  exact ⟨p, dx, l, rfl, h1, l, _, rfl, h2, A2.mapL (h3.mono fun _ _ => BkAt.rb)⟩
/-- the answers' own list may grow -/
theorem PlAt.updR {xs : List V} {o : HO} (hr : H r = some (.lst xs)) (h : PlAt CP CB r H p l m) : PlAt CP CB r (upd H r o) p l m := by
  obtain ⟨dx, bs, h1, h2, h3, h4, h5⟩ := h
  have ni : ∀ {b C d : Addr} {fs : List (Str × V)}, H b = some (.ins C d fs) → b ≠ r := fun e q => by rw [q, hr] at e; cases e
  refine ⟨dx, bs, by rw [upd_ne (ni h1)]; exact h1, by rw [upd_ne h5]; exact h2, h3.mono fun b k ⟨dx, d, g1, g2, g3, g4⟩ => ⟨dx, d, by rw [upd_ne (ni g1)]; exact g1, by rw [upd_ne g3]; exact g2, g3, g4⟩, h4, h5⟩
end
def AvAt (H : Hp) (r l : Addr) (ar : List Nat × Option (List Nat)) (av : List V) : Prop :=
  match ar.2 with
  | none => av = nL ar.1
  | some row => ∃ d, av = nL ar.1 ++ [.ref d] ∧ H d = some (.lst (nL row)) ∧ d ≠ r ∧ d ≠ l
def Post (CP CB r : Addr) (H : Hp) (p l : Addr) (m : Market) (op : Operation) (Q : VK) : Prop :=
  ∀ H' q, Kp l H H' → PlAt CP CB r H' p l (mkt m op) → H q = none → H' q = some (.lst ((outM m op).map V.int)) → Q (.ref q) H'
def spOp (CP CB : Addr) (k : Nat) : Sp := fun vs H Q _ => ∃ r p l m a av op, vs = [.ref p, .ref a] ∧ numOf op = k ∧ PlAt CP CB r H p l m ∧ GM m ∧ H a = some (.lst av) ∧ AvAt H r l (argsOf op) av ∧ Post CP CB r H p l m op Q
section
variable {CP CB r p l : Addr} {H H1 H' : Hp} {m : Market} {op : Operation} {Q : VK}
/-- nothing old has changed -/
theorem post_pure {q : Addr} {vs : List V} (k : Post CP CB r H p l m op Q) (h7 : 7 ≤ numOf op) (hP : PlAt CP CB r H p l m) (s : Same H H') (n : H q = none) (h : H' q = some (.lst vs)) (e : vs = (outM m op).map V.int) : Q (.ref q) H' :=
  k H' q (.of s) (by rw [mkt_pure h7]; exact hP.same s) n (by rw [h, e])
/-- a new list, nothing else changed -/
theorem post_new {q : Addr} {vs : List V} (k : Post CP CB r H p l m op Q) (em : mkt m op = m) (hP : PlAt CP CB r H p l m) (s : Same H H1) (n : H1 q = none) (e : vs = (outM m op).map V.int) : Q (.ref q) (upd H1 q (.lst vs)) :=
  k _ q (.of (s.trans (same_new n))) (by rw [em]; exact hP.same (s.trans (same_new n))) (s.free n) (by rw [upd_same, e])
/-- a new list, the planner changed -/
theorem post_mut {q : Addr} {vs : List V} (k : Post CP CB r H p l m op Q) (kp : Kp l H H1) (hP : PlAt CP CB r H1 p l (mkt m op)) (n : H1 q = none) (e : vs = (outM m op).map V.int) : Q (.ref q) (upd H1 q (.lst vs)) :=
  k _ q (kp.trans (.of (same_new n))) (hP.same (same_new n)) (kp.dom _ n) (by rw [upd_same, e])
/-- a choice told whole -/
theorem post_told {v : V} {c : Ch} (k : Post CP CB r H p l m op Q) (h7 : 7 ≤ numOf op) (hP : PlAt CP CB r H p l m) (s : Same H H1) (s2 : Same H1 H') (h : RNs (frs H1 H') v (c.total :: c.prices)) (e : outM m op = (c.total : Int) :: Kv438Neutral.integers c.prices) : Q v H' := by
  obtain ⟨q, rfl, hq⟩ := h
  obtain ⟨n, h2⟩ := frs_some hq
  exact post_pure k h7 hP (s.trans s2) (s.free n) h2 (by rw [e, ints_nL]; rfl)
theorem post_ref {v : V} {i pr : Nat} {X : Kv438.Planner × Response} (k : Post CP CB r H p l m op Q) (h7 : 7 ≤ numOf op) (hP : PlAt CP CB r H p l m) (s : Same H H1) (h : RIs (frs H H1) v (refL m i pr)) (ne : refL m i pr ≠ []) (e : (⟨m⟩ : Kv438.Planner).run op = gate m i pr X) : Q v H1 := by
  obtain ⟨q, rfl, hq⟩ := h
  obtain ⟨n, h2⟩ := frs_some hq
  refine post_pure k h7 hP s n h2 ?_
  unfold outM
  rw [e, gate_no ne]
/-- a block that is there -/
theorem PlAt.at1 {i : Nat} (hP : PlAt CP CB r H p l m) (hi : i < m.blocks.length) : ∃ (dx : Addr) (bs : List Addr) (b : Addr) (k : Block), H p = some (.ins CP dx (plF m.maxPrice m.maxStep l)) ∧ H l = some (.lst (bs.map V.ref)) ∧ (bs.map V.ref)[i]? = some (V.ref b) ∧ m.blocks[i]? = some k ∧ bs[i]? = some b ∧ BkAt CB r l H b k := by
  obtain ⟨dx, bs, h1, h2, h3, _⟩ := hP
  have hk := List.getElem?_eq_getElem hi
  obtain ⟨b, hb, hB⟩ := h3.at2 hk
  exact ⟨dx, bs, b, _, h1, h2, by rw [List.getElem?_map, hb]; rfl, hk, hb, hB⟩
theorem emp_ref {is : List Int} {b : Bool} (h : (!(is.map V.int).isEmpty) = true) : is ≠ [] := fun e => by
  rw [e] at h; cases h
theorem emp_ref' {is : List Int} (h : ¬ (!(is.map V.int).isEmpty) = true) : is = [] := by
  cases is with
  | nil => rfl
  | cons x y => exact absurd rfl h
end
/-! ### good markets stay good -/
theorem run_0 (m : Market) (x y : Nat) : (⟨m⟩ : Kv438.Planner).run (.create x y) = if x = 0 ∨ 7 < x ∨ 7 < y then (⟨m⟩, .error (-22)) else (⟨⟨x, y, []⟩⟩, .number 0) := rfl
theorem run_1 (m : Market) (x : Nat) (row : List Nat) : (⟨m⟩ : Kv438.Planner).run (.addBlock x row) = if 999 < x ∨ m.isDemand row = false then (⟨m⟩, .error (-22)) else if 5 ≤ m.blocks.length then (⟨m⟩, .error (-28)) else (⟨⟨m.maxPrice, m.maxStep, m.blocks ++ [⟨x, row⟩]⟩⟩, .number m.blocks.length) := rfl
theorem run_2 (m : Market) (i : Nat) : (⟨m⟩ : Kv438.Planner).run (.removeBlock i) = gateB m i (⟨⟨m.maxPrice, m.maxStep, m.blocks.eraseIdx i⟩⟩, .number (m.blocks.length - 1)) := rfl
theorem run_3 (m : Market) (i x : Nat) : (⟨m⟩ : Kv438.Planner).run (.setSeats i x) = gateB m i (if 999 < x then (⟨m⟩, .error (-22)) else (⟨⟨m.maxPrice, m.maxStep, m.blocks.modify i fun b => { b with seats := x }⟩⟩, .number (m.block i).seats)) := rfl
theorem run_4 (m : Market) (i : Nat) (row : List Nat) : (⟨m⟩ : Kv438.Planner).run (.setDemand i row) = gateB m i (if m.isDemand row = false then (⟨m⟩, .error (-22)) else (⟨⟨m.maxPrice, m.maxStep, m.blocks.modify i fun b => { b with demand := row }⟩⟩, .number 0)) := rfl
theorem run_5 (m : Market) (x : Nat) : (⟨m⟩ : Kv438.Planner).run (.setMaxStep x) = if 7 < x then (⟨m⟩, .error (-22)) else (⟨⟨m.maxPrice, x, m.blocks⟩⟩, .number m.maxStep) := rfl
theorem run_6 (m : Market) (i j : Nat) : (⟨m⟩ : Kv438.Planner).run (.swapBlocks i j) = if (⟨m⟩ : Kv438.Planner).isBlock i = false ∨ (⟨m⟩ : Kv438.Planner).isBlock j = false then (⟨m⟩, .error (-2)) else (⟨⟨m.maxPrice, m.maxStep, (m.blocks.set i (m.block j)).set j (m.block i)⟩⟩, .number m.blocks.length) := rfl
theorem gm_if {c : Prop} [Decidable c] {X Y : Kv438.Planner × Response} (h1 : c → GM X.1.market) (h2 : ¬ c → GM Y.1.market) : GM (if c then X else Y).1.market := by
  by_cases h : c
  · rw [if_pos h]; exact h1 h
  · rw [if_neg h]; exact h2 h
theorem gm_gate {m : Market} {i : Nat} {Y : Kv438.Planner × Response} (hG : GM m) (h2 : i < m.blocks.length → GM Y.1.market) : GM (gateB m i Y).1.market := by
  by_cases h : i < m.blocks.length
  · rw [gateB_yes h]; exact h2 h
  · rw [gateB_no h]; exact hG
theorem dem_len {m : Market} {r : List Nat} (h : ¬ m.isDemand r = false) : r.length = m.maxPrice + 1 := by
  have hd : m.isDemand r = true := by simpa using h
  unfold Market.isDemand at hd
  rw [Bool.and_eq_true, Bool.and_eq_true, beq_iff_eq] at hd
  exact hd.1.1
theorem gm_mod {m : Market} (hG : GM m) (i : Nat) {f : Block → Block} (hf : ∀ b : Block, b.demand.length = m.maxPrice + 1 → (f b).demand.length = m.maxPrice + 1) : GM ⟨m.maxPrice, m.maxStep, m.blocks.modify i f⟩ := by
  refine ⟨hG.p1, hG.p7, hG.s7, ?_, fun b hb => ?_⟩
  · show (m.blocks.modify i f).length ≤ 5
    rw [List.length_modify]; exact hG.n5
  · obtain ⟨j, hj⟩ := List.getElem?_of_mem hb
    replace hj : (m.blocks.modify i f)[j]? = some b := hj
    rw [List.getElem?_modify] at hj
    cases e : m.blocks[j]? with
    | none => rw [e] at hj; cases hj
    | some k =>
      rw [e] at hj
      have hk := hG.bl k (List.mem_of_getElem? e)
      have e2 : (if i = j then f k else k) = b := Option.some.inj hj
      by_cases q : i = j
      · rw [if_pos q] at e2
        rw [← e2]; exact hf k hk
      · rw [if_neg q] at e2
        rw [← e2]; exact hk
theorem gm_run {m : Market} (hG : GM m) (op : Operation) : GM (mkt m op) := by
  by_cases h7 : 7 ≤ numOf op
  · rw [mkt_pure h7]; exact hG
  cases op <;> first
    | exact (h7 (Nat.le_of_ble_eq_true rfl)).elim
    | skip
  case create x y =>
    unfold mkt
    rw [run_0]
    exact gm_if (fun _ => hG) fun h => ⟨by show 1 ≤ x; omega, by show x ≤ 7; omega, by show y ≤ 7; omega, Nat.zero_le _, fun b hb => by cases hb⟩
  case addBlock x row =>
    unfold mkt
    rw [run_1]
    refine gm_if (fun _ => hG) fun h1 => gm_if (fun _ => hG) fun h2 => ⟨hG.p1, hG.p7, hG.s7, ?_, fun b hb => ?_⟩
    · show (m.blocks ++ [(⟨x, row⟩ : Block)]).length ≤ 5
      rw [List.length_append]
      show m.blocks.length + 1 ≤ 5
      omega
    · rcases List.mem_append.mp hb with q | q
      · exact hG.bl b q
      · have e : b = ⟨x, row⟩ := by simpa using q
        rw [e]; exact dem_len fun z => h1 (.inr z)
  case removeBlock i =>
    unfold mkt
    rw [run_2]
    exact gm_gate hG fun _ => gm_erase hG i
  case setSeats i s =>
    unfold mkt
    rw [run_3]
    exact gm_gate hG fun _ => gm_if (fun _ => hG) fun _ => gm_mod hG i fun _ h => h
  case setDemand i row =>
    unfold mkt
    rw [run_4]
    exact gm_gate hG fun _ => gm_if (fun _ => hG) fun h => gm_mod hG i fun _ _ => dem_len h
  case setMaxStep s =>
    unfold mkt
    rw [run_5]
    exact gm_if (fun _ => hG) fun h => gm_step hG (by omega)
  case swapBlocks i j =>
    unfold mkt
    rw [run_6]
    refine gm_if (fun _ => hG) fun h => ?_
    have hi : i < m.blocks.length := by
      have : ¬ (⟨m⟩ : Kv438.Planner).isBlock i = false := fun z => h (.inl z)
      rw [is_block] at this
      simpa using this
    have hj : j < m.blocks.length := by
      have : ¬ (⟨m⟩ : Kv438.Planner).isBlock j = false := fun z => h (.inr z)
      rw [is_block] at this
      simpa using this
    have m1 : m.block i ∈ m.blocks := by
      rw [block_at (List.getElem?_eq_getElem hi)]; exact List.getElem_mem _
    have m2 : m.block j ∈ m.blocks := by
      rw [block_at (List.getElem?_eq_getElem hj)]; exact List.getElem_mem _
    refine ⟨hG.p1, hG.p7, hG.s7, ?_, fun b hb => ?_⟩
    · show ((m.blocks.set i (m.block j)).set j (m.block i)).length ≤ 5
      rw [List.length_set, List.length_set]; exact hG.n5
    · replace hb : b ∈ (m.blocks.set i (m.block j)).set j (m.block i) := hb
      rcases List.mem_or_eq_of_mem_set hb with q | q
      · rcases List.mem_or_eq_of_mem_set q with q | q
        · exact hG.bl b q
        · rw [q]; exact hG.bl _ m2
      · rw [q]; exact hG.bl _ m1
end Bp

/-! # blockprices: the calls that change nothing -/
namespace Bp
open PySem PySem.Spec PyProof.Rows L2
open C8 (Cal pe_c Mak pe_mk pe_gc)
open Kv438 (Block Market Operation Response)

theorem fm_filter {α : Type} (q : α → Bool) : ∀ l : List α, (l.map fun x => if q x = true then some x else none).filterMap id = l.filter q
  | [] => rfl
  | a :: l => by
    have ih := fm_filter q l
    rw [List.map_cons, List.filter_cons, List.filterMap_cons]
    by_cases h : q a = true
    · rw [if_pos h, if_pos h]
      show a :: _ = a :: _
      rw [ih]
    · rw [if_neg h, if_neg h]
      exact ih
theorem prl_in {m : Market} {ps : List Nat} {g : Block → List Nat} (hg : ∀ t ∈ m.blocks.map g, t.length = m.maxPrice + 1) (h : Prl m ps) : ∀ (i : Nat) t p, (m.blocks.map g)[i]? = some t → ps[i]? = some p → p < t.length := fun i t p ht hp => by
  have := h.2 p (List.mem_of_getElem? hp)
  rw [hg t (List.mem_of_getElem? ht)]
  omega
theorem atbs_len {m : Market} (hG : GM m) : ∀ t ∈ m.blocks.map atb, t.length = m.maxPrice + 1 := by
  intro t ht
  obtain ⟨b, hb, rfl⟩ := List.mem_map.mp ht
  rw [atb_len, hG.bl b hb]
theorem prl_not {m : Market} {row : List Nat} (h : ¬ m.isPriceList row = true) : m.isPriceList row = false := Bool.eq_false_iff.mpr h
theorem not_true {b : Bool} (h : (!b) = true) : ¬ b = true := fun e => by rw [e] at h; cases h
theorem not_false {b : Bool} (h : ¬ (!b) = true) : b = true := by
  cases b
  · exact absurd rfl h
  · rfl
section
variable {P : Program} {w : World} {K : PySem.W.Frag} {mg : Str → Option Value} {base : Heap} {CB CC CP CS aS aR : Addr}
theorem inv_7 {op : Operation} (h : numOf op = 7) : ∃ (i : Nat), ∃ (pr : Nat), op = .attendance i pr := by
  cases op <;> first
    | exact ⟨_, _, rfl⟩
    | exact absurd h (Nat.ne_of_beq_eq_false rfl)
abbrev s_attendance : Stmt := top 50
abbrev n_attendance : List Str := ["planner", "arguments", "block", "price", "refused"]
theorem sc_attendance : FnScope n_attendance ["planner", "arguments"] (defScope s_attendance) := ⟨rfl, rfl, rfl, by decide +kernel, rfl, by decide +kernel, by decide +kernel⟩
theorem ok_attendance {f : Addr} {fd : FuncData} (F : Fun K "attendance" "attendance" s_attendance f fd) (T : Txt K mg CB CC CP CS aS aR) (c_attendance_at : Cal P w K mg base 1 "attendance_at" (spAttAt CB) []) (c_refusal_at : Cal P w K mg base 2 "refusal_at" (spRefusal CP CB) []) : FnOk P w K mg base CX0 3 f fd ["planner", "arguments"] (spOp CP CB 7) := by
  refine F.ok sc_attendance (fun vs H Q E h => ?_) (fun cdv A outer s H vs Q E hr h => ?_)
  · obtain ⟨r, p, l, m, a, av, op, rfl, _⟩ := h
    rfl
  · obtain ⟨r, p, l, m, a, av, op, rfl, hn, hP, hG, ha, hav, k⟩ := h
    obtain ⟨i, pr, rfl⟩ := inv_7 hn
    obtain rfl : av = [nV i, nV pr] := hav
    have em : mkt m (.attendance i pr) = m := mkt_pure (by show 7 ≤ 7; decide)
    have h7 : 7 ≤ numOf (.attendance i pr) := (by show 7 ≤ 7; decide)
    have hR := hP.rp
    refine ⟨_, (pss_cons (ps_set (i := 2) sc_attendance.nd rfl (.inl rfl) (pe_ix ix_list (pv 1) pe_int (fun _ _ => rfl)))
      (pss_cons (ps_set (i := 3) sc_attendance.nd rfl (.inl rfl) (pe_ix ix_list (pv 1) pe_int (fun _ _ => rfl)))
      (pss_cons (ps_set (i := 4) sc_attendance.nd rfl (.inl rfl) (pe_c c_refusal_at hr (by decide) rfl (pa_cons (pv 0) (pa_cons (pv 2) (pa_cons (pv 3) pa_nil)))))
      (pss_cons (ps_if (pt_truth (pv 4) (by intro _; rfl)) (pss_one (ps_ret (pv 4))) pss_nil)
      (pss_one (ps_ret (pe_lst (pa_cons (pe_c c_attendance_at hr (by decide) rfl (pa_cons (pe_ix ix_list (pe_fld (pv 0) rfl) (pv 2) (fun _ _ => rfl)) (pa_cons (pv 3) pa_nil))) pa_nil)))))))), ?_⟩
    refine ⟨_, rfl, a, _, _, _, rfl, rfl, SqL.of ha, at_of (j := 0) rfl rfl, ?_⟩
    refine ⟨_, rfl, a, _, _, _, rfl, rfl, SqL.of ha, at_of (j := 1) rfl rfl, ?_⟩
    refine ⟨_, rfl, _, rfl, _, rfl, _, i, pr, m, rfl, hR, fun H1 u s1 hu => ?_⟩
    obtain ⟨q0, e0, hq0⟩ := id hu
    subst e0
    refine ⟨_, rfl, _, .inl ⟨_, SqL.of (frs_sub _ _ _ _ hq0), rfl⟩, ?_⟩
    refine ite2 (fun hc => ?_) (fun hc => ?_)
    · exact ⟨_, rfl, post_ref k h7 hP s1 hu (emp_ref (b := true) hc) (X := (⟨m⟩, .number (m.attendance i pr))) rfl⟩
    have h0 := emp_ref' hc
    obtain ⟨hi, hpr⟩ := refL_nil h0
    obtain ⟨dx, bs, b, kb, g1, g2, g3, g4, g5, g6⟩ := (hP.same s1).at1 hi
    refine ⟨_, rfl, p, CP, dx, _, _, rfl, g1, T.clP, T.nPb, pl_blocks _ _ _, _, rfl, l, _, _, _, rfl, rfl, SqL.of g2, atI_nat g3, _, rfl, _, pr, kb, rfl, g6.rb, ?_, ?_⟩
    · rw [hG.bl kb (List.mem_of_getElem? g4)]; omega
    · refine ⟨(by show 1 ≤ sizeLine; decide), fun q nq => post_new k em hP s1 nq ?_⟩
      show _ = (Kv438Neutral.resultRow (gate m i pr (⟨m⟩, .number (m.attendance i pr))).2).map V.int
      rw [gate_yes h0, att_at g4]; rfl
theorem inv_8 {op : Operation} (h : numOf op = 8) : ∃ (i : Nat), ∃ (pr : Nat), op = .revenue i pr := by
  cases op <;> first
    | exact ⟨_, _, rfl⟩
    | exact absurd h (Nat.ne_of_beq_eq_false rfl)
abbrev s_revenue : Stmt := top 51
abbrev n_revenue : List Str := ["planner", "arguments", "block", "price", "refused"]
theorem sc_revenue : FnScope n_revenue ["planner", "arguments"] (defScope s_revenue) := ⟨rfl, rfl, rfl, by decide +kernel, rfl, by decide +kernel, by decide +kernel⟩
theorem ok_revenue {f : Addr} {fd : FuncData} (F : Fun K "revenue" "revenue" s_revenue f fd) (T : Txt K mg CB CC CP CS aS aR) (c_refusal_at : Cal P w K mg base 2 "refusal_at" (spRefusal CP CB) []) (c_revenue_at : Cal P w K mg base 2 "revenue_at" (spRevAt CB) []) : FnOk P w K mg base CX0 3 f fd ["planner", "arguments"] (spOp CP CB 8) := by
  refine F.ok sc_revenue (fun vs H Q E h => ?_) (fun cdv A outer s H vs Q E hr h => ?_)
  · obtain ⟨r, p, l, m, a, av, op, rfl, _⟩ := h
    rfl
  · obtain ⟨r, p, l, m, a, av, op, rfl, hn, hP, hG, ha, hav, k⟩ := h
    obtain ⟨i, pr, rfl⟩ := inv_8 hn
    obtain rfl : av = [nV i, nV pr] := hav
    have em : mkt m (.revenue i pr) = m := mkt_pure (by show 7 ≤ 8; decide)
    have h7 : 7 ≤ numOf (.revenue i pr) := (by show 7 ≤ 8; decide)
    have hR := hP.rp
    refine ⟨_, (pss_cons (ps_set (i := 2) sc_revenue.nd rfl (.inl rfl) (pe_ix ix_list (pv 1) pe_int (fun _ _ => rfl)))
      (pss_cons (ps_set (i := 3) sc_revenue.nd rfl (.inl rfl) (pe_ix ix_list (pv 1) pe_int (fun _ _ => rfl)))
      (pss_cons (ps_set (i := 4) sc_revenue.nd rfl (.inl rfl) (pe_c c_refusal_at hr (by decide) rfl (pa_cons (pv 0) (pa_cons (pv 2) (pa_cons (pv 3) pa_nil)))))
      (pss_cons (ps_if (pt_truth (pv 4) (by intro _; rfl)) (pss_one (ps_ret (pv 4))) pss_nil)
      (pss_one (ps_ret (pe_lst (pa_cons (pe_c c_revenue_at hr (by decide) rfl (pa_cons (pe_ix ix_list (pe_fld (pv 0) rfl) (pv 2) (fun _ _ => rfl)) (pa_cons (pv 3) pa_nil))) pa_nil)))))))), ?_⟩
    refine ⟨_, rfl, a, _, _, _, rfl, rfl, SqL.of ha, at_of (j := 0) rfl rfl, ?_⟩
    refine ⟨_, rfl, a, _, _, _, rfl, rfl, SqL.of ha, at_of (j := 1) rfl rfl, ?_⟩
    refine ⟨_, rfl, _, rfl, _, rfl, _, i, pr, m, rfl, hR, fun H1 u s1 hu => ?_⟩
    obtain ⟨q0, e0, hq0⟩ := id hu
    subst e0
    refine ⟨_, rfl, _, .inl ⟨_, SqL.of (frs_sub _ _ _ _ hq0), rfl⟩, ?_⟩
    refine ite2 (fun hc => ?_) (fun hc => ?_)
    · exact ⟨_, rfl, post_ref k h7 hP s1 hu (emp_ref (b := true) hc) (X := (⟨m⟩, .number (m.revenue i pr))) rfl⟩
    have h0 := emp_ref' hc
    obtain ⟨hi, hpr⟩ := refL_nil h0
    obtain ⟨dx, bs, b, kb, g1, g2, g3, g4, g5, g6⟩ := (hP.same s1).at1 hi
    refine ⟨_, rfl, p, CP, dx, _, _, rfl, g1, T.clP, T.nPb, pl_blocks _ _ _, _, rfl, l, _, _, _, rfl, rfl, SqL.of g2, atI_nat g3, _, rfl, _, pr, kb, rfl, g6.rb, ?_, ?_, ?_⟩
    · rw [hG.bl kb (List.mem_of_getElem? g4)]; omega
    · have := hG.p7; omega
    · refine ⟨(by show 1 ≤ sizeLine; decide), fun q nq => post_new k em hP s1 nq ?_⟩
      show _ = (Kv438Neutral.resultRow (gate m i pr (⟨m⟩, .number (m.revenue i pr))).2).map V.int
      rw [gate_yes h0, rev_at g4]; rfl
theorem inv_9 {op : Operation} (h : numOf op = 9) : op = .bestPrices := by
  cases op <;> first
    | exact rfl
    | exact absurd h (Nat.ne_of_beq_eq_false rfl)
abbrev s_best_prices : Stmt := top 52
abbrev n_best_prices : List Str := ["planner", "arguments"]
theorem sc_best_prices : FnScope n_best_prices ["planner", "arguments"] (defScope s_best_prices) := ⟨rfl, rfl, rfl, by decide +kernel, rfl, by decide +kernel, by decide +kernel⟩
theorem ok_best_prices {f : Addr} {fd : FuncData} (F : Fun K "best_prices" "best_prices" s_best_prices f fd) (T : Txt K mg CB CC CP CS aS aR) (c_best_choice : Cal P w K mg base 5 "best_choice" (spBestCh CP CB CC) []) (c_told_whole : Cal P w K mg base 1 "told_whole" (spTold CC) []) : FnOk P w K mg base CX0 6 f fd ["planner", "arguments"] (spOp CP CB 9) := by
  refine F.ok sc_best_prices (fun vs H Q E h => ?_) (fun cdv A outer s H vs Q E hr h => ?_)
  · obtain ⟨r, p, l, m, a, av, op, rfl, _⟩ := h
    rfl
  · obtain ⟨r, p, l, m, a, av, op, rfl, hn, hP, hG, ha, hav, k⟩ := h
    obtain rfl := inv_9 hn
    obtain rfl : av = [] := hav
    have em : mkt m (.bestPrices) = m := mkt_pure (by show 7 ≤ 9; decide)
    have h7 : 7 ≤ numOf (.bestPrices) := (by show 7 ≤ 9; decide)
    have hR := hP.rp
    refine ⟨_, (pss_one (ps_ret (pe_c c_told_whole hr (by decide) rfl (pa_cons (pe_c c_best_choice hr (by decide) rfl (pa_cons (pv 0) pa_nil)) pa_nil)))), ?_⟩
    refine ⟨_, rfl, _, m, rfl, hR, hG, fun H1 u s1 r1 => ?_⟩
    refine ⟨u, _, rfl, r1, ?_, fun H2 v s2 hv => post_told k h7 hP s1 s2 hv ?_⟩
    · rw [bestOrd_len hG]; have := hG.n5; omega
    · show Kv438Neutral.resultRow (Kv438.bestResponse m m.orderedPrices) = _
      rw [best_is hG]; rfl
theorem inv_10 {op : Operation} (h : numOf op = 10) : op = .unconstrainedPrices := by
  cases op <;> first
    | exact rfl
    | exact absurd h (Nat.ne_of_beq_eq_false rfl)
abbrev s_unconstrained_prices : Stmt := top 53
abbrev n_unconstrained_prices : List Str := ["planner", "arguments"]
theorem sc_unconstrained_prices : FnScope n_unconstrained_prices ["planner", "arguments"] (defScope s_unconstrained_prices) := ⟨rfl, rfl, rfl, by decide +kernel, rfl, by decide +kernel, by decide +kernel⟩
theorem ok_unconstrained_prices {f : Addr} {fd : FuncData} (F : Fun K "unconstrained_prices" "unconstrained_prices" s_unconstrained_prices f fd) (T : Txt K mg CB CC CP CS aS aR) (c_single_choice : Cal P w K mg base 5 "single_choice" (spSingleCh CP CB CC) []) (c_told_whole : Cal P w K mg base 1 "told_whole" (spTold CC) []) : FnOk P w K mg base CX0 6 f fd ["planner", "arguments"] (spOp CP CB 10) := by
  refine F.ok sc_unconstrained_prices (fun vs H Q E h => ?_) (fun cdv A outer s H vs Q E hr h => ?_)
  · obtain ⟨r, p, l, m, a, av, op, rfl, _⟩ := h
    rfl
  · obtain ⟨r, p, l, m, a, av, op, rfl, hn, hP, hG, ha, hav, k⟩ := h
    obtain rfl := inv_10 hn
    obtain rfl : av = [] := hav
    have em : mkt m (.unconstrainedPrices) = m := mkt_pure (by show 7 ≤ 10; decide)
    have h7 : 7 ≤ numOf (.unconstrainedPrices) := (by show 7 ≤ 10; decide)
    have hR := hP.rp
    refine ⟨_, (pss_one (ps_ret (pe_c c_told_whole hr (by decide) rfl (pa_cons (pe_c c_single_choice hr (by decide) rfl (pa_cons (pv 0) pa_nil)) pa_nil)))), ?_⟩
    refine ⟨_, rfl, _, m, rfl, hR, hG, fun H1 u s1 r1 => ?_⟩
    refine ⟨u, _, rfl, r1, ?_, fun H2 v s2 hv => post_told k h7 hP s1 s2 hv ?_⟩
    · show (List.map _ (m.blocks.map tbl)).length ≤ 1000
      rw [List.length_map, List.length_map]; have := hG.n5; omega
    · show Kv438Neutral.resultRow ⟨((m.totalRevenue m.unconstrainedPrices : Nat) : Int), m.unconstrainedPrices⟩ = _
      rw [uncT_is hG, unc_is hG]; rfl
theorem inv_11 {op : Operation} (h : numOf op = 11) : op = .orderingLoss := by
  cases op <;> first
    | exact rfl
    | exact absurd h (Nat.ne_of_beq_eq_false rfl)
abbrev s_ordering_loss : Stmt := top 54
abbrev n_ordering_loss : List Str := ["planner", "arguments"]
theorem sc_ordering_loss : FnScope n_ordering_loss ["planner", "arguments"] (defScope s_ordering_loss) := ⟨rfl, rfl, rfl, by decide +kernel, rfl, by decide +kernel, by decide +kernel⟩
theorem ok_ordering_loss {f : Addr} {fd : FuncData} (F : Fun K "ordering_loss" "ordering_loss" s_ordering_loss f fd) (T : Txt K mg CB CC CP CS aS aR) (c_best_choice : Cal P w K mg base 5 "best_choice" (spBestCh CP CB CC) []) (c_single_choice : Cal P w K mg base 5 "single_choice" (spSingleCh CP CB CC) []) : FnOk P w K mg base CX0 6 f fd ["planner", "arguments"] (spOp CP CB 11) := by
  refine F.ok sc_ordering_loss (fun vs H Q E h => ?_) (fun cdv A outer s H vs Q E hr h => ?_)
  · obtain ⟨r, p, l, m, a, av, op, rfl, _⟩ := h
    rfl
  · obtain ⟨r, p, l, m, a, av, op, rfl, hn, hP, hG, ha, hav, k⟩ := h
    obtain rfl := inv_11 hn
    obtain rfl : av = [] := hav
    have em : mkt m (.orderingLoss) = m := mkt_pure (by show 7 ≤ 11; decide)
    have h7 : 7 ≤ numOf (.orderingLoss) := (by show 7 ≤ 11; decide)
    have hR := hP.rp
    refine ⟨_, (pss_one (ps_ret (pe_lst (pa_cons (pe_op op_sub (pe_fld (pe_c c_single_choice hr (by decide) rfl (pa_cons (pv 0) pa_nil)) rfl) (pe_fld (pe_c c_best_choice hr (by decide) rfl (pa_cons (pv 0) pa_nil)) rfl)) pa_nil)))), ?_⟩
    refine ⟨_, rfl, _, m, rfl, hR, hG, fun H1 u s1 r1 => ?_⟩
    obtain ⟨x, dx, y, rfl, hx, hy⟩ := r1
    refine ⟨x, CC, dx, _, _, rfl, hx, T.clC, T.nCt, ch_total _ _, ?_⟩
    refine ⟨_, rfl, _, m, rfl, (hP.same s1).rp, hG, fun H2 u s2 r2 => ?_⟩
    obtain ⟨x2, dx2, y2, rfl, hx2, hy2⟩ := r2
    refine ⟨x2, CC, dx2, _, _, rfl, hx2, T.clC, T.nCt, ch_total _ _, _, _, rfl, rfl, (by show 1 ≤ sizeLine; decide), fun q nq => post_new k em hP (s1.trans s2) nq ?_⟩
    show _ = (Kv438Neutral.resultRow (.number (m.totalRevenue m.unconstrainedPrices - m.totalRevenue m.bestPrices))).map V.int
    rw [uncT_is hG, bestP_is hG]
    have le := loss_le hG
    show [V.int _] = [V.int _]
    rw [← Int.ofNat_sub le]; rfl
theorem inv_12 {op : Operation} (h : numOf op = 12) : ∃ (row : List Nat), op = .totalRevenue row := by
  cases op <;> first
    | exact ⟨_, rfl⟩
    | exact absurd h (Nat.ne_of_beq_eq_false rfl)
abbrev s_total_revenue : Stmt := top 55
abbrev n_total_revenue : List Str := ["planner", "arguments", "prices"]
theorem sc_total_revenue : FnScope n_total_revenue ["planner", "arguments"] (defScope s_total_revenue) := ⟨rfl, rfl, rfl, by decide +kernel, rfl, by decide +kernel, by decide +kernel⟩
theorem ok_total_revenue {f : Addr} {fd : FuncData} (F : Fun K "total_revenue" "total_revenue" s_total_revenue f fd) (T : Txt K mg CB CC CP CS aS aR) (c_is_price_list : Cal P w K mg base 1 "is_price_list" (spIsPrl CP CB) []) (c_revenue_tables : Cal P w K mg base 4 "revenue_tables" (spTbls CP CB tbl) []) (c_total_at : Cal P w K mg base 1 "total_at" spTotalAt []) : FnOk P w K mg base CX0 5 f fd ["planner", "arguments"] (spOp CP CB 12) := by
  refine F.ok sc_total_revenue (fun vs H Q E h => ?_) (fun cdv A outer s H vs Q E hr h => ?_)
  · obtain ⟨r, p, l, m, a, av, op, rfl, _⟩ := h
    rfl
  · obtain ⟨r, p, l, m, a, av, op, rfl, hn, hP, hG, ha, hav, k⟩ := h
    obtain ⟨row, rfl⟩ := inv_12 hn
    obtain ⟨d, rfl, hd, hdr, hdl⟩ : ∃ d, av = [.ref d] ∧ H d = some (.lst (nL row)) ∧ d ≠ r ∧ d ≠ l := hav
    have em : mkt m (.totalRevenue row) = m := mkt_pure (by show 7 ≤ 12; decide)
    have h7 : 7 ≤ numOf (.totalRevenue row) := (by show 7 ≤ 12; decide)
    have hR := hP.rp
    refine ⟨_, (pss_cons (ps_set (i := 2) sc_total_revenue.nd rfl (.inl rfl) (pe_ix ix_list (pv 1) pe_int (fun _ _ => rfl)))
      (pss_cons (ps_if (pt_not (pt_val (pe_c c_is_price_list hr (by decide) rfl (pa_cons (pv 0) (pa_cons (pv 2) pa_nil))))) (pss_one (ps_ret (pe_lst (pa_cons (pe_gc rfl T.cOUT_OF_RANGE) pa_nil)))) pss_nil)
      (pss_one (ps_ret (pe_lst (pa_cons (pe_c c_total_at hr (by decide) rfl (pa_cons (pe_c c_revenue_tables hr (by decide) rfl (pa_cons (pv 0) pa_nil)) (pa_cons (pv 2) pa_nil))) pa_nil)))))), ?_⟩
    refine ⟨_, rfl, a, _, _, _, rfl, rfl, SqL.of ha, at_of (j := 0) rfl rfl, ?_⟩
    refine ⟨_, rfl, _, rfl, _, d, row, m, rfl, hR, hd, _, rfl, ?_⟩
    refine ite2 (fun hc => ?_) (fun hc => ?_)
    · have e := prl_not (not_true hc)
      refine ⟨(by show 1 ≤ sizeLine; decide), fun q nq => post_new k em hP (Same.refl _) nq ?_⟩
      show _ = (Kv438Neutral.resultRow (if m.isPriceList row = false then ((⟨m⟩ : Kv438.Planner), Response.error (-22)) else _).2).map V.int
      rw [if_pos e]; rfl
    have e := not_false hc
    have hpr := prl_iff.mp e
    refine ⟨_, rfl, _, m, rfl, hR, hG, fun H1 u s1 r1 => ?_⟩
    refine ⟨_, rfl, u, _, _, row, rfl, monoL monoNs _ _ _ _ (frs_sub _ _) r1, ⟨d, rfl, s1 _ _ hd⟩, ?_, prl_in (tbls_len hG) hpr, fun H2 s2 => ?_⟩
    · rw [List.length_map]; have := hG.n5; omega
    · refine ⟨(by show 1 ≤ sizeLine; decide), fun q nq => post_new k em hP (s1.trans s2) nq ?_⟩
      show _ = (Kv438Neutral.resultRow (if m.isPriceList row = false then ((⟨m⟩ : Kv438.Planner), Response.error (-22)) else (⟨m⟩, .number (m.totalRevenue row))).2).map V.int
      rw [if_neg (by rw [e]; decide), totR hG hpr]; rfl
theorem inv_14 {op : Operation} (h : numOf op = 14) : ∃ (row : List Nat), op = .totalAttendance row := by
  cases op <;> first
    | exact ⟨_, rfl⟩
    | exact absurd h (Nat.ne_of_beq_eq_false rfl)
abbrev s_total_attendance : Stmt := top 57
abbrev n_total_attendance : List Str := ["planner", "arguments", "prices"]
theorem sc_total_attendance : FnScope n_total_attendance ["planner", "arguments"] (defScope s_total_attendance) := ⟨rfl, rfl, rfl, by decide +kernel, rfl, by decide +kernel, by decide +kernel⟩
theorem ok_total_attendance {f : Addr} {fd : FuncData} (F : Fun K "total_attendance" "total_attendance" s_total_attendance f fd) (T : Txt K mg CB CC CP CS aS aR) (c_attendance_tables : Cal P w K mg base 3 "attendance_tables" (spTbls CP CB atb) []) (c_is_price_list : Cal P w K mg base 1 "is_price_list" (spIsPrl CP CB) []) (c_total_at : Cal P w K mg base 1 "total_at" spTotalAt []) : FnOk P w K mg base CX0 4 f fd ["planner", "arguments"] (spOp CP CB 14) := by
  refine F.ok sc_total_attendance (fun vs H Q E h => ?_) (fun cdv A outer s H vs Q E hr h => ?_)
  · obtain ⟨r, p, l, m, a, av, op, rfl, _⟩ := h
    rfl
  · obtain ⟨r, p, l, m, a, av, op, rfl, hn, hP, hG, ha, hav, k⟩ := h
    obtain ⟨row, rfl⟩ := inv_14 hn
    obtain ⟨d, rfl, hd, hdr, hdl⟩ : ∃ d, av = [.ref d] ∧ H d = some (.lst (nL row)) ∧ d ≠ r ∧ d ≠ l := hav
    have em : mkt m (.totalAttendance row) = m := mkt_pure (by show 7 ≤ 14; decide)
    have h7 : 7 ≤ numOf (.totalAttendance row) := (by show 7 ≤ 14; decide)
    have hR := hP.rp
    refine ⟨_, (pss_cons (ps_set (i := 2) sc_total_attendance.nd rfl (.inl rfl) (pe_ix ix_list (pv 1) pe_int (fun _ _ => rfl)))
      (pss_cons (ps_if (pt_not (pt_val (pe_c c_is_price_list hr (by decide) rfl (pa_cons (pv 0) (pa_cons (pv 2) pa_nil))))) (pss_one (ps_ret (pe_lst (pa_cons (pe_gc rfl T.cOUT_OF_RANGE) pa_nil)))) pss_nil)
      (pss_one (ps_ret (pe_lst (pa_cons (pe_c c_total_at hr (by decide) rfl (pa_cons (pe_c c_attendance_tables hr (by decide) rfl (pa_cons (pv 0) pa_nil)) (pa_cons (pv 2) pa_nil))) pa_nil)))))), ?_⟩
    refine ⟨_, rfl, a, _, _, _, rfl, rfl, SqL.of ha, at_of (j := 0) rfl rfl, ?_⟩
    refine ⟨_, rfl, _, rfl, _, d, row, m, rfl, hR, hd, _, rfl, ?_⟩
    refine ite2 (fun hc => ?_) (fun hc => ?_)
    · have e := prl_not (not_true hc)
      refine ⟨(by show 1 ≤ sizeLine; decide), fun q nq => post_new k em hP (Same.refl _) nq ?_⟩
      show _ = (Kv438Neutral.resultRow (if m.isPriceList row = false then ((⟨m⟩ : Kv438.Planner), Response.error (-22)) else _).2).map V.int
      rw [if_pos e]; rfl
    have e := not_false hc
    have hpr := prl_iff.mp e
    refine ⟨_, rfl, _, m, rfl, hR, hG, fun H1 u s1 r1 => ?_⟩
    refine ⟨_, rfl, u, _, _, row, rfl, monoL monoNs _ _ _ _ (frs_sub _ _) r1, ⟨d, rfl, s1 _ _ hd⟩, ?_, prl_in (atbs_len hG) hpr, fun H2 s2 => ?_⟩
    · rw [List.length_map]; have := hG.n5; omega
    · refine ⟨(by show 1 ≤ sizeLine; decide), fun q nq => post_new k em hP (s1.trans s2) nq ?_⟩
      show _ = (Kv438Neutral.resultRow (if m.isPriceList row = false then ((⟨m⟩ : Kv438.Planner), Response.error (-22)) else (⟨m⟩, .number (m.totalAttendance row))).2).map V.int
      rw [if_neg (by rw [e]; decide), totA hG hpr]; rfl
theorem inv_13 {op : Operation} (h : numOf op = 13) : ∃ (row : List Nat), op = .isOrdered row := by
  cases op <;> first
    | exact ⟨_, rfl⟩
    | exact absurd h (Nat.ne_of_beq_eq_false rfl)
abbrev s_is_ordered : Stmt := top 56
abbrev n_is_ordered : List Str := ["planner", "arguments", "prices"]
theorem sc_is_ordered : FnScope n_is_ordered ["planner", "arguments"] (defScope s_is_ordered) := ⟨rfl, rfl, rfl, by decide +kernel, rfl, by decide +kernel, by decide +kernel⟩
theorem ok_is_ordered {f : Addr} {fd : FuncData} (F : Fun K "is_ordered" "is_ordered" s_is_ordered f fd) (T : Txt K mg CB CC CP CS aS aR) (c_is_price_list : Cal P w K mg base 1 "is_price_list" (spIsPrl CP CB) []) (c_keeps_order : Cal P w K mg base 2 "keeps_order" spKeeps []) : FnOk P w K mg base CX0 3 f fd ["planner", "arguments"] (spOp CP CB 13) := by
  refine F.ok sc_is_ordered (fun vs H Q E h => ?_) (fun cdv A outer s H vs Q E hr h => ?_)
  · obtain ⟨r, p, l, m, a, av, op, rfl, _⟩ := h
    rfl
  · obtain ⟨r, p, l, m, a, av, op, rfl, hn, hP, hG, ha, hav, k⟩ := h
    obtain ⟨row, rfl⟩ := inv_13 hn
    obtain ⟨d, rfl, hd, hdr, hdl⟩ : ∃ d, av = [.ref d] ∧ H d = some (.lst (nL row)) ∧ d ≠ r ∧ d ≠ l := hav
    have em : mkt m (.isOrdered row) = m := mkt_pure (by show 7 ≤ 13; decide)
    have h7 : 7 ≤ numOf (.isOrdered row) := (by show 7 ≤ 13; decide)
    have hR := hP.rp
    refine ⟨_, (pss_cons (ps_set (i := 2) sc_is_ordered.nd rfl (.inl rfl) (pe_ix ix_list (pv 1) pe_int (fun _ _ => rfl)))
      (pss_cons (ps_if (pt_not (pt_val (pe_c c_is_price_list hr (by decide) rfl (pa_cons (pv 0) (pa_cons (pv 2) pa_nil))))) (pss_one (ps_ret (pe_lst (pa_cons (pe_gc rfl T.cOUT_OF_RANGE) pa_nil)))) pss_nil)
      (pss_one (ps_ret (pe_lst (pa_cons (pe_ifExp (pt_val (pe_c c_keeps_order hr (by decide) rfl (pa_cons (pv 2) (pa_cons (pe_fld (pv 0) rfl) pa_nil)))) pe_int pe_int) pa_nil)))))), ?_⟩
    refine ⟨_, rfl, a, _, _, _, rfl, rfl, SqL.of ha, at_of (j := 0) rfl rfl, ?_⟩
    refine ⟨_, rfl, _, rfl, _, d, row, m, rfl, hR, hd, _, rfl, ?_⟩
    refine ite2 (fun hc => ?_) (fun hc => ?_)
    · have e := prl_not (not_true hc)
      refine ⟨(by show 1 ≤ sizeLine; decide), fun q nq => post_new k em hP (Same.refl _) nq ?_⟩
      show _ = (Kv438Neutral.resultRow (if m.isPriceList row = false then ((⟨m⟩ : Kv438.Planner), Response.error (-22)) else _).2).map V.int
      rw [if_pos e]; rfl
    have e := not_false hc
    have hpr := prl_iff.mp e
    obtain ⟨dx, bs, g1, _⟩ := id hP
    refine ⟨_, rfl, _, rfl, p, CP, dx, _, _, rfl, g1, T.clP, T.nPs, pl_step _ _ _, d, row, m.maxStep, rfl, hd, ?_, _, rfl, ?_⟩
    · rw [hpr.1]; have := hG.n5; omega
    have fin : ∀ (b : Bool) (q : Addr), keeps row m.maxStep = b → H q = none → Q (.ref q) (upd H q (.lst [V.int (if b = true then 1 else 0)])) := fun b q eb nq => post_new k em hP (Same.refl _) nq (by
      show _ = (Kv438Neutral.resultRow (if m.isPriceList row = false then ((⟨m⟩ : Kv438.Planner), Response.error (-22)) else (⟨m⟩, .number (Kv438.flag (m.isOrdered row)))).2).map V.int
      rw [if_neg (c := m.isPriceList row = false) (by rw [e]; decide), isOrd_is hpr, eb]
      cases b <;> rfl)
    refine ite2 (fun h => ?_) (fun h => ?_)
    · exact ⟨(by show 1 ≤ sizeLine; decide), fun q nq => fin true q h nq⟩
    · exact ⟨(by show 1 ≤ sizeLine; decide), fun q nq => fin false q (Bool.eq_false_iff.mpr h) nq⟩
theorem inv_15 {op : Operation} (h : numOf op = 15) : op = .countOrdered := by
  cases op <;> first
    | exact rfl
    | exact absurd h (Nat.ne_of_beq_eq_false rfl)
abbrev s_count_ordered : Stmt := top 58
abbrev n_count_ordered : List Str := ["planner", "arguments"]
theorem sc_count_ordered : FnScope n_count_ordered ["planner", "arguments"] (defScope s_count_ordered) := ⟨rfl, rfl, rfl, by decide +kernel, rfl, by decide +kernel, by decide +kernel⟩
theorem ok_count_ordered {f : Addr} {fd : FuncData} (F : Fun K "count_ordered" "count_ordered" s_count_ordered f fd) (T : Txt K mg CB CC CP CS aS aR) (c_all_ordered : Cal P w K mg base 4 "all_ordered" (spAllOrd CP CB) []) : FnOk P w K mg base CX0 5 f fd ["planner", "arguments"] (spOp CP CB 15) := by
  refine F.ok sc_count_ordered (fun vs H Q E h => ?_) (fun cdv A outer s H vs Q E hr h => ?_)
  · obtain ⟨r, p, l, m, a, av, op, rfl, _⟩ := h
    rfl
  · obtain ⟨r, p, l, m, a, av, op, rfl, hn, hP, hG, ha, hav, k⟩ := h
    obtain rfl := inv_15 hn
    obtain rfl : av = [] := hav
    have em : mkt m (.countOrdered) = m := mkt_pure (by show 7 ≤ 15; decide)
    have h7 : 7 ≤ numOf (.countOrdered) := (by show 7 ≤ 15; decide)
    have hR := hP.rp
    refine ⟨_, (pss_one (ps_ret (pe_lst (pa_cons (pe_callB call_len_seq rfl T.len PySem.boot_len (pa_cons (pe_c c_all_ordered hr (by decide) rfl (pa_cons (pv 0) pa_nil)) pa_nil)) pa_nil)))), ?_⟩
    refine ⟨_, rfl, _, m, rfl, hR, hG, fun H1 u s1 r1 => ?_⟩
    obtain ⟨x, us, rfl, hx, hA⟩ := r1
    refine ⟨x, us, rfl, .inl (SqL.of (frs_sub _ _ _ _ hx)), (by show 1 ≤ sizeLine; decide), fun q nq => post_new k em hP s1 nq ?_⟩
    show _ = (Kv438Neutral.resultRow (.number m.orderedPrices.length)).map V.int
    rw [ord_is, ← hA.len]; rfl
theorem ordL_most {m : Market} (hG : GM m) : (ordL m.maxPrice m.maxStep m.blocks.length).length ≤ 1000000 := by
  have h1 := ordL_count (mp := m.maxPrice) (ms := m.maxStep) m.blocks.length
  have h2 := pow_small hG.p7 hG.n5
  omega
theorem six_nat {i n : Nat} (h : i < n) : seqIndex? (i : Int) n = some i := by
  unfold seqIndex?
  rw [if_neg (c := (i : Int) < 0) (by omega)]
  have h2 : ((0 : Int) ≤ (i : Int) && (i : Int) < (n : Int)) = true := by
    rw [Bool.and_eq_true, decide_eq_true_eq, decide_eq_true_eq]
    omega
  rw [if_pos h2, Int.toNat_natCast]
theorem rep_at {c i p : Nat} (h : i < c) : (List.replicate c p).getD i 0 = p := by
  rw [List.getD_eq_getElem?_getD, List.getElem?_replicate, if_pos h, Option.getD_some]
theorem erase_map {α β : Type} (f : α → β) : ∀ (l : List α) (i : Nat), (l.map f).eraseIdx i = (l.eraseIdx i).map f
  | [], _ => rfl
  | _ :: _, 0 => rfl
  | a :: l, i + 1 => congrArg (f a :: ·) (erase_map f l i)
theorem fm_mem {g : List Nat → Nat} {l : List (List Nat)} (h : l ≠ []) : Kv438.firstMaximum g l ∈ l := by
  have h1 := fb_mem (l := l.map fun x => (⟨g x, x⟩ : Ch)) fun e => h (List.map_eq_nil_iff.mp e)
  rw [fb_fm g h] at h1
  obtain ⟨x, hx, e⟩ := List.mem_map.mp h1
  have e2 := congrArg Ch.prices e
  rw [← show x = Kv438.firstMaximum g l from e2]
  exact hx
theorem inv_16 {op : Operation} (h : numOf op = 16) : ∃ (i : Nat), ∃ (pr : Nat), op = .bestWithPrice i pr := by
  cases op <;> first
    | exact ⟨_, _, rfl⟩
    | exact absurd h (Nat.ne_of_beq_eq_false rfl)
abbrev s_best_with_price : Stmt := top 59
abbrev n_best_with_price : List Str := ["planner", "arguments", "block", "price", "refused", "lists", "prices"]
theorem sc_best_with_price : FnScope n_best_with_price ["planner", "arguments"] (defScope s_best_with_price) := ⟨rfl, rfl, rfl, by decide +kernel, rfl, by decide +kernel, by decide +kernel⟩
theorem ok_best_with_price {f : Addr} {fd : FuncData} (F : Fun K "best_with_price" "best_with_price" s_best_with_price f fd) (T : Txt K mg CB CC CP CS aS aR) (c_all_ordered : Cal P w K mg base 4 "all_ordered" (spAllOrd CP CB) []) (c_best_listed : Cal P w K mg base 3 "best_listed" (spListed CC) []) (c_refusal_at : Cal P w K mg base 2 "refusal_at" (spRefusal CP CB) []) (c_revenue_tables : Cal P w K mg base 4 "revenue_tables" (spTbls CP CB tbl) []) (c_told_whole : Cal P w K mg base 1 "told_whole" (spTold CC) []) : FnOk P w K mg base CX0 5 f fd ["planner", "arguments"] (spOp CP CB 16) := by
  refine F.ok sc_best_with_price (fun vs H Q E h => ?_) (fun cdv A outer s H vs Q E hr h => ?_)
  · obtain ⟨r, p, l, m, a, av, op, rfl, _⟩ := h
    rfl
  · obtain ⟨r, p, l, m, a, av, op, rfl, hn, hP, hG, ha, hav, k⟩ := h
    obtain ⟨i, pr, rfl⟩ := inv_16 hn
    obtain rfl : av = [nV i, nV pr] := hav
    have em : mkt m (.bestWithPrice i pr) = m := mkt_pure (by show 7 ≤ 16; decide)
    have h7 : 7 ≤ numOf (.bestWithPrice i pr) := (by show 7 ≤ 16; decide)
    have hR := hP.rp
    refine ⟨_, (pss_cons (ps_set (i := 2) sc_best_with_price.nd rfl (.inr rfl) (pe_ix ix_list (pv 1) pe_int (fun _ _ => rfl)))
      (pss_cons (ps_set (i := 3) sc_best_with_price.nd rfl (.inr rfl) (pe_ix ix_list (pv 1) pe_int (fun _ _ => rfl)))
      (pss_cons (ps_set (i := 4) sc_best_with_price.nd rfl (.inl rfl) (pe_c c_refusal_at hr (by decide) rfl (pa_cons (pv 0) (pa_cons (pv 2) (pa_cons (pv 3) pa_nil)))))
      (pss_cons (ps_if (pt_truth (pv 4) (by intro _; rfl)) (pss_one (ps_ret (pv 4))) pss_nil)
      (pss_cons (ps_setLc (i := 5) (own := [("prices", 6)]) (g := gName 6) (tt := tTest (tOp rEq (tOp (rIxL K) (tVar 6) (tVar 2)) (tVar 3))) rfl sc_best_with_price.nd rfl rfl (sw_true rfl rfl rfl (by decide +kernel)) (pi_list (pe_c c_all_ordered hr (by decide) rfl (pa_cons (pv 0) pa_nil))) (blkOk_by (own := [("prices", 6)]) (N := n_best_with_price) (sc := defScope s_best_with_price) (by decide +kernel)) (fun _ _ _ _ _ => (pg_name (i := 6) sc_best_with_price.nd rfl (.inl rfl))) (fun _ _ _ _ _ => (pts_one (pt_cmpR op_eq (pe_ix ix_list (pv 6) (pv 2) (fun _ _ => rfl)) (pv 3) (nomark _)))) (fun _ _ _ _ _ => (pv 6)))
      (pss_one (ps_ret (pe_c c_told_whole hr (by decide) rfl (pa_cons (pe_c c_best_listed hr (by decide) rfl (pa_cons (pe_c c_revenue_tables hr (by decide) rfl (pa_cons (pv 0) pa_nil)) (pa_cons (pv 5) pa_nil))) pa_nil))))))))), ?_⟩
    refine ⟨_, rfl, a, _, _, _, rfl, rfl, SqL.of ha, at_of (j := 0) rfl rfl, ?_⟩
    refine ⟨_, rfl, a, _, _, _, rfl, rfl, SqL.of ha, at_of (j := 1) rfl rfl, ?_⟩
    refine ⟨_, rfl, _, rfl, _, rfl, _, i, pr, m, rfl, hR, fun H1 u s1 hu => ?_⟩
    obtain ⟨q0, e0, hq0⟩ := id hu
    subst e0
    refine ⟨_, rfl, _, .inl ⟨_, SqL.of (frs_sub _ _ _ _ hq0), rfl⟩, ?_⟩
    refine ite2 (fun hc => ?_) (fun hc => ?_)
    · exact ⟨_, rfl, post_ref k h7 hP s1 hu (emp_ref (b := true) hc) (X := (⟨m⟩, Kv438.bestResponse m (m.orderedPrices.filter fun prices => prices.getD i 0 == pr))) rfl⟩
    have h0 := emp_ref' hc
    obtain ⟨hi, hpr⟩ := refL_nil h0
    refine ⟨_, rfl, _, m, rfl, (hP.same s1).rp, hG, fun H2 u s2 r2 => ?_⟩
    obtain ⟨xx, us, rfl, hx, hA⟩ := r2
    have hx2 := frs_sub _ _ _ _ hx
    have hL : ∀ L ∈ ordL m.maxPrice m.maxStep m.blocks.length, Prl m L := fun L hL => ordL_prl hL
    refine ⟨xx, rfl, ⟨_, SqL.of hx2⟩, fun D hD => ?_⟩
    refine lc_old (R := RNs) walk_list ((ordL m.maxPrice m.maxStep m.blocks.length).map fun L => if (L.getD i 0 == pr) = true then some L else none) (by rw [List.length_map]; exact hA.len.symm) (by rw [hA.len]; exact ordL_most hG) hD monoNs (fun H' s3 => SqL.of (s3 _ _ hx2)) ?_ fun H3 s3 r3 => ?_
    · rintro n y H4 H5 oy ho s4 ⟨rfl, hy⟩ Qs Qn f1 f2
      obtain ⟨L, hL1, hrL⟩ := hA.at1 hy
      obtain ⟨c, rfl, hc1⟩ := id hrL
      have hc2 := s4 _ _ (frs_sub _ _ _ _ hc1)
      rw [List.getElem?_map, hL1] at ho
      have eo : (if (L.getD i 0 == pr) = true then some L else none) = oy := Option.some.inj ho
      have hp1 := hL L (List.mem_of_getElem? hL1)
      have hil : i < L.length := by rw [hp1.1]; exact hi
      refine ⟨rfl, _, rfl, _, rfl, c, _, _, _, rfl, rfl, SqL.of hc2, atI_nat (nL_at (at_lt hil)), _, rfl, rfl, _, rfl, ?_⟩
      have s5 : Same H5 H5 := Same.refl _
      have ed : decide (V.int ((L.getD i 0 : Nat) : Int) = nV pr) = (L.getD i 0 == pr) := by
        rw [Bool.eq_iff_iff, decide_eq_true_eq, beq_iff_eq]
        exact ⟨fun z => Int.ofNat.inj (V.int.inj z), fun z => by rw [z]⟩
      refine ite2 (fun h => ?_) (fun h => ?_)
      · exact ⟨_, rfl, f1 L _ _ (by rw [← eo]; exact if_pos (ed.symm.trans h)) s5 ⟨c, rfl, frs_sub _ _ _ _ hc1⟩⟩
      · exact f2 _ (by rw [← eo]; exact if_neg (fun z => h (ed.trans z))) s5
    rw [fm_filter] at r3
    have hne : ((ordL m.maxPrice m.maxStep m.blocks.length).filter fun L => L.getD i 0 == pr) ≠ [] := List.ne_nil_of_mem (List.mem_filter.mpr ⟨rep_mem hpr _, by rw [rep_at hi]; exact beq_self_eq_true _⟩)
    have sA := s1.trans (s2.trans s3)
    refine ⟨_, rfl, _, m, rfl, (hP.same sA).rp, hG, fun H6 u6 s6 r6 => ?_⟩
    refine ⟨_, rfl, u6, .ref D, _, _, rfl, monoL monoNs _ _ _ _ (frs_sub _ _) r6, monoL monoNs _ _ _ _ s6 r3, hne, ?_, ?_, fun L hl => prl_in (tbls_len hG) (hL L (List.mem_filter.mp hl).1), fun H7 c7 s7 r7 => ?_⟩
    · exact Nat.le_trans (List.length_filter_le _ _) (ordL_most hG)
    · rw [List.length_map]; have := hG.n5; omega
    refine ⟨c7, _, rfl, r7, ?_, fun H8 v8 s8 hv => post_told k h7 hP (sA.trans (s6.trans s7)) s8 hv ?_⟩
    · have := bestOf_is hG hne fun L hl => hL L (List.mem_filter.mp hl).1
      rw [this]
      have h2 : Kv438.firstMaximum m.totalRevenue ((ordL m.maxPrice m.maxStep m.blocks.length).filter fun L => (L.getD i 0 == pr)) ∈ ((ordL m.maxPrice m.maxStep m.blocks.length).filter fun L => (L.getD i 0 == pr)) := fm_mem hne
      have h3 := (hL _ (List.mem_filter.mp h2).1).1
      show (Kv438.firstMaximum m.totalRevenue _).length ≤ 1000
      have := hG.n5
      omega
    · show Kv438Neutral.resultRow (gate m i pr (⟨m⟩, Kv438.bestResponse m (m.orderedPrices.filter fun prices => prices.getD i 0 == pr))).2 = _
      rw [gate_yes h0, ord_is]
      show Kv438Neutral.resultRow (Kv438.bestResponse m _) = _
      rw [resp_is hG hne fun L hl => hL L (List.mem_filter.mp hl).1]; rfl
theorem inv_17 {op : Operation} (h : numOf op = 17) : ∃ (x : Nat), op = .bestWithAttendance x := by
  cases op <;> first
    | exact ⟨_, rfl⟩
    | exact absurd h (Nat.ne_of_beq_eq_false rfl)
abbrev s_best_with_attendance : Stmt := top 60
abbrev n_best_with_attendance : List Str := ["planner", "arguments", "min_attendance", "tables", "lists", "prices"]
theorem sc_best_with_attendance : FnScope n_best_with_attendance ["planner", "arguments"] (defScope s_best_with_attendance) := ⟨rfl, rfl, rfl, by decide +kernel, rfl, by decide +kernel, by decide +kernel⟩
theorem ok_best_with_attendance {f : Addr} {fd : FuncData} (F : Fun K "best_with_attendance" "best_with_attendance" s_best_with_attendance f fd) (T : Txt K mg CB CC CP CS aS aR) (c_all_ordered : Cal P w K mg base 4 "all_ordered" (spAllOrd CP CB) []) (c_attendance_tables : Cal P w K mg base 3 "attendance_tables" (spTbls CP CB atb) []) (c_best_listed : Cal P w K mg base 3 "best_listed" (spListed CC) []) (c_revenue_tables : Cal P w K mg base 4 "revenue_tables" (spTbls CP CB tbl) []) (c_told_whole : Cal P w K mg base 1 "told_whole" (spTold CC) []) (c_total_at : Cal P w K mg base 1 "total_at" spTotalAt []) : FnOk P w K mg base CX0 5 f fd ["planner", "arguments"] (spOp CP CB 17) := by
  refine F.ok sc_best_with_attendance (fun vs H Q E h => ?_) (fun cdv A outer s H vs Q E hr h => ?_)
  · obtain ⟨r, p, l, m, a, av, op, rfl, _⟩ := h
    rfl
  · obtain ⟨r, p, l, m, a, av, op, rfl, hn, hP, hG, ha, hav, k⟩ := h
    obtain ⟨x, rfl⟩ := inv_17 hn
    obtain rfl : av = [nV x] := hav
    have em : mkt m (.bestWithAttendance x) = m := mkt_pure (by show 7 ≤ 17; decide)
    have h7 : 7 ≤ numOf (.bestWithAttendance x) := (by show 7 ≤ 17; decide)
    have hR := hP.rp
    refine ⟨_, (pss_cons (ps_set (i := 2) sc_best_with_attendance.nd rfl (.inr rfl) (pe_ix ix_list (pv 1) pe_int (fun _ _ => rfl)))
      (pss_cons (ps_set (i := 3) sc_best_with_attendance.nd rfl (.inr rfl) (pe_c c_attendance_tables hr (by decide) rfl (pa_cons (pv 0) pa_nil)))
      (pss_cons (ps_setLc (i := 4) (own := [("prices", 5)]) (g := gName 5) rfl sc_best_with_attendance.nd rfl rfl (sw_true rfl rfl rfl (by decide +kernel)) (pi_list (pe_c c_all_ordered hr (by decide) rfl (pa_cons (pv 0) pa_nil))) (blkOk_by (own := [("prices", 5)]) (N := n_best_with_attendance) (sc := defScope s_best_with_attendance) (by decide +kernel)) (fun _ _ _ _ _ => (pg_name (i := 5) sc_best_with_attendance.nd rfl (.inl rfl))) (fun _ _ _ _ _ => (pts_one (pt_cmpR op_ge (pe_c c_total_at hr (by decide) rfl (pa_cons (pv 3) (pa_cons (pv 5) pa_nil))) (pv 2) (nomark _)))) (fun _ _ _ _ _ => (pv 5)))
      (pss_cons (ps_if (pt_not (pt_truth (pv 4) (by intro _; rfl))) (pss_one (ps_ret (pe_lst (pa_cons (pe_gc rfl T.cNO_PRICE_LIST) pa_nil)))) pss_nil)
      (pss_one (ps_ret (pe_c c_told_whole hr (by decide) rfl (pa_cons (pe_c c_best_listed hr (by decide) rfl (pa_cons (pe_c c_revenue_tables hr (by decide) rfl (pa_cons (pv 0) pa_nil)) (pa_cons (pv 4) pa_nil))) pa_nil)))))))), ?_⟩
    refine ⟨_, rfl, a, _, _, _, rfl, rfl, SqL.of ha, at_of (j := 0) rfl rfl, ?_⟩
    refine ⟨_, rfl, _, m, rfl, hR, hG, fun H1 u1 s1 r1 => ?_⟩
    refine ⟨_, rfl, _, m, rfl, (hP.same s1).rp, hG, fun H2 u s2 r2 => ?_⟩
    obtain ⟨xx, us, rfl, hx, hA⟩ := r2
    have hx2 := frs_sub _ _ _ _ hx
    have hL : ∀ L ∈ ordL m.maxPrice m.maxStep m.blocks.length, Prl m L := fun L hL => ordL_prl hL
    refine ⟨xx, rfl, ⟨_, SqL.of hx2⟩, fun D hD => ?_⟩
    refine lc_old (R := RNs) walk_list ((ordL m.maxPrice m.maxStep m.blocks.length).map fun L => if decide (x ≤ totalAt (m.blocks.map atb) L) = true then some L else none) (by rw [List.length_map]; exact hA.len.symm) (by rw [hA.len]; exact ordL_most hG) hD monoNs (fun H' s3 => SqL.of (s3 _ _ hx2)) ?_ fun H3 s3 r3 => ?_
    · rintro n y H4 H5 oy ho s4 ⟨rfl, hy⟩ Qs Qn f1 f2
      obtain ⟨L, hL1, hrL⟩ := hA.at1 hy
      obtain ⟨c, rfl, hc1⟩ := id hrL
      have hc2 := s4 _ _ (frs_sub _ _ _ _ hc1)
      rw [List.getElem?_map, hL1] at ho
      have eo : (if decide (x ≤ totalAt (m.blocks.map atb) L) = true then some L else none) = oy := Option.some.inj ho
      have hp1 := hL L (List.mem_of_getElem? hL1)
      have rt : RL RNs H5 u1 (m.blocks.map atb) := monoL monoNs _ _ _ _ ((frs_sub _ _).trans (s2.trans s4)) r1
      refine ⟨rfl, _, rfl, _, rfl, u1, _, _, L, rfl, rt, ⟨c, rfl, hc2⟩, ?_, prl_in (atbs_len hG) hp1, fun H6 s5 => ?_⟩
      · rw [List.length_map]; have := hG.n5; omega
      refine ⟨_, rfl, _, _, rfl, rfl, _, rfl, ?_⟩
      have ed : decide (((totalAt (m.blocks.map atb) L : Nat) : Int) ≥ (x : Int)) = decide (x ≤ totalAt (m.blocks.map atb) L) := decide_eq_decide.mpr (by omega)
      refine ite2 (fun h => ?_) (fun h => ?_)
      · exact ⟨_, rfl, f1 L _ _ (by rw [← eo]; exact if_pos (ed.symm.trans h)) s5 ⟨c, rfl, frs_sub _ _ _ _ hc1⟩⟩
      · exact f2 _ (by rw [← eo]; exact if_neg (fun z => h (ed.trans z))) s5
    rw [fm_filter] at r3
    have sA := s1.trans (s2.trans s3)
    have ef : (m.orderedPrices.filter fun prices => decide (x ≤ m.totalAttendance prices)) = (ordL m.maxPrice m.maxStep m.blocks.length).filter fun L => decide (x ≤ totalAt (m.blocks.map atb) L) := by
      rw [ord_is]
      exact List.filter_congr fun L hl => by rw [totA hG (hL L hl)]
    obtain ⟨D0, us3, eD, hD3, hA3⟩ := id r3
    cases eD
    refine ⟨_, rfl, _, .inl ⟨_, SqL.of hD3, rfl⟩, ?_⟩
    refine ite2 (fun hc => ?_) (fun hc => ?_)
    · have e0 : (ordL m.maxPrice m.maxStep m.blocks.length).filter (fun L => decide (x ≤ totalAt (m.blocks.map atb) L)) = [] := by
        have h1 := hA3.len
        have h2 : us3 = [] := by
          cases us3 with
          | nil => rfl
          | cons y z => exact absurd hc (by simp)
        rw [h2] at h1
        exact List.eq_nil_of_length_eq_zero h1.symm
      refine ⟨(by show 1 ≤ sizeLine; decide), fun q nq => post_new k em hP sA nq ?_⟩
      show _ = (Kv438Neutral.resultRow (Kv438.bestResponse m (m.orderedPrices.filter fun prices => decide (x ≤ m.totalAttendance prices)))).map V.int
      rw [ef, e0]; rfl
    have hne : ((ordL m.maxPrice m.maxStep m.blocks.length).filter fun L => decide (x ≤ totalAt (m.blocks.map atb) L)) ≠ [] := fun e0 => by
      rw [e0] at hA3
      cases hA3
      exact hc rfl
    refine ⟨_, rfl, _, m, rfl, (hP.same sA).rp, hG, fun H6 u6 s6 r6 => ?_⟩
    refine ⟨_, rfl, u6, .ref D, _, _, rfl, monoL monoNs _ _ _ _ (frs_sub _ _) r6, monoL monoNs _ _ _ _ s6 r3, hne, ?_, ?_, fun L hl => prl_in (tbls_len hG) (hL L (List.mem_filter.mp hl).1), fun H7 c7 s7 r7 => ?_⟩
    · exact Nat.le_trans (List.length_filter_le _ _) (ordL_most hG)
    · rw [List.length_map]; have := hG.n5; omega
    refine ⟨c7, _, rfl, r7, ?_, fun H8 v8 s8 hv => post_told k h7 hP (sA.trans (s6.trans s7)) s8 hv ?_⟩
    · have := bestOf_is hG hne fun L hl => hL L (List.mem_filter.mp hl).1
      rw [this]
      have h2 : Kv438.firstMaximum m.totalRevenue ((ordL m.maxPrice m.maxStep m.blocks.length).filter fun L => decide (x ≤ totalAt (m.blocks.map atb) L)) ∈ ((ordL m.maxPrice m.maxStep m.blocks.length).filter fun L => decide (x ≤ totalAt (m.blocks.map atb) L)) := fm_mem hne
      have h3 := (hL _ (List.mem_filter.mp h2).1).1
      show (Kv438.firstMaximum m.totalRevenue _).length ≤ 1000
      have := hG.n5
      omega
    · show Kv438Neutral.resultRow (Kv438.bestResponse m (m.orderedPrices.filter fun prices => decide (x ≤ m.totalAttendance prices))) = _
      rw [ef, resp_is hG hne fun L hl => hL L (List.mem_filter.mp hl).1]; rfl
theorem inv_18 {op : Operation} (h : numOf op = 18) : ∃ (i : Nat), op = .bestSinglePrice i := by
  cases op <;> first
    | exact ⟨_, rfl⟩
    | exact absurd h (Nat.ne_of_beq_eq_false rfl)
abbrev s_best_single_price : Stmt := top 61
abbrev n_best_single_price : List Str := ["planner", "arguments", "block", "single"]
theorem sc_best_single_price : FnScope n_best_single_price ["planner", "arguments"] (defScope s_best_single_price) := ⟨rfl, rfl, rfl, by decide +kernel, rfl, by decide +kernel, by decide +kernel⟩
theorem ok_best_single_price {f : Addr} {fd : FuncData} (F : Fun K "best_single_price" "best_single_price" s_best_single_price f fd) (T : Txt K mg CB CC CP CS aS aR) (c_best_singles : Cal P w K mg base 3 "best_singles" (spSingles CC) []) (c_has_block : Cal P w K mg base 1 "has_block" (spHas CP CB) []) (c_revenue_table : Cal P w K mg base 3 "revenue_table" (spTbl CB tbl) []) : FnOk P w K mg base CX0 4 f fd ["planner", "arguments"] (spOp CP CB 18) := by
  refine F.ok sc_best_single_price (fun vs H Q E h => ?_) (fun cdv A outer s H vs Q E hr h => ?_)
  · obtain ⟨r, p, l, m, a, av, op, rfl, _⟩ := h
    rfl
  · obtain ⟨r, p, l, m, a, av, op, rfl, hn, hP, hG, ha, hav, k⟩ := h
    obtain ⟨i, rfl⟩ := inv_18 hn
    obtain rfl : av = [nV i] := hav
    have em : mkt m (.bestSinglePrice i) = m := mkt_pure (by show 7 ≤ 18; decide)
    have h7 : 7 ≤ numOf (.bestSinglePrice i) := (by show 7 ≤ 18; decide)
    have hR := hP.rp
    refine ⟨_, (pss_cons (ps_set (i := 2) sc_best_single_price.nd rfl (.inl rfl) (pe_ix ix_list (pv 1) pe_int (fun _ _ => rfl)))
      (pss_cons (ps_if (pt_not (pt_val (pe_c c_has_block hr (by decide) rfl (pa_cons (pv 0) (pa_cons (pv 2) pa_nil))))) (pss_one (ps_ret (pe_lst (pa_cons (pe_gc rfl T.cNO_BLOCK) pa_nil)))) pss_nil)
      (pss_cons (ps_set (i := 3) sc_best_single_price.nd rfl (.inl rfl) (pe_c c_best_singles hr (by decide) rfl (pa_cons (pe_lst (pa_cons (pe_c c_revenue_table hr (by decide) rfl (pa_cons (pe_ix ix_list (pe_fld (pv 0) rfl) (pv 2) (fun _ _ => rfl)) pa_nil)) pa_nil)) pa_nil)))
      (pss_one (ps_ret (pe_lst (pa_cons (pe_ix ix_list (pe_fld (pv 3) rfl) pe_int (fun _ _ => rfl)) (pa_cons (pe_fld (pv 3) rfl) pa_nil)))))))), ?_⟩
    refine ⟨_, rfl, a, _, _, _, rfl, rfl, SqL.of ha, at_of (j := 0) rfl rfl, ?_⟩
    refine ⟨_, rfl, _, rfl, _, i, m, rfl, hR, _, rfl, ?_⟩
    refine ite2 (fun hc => ?_) (fun hc => ?_)
    · have hi : ¬ i < m.blocks.length := fun z => not_true hc (decide_eq_true z)
      refine ⟨(by show 1 ≤ sizeLine; decide), fun q nq => post_new k em hP (Same.refl _) nq ?_⟩
      show _ = (Kv438Neutral.resultRow (gateB m i _).2).map V.int
      rw [gateB_no hi]; rfl
    have hi : i < m.blocks.length := of_decide_eq_true (not_false hc)
    obtain ⟨dx, bs, b, kb, g1, g2, g3, g4, g5, g6⟩ := hP.at1 hi
    refine ⟨_, rfl, p, CP, dx, _, _, rfl, g1, T.clP, T.nPb, pl_blocks _ _ _, _, rfl, l, _, _, _, rfl, rfl, SqL.of g2, atI_nat g3, _, kb, rfl, g6.rb, ?_, fun H1 u s1 hu => ?_⟩
    · rw [hG.bl kb (List.mem_of_getElem? g4)]; have := hG.p7; omega
    refine ⟨(by show 1 ≤ sizeLine; decide), fun q nq => ?_⟩
    have s2 := same_new (o := .lst [u]) nq
    refine ⟨.ref q, [tbl kb], rfl, ⟨q, [u], rfl, upd_same, A2.one (monoNs _ _ _ _ ((frs_sub _ _).trans s2) hu)⟩, (by show 1 ≤ 1000; decide), fun t ht e => ?_, fun H3 c s3 r3 => ?_⟩
    · have e2 : t = tbl kb := by simpa using ht
      have := congrArg List.length (e2.symm.trans e)
      rw [tbl_len, hG.bl kb (List.mem_of_getElem? g4)] at this
      cases this
    obtain ⟨x, dx2, y, rfl, hx, hy⟩ := r3
    refine ⟨_, rfl, x, CC, dx2, _, _, rfl, hx, T.clC, T.nCp, ch_prices _ _, y, _, _, _, rfl, rfl, SqL.of hy, at_of (j := 0) rfl rfl, ?_⟩
    refine ⟨_, rfl, x, CC, dx2, _, _, rfl, hx, T.clC, T.nCt, ch_total _ _, (by show 2 ≤ sizeLine; decide), fun q2 nq2 => post_new k em hP (s1.trans (s2.trans s3)) nq2 ?_⟩
    show _ = (Kv438Neutral.resultRow (gateB m i (⟨m⟩, ⟨((m.bestSinglePrice i : Nat) : Int), [m.revenue i (m.bestSinglePrice i)]⟩)).2).map V.int
    obtain ⟨e1, e2, _⟩ := single_is hG g4
    rw [gateB_yes hi, e2, e1]
    show [nV (firstIx (maxL (tbl kb)) (tbl kb)), nV (maxL (tbl kb) + 0)] = _
    rw [Nat.add_zero]; rfl
theorem inv_19 {op : Operation} (h : numOf op = 19) : ∃ (x : Nat), op = .revenueIfStep x := by
  cases op <;> first
    | exact ⟨_, rfl⟩
    | exact absurd h (Nat.ne_of_beq_eq_false rfl)
abbrev s_revenue_if_step : Stmt := top 62
abbrev n_revenue_if_step : List Str := ["planner", "arguments", "step"]
theorem sc_revenue_if_step : FnScope n_revenue_if_step ["planner", "arguments"] (defScope s_revenue_if_step) := ⟨rfl, rfl, rfl, by decide +kernel, rfl, by decide +kernel, by decide +kernel⟩
theorem ok_revenue_if_step {f : Addr} {fd : FuncData} (F : Fun K "revenue_if_step" "revenue_if_step" s_revenue_if_step f fd) (T : Txt K mg CB CC CP CS aS aR) (c_best_ordered : Cal P w K mg base 4 "best_ordered" (spBestOrd CC) []) (c_revenue_tables : Cal P w K mg base 4 "revenue_tables" (spTbls CP CB tbl) []) : FnOk P w K mg base CX0 5 f fd ["planner", "arguments"] (spOp CP CB 19) := by
  refine F.ok sc_revenue_if_step (fun vs H Q E h => ?_) (fun cdv A outer s H vs Q E hr h => ?_)
  · obtain ⟨r, p, l, m, a, av, op, rfl, _⟩ := h
    rfl
  · obtain ⟨r, p, l, m, a, av, op, rfl, hn, hP, hG, ha, hav, k⟩ := h
    obtain ⟨x, rfl⟩ := inv_19 hn
    obtain rfl : av = [nV x] := hav
    have em : mkt m (.revenueIfStep x) = m := mkt_pure (by show 7 ≤ 19; decide)
    have h7 : 7 ≤ numOf (.revenueIfStep x) := (by show 7 ≤ 19; decide)
    have hR := hP.rp
    refine ⟨_, (pss_cons (ps_set (i := 2) sc_revenue_if_step.nd rfl (.inl rfl) (pe_ix ix_list (pv 1) pe_int (fun _ _ => rfl)))
      (pss_cons (ps_if (pt_cmpR op_gt (pv 2) (pe_gc rfl T.cGREATEST_STEP) (nomark _)) (pss_one (ps_ret (pe_lst (pa_cons (pe_gc rfl T.cOUT_OF_RANGE) pa_nil)))) pss_nil)
      (pss_one (ps_ret (pe_lst (pa_cons (pe_fld (pe_c c_best_ordered hr (by decide) rfl (pa_cons (pe_c c_revenue_tables hr (by decide) rfl (pa_cons (pv 0) pa_nil)) (pa_cons (pe_fld (pv 0) rfl) (pa_cons (pv 2) pa_nil)))) rfl) pa_nil)))))), ?_⟩
    refine ⟨_, rfl, a, _, _, _, rfl, rfl, SqL.of ha, at_of (j := 0) rfl rfl, ?_⟩
    refine ⟨_, rfl, _, _, rfl, rfl, _, rfl, ?_⟩
    refine ite2 (fun hc => ?_) (fun hc => ?_)
    · have h : 7 < x := by have := of_decide_eq_true hc; omega
      refine ⟨(by show 1 ≤ sizeLine; decide), fun q nq => post_new k em hP (Same.refl _) nq ?_⟩
      show _ = (Kv438Neutral.resultRow (if 7 < x then ((⟨m⟩ : Kv438.Planner), Response.error (-22)) else _).2).map V.int
      rw [if_pos h]; rfl
    have h : ¬ 7 < x := fun z => hc (decide_eq_true (by omega))
    obtain ⟨dx, bs, g1, _⟩ := id hP
    refine ⟨_, rfl, _, m, rfl, hR, hG, fun H1 u s1 r1 => ?_⟩
    refine ⟨_, rfl, p, CP, dx, _, _, rfl, s1 _ _ g1, T.clP, T.nPp, pl_price _ _ _, _, rfl, u, m.maxPrice, x, _, rfl, monoL monoNs _ _ _ _ (frs_sub _ _) r1, hG.p7, ?_, tbls_len hG, fun H2 c s2 r2 => ?_⟩
    · rw [List.length_map]; exact hG.n5
    obtain ⟨y, dy, z, rfl, hy, hz⟩ := r2
    refine ⟨y, CC, dy, _, _, rfl, hy, T.clC, T.nCt, ch_total _ _, (by show 1 ≤ sizeLine; decide), fun q nq => post_new k em hP (s1.trans s2) nq ?_⟩
    have hG2 := gm_step hG (s := x) (by omega)
    show _ = (Kv438Neutral.resultRow (if 7 < x then ((⟨m⟩ : Kv438.Planner), Response.error (-22)) else (⟨m⟩, .number (({ m with maxStep := x } : Market).totalRevenue ({ m with maxStep := x } : Market).bestPrices))).2).map V.int
    rw [if_neg h, bestP_is hG2]; rfl
theorem inv_20 {op : Operation} (h : numOf op = 20) : ∃ (i : Nat), op = .revenueWithout i := by
  cases op <;> first
    | exact ⟨_, rfl⟩
    | exact absurd h (Nat.ne_of_beq_eq_false rfl)
abbrev s_revenue_without : Stmt := top 63
abbrev n_revenue_without : List Str := ["planner", "arguments", "block", "tables"]
theorem sc_revenue_without : FnScope n_revenue_without ["planner", "arguments"] (defScope s_revenue_without) := ⟨rfl, rfl, rfl, by decide +kernel, rfl, by decide +kernel, by decide +kernel⟩
theorem ok_revenue_without {f : Addr} {fd : FuncData} (F : Fun K "revenue_without" "revenue_without" s_revenue_without f fd) (T : Txt K mg CB CC CP CS aS aR) (c_best_ordered : Cal P w K mg base 4 "best_ordered" (spBestOrd CC) []) (c_has_block : Cal P w K mg base 1 "has_block" (spHas CP CB) []) (c_revenue_tables : Cal P w K mg base 4 "revenue_tables" (spTbls CP CB tbl) []) : FnOk P w K mg base CX0 5 f fd ["planner", "arguments"] (spOp CP CB 20) := by
  refine F.ok sc_revenue_without (fun vs H Q E h => ?_) (fun cdv A outer s H vs Q E hr h => ?_)
  · obtain ⟨r, p, l, m, a, av, op, rfl, _⟩ := h
    rfl
  · obtain ⟨r, p, l, m, a, av, op, rfl, hn, hP, hG, ha, hav, k⟩ := h
    obtain ⟨i, rfl⟩ := inv_20 hn
    obtain rfl : av = [nV i] := hav
    have em : mkt m (.revenueWithout i) = m := mkt_pure (by show 7 ≤ 20; decide)
    have h7 : 7 ≤ numOf (.revenueWithout i) := (by show 7 ≤ 20; decide)
    have hR := hP.rp
    refine ⟨_, (pss_cons (ps_set (i := 2) sc_revenue_without.nd rfl (.inl rfl) (pe_ix ix_list (pv 1) pe_int (fun _ _ => rfl)))
      (pss_cons (ps_if (pt_not (pt_val (pe_c c_has_block hr (by decide) rfl (pa_cons (pv 0) (pa_cons (pv 2) pa_nil))))) (pss_one (ps_ret (pe_lst (pa_cons (pe_gc rfl T.cNO_BLOCK) pa_nil)))) pss_nil)
      (pss_cons (ps_set (i := 3) sc_revenue_without.nd rfl (.inl rfl) (pe_c c_revenue_tables hr (by decide) rfl (pa_cons (pv 0) pa_nil)))
      (pss_cons (ps_expr (pe_bm PySem.F.plainAttrs_list PySem.F.slot_list_pop PySem.F.type_list_pop mt_popAt (pv 3) (pa_cons (pv 2) pa_nil)))
      (pss_one (ps_ret (pe_lst (pa_cons (pe_fld (pe_c c_best_ordered hr (by decide) rfl (pa_cons (pv 3) (pa_cons (pe_fld (pv 0) rfl) (pa_cons (pe_fld (pv 0) rfl) pa_nil)))) rfl) pa_nil)))))))), ?_⟩
    refine ⟨_, rfl, a, _, _, _, rfl, rfl, SqL.of ha, at_of (j := 0) rfl rfl, ?_⟩
    refine ⟨_, rfl, _, rfl, _, i, m, rfl, hR, _, rfl, ?_⟩
    refine ite2 (fun hc => ?_) (fun hc => ?_)
    · have hi : ¬ i < m.blocks.length := fun z => not_true hc (decide_eq_true z)
      refine ⟨(by show 1 ≤ sizeLine; decide), fun q nq => post_new k em hP (Same.refl _) nq ?_⟩
      show _ = (Kv438Neutral.resultRow (gateB m i _).2).map V.int
      rw [gateB_no hi]; rfl
    have hi : i < m.blocks.length := of_decide_eq_true (not_false hc)
    obtain ⟨dx, bs, g1, _⟩ := id hP
    refine ⟨_, rfl, _, m, rfl, hR, hG, fun H1 u s1 r1 => ?_⟩
    obtain ⟨x, us, rfl, hx, hA⟩ := r1
    obtain ⟨nx, hx1⟩ := frs_some hx
    have hlen : us.length = m.blocks.length := by rw [hA.len, List.length_map]
    refine ⟨_, rfl, .inl ⟨rfl, _, SqL.of hx1⟩, _, rfl, x, us, (i : Int), i, us[i]'(by omega), rfl, rfl, hx1, (by omega), (by have := hG.n5; omega), ?_, List.getElem?_eq_getElem _, ?_⟩
    · exact six_nat (by omega)
    have sx : Same H (upd H1 x (.lst (us.eraseIdx i))) := same_upd s1 nx
    have rE : RL RNs (upd H1 x (.lst (us.eraseIdx i))) (.ref x) ((m.blocks.map tbl).eraseIdx i) := by
      refine ⟨x, _, rfl, upd_same, A2.erase i (hA.monoAt fun j v t hj ⟨c, ev, hc⟩ => ⟨c, ev, ?_⟩)⟩
      have hc1 := frs_sub _ _ _ _ hc
      have ne : c ≠ x := fun e => by
        rw [e, hx1] at hc1
        have e2 : us = nL t := by injection Option.some.inj hc1
        rw [e2] at hj
        obtain ⟨n, _, e3⟩ := nL_at' hj
        rw [ev] at e3
        cases e3
      rw [upd_ne ne]; exact hc1
    have gx := sx _ _ g1
    refine ⟨_, rfl, _, rfl, p, CP, dx, _, _, rfl, gx, T.clP, T.nPp, pl_price _ _ _, _, rfl, p, CP, dx, _, _, rfl, gx, T.clP, T.nPs, pl_step _ _ _, .ref x, m.maxPrice, m.maxStep, _, rfl, rE, hG.p7, ?_, fun t ht => tbls_len hG t (List.mem_of_mem_eraseIdx ht), fun H2 c s2 r2 => ?_⟩
    · exact Nat.le_trans (List.length_eraseIdx_le ..) (by rw [List.length_map]; exact hG.n5)
    obtain ⟨y, dy, z, rfl, hy, hz⟩ := r2
    refine ⟨y, CC, dy, _, _, rfl, hy, T.clC, T.nCt, ch_total _ _, (by show 1 ≤ sizeLine; decide), fun q nq => post_new k em hP (sx.trans s2) nq ?_⟩
    have hG2 := gm_erase hG i
    show _ = (Kv438Neutral.resultRow (gateB m i (⟨m⟩, .number (({ m with blocks := m.blocks.eraseIdx i } : Market).totalRevenue ({ m with blocks := m.blocks.eraseIdx i } : Market).bestPrices))).2).map V.int
    rw [gateB_yes hi, bestP_is hG2]
    show [nV (bestOrd ((m.blocks.map tbl).eraseIdx i) m.maxPrice m.maxStep).total] = [nV (bestOrd ((m.blocks.eraseIdx i).map tbl) m.maxPrice m.maxStep).total]
    rw [erase_map]
theorem inv_21 {op : Operation} (h : numOf op = 21) : ∃ (i : Nat), op = .getBlock i := by
  cases op <;> first
    | exact ⟨_, rfl⟩
    | exact absurd h (Nat.ne_of_beq_eq_false rfl)
abbrev s_get_block : Stmt := top 64
abbrev n_get_block : List Str := ["planner", "arguments", "block", "told"]
theorem sc_get_block : FnScope n_get_block ["planner", "arguments"] (defScope s_get_block) := ⟨rfl, rfl, rfl, by decide +kernel, rfl, by decide +kernel, by decide +kernel⟩
theorem ok_get_block {f : Addr} {fd : FuncData} (F : Fun K "get_block" "get_block" s_get_block f fd) (T : Txt K mg CB CC CP CS aS aR) (c_has_block : Cal P w K mg base 1 "has_block" (spHas CP CB) []) : FnOk P w K mg base CX0 2 f fd ["planner", "arguments"] (spOp CP CB 21) := by
  refine F.ok sc_get_block (fun vs H Q E h => ?_) (fun cdv A outer s H vs Q E hr h => ?_)
  · obtain ⟨r, p, l, m, a, av, op, rfl, _⟩ := h
    rfl
  · obtain ⟨r, p, l, m, a, av, op, rfl, hn, hP, hG, ha, hav, k⟩ := h
    obtain ⟨i, rfl⟩ := inv_21 hn
    obtain rfl : av = [nV i] := hav
    have em : mkt m (.getBlock i) = m := mkt_pure (by show 7 ≤ 21; decide)
    have h7 : 7 ≤ numOf (.getBlock i) := (by show 7 ≤ 21; decide)
    have hR := hP.rp
    refine ⟨_, (pss_cons (ps_set (i := 2) sc_get_block.nd rfl (.inl rfl) (pe_ix ix_list (pv 1) pe_int (fun _ _ => rfl)))
      (pss_cons (ps_if (pt_not (pt_val (pe_c c_has_block hr (by decide) rfl (pa_cons (pv 0) (pa_cons (pv 2) pa_nil))))) (pss_one (ps_ret (pe_lst (pa_cons (pe_gc rfl T.cNO_BLOCK) pa_nil)))) pss_nil)
      (pss_cons (ps_set (i := 3) sc_get_block.nd rfl (.inl rfl) (pe_ix ix_list (pe_fld (pv 0) rfl) (pv 2) (fun _ _ => rfl)))
      (pss_one (ps_ret (pe_op op_cat (pe_lst (pa_cons (pe_fld (pv 3) rfl) pa_nil)) (pe_fld (pv 3) rfl))))))), ?_⟩
    refine ⟨_, rfl, a, _, _, _, rfl, rfl, SqL.of ha, at_of (j := 0) rfl rfl, ?_⟩
    refine ⟨_, rfl, _, rfl, _, i, m, rfl, hR, _, rfl, ?_⟩
    refine ite2 (fun hc => ?_) (fun hc => ?_)
    · have hi : ¬ i < m.blocks.length := fun z => not_true hc (decide_eq_true z)
      refine ⟨(by show 1 ≤ sizeLine; decide), fun q nq => post_new k em hP (Same.refl _) nq ?_⟩
      show _ = (Kv438Neutral.resultRow (gateB m i _).2).map V.int
      rw [gateB_no hi]; rfl
    have hi : i < m.blocks.length := of_decide_eq_true (not_false hc)
    obtain ⟨dx, bs, b, kb, g1, g2, g3, g4, g5, dy, d, g6, g7, _⟩ := hP.at1 hi
    refine ⟨_, rfl, p, CP, dx, _, _, rfl, g1, T.clP, T.nPb, pl_blocks _ _ _, _, rfl, l, _, _, _, rfl, rfl, SqL.of g2, atI_nat g3, ?_⟩
    refine ⟨_, rfl, b, CB, dy, _, _, rfl, g6, T.clB, T.nBs, bk_seats _ _, (by show 1 ≤ sizeLine; decide), fun p1 n1 => ?_⟩
    have s1 := same_new (o := .lst [nV kb.seats]) n1
    refine ⟨_, rfl, b, CB, dy, _, _, rfl, s1 _ _ g6, T.clB, T.nBd, bk_demand _ _, p1, d, _, _, rfl, rfl, upd_same, s1 _ _ g7, ?_, fun p2 n2 => post_new k em hP s1 n2 ?_⟩
    · rw [nL_len, hG.bl kb (List.mem_of_getElem? g4)]
      have := hG.p7
      exact Nat.le_trans (show 1 + (m.maxPrice + 1) ≤ 9 by omega) (by decide)
    show _ = (Kv438Neutral.resultRow (gateB m i (⟨m⟩, ⟨(((m.block i).seats : Nat) : Int), (m.block i).demand⟩)).2).map V.int
    rw [gateB_yes hi, block_at g4, ints_nL]; rfl
theorem inv_22 {op : Operation} (h : numOf op = 22) : op = .getState := by
  cases op <;> first
    | exact rfl
    | exact absurd h (Nat.ne_of_beq_eq_false rfl)
abbrev s_get_state : Stmt := top 65
abbrev n_get_state : List Str := ["planner", "arguments"]
theorem sc_get_state : FnScope n_get_state ["planner", "arguments"] (defScope s_get_state) := ⟨rfl, rfl, rfl, by decide +kernel, rfl, by decide +kernel, by decide +kernel⟩
theorem ok_get_state {f : Addr} {fd : FuncData} (F : Fun K "get_state" "get_state" s_get_state f fd) (T : Txt K mg CB CC CP CS aS aR)  : FnOk P w K mg base CX0 1 f fd ["planner", "arguments"] (spOp CP CB 22) := by
  refine F.ok sc_get_state (fun vs H Q E h => ?_) (fun cdv A outer s H vs Q E hr h => ?_)
  · obtain ⟨r, p, l, m, a, av, op, rfl, _⟩ := h
    rfl
  · obtain ⟨r, p, l, m, a, av, op, rfl, hn, hP, hG, ha, hav, k⟩ := h
    obtain rfl := inv_22 hn
    obtain rfl : av = [] := hav
    have em : mkt m (.getState) = m := mkt_pure (by show 7 ≤ 22; decide)
    have h7 : 7 ≤ numOf (.getState) := (by show 7 ≤ 22; decide)
    have hR := hP.rp
    refine ⟨_, (pss_one (ps_ret (pe_lst (pa_cons (pe_callB call_len_seq rfl T.len PySem.boot_len (pa_cons (pe_fld (pv 0) rfl) pa_nil)) (pa_cons (pe_fld (pv 0) rfl) (pa_cons (pe_fld (pv 0) rfl) pa_nil)))))), ?_⟩
    obtain ⟨dx, bs, g1, g2, g3, _⟩ := id hP
    refine ⟨_, rfl, p, CP, dx, _, _, rfl, g1, T.clP, T.nPb, pl_blocks _ _ _, l, _, rfl, .inl (SqL.of g2), ?_⟩
    refine ⟨_, rfl, p, CP, dx, _, _, rfl, g1, T.clP, T.nPp, pl_price _ _ _, _, rfl, p, CP, dx, _, _, rfl, g1, T.clP, T.nPs, pl_step _ _ _, (by show 3 ≤ sizeLine; decide), fun q nq => post_new k em hP (Same.refl _) nq ?_⟩
    show _ = (Kv438Neutral.resultRow ⟨((m.blocks.length : Nat) : Int), [m.maxPrice, m.maxStep]⟩).map V.int
    rw [← g3.len, List.length_map]; rfl
end
end Bp

/-! # blockprices: the calls that change a planner -/
namespace Bp
open PySem PySem.Spec PyProof.Rows L2
open C8 (Cal pe_c Mak pe_mk pe_gc)
open Kv438 (Block Market Operation Response)

theorem ixN_nat {i n : Nat} (h : i < n) : ixN n (i : Int) = some i := by
  unfold ixN
  rw [if_pos (by omega), if_pos (by omega), Int.toNat_natCast]
theorem nodup_of {α : Type} {l : List α} (h : ∀ (x y : Nat) v, l[x]? = some v → l[y]? = some v → x = y) : l.Nodup := by
  refine List.pairwise_iff_getElem.mpr fun x y hx hy hxy e => ?_
  have h1 := List.getElem?_eq_getElem hx
  have h2 := List.getElem?_eq_getElem hy
  have := h x y _ h1 (by rw [h2, e])
  omega
def swp (i j x : Nat) : Nat := if x = j then i else if x = i then j else x
theorem swp_at {α : Type} {l : List α} {i j : Nat} {a b : α} (hi : l[i]? = some a) (hj : l[j]? = some b) (x : Nat) : ((l.set i b).set j a)[x]? = l[swp i j x]? := by
  have h1 := (List.getElem?_eq_some_iff.mp hi).1
  have h2 := (List.getElem?_eq_some_iff.mp hj).1
  unfold swp
  by_cases e : x = j
  · rw [if_pos e, e, List.getElem?_set_self (by rw [List.length_set]; exact h2), hi]
  · rw [if_neg e, List.getElem?_set_ne (fun z => e z.symm)]
    by_cases e2 : x = i
    · rw [if_pos e2, e2, List.getElem?_set_self h1, hj]
    · rw [if_neg e2, List.getElem?_set_ne (fun z => e2 z.symm)]
theorem swp_inj {i j x y : Nat} (h : swp i j x = swp i j y) : x = y := by
  unfold swp at h
  by_cases e1 : x = j
  · rw [if_pos e1] at h
    by_cases e3 : y = j
    · omega
    · rw [if_neg e3] at h
      by_cases e4 : y = i
      · rw [if_pos e4] at h; omega
      · rw [if_neg e4] at h; omega
  · rw [if_neg e1] at h
    by_cases e2 : x = i
    · rw [if_pos e2] at h
      by_cases e3 : y = j
      · rw [if_pos e3] at h; omega
      · rw [if_neg e3] at h
        by_cases e4 : y = i
        · omega
        · rw [if_neg e4] at h; omega
    · rw [if_neg e2] at h
      by_cases e3 : y = j
      · rw [if_pos e3] at h; omega
      · rw [if_neg e3] at h
        by_cases e4 : y = i
        · rw [if_pos e4] at h; omega
        · rw [if_neg e4] at h; exact h
theorem swp_nodup {α : Type} {l : List α} (hl : l.Nodup) {i j : Nat} {a b : α} (hi : l[i]? = some a) (hj : l[j]? = some b) : ((l.set i b).set j a).Nodup :=
  nodup_of fun x y v hx hy => by
    rw [swp_at hi hj] at hx hy
    exact swp_inj (nd_ix hl hx hy)
theorem ins_ne {H : Hp} {p b C D dx dy : Addr} {fs gs : List (Str × V)} (hp : H p = some (.ins C dx fs)) (hb : H b = some (.ins D dy gs)) (n : fs.length ≠ gs.length) : p ≠ b := by
  intro e
  rw [e, hb] at hp
  injection Option.some.inj hp with _ _ z
  exact n (congrArg List.length z).symm
theorem lst_ne {H : Hp} {p b C dx : Addr} {fs : List (Str × V)} {xs : List V} (hp : H p = some (.lst xs)) (hb : H b = some (.ins C dx fs)) : p ≠ b := by
  intro e
  rw [e, hb] at hp
  cases hp
section
variable {CP CB r p l : Addr} {H H1 H' : Hp} {m : Market} {Q : VK}
theorem BkAt.updL {b : Addr} {k : Block} {xs : List V} {o : HO} (hl : H l = some (.lst xs)) (h : BkAt CB r l H b k) : BkAt CB r l (upd H l o) b k := by
  obtain ⟨dx, d, h1, h2, h3, h4⟩ := h
  exact ⟨dx, d, by rw [upd_ne (lst_ne hl h1).symm]; exact h1, by rw [upd_ne h4]; exact h2, h3, h4⟩
theorem BkAt.updI {b c C dx : Addr} {k : Block} {fs : List (Str × V)} {o : HO} (hc : H c = some (.ins C dx fs)) (hn : b ≠ c) (h : BkAt CB r l H b k) : BkAt CB r l (upd H c o) b k := by
  obtain ⟨dy, d, h1, h2, h3, h4⟩ := h
  exact ⟨dy, d, by rw [upd_ne hn]; exact h1, by rw [upd_ne (lst_ne h2 hc)]; exact h2, h3, h4⟩
theorem BkAt.neP {b dx : Addr} {k : Block} {u w : Nat} (hp : H p = some (.ins CP dx (plF u w l))) (h : BkAt CB r l H b k) : b ≠ p := by
  obtain ⟨dy, d, h1, h2, h3, h4⟩ := h
  exact ins_ne h1 hp (fun z => by cases z)
theorem new_same {b dx : Addr} {o u : HO} (nb : H1 b = none) (nd : H1 dx = none) (hk : ∀ c, c ≠ b → H' c = upd (upd H1 dx o) b u c) : Same H1 H' := fun c w e => by
  have nc := ne_of_none e nb
  rw [hk c nc, upd_ne nc, upd_ne (ne_of_none e nd)]
  exact e
theorem new_same2 {b dx l : Addr} {o u : HO} (nb : H1 b = none) (nd : H1 dx = none) (nl : H1 l = none) (hk : ∀ c, c ≠ b → c ≠ l → H' c = upd (upd H1 dx o) b u c) : Same H1 H' := fun c w e => by
  have nc := ne_of_none e nb
  rw [hk c nc (ne_of_none e nl), upd_ne nc, upd_ne (ne_of_none e nd)]
  exact e
/-- nothing is changed by what is refused -/
theorem post_bad {op : Operation} {q : Addr} {c : Int} (k : Post CP CB r H p l m op Q) (hP : PlAt CP CB r H p l m) (s : Same H H1) (n : H1 q = none) (e : (⟨m⟩ : Kv438.Planner).run op = (⟨m⟩, .error c)) : Q (.ref q) (upd H1 q (.lst [V.int c])) :=
  post_new k (by unfold mkt; rw [e]) hP s n (by unfold outM; rw [e]; rfl)
end
theorem dem_no {b : Bool} (h : (!b) = true) : b = false := by
  cases b
  · rfl
  · cases h
section
variable {P : Program} {w : World} {K : PySem.W.Frag} {mg : Str → Option Value} {base : Heap} {CB CC CP CS aS aR : Addr}
theorem inv_1 {op : Operation} (h : numOf op = 1) : ∃ (x : Nat), ∃ (row : List Nat), op = .addBlock x row := by
  cases op <;> first
    | exact ⟨_, _, rfl⟩
    | exact absurd h (Nat.ne_of_beq_eq_false rfl)
abbrev s_add_block : Stmt := top 44
abbrev n_add_block : List Str := ["planner", "arguments", "seats", "demand"]
theorem sc_add_block : FnScope n_add_block ["planner", "arguments"] (defScope s_add_block) := ⟨rfl, rfl, rfl, by decide +kernel, rfl, by decide +kernel, by decide +kernel⟩
theorem ok_add_block {f : Addr} {fd : FuncData} (F : Fun K "add_block" "add_block" s_add_block f fd) (T : Txt K mg CB CC CP CS aS aR) (c_is_demand : Cal P w K mg base 1 "is_demand" (spIsDem CP CB) []) (c_Block : Mak P w K mg base 1 "Block" CB (spInitB CB) []) : FnOk P w K mg base CX0 3 f fd ["planner", "arguments"] (spOp CP CB 1) := by
  refine F.ok sc_add_block (fun vs H Q E h => ?_) (fun cdv A outer s H vs Q E hr h => ?_)
  · obtain ⟨r, p, l, m, a, av, op, rfl, _⟩ := h
    rfl
  · obtain ⟨r, p, l, m, a, av, op, rfl, hn, hP, hG, ha, hav, k⟩ := h
    obtain ⟨x, row, rfl⟩ := inv_1 hn
    obtain ⟨d, rfl, hd, hdr, hdl⟩ : ∃ d, av = [nV x, .ref d] ∧ H d = some (.lst (nL row)) ∧ d ≠ r ∧ d ≠ l := hav
    have hR := hP.rp
    refine ⟨_, (pss_cons (ps_set (i := 2) sc_add_block.nd rfl (.inl rfl) (pe_ix ix_list (pv 1) pe_int (fun _ _ => rfl)))
      (pss_cons (ps_set (i := 3) sc_add_block.nd rfl (.inl rfl) (pe_ix ix_list (pv 1) pe_int (fun _ _ => rfl)))
      (pss_cons (ps_if (PW.pt (pw_or (pt_cmpR op_gt (pv 2) (pe_gc rfl T.cMOST_PEOPLE) (nomark _)) (pw_or1 (pt_not (pt_val (pe_c c_is_demand hr (by decide) rfl (pa_cons (pv 0) (pa_cons (pv 3) pa_nil)))))))) (pss_one (ps_ret (pe_lst (pa_cons (pe_gc rfl T.cOUT_OF_RANGE) pa_nil)))) pss_nil)
      (pss_cons (ps_if (pt_cmpR op_eq (pe_callB call_len_seq rfl T.len PySem.boot_len (pa_cons (pe_fld (pv 0) rfl) pa_nil)) (pe_gc rfl T.cMOST_BLOCKS) (nomark _)) (pss_one (ps_ret (pe_lst (pa_cons (pe_gc rfl T.cTOO_MANY_BLOCKS) pa_nil)))) pss_nil)
      (pss_cons (ps_expr (pe_bm PySem.F.plainAttrs_list PySem.F.slot_list_append PySem.F.type_list_append mt_append (pe_fld (pv 0) rfl) (pa_cons (pe_mk c_Block hr (by decide) rfl (pa_cons (pv 2) (pa_cons (pv 3) pa_nil))) pa_nil)))
      (pss_one (ps_ret (pe_lst (pa_cons (pe_op op_sub (pe_callB call_len_seq rfl T.len PySem.boot_len (pa_cons (pe_fld (pv 0) rfl) pa_nil)) pe_int) pa_nil))))))))), ?_⟩
    refine ⟨_, rfl, a, _, _, _, rfl, rfl, SqL.of ha, at_of (j := 0) rfl rfl, ?_⟩
    refine ⟨_, rfl, a, _, _, _, rfl, rfl, SqL.of ha, at_of (j := 1) rfl rfl, ?_⟩
    have bad : ∀ H1 q, Same H H1 → H1 q = none → (999 < x ∨ m.isDemand row = false) → Q (.ref q) (upd H1 q (.lst [V.int (-22)])) := fun H1 q s nq hb => post_bad k hP s nq (by rw [run_1, if_pos hb])
    refine ⟨_, rfl, _, _, rfl, rfl, _, rfl, ?_⟩
    refine ite2 (fun hc => ?_) (fun hc => ?_)
    · exact iteT ⟨(by show 1 ≤ sizeLine; decide), fun q nq => bad H q (Same.refl _) nq (.inl (by have := of_decide_eq_true hc; omega))⟩
    have hx : ¬ 999 < x := fun z => hc (decide_eq_true (by omega))
    refine ⟨_, rfl, _, rfl, _, d, row, m, rfl, hR, hd, fun H1 s1 => ⟨_, rfl, ?_⟩⟩
    refine ite2 (fun hc2 => ?_) (fun hc2 => ?_)
    · exact ⟨(by show 1 ≤ sizeLine; decide), fun q nq => bad H1 q s1 nq (.inr (dem_no hc2))⟩
    have hdm : ¬ (999 < x ∨ m.isDemand row = false) := fun z => z.elim hx fun z2 => by
      rw [z2] at hc2; exact hc2 rfl
    obtain ⟨dx, bs, g1, g2, g3, g4, g5⟩ := hP.same s1
    have hlen : (bs.map V.ref).length = m.blocks.length := by rw [List.length_map, g3.len]
    refine ⟨_, rfl, p, CP, dx, _, _, rfl, g1, T.clP, T.nPb, pl_blocks _ _ _, l, _, rfl, .inl (SqL.of g2), rfl, _, rfl, ?_⟩
    refine ite2 (fun hc3 => ?_) (fun hc3 => ?_)
    · have h5 : 5 ≤ m.blocks.length := by
        have z := V.int.inj (of_decide_eq_true hc3)
        omega
      exact ⟨(by show 1 ≤ sizeLine; decide), fun q nq => post_bad k hP s1 nq (by rw [run_1, if_neg hdm, if_pos h5])⟩
    have h5 : ¬ 5 ≤ m.blocks.length := fun z => hc3 (decide_eq_true (by have := hG.n5; congr 1; omega))
    have hd1 := s1 _ _ hd
    refine ⟨_, rfl, p, CP, dx, _, _, rfl, g1, T.clP, T.nPb, pl_blocks _ _ _, .inl ⟨rfl, _, SqL.of g2⟩, _, rfl, _, rfl, ?_⟩
    intro b db nb ndb neb
    refine ⟨b, db, x, d, rfl, upd_same, fun H2 hb _ hk => ⟨rfl, ?_⟩⟩
    have s2 := new_same nb ndb hk
    have g22 := s2 _ _ g2
    refine ⟨l, _, _, rfl, rfl, g22, ?_, ?_⟩
    · rw [hlen]
      exact Nat.lt_of_le_of_lt hG.n5 (by decide)
    have er : (⟨m⟩ : Kv438.Planner).run (.addBlock x row) = (⟨⟨m.maxPrice, m.maxStep, m.blocks ++ [⟨x, row⟩]⟩⟩, .number m.blocks.length) := by rw [run_1, if_neg hdm, if_neg h5]
    have g13 : upd H2 l (.lst (bs.map V.ref ++ [V.ref b])) p = some (.ins CP dx (plF m.maxPrice m.maxStep l)) := by
      rw [upd_ne (lst_ne g22 (s2 _ _ g1)).symm]; exact s2 _ _ g1
    have hP3 : PlAt CP CB r (upd H2 l (.lst (bs.map V.ref ++ [V.ref b]))) p l (mkt m (.addBlock x row)) := by
      unfold mkt
      rw [er]
      refine ⟨dx, bs ++ [b], g13, by rw [upd_same, List.map_append]; rfl, (g3.mono fun _ _ z => (z.same s2).updL g22).app (A2.one (BkAt.updL g22 ⟨db, d, hb, s2 _ _ hd1, hdr, hdl⟩)), ?_, g5⟩
      refine List.nodup_append.mpr ⟨g4, List.nodup_cons.mpr ⟨by simp, List.nodup_nil⟩, fun c hc b2 hb2 e => ?_⟩
      have e2 : b2 = b := by simpa using hb2
      subst e2; subst e
      obtain ⟨j, hj⟩ := List.getElem?_of_mem hc
      obtain ⟨kb, _, _, _, z, _⟩ := g3.at1 hj
      rw [nb] at z; cases z
    refine ⟨_, rfl, p, CP, dx, _, _, rfl, g13, T.clP, T.nPb, pl_blocks _ _ _, l, _, rfl, .inl (SqL.of upd_same), _, _, rfl, rfl, (by show 1 ≤ sizeLine; decide), fun q nq => post_mut k ((Kp.of (s1.trans s2)).trans Kp.updL) hP3 nq ?_⟩
    unfold outM
    rw [er]
    show [V.int _] = [V.int _]
    rw [List.length_append, hlen]
    show [V.int (((m.blocks.length + 1 : Nat) : Int) - 1)] = [V.int ((m.blocks.length : Nat) : Int)]
    congr 2
    omega
theorem inv_2 {op : Operation} (h : numOf op = 2) : ∃ (i : Nat), op = .removeBlock i := by
  cases op <;> first
    | exact ⟨_, rfl⟩
    | exact absurd h (Nat.ne_of_beq_eq_false rfl)
abbrev s_remove_block : Stmt := top 45
abbrev n_remove_block : List Str := ["planner", "arguments", "block"]
theorem sc_remove_block : FnScope n_remove_block ["planner", "arguments"] (defScope s_remove_block) := ⟨rfl, rfl, rfl, by decide +kernel, rfl, by decide +kernel, by decide +kernel⟩
theorem ok_remove_block {f : Addr} {fd : FuncData} (F : Fun K "remove_block" "remove_block" s_remove_block f fd) (T : Txt K mg CB CC CP CS aS aR) (c_has_block : Cal P w K mg base 1 "has_block" (spHas CP CB) []) : FnOk P w K mg base CX0 2 f fd ["planner", "arguments"] (spOp CP CB 2) := by
  refine F.ok sc_remove_block (fun vs H Q E h => ?_) (fun cdv A outer s H vs Q E hr h => ?_)
  · obtain ⟨r, p, l, m, a, av, op, rfl, _⟩ := h
    rfl
  · obtain ⟨r, p, l, m, a, av, op, rfl, hn, hP, hG, ha, hav, k⟩ := h
    obtain ⟨i, rfl⟩ := inv_2 hn
    obtain rfl : av = [nV i] := hav
    have hR := hP.rp
    refine ⟨_, (pss_cons (ps_set (i := 2) sc_remove_block.nd rfl (.inl rfl) (pe_ix ix_list (pv 1) pe_int (fun _ _ => rfl)))
      (pss_cons (ps_if (pt_not (pt_val (pe_c c_has_block hr (by decide) rfl (pa_cons (pv 0) (pa_cons (pv 2) pa_nil))))) (pss_one (ps_ret (pe_lst (pa_cons (pe_gc rfl T.cNO_BLOCK) pa_nil)))) pss_nil)
      (pss_cons (ps_expr (pe_bm PySem.F.plainAttrs_list PySem.F.slot_list_pop PySem.F.type_list_pop mt_popAt (pe_fld (pv 0) rfl) (pa_cons (pv 2) pa_nil)))
      (pss_one (ps_ret (pe_lst (pa_cons (pe_callB call_len_seq rfl T.len PySem.boot_len (pa_cons (pe_fld (pv 0) rfl) pa_nil)) pa_nil))))))), ?_⟩
    refine ⟨_, rfl, a, _, _, _, rfl, rfl, SqL.of ha, at_of (j := 0) rfl rfl, ?_⟩
    refine ⟨_, rfl, _, rfl, _, i, m, rfl, hR, _, rfl, ?_⟩
    refine ite2 (fun hc => ?_) (fun hc => ?_)
    · have hi : ¬ i < m.blocks.length := fun z => not_true hc (decide_eq_true z)
      exact ⟨(by show 1 ≤ sizeLine; decide), fun q nq => post_bad k hP (Same.refl _) nq (by rw [run_2, gateB_no hi])⟩
    have hi : i < m.blocks.length := of_decide_eq_true (not_false hc)
    obtain ⟨dx, bs, g1, g2, g3, g4, g5⟩ := id hP
    have hlen : (bs.map V.ref).length = m.blocks.length := by rw [List.length_map, g3.len]
    have hil : i < (bs.map V.ref).length := by rw [hlen]; exact hi
    refine ⟨_, rfl, p, CP, dx, _, _, rfl, g1, T.clP, T.nPb, pl_blocks _ _ _, .inl ⟨rfl, _, SqL.of g2⟩, _, rfl, l, _, (i : Int), i, (bs.map V.ref)[i]'hil, rfl, rfl, g2, (by omega), (by have := hG.n5; omega), six_nat hil, List.getElem?_eq_getElem hil, ?_⟩
    have er : (⟨m⟩ : Kv438.Planner).run (.removeBlock i) = (⟨⟨m.maxPrice, m.maxStep, m.blocks.eraseIdx i⟩⟩, .number (m.blocks.length - 1)) := by rw [run_2, gateB_yes hi]
    have g13 : upd H l (.lst ((bs.map V.ref).eraseIdx i)) p = some (.ins CP dx (plF m.maxPrice m.maxStep l)) := by
      rw [upd_ne (lst_ne g2 g1).symm]; exact g1
    have hP3 : PlAt CP CB r (upd H l (.lst ((bs.map V.ref).eraseIdx i))) p l (mkt m (.removeBlock i)) := by
      unfold mkt
      rw [er]
      exact ⟨dx, bs.eraseIdx i, g13, by rw [upd_same, erase_map], A2.erase i (g3.mono fun _ _ z => z.updL g2), g4.sublist (List.eraseIdx_sublist ..), g5⟩
    refine ⟨_, rfl, p, CP, dx, _, _, rfl, g13, T.clP, T.nPb, pl_blocks _ _ _, l, _, rfl, .inl (SqL.of upd_same), (by show 1 ≤ sizeLine; decide), fun q nq => post_mut k Kp.updL hP3 nq ?_⟩
    unfold outM
    rw [er]
    show [V.int _] = [V.int ((m.blocks.length - 1 : Nat) : Int)]
    rw [List.length_eraseIdx, if_pos hil, hlen]
theorem inv_3 {op : Operation} (h : numOf op = 3) : ∃ (i : Nat), ∃ (x : Nat), op = .setSeats i x := by
  cases op <;> first
    | exact ⟨_, _, rfl⟩
    | exact absurd h (Nat.ne_of_beq_eq_false rfl)
abbrev s_set_seats : Stmt := top 46
abbrev n_set_seats : List Str := ["planner", "arguments", "block", "seats", "changed", "previous"]
theorem sc_set_seats : FnScope n_set_seats ["planner", "arguments"] (defScope s_set_seats) := ⟨rfl, rfl, rfl, by decide +kernel, rfl, by decide +kernel, by decide +kernel⟩
theorem ok_set_seats {f : Addr} {fd : FuncData} (F : Fun K "set_seats" "set_seats" s_set_seats f fd) (T : Txt K mg CB CC CP CS aS aR) (c_has_block : Cal P w K mg base 1 "has_block" (spHas CP CB) []) : FnOk P w K mg base CX0 2 f fd ["planner", "arguments"] (spOp CP CB 3) := by
  refine F.ok sc_set_seats (fun vs H Q E h => ?_) (fun cdv A outer s H vs Q E hr h => ?_)
  · obtain ⟨r, p, l, m, a, av, op, rfl, _⟩ := h
    rfl
  · obtain ⟨r, p, l, m, a, av, op, rfl, hn, hP, hG, ha, hav, k⟩ := h
    obtain ⟨i, x, rfl⟩ := inv_3 hn
    obtain rfl : av = [nV i, nV x] := hav
    have hR := hP.rp
    refine ⟨_, (pss_cons (ps_set (i := 2) sc_set_seats.nd rfl (.inl rfl) (pe_ix ix_list (pv 1) pe_int (fun _ _ => rfl)))
      (pss_cons (ps_set (i := 3) sc_set_seats.nd rfl (.inl rfl) (pe_ix ix_list (pv 1) pe_int (fun _ _ => rfl)))
      (pss_cons (ps_if (pt_not (pt_val (pe_c c_has_block hr (by decide) rfl (pa_cons (pv 0) (pa_cons (pv 2) pa_nil))))) (pss_one (ps_ret (pe_lst (pa_cons (pe_gc rfl T.cNO_BLOCK) pa_nil)))) pss_nil)
      (pss_cons (ps_if (pt_cmpR op_gt (pv 3) (pe_gc rfl T.cMOST_PEOPLE) (nomark _)) (pss_one (ps_ret (pe_lst (pa_cons (pe_gc rfl T.cOUT_OF_RANGE) pa_nil)))) pss_nil)
      (pss_cons (ps_set (i := 4) sc_set_seats.nd rfl (.inl rfl) (pe_ix ix_list (pe_fld (pv 0) rfl) (pv 2) (fun _ _ => rfl)))
      (pss_cons (ps_set (i := 5) sc_set_seats.nd rfl (.inl rfl) (pe_fld (pv 4) rfl))
      (pss_cons (ps_fld (pv 4) (pv 3) rfl)
      (pss_one (ps_ret (pe_lst (pa_cons (pv 5) pa_nil))))))))))), ?_⟩
    refine ⟨_, rfl, a, _, _, _, rfl, rfl, SqL.of ha, at_of (j := 0) rfl rfl, ?_⟩
    refine ⟨_, rfl, a, _, _, _, rfl, rfl, SqL.of ha, at_of (j := 1) rfl rfl, ?_⟩
    refine ⟨_, rfl, _, rfl, _, i, m, rfl, hR, _, rfl, ?_⟩
    refine ite2 (fun hc => ?_) (fun hc => ?_)
    · have hi : ¬ i < m.blocks.length := fun z => not_true hc (decide_eq_true z)
      exact ⟨(by show 1 ≤ sizeLine; decide), fun q nq => post_bad k hP (Same.refl _) nq (by rw [run_3, gateB_no hi])⟩
    have hi : i < m.blocks.length := of_decide_eq_true (not_false hc)
    refine ⟨_, rfl, _, _, rfl, rfl, _, rfl, ?_⟩
    refine ite2 (fun hc2 => ?_) (fun hc2 => ?_)
    · have h : 999 < x := by have := of_decide_eq_true hc2; omega
      exact ⟨(by show 1 ≤ sizeLine; decide), fun q nq => post_bad k hP (Same.refl _) nq (by rw [run_3, gateB_yes hi, if_pos h])⟩
    have h : ¬ 999 < x := fun z => hc2 (decide_eq_true (by omega))
    obtain ⟨dx, bs, g1, g2, g3, g4, g5⟩ := id hP
    have hkb := List.getElem?_eq_getElem hi
    obtain ⟨b, hb, hB⟩ := g3.at2 hkb
    have gb : (bs.map V.ref)[i]? = some (V.ref b) := by rw [List.getElem?_map, hb]; rfl
    obtain ⟨dy, d0, b1, b2, b3, b4⟩ := id hB
    have er : (⟨m⟩ : Kv438.Planner).run (.setSeats i x) = (⟨⟨m.maxPrice, m.maxStep, m.blocks.modify i fun b => { b with seats := x }⟩⟩, .number (m.block i).seats) := by rw [run_3, gateB_yes hi, if_neg h]
    refine ⟨_, rfl, p, CP, dx, _, _, rfl, g1, T.clP, T.nPb, pl_blocks _ _ _, _, rfl, l, _, _, _, rfl, rfl, SqL.of g2, atI_nat gb, ?_⟩
    refine ⟨_, rfl, b, CB, dy, _, _, rfl, b1, T.clB, T.nBs, bk_seats _ _, ?_⟩
    refine ⟨_, rfl, _, rfl, b, CB, dy, _, rfl, b1, T.clB, T.nBs, (by show 2 < 1000; decide), ?_⟩
    rw [bk_put_seats]
    have hP3 : PlAt CP CB r (upd H b (.ins CB dy (bkF x d0))) p l (mkt m (.setSeats i x)) := by
      unfold mkt
      rw [er]
      refine ⟨dx, bs, by rw [upd_ne (hB.neP g1).symm]; exact g1, by rw [upd_ne (lst_ne g2 b1)]; exact g2, g3.modify i (fun a kb e1 e2 z => ?_) (fun j a kb ne e1 z => z.updI b1 fun e => ne (nd_ix g4 (by rw [e] at e1; exact e1) hb)), g4, g5⟩
      have ea : a = b := Option.some.inj (e1.symm.trans hb)
      have ek : kb = m.blocks[i] := Option.some.inj (e2.symm.trans hkb)
      rw [ea, ek]
      exact ⟨dy, d0, upd_same, by rw [upd_ne (lst_ne b2 b1)]; exact b2, b3, b4⟩
    refine ⟨_, rfl, (by show 1 ≤ sizeLine; decide), fun q nq => post_mut k (Kp.updI b1 rfl) hP3 nq ?_⟩
    unfold outM
    rw [er, block_at hkb]; rfl
theorem inv_4 {op : Operation} (h : numOf op = 4) : ∃ (i : Nat), ∃ (row : List Nat), op = .setDemand i row := by
  cases op <;> first
    | exact ⟨_, _, rfl⟩
    | exact absurd h (Nat.ne_of_beq_eq_false rfl)
abbrev s_set_demand : Stmt := top 47
abbrev n_set_demand : List Str := ["planner", "arguments", "block", "demand", "changed"]
theorem sc_set_demand : FnScope n_set_demand ["planner", "arguments"] (defScope s_set_demand) := ⟨rfl, rfl, rfl, by decide +kernel, rfl, by decide +kernel, by decide +kernel⟩
theorem ok_set_demand {f : Addr} {fd : FuncData} (F : Fun K "set_demand" "set_demand" s_set_demand f fd) (T : Txt K mg CB CC CP CS aS aR) (c_has_block : Cal P w K mg base 1 "has_block" (spHas CP CB) []) (c_is_demand : Cal P w K mg base 1 "is_demand" (spIsDem CP CB) []) : FnOk P w K mg base CX0 2 f fd ["planner", "arguments"] (spOp CP CB 4) := by
  refine F.ok sc_set_demand (fun vs H Q E h => ?_) (fun cdv A outer s H vs Q E hr h => ?_)
  · obtain ⟨r, p, l, m, a, av, op, rfl, _⟩ := h
    rfl
  · obtain ⟨r, p, l, m, a, av, op, rfl, hn, hP, hG, ha, hav, k⟩ := h
    obtain ⟨i, row, rfl⟩ := inv_4 hn
    obtain ⟨d, rfl, hd, hdr, hdl⟩ : ∃ d, av = [nV i, .ref d] ∧ H d = some (.lst (nL row)) ∧ d ≠ r ∧ d ≠ l := hav
    have hR := hP.rp
    refine ⟨_, (pss_cons (ps_set (i := 2) sc_set_demand.nd rfl (.inl rfl) (pe_ix ix_list (pv 1) pe_int (fun _ _ => rfl)))
      (pss_cons (ps_set (i := 3) sc_set_demand.nd rfl (.inl rfl) (pe_ix ix_list (pv 1) pe_int (fun _ _ => rfl)))
      (pss_cons (ps_if (pt_not (pt_val (pe_c c_has_block hr (by decide) rfl (pa_cons (pv 0) (pa_cons (pv 2) pa_nil))))) (pss_one (ps_ret (pe_lst (pa_cons (pe_gc rfl T.cNO_BLOCK) pa_nil)))) pss_nil)
      (pss_cons (ps_if (pt_not (pt_val (pe_c c_is_demand hr (by decide) rfl (pa_cons (pv 0) (pa_cons (pv 3) pa_nil))))) (pss_one (ps_ret (pe_lst (pa_cons (pe_gc rfl T.cOUT_OF_RANGE) pa_nil)))) pss_nil)
      (pss_cons (ps_set (i := 4) sc_set_demand.nd rfl (.inl rfl) (pe_ix ix_list (pe_fld (pv 0) rfl) (pv 2) (fun _ _ => rfl)))
      (pss_cons (ps_fld (pv 4) (pv 3) rfl)
      (pss_one (ps_ret (pe_lst (pa_cons pe_int pa_nil)))))))))), ?_⟩
    refine ⟨_, rfl, a, _, _, _, rfl, rfl, SqL.of ha, at_of (j := 0) rfl rfl, ?_⟩
    refine ⟨_, rfl, a, _, _, _, rfl, rfl, SqL.of ha, at_of (j := 1) rfl rfl, ?_⟩
    refine ⟨_, rfl, _, rfl, _, i, m, rfl, hR, _, rfl, ?_⟩
    refine ite2 (fun hc => ?_) (fun hc => ?_)
    · have hi : ¬ i < m.blocks.length := fun z => not_true hc (decide_eq_true z)
      exact ⟨(by show 1 ≤ sizeLine; decide), fun q nq => post_bad k hP (Same.refl _) nq (by rw [run_4, gateB_no hi])⟩
    have hi : i < m.blocks.length := of_decide_eq_true (not_false hc)
    refine ⟨_, rfl, _, rfl, _, d, row, m, rfl, hR, hd, fun H1 s1 => ⟨_, rfl, ?_⟩⟩
    refine ite2 (fun hc2 => ?_) (fun hc2 => ?_)
    · exact ⟨(by show 1 ≤ sizeLine; decide), fun q nq => post_bad k hP s1 nq (by rw [run_4, gateB_yes hi, if_pos (dem_no hc2)])⟩
    have h : ¬ m.isDemand row = false := fun z => by
      rw [z] at hc2; exact hc2 rfl
    obtain ⟨dx, bs, g1, g2, g3, g4, g5⟩ := hP.same s1
    have hkb := List.getElem?_eq_getElem hi
    obtain ⟨b, hb, hB⟩ := g3.at2 hkb
    have gb : (bs.map V.ref)[i]? = some (V.ref b) := by rw [List.getElem?_map, hb]; rfl
    obtain ⟨dy, d0, b1, b2, b3, b4⟩ := id hB
    have hd1 := s1 _ _ hd
    have er : (⟨m⟩ : Kv438.Planner).run (.setDemand i row) = (⟨⟨m.maxPrice, m.maxStep, m.blocks.modify i fun b => { b with demand := row }⟩⟩, .number 0) := by rw [run_4, gateB_yes hi, if_neg h]
    refine ⟨_, rfl, p, CP, dx, _, _, rfl, g1, T.clP, T.nPb, pl_blocks _ _ _, _, rfl, l, _, _, _, rfl, rfl, SqL.of g2, atI_nat gb, ?_⟩
    refine ⟨_, rfl, _, rfl, b, CB, dy, _, rfl, b1, T.clB, T.nBd, (by show 2 < 1000; decide), ?_⟩
    rw [bk_put_demand]
    have hP3 : PlAt CP CB r (upd H1 b (.ins CB dy (bkF m.blocks[i].seats d))) p l (mkt m (.setDemand i row)) := by
      unfold mkt
      rw [er]
      refine ⟨dx, bs, by rw [upd_ne (hB.neP g1).symm]; exact g1, by rw [upd_ne (lst_ne g2 b1)]; exact g2, g3.modify i (fun a kb e1 e2 z => ?_) (fun j a kb ne e1 z => z.updI b1 fun e => ne (nd_ix g4 (by rw [e] at e1; exact e1) hb)), g4, g5⟩
      have ea : a = b := Option.some.inj (e1.symm.trans hb)
      have ek : kb = m.blocks[i] := Option.some.inj (e2.symm.trans hkb)
      rw [ea, ek]
      exact ⟨dy, d, upd_same, by rw [upd_ne (lst_ne hd1 b1)]; exact hd1, hdr, hdl⟩
    refine ⟨(by show 1 ≤ sizeLine; decide), fun q nq => post_mut k ((Kp.of s1).trans (Kp.updI b1 rfl)) hP3 nq ?_⟩
    unfold outM
    rw [er]; rfl
theorem inv_5 {op : Operation} (h : numOf op = 5) : ∃ (x : Nat), op = .setMaxStep x := by
  cases op <;> first
    | exact ⟨_, rfl⟩
    | exact absurd h (Nat.ne_of_beq_eq_false rfl)
abbrev s_set_max_step : Stmt := top 48
abbrev n_set_max_step : List Str := ["planner", "arguments", "step", "previous"]
theorem sc_set_max_step : FnScope n_set_max_step ["planner", "arguments"] (defScope s_set_max_step) := ⟨rfl, rfl, rfl, by decide +kernel, rfl, by decide +kernel, by decide +kernel⟩
theorem ok_set_max_step {f : Addr} {fd : FuncData} (F : Fun K "set_max_step" "set_max_step" s_set_max_step f fd) (T : Txt K mg CB CC CP CS aS aR)  : FnOk P w K mg base CX0 1 f fd ["planner", "arguments"] (spOp CP CB 5) := by
  refine F.ok sc_set_max_step (fun vs H Q E h => ?_) (fun cdv A outer s H vs Q E hr h => ?_)
  · obtain ⟨r, p, l, m, a, av, op, rfl, _⟩ := h
    rfl
  · obtain ⟨r, p, l, m, a, av, op, rfl, hn, hP, hG, ha, hav, k⟩ := h
    obtain ⟨x, rfl⟩ := inv_5 hn
    obtain rfl : av = [nV x] := hav
    have hR := hP.rp
    refine ⟨_, (pss_cons (ps_set (i := 2) sc_set_max_step.nd rfl (.inl rfl) (pe_ix ix_list (pv 1) pe_int (fun _ _ => rfl)))
      (pss_cons (ps_if (pt_cmpR op_gt (pv 2) (pe_gc rfl T.cGREATEST_STEP) (nomark _)) (pss_one (ps_ret (pe_lst (pa_cons (pe_gc rfl T.cOUT_OF_RANGE) pa_nil)))) pss_nil)
      (pss_cons (ps_set (i := 3) sc_set_max_step.nd rfl (.inl rfl) (pe_fld (pv 0) rfl))
      (pss_cons (ps_fld (pv 0) (pv 2) rfl)
      (pss_one (ps_ret (pe_lst (pa_cons (pv 3) pa_nil)))))))), ?_⟩
    refine ⟨_, rfl, a, _, _, _, rfl, rfl, SqL.of ha, at_of (j := 0) rfl rfl, ?_⟩
    refine ⟨_, rfl, _, _, rfl, rfl, _, rfl, ?_⟩
    refine ite2 (fun hc => ?_) (fun hc => ?_)
    · have h : 7 < x := by have := of_decide_eq_true hc; omega
      exact ⟨(by show 1 ≤ sizeLine; decide), fun q nq => post_bad k hP (Same.refl _) nq (by rw [run_5, if_pos h])⟩
    have h : ¬ 7 < x := fun z => hc (decide_eq_true (by omega))
    obtain ⟨dx, bs, g1, g2, g3, g4, g5⟩ := id hP
    have er : (⟨m⟩ : Kv438.Planner).run (.setMaxStep x) = (⟨⟨m.maxPrice, x, m.blocks⟩⟩, .number m.maxStep) := by rw [run_5, if_neg h]
    refine ⟨_, rfl, p, CP, dx, _, _, rfl, g1, T.clP, T.nPs, pl_step _ _ _, ?_⟩
    refine ⟨_, rfl, _, rfl, p, CP, dx, _, rfl, g1, T.clP, T.nPs, (by show 3 < 1000; decide), ?_⟩
    rw [pl_put_step]
    have hP3 : PlAt CP CB r (upd H p (.ins CP dx (plF m.maxPrice x l))) p l (mkt m (.setMaxStep x)) := by
      unfold mkt
      rw [er]
      exact ⟨dx, bs, upd_same, by rw [upd_ne (lst_ne g2 g1)]; exact g2, g3.mono fun _ _ z => z.updI g1 (z.neP g1), g4, g5⟩
    refine ⟨_, rfl, (by show 1 ≤ sizeLine; decide), fun q nq => post_mut k (Kp.updI g1 rfl) hP3 nq ?_⟩
    unfold outM
    rw [er]; rfl
theorem inv_6 {op : Operation} (h : numOf op = 6) : ∃ (i : Nat), ∃ (j : Nat), op = .swapBlocks i j := by
  cases op <;> first
    | exact ⟨_, _, rfl⟩
    | exact absurd h (Nat.ne_of_beq_eq_false rfl)
abbrev s_swap_blocks : Stmt := top 49
abbrev n_swap_blocks : List Str := ["planner", "arguments", "i", "j", "blocks", "moved"]
theorem sc_swap_blocks : FnScope n_swap_blocks ["planner", "arguments"] (defScope s_swap_blocks) := ⟨rfl, rfl, rfl, by decide +kernel, rfl, by decide +kernel, by decide +kernel⟩
theorem ok_swap_blocks {f : Addr} {fd : FuncData} (F : Fun K "swap_blocks" "swap_blocks" s_swap_blocks f fd) (T : Txt K mg CB CC CP CS aS aR) (c_has_block : Cal P w K mg base 1 "has_block" (spHas CP CB) []) : FnOk P w K mg base CX0 2 f fd ["planner", "arguments"] (spOp CP CB 6) := by
  refine F.ok sc_swap_blocks (fun vs H Q E h => ?_) (fun cdv A outer s H vs Q E hr h => ?_)
  · obtain ⟨r, p, l, m, a, av, op, rfl, _⟩ := h
    rfl
  · obtain ⟨r, p, l, m, a, av, op, rfl, hn, hP, hG, ha, hav, k⟩ := h
    obtain ⟨i, j, rfl⟩ := inv_6 hn
    obtain rfl : av = [nV i, nV j] := hav
    have hR := hP.rp
    refine ⟨_, (pss_cons (ps_set (i := 2) sc_swap_blocks.nd rfl (.inl rfl) (pe_ix ix_list (pv 1) pe_int (fun _ _ => rfl)))
      (pss_cons (ps_set (i := 3) sc_swap_blocks.nd rfl (.inl rfl) (pe_ix ix_list (pv 1) pe_int (fun _ _ => rfl)))
      (pss_cons (ps_if (PW.pt (pw_or (pt_not (pt_val (pe_c c_has_block hr (by decide) rfl (pa_cons (pv 0) (pa_cons (pv 2) pa_nil))))) (pw_or1 (pt_not (pt_val (pe_c c_has_block hr (by decide) rfl (pa_cons (pv 0) (pa_cons (pv 3) pa_nil)))))))) (pss_one (ps_ret (pe_lst (pa_cons (pe_gc rfl T.cNO_BLOCK) pa_nil)))) pss_nil)
      (pss_cons (ps_set (i := 4) sc_swap_blocks.nd rfl (.inl rfl) (pe_fld (pv 0) rfl))
      (pss_cons (ps_set (i := 5) sc_swap_blocks.nd rfl (.inl rfl) (pe_ix ix_list (pv 4) (pv 2) (fun _ _ => rfl)))
      (pss_cons (ps_asg (pe_ix ix_list (pv 4) (pv 3) (fun _ _ => rfl)) (pg_sub (pv 4) (pv 2) set_list))
      (pss_cons (ps_asg (pv 5) (pg_sub (pv 4) (pv 3) set_list))
      (pss_one (ps_ret (pe_lst (pa_cons (pe_callB call_len_seq rfl T.len PySem.boot_len (pa_cons (pv 4) pa_nil)) pa_nil))))))))))), ?_⟩
    refine ⟨_, rfl, a, _, _, _, rfl, rfl, SqL.of ha, at_of (j := 0) rfl rfl, ?_⟩
    refine ⟨_, rfl, a, _, _, _, rfl, rfl, SqL.of ha, at_of (j := 1) rfl rfl, ?_⟩
    have bad : ∀ q, H q = none → ((⟨m⟩ : Kv438.Planner).isBlock i = false ∨ (⟨m⟩ : Kv438.Planner).isBlock j = false) → Q (.ref q) (upd H q (.lst [V.int (-2)])) := fun q nq hb => post_bad k hP (Same.refl _) nq (by rw [run_6, if_pos hb])
    refine ⟨_, rfl, _, rfl, _, i, m, rfl, hR, _, rfl, ?_⟩
    refine ite2 (fun hc => ?_) (fun hc => ?_)
    · exact iteT ⟨(by show 1 ≤ sizeLine; decide), fun q nq => bad q nq (.inl (dem_no hc))⟩
    have hi : i < m.blocks.length := of_decide_eq_true (not_false hc)
    refine ⟨_, rfl, _, rfl, _, j, m, rfl, hR, _, rfl, ?_⟩
    refine ite2 (fun hc2 => ?_) (fun hc2 => ?_)
    · exact ⟨(by show 1 ≤ sizeLine; decide), fun q nq => bad q nq (.inr (dem_no hc2))⟩
    have hj : j < m.blocks.length := of_decide_eq_true (not_false hc2)
    have hb : ¬ ((⟨m⟩ : Kv438.Planner).isBlock i = false ∨ (⟨m⟩ : Kv438.Planner).isBlock j = false) := by
      rw [is_block, is_block, decide_eq_true hi, decide_eq_true hj]
      exact fun z => z.elim (fun y => by cases y) fun y => by cases y
    obtain ⟨dx, bs, g1, g2, g3, g4, g5⟩ := id hP
    have hki := List.getElem?_eq_getElem hi
    have hkj := List.getElem?_eq_getElem hj
    obtain ⟨b, hbi, hB⟩ := g3.at2 hki
    obtain ⟨c, hcj, hC⟩ := g3.at2 hkj
    have gi : (bs.map V.ref)[i]? = some (V.ref b) := by rw [List.getElem?_map, hbi]; rfl
    have gj : (bs.map V.ref)[j]? = some (V.ref c) := by rw [List.getElem?_map, hcj]; rfl
    have li := (List.getElem?_eq_some_iff.mp gi).1
    have lj := (List.getElem?_eq_some_iff.mp gj).1
    have er : (⟨m⟩ : Kv438.Planner).run (.swapBlocks i j) = (⟨⟨m.maxPrice, m.maxStep, (m.blocks.set i (m.block j)).set j (m.block i)⟩⟩, .number m.blocks.length) := by rw [run_6, if_neg hb]
    refine ⟨_, rfl, p, CP, dx, _, _, rfl, g1, T.clP, T.nPb, pl_blocks _ _ _, ?_⟩
    refine ⟨_, rfl, _, rfl, l, _, _, _, rfl, rfl, SqL.of g2, atI_nat gi, ?_⟩
    refine ⟨_, rfl, _, rfl, l, _, _, _, rfl, rfl, SqL.of g2, atI_nat gj, _, rfl, _, rfl, l, _, (i : Int), i, rfl, rfl, g2, ixN_nat li, ?_⟩
    refine ⟨_, rfl, _, rfl, _, rfl, l, _, (j : Int), j, rfl, rfl, upd_same, ixN_nat (by rw [List.length_set]; exact lj), ?_⟩
    have hP3 : PlAt CP CB r (upd (upd H l (.lst ((bs.map V.ref).set i (V.ref c)))) l (.lst (((bs.map V.ref).set i (V.ref c)).set j (V.ref b)))) p l (mkt m (.swapBlocks i j)) := by
      unfold mkt
      rw [er, block_at hki, block_at hkj]
      refine ⟨dx, (bs.set i c).set j b, ?_, ?_, ?_, swp_nodup g4 hbi hcj, g5⟩
      · have ne := (lst_ne g2 g1).symm
        rw [upd_ne ne, upd_ne ne]; exact g1
      · rw [upd_same, List.map_set, List.map_set]
      · exact ((g3.set i hC).set j hB).mono fun a k z => (z.updL g2).updL upd_same
    refine ⟨_, rfl, l, _, rfl, .inl (SqL.of upd_same), (by show 1 ≤ sizeLine; decide), fun q nq => post_mut k (Kp.updL.trans Kp.updL) hP3 nq ?_⟩
    unfold outM
    rw [er]
    show [V.int _] = [V.int ((m.blocks.length : Nat) : Int)]
    rw [List.length_set, List.length_set, List.length_map, g3.len]

def spCreate (CP CS : Addr) : Sp := fun vs H Q _ => ∃ (ss a dx : Addr) (v : V) (x y : Nat), vs = [.ref ss, .ref a] ∧ H ss = some (.ins CS dx (ssF v)) ∧ H a = some (.lst [nV x, nV y]) ∧
  ((x = 0 ∨ 7 < x ∨ 7 < y) → ∀ H' q, Same H H' → H q = none → H' q = some (.lst [V.int (-22)]) → Q (.ref q) H') ∧
  (¬ (x = 0 ∨ 7 < x ∨ 7 < y) → ∀ H' q p l dp, (∀ b o, H b = some o → b ≠ ss → H' b = some o) → H p = none → H l = none → H' ss = some (.ins CS dx (ssF (.ref p))) → H' p = some (.ins CP dp (plF x y l)) → H' l = some (.lst []) → H q = none → H' q = some (.lst [V.int 0]) → Q (.ref q) H')
abbrev s_create : Stmt := top 43
abbrev n_create : List Str := ["session", "arguments", "max_price", "max_step"]
theorem sc_create : FnScope n_create ["session", "arguments"] (defScope s_create) := ⟨rfl, rfl, rfl, by decide +kernel, rfl, by decide +kernel, by decide +kernel⟩
theorem ok_create {f : Addr} {fd : FuncData} (F : Fun K "create" "create" s_create f fd) (T : Txt K mg CB CC CP CS aS aR) (c_Planner : Mak P w K mg base 1 "Planner" CP (spInitP CP) []) : FnOk P w K mg base CX0 3 f fd ["session", "arguments"] (spCreate CP CS) := by
  refine F.ok sc_create (fun vs H Q E h => ?_) (fun cdv A outer s H vs Q E hr h => ?_)
  · obtain ⟨ss, a, dx, v, x, y, rfl, _⟩ := h
    rfl
  · obtain ⟨ss, a, dx, v, x, y, rfl, hs, ha, k1, k2⟩ := h
    refine ⟨_, (pss_cons (ps_set (i := 2) sc_create.nd rfl (.inl rfl) (pe_ix ix_list (pv 1) pe_int (fun _ _ => rfl)))
      (pss_cons (ps_set (i := 3) sc_create.nd rfl (.inl rfl) (pe_ix ix_list (pv 1) pe_int (fun _ _ => rfl)))
      (pss_cons (ps_if (PW.pt (pw_or (pt_cmpR op_lt (pv 2) pe_int (nomark _)) (pw_or (pt_cmpR op_gt (pv 2) (pe_gc rfl T.cGREATEST_PRICE) (nomark _)) (pw_or1 (pt_cmpR op_gt (pv 3) (pe_gc rfl T.cGREATEST_STEP) (nomark _)))))) (pss_one (ps_ret (pe_lst (pa_cons (pe_gc rfl T.cOUT_OF_RANGE) pa_nil)))) pss_nil)
      (pss_cons (ps_fld (pv 0) (pe_mk c_Planner hr (by decide) rfl (pa_cons (pv 2) (pa_cons (pv 3) pa_nil))) rfl)
      (pss_one (ps_ret (pe_lst (pa_cons pe_int pa_nil)))))))), ?_⟩
    refine ⟨_, rfl, a, _, _, _, rfl, rfl, SqL.of ha, at_of (j := 0) rfl rfl, ?_⟩
    refine ⟨_, rfl, a, _, _, _, rfl, rfl, SqL.of ha, at_of (j := 1) rfl rfl, ?_⟩
    have bad : (x = 0 ∨ 7 < x ∨ 7 < y) → ∀ q, H q = none → Q (.ref q) (upd H q (.lst [V.int (-22)])) := fun h q nq => k1 h _ q (same_new nq) nq upd_same
    refine ⟨_, rfl, _, _, rfl, rfl, _, rfl, ?_⟩
    refine ite2 (fun hc => ?_) (fun hc => ?_)
    · exact iteT ⟨(by show 1 ≤ sizeLine; decide), fun q nq => bad (.inl (by have := of_decide_eq_true hc; omega)) q nq⟩
    have h1 : ¬ x = 0 := fun z => hc (decide_eq_true (by omega))
    refine ⟨_, rfl, _, _, rfl, rfl, _, rfl, ?_⟩
    refine ite2 (fun hc => ?_) (fun hc => ?_)
    · exact iteT ⟨(by show 1 ≤ sizeLine; decide), fun q nq => bad (.inr (.inl (by have := of_decide_eq_true hc; omega))) q nq⟩
    have h2 : ¬ 7 < x := fun z => hc (decide_eq_true (by omega))
    refine ⟨_, rfl, _, _, rfl, rfl, _, rfl, ?_⟩
    refine ite2 (fun hc => ?_) (fun hc => ?_)
    · exact ⟨(by show 1 ≤ sizeLine; decide), fun q nq => bad (.inr (.inr (by have := of_decide_eq_true hc; omega))) q nq⟩
    have h3 : ¬ 7 < y := fun z => hc (decide_eq_true (by omega))
    refine ⟨_, rfl, _, rfl, ?_⟩
    intro p dp np ndp nep
    refine ⟨p, dp, x, y, rfl, upd_same, fun H1 l nl0 hp hl hk => ⟨rfl, ?_⟩⟩
    have nl : H l = none := (upd_none (upd_none nl0).1).1
    have s1 := new_same2 np ndp nl hk
    have hs1 := s1 _ _ hs
    refine ⟨_, rfl, ss, CS, dx, _, rfl, hs1, T.clS, T.nSp, (by show 1 < 1000; decide), ?_⟩
    rw [ss_put]
    refine ⟨(by show 1 ≤ sizeLine; decide), fun q nq => ?_⟩
    obtain ⟨nq1, nqs⟩ := upd_none nq
    have np1 : p ≠ ss := (ne_of_none hs np).symm
    have nl1 : l ≠ ss := (ne_of_none hs nl).symm
    have nqp : p ≠ q := fun e => by rw [← e, hp] at nq1; cases nq1
    have nql : l ≠ q := fun e => by rw [← e, hl] at nq1; cases nq1
    refine k2 (fun z => z.elim h1 fun z => z.elim h2 h3) _ q p l dp (fun b o e nb => ?_) np nl ?_ ?_ ?_ (s1.free nq1) upd_same
    · have nbq : b ≠ q := fun z => by rw [z, s1.free nq1] at e; cases e
      rw [upd_ne nbq, upd_ne nb]; exact s1 _ _ e
    · rw [upd_ne nqs.symm, upd_same]
    · rw [upd_ne nqp, upd_ne np1]; exact hp
    · rw [upd_ne nql, upd_ne nl1]; exact hl
end
end Bp

/-! # blockprices: one call -/
namespace Bp
open PySem PySem.Spec PyProof.Rows L2
open C8 (Cal pe_c Mak pe_mk pe_gc)
open Kv438 (Block Market Operation Response)

theorem inv_0 {op : Operation} (h : numOf op = 0) : ∃ (x : Nat), ∃ (y : Nat), op = .create x y := by
  cases op <;> first
    | exact ⟨_, _, rfl⟩
    | exact absurd h (Nat.ne_of_beq_eq_false rfl)
theorem numOf_le (op : Operation) : numOf op ≤ 22 := by
  cases op <;> exact Nat.le_of_ble_eq_true rfl
theorem exec_none {op : Operation} (h : numOf op ≠ 0) : Kv438.execute none op = (none, .error (-11)) := by
  cases op <;> first
    | rfl
    | exact absurd rfl h
theorem exec_some (pl : Kv438.Planner) (op : Operation) : Kv438.execute (some pl) op = (some (pl.run op).1, (pl.run op).2) := rfl
theorem exec_new (x y : Nat) : Kv438.execute none (.create x y) = if x = 0 ∨ 7 < x ∨ 7 < y then (none, .error (-22)) else (some ⟨⟨x, y, []⟩⟩, .number 0) := by
  show (if ((⟨⟨1, 0, []⟩⟩ : Kv438.Planner).run (.create x y)).2.code < 0 then (none, ((⟨⟨1, 0, []⟩⟩ : Kv438.Planner).run (.create x y)).2) else (some ((⟨⟨1, 0, []⟩⟩ : Kv438.Planner).run (.create x y)).1, ((⟨⟨1, 0, []⟩⟩ : Kv438.Planner).run (.create x y)).2)) = _
  rw [run_0]
  by_cases h : x = 0 ∨ 7 < x ∨ 7 < y
  · rw [if_pos h, if_pos h]; rfl
  · rw [if_neg h, if_neg h]; rfl
/-- a session: a planner, or none -/
def StAt (CP CB CS r : Addr) (H : Hp) (ss l : Addr) (st : Kv438.State) : Prop :=
  match st with
  | none => l = ss ∧ ∃ dx, H ss = some (.ins CS dx (ssF .non))
  | some pl => ∃ dx p, H ss = some (.ins CS dx (ssF (.ref p))) ∧ PlAt CP CB r H p l pl.market ∧ GM pl.market
theorem StAt.same {CP CB CS r ss l : Addr} {H H' : Hp} {st : Kv438.State} (s : Same H H') (h : StAt CP CB CS r H ss l st) : StAt CP CB CS r H' ss l st := by
  cases st with
  | none => obtain ⟨e, dx, h⟩ := h; exact ⟨e, dx, s _ _ h⟩
  | some pl => obtain ⟨dx, p, h1, h2, h3⟩ := h; exact ⟨dx, p, s _ _ h1, h2.same s, h3⟩
section
variable {P : Program} {w : World} {K : PySem.W.Frag} {mg : Str → Option Value} {base : Heap} {CB CC CP CS aS aR aO : Addr}
def spAnswer (CP CB CS : Addr) : Sp := fun vs H Q _ => ∃ ss r a l av st op, vs = [.ref ss, nV (numOf op), .ref a] ∧ (∃ xs, H r = some (.lst xs)) ∧ StAt CP CB CS r H ss l st ∧ H a = some (.lst av) ∧ AvAt H r l (argsOf op) av ∧
  ∀ H' q l', (∀ b o, H b = some o → b ≠ l → b ≠ ss → keepO o = true → H' b = some o) → StAt CP CB CS r H' ss l' (Kv438.execute st op).1 → H q = none → H' q = some (.lst ((Kv438Neutral.resultRow (Kv438.execute st op).2).map V.int)) → Q (.ref q) H'
abbrev s_answer : Stmt := top 67
abbrev n_answer : List Str := ["session", "number", "arguments", "operation"]
theorem sc_answer : FnScope n_answer ["session", "number", "arguments"] (defScope s_answer) := ⟨rfl, rfl, rfl, by decide +kernel, rfl, by decide +kernel, by decide +kernel⟩
theorem ok_answer {f : Addr} {fd : FuncData} (F : Fun K "answer" "answer" s_answer f fd) (T : Txt K mg CB CC CP CS aS aR) (c_create : Cal P w K mg base 3 "create" (spCreate CP CS) [])
    (hO : ∃ u, mg "OPERATIONS" = some u ∧ RelV (.ref aO) u) (hK : ∀ k : Nat, 1 ≤ k → k ≤ 22 → ∃ g, KInt K aO (k : Int) (.ref g) ∧ Held P w K mg base 6 g (spOp CP CB k)) : FnOk P w K mg base CX0 7 f fd ["session", "number", "arguments"] (spAnswer CP CB CS) := by
  have HR : ∀ g sp, Held P w K mg base 6 g sp → Held P w K mg base 6 g sp := fun _ _ h => h
  refine F.ok sc_answer (fun vs H Q E h => ?_) (fun cdv A outer s H vs Q E hr h => ?_)
  · obtain ⟨ss, r, a, l, av, st, op, rfl, _⟩ := h
    rfl
  · obtain ⟨ss, r, a, l, av, st, op, rfl, ⟨xs, hxs⟩, hst, ha, hav, k⟩ := h
    refine ⟨_, (pss_cons (ps_if (pt_cmpR op_eq (pv 1) (pe_gc rfl T.cCREATE) (nomark _)) (pss_one (ps_ret (pe_c c_create hr (by decide) rfl (pa_cons (pv 0) (pa_cons (pv 2) pa_nil))))) pss_nil)
      (pss_cons (ps_if (pt_cmpR op_isN (pe_fld (pv 0) rfl) pe_non (nomark _)) (pss_one (ps_ret (pe_lst (pa_cons (pe_gc rfl T.cNO_PLANNER) pa_nil)))) pss_nil)
      (pss_cons (ps_set (i := 3) sc_answer.nd rfl (.inl rfl) (pe_ix ix_kint (pe_gc rfl hO) (pv 1) (fun _ _ => rfl)))
      (pss_one (ps_ret (pe_callR (i := 3) HR hr rfl (.inl rfl) (pa_cons (pe_fld (pv 0) rfl) (pa_cons (pv 2) pa_nil)))))))), ?_⟩
    refine ⟨_, rfl, rfl, _, rfl, ?_⟩
    refine ite2 (fun hc => ?_) (fun hc => ?_)
    · have h0 : numOf op = 0 := by
        have z := V.int.inj (of_decide_eq_true hc)
        omega
      obtain ⟨x, y, rfl⟩ := inv_0 h0
      obtain rfl : av = [nV x, nV y] := hav
      obtain ⟨dx, v, hs⟩ : ∃ dx v, H ss = some (.ins CS dx (ssF v)) := by
        cases st with
        | none => obtain ⟨_, dx, h⟩ := hst; exact ⟨dx, _, h⟩
        | some pl => obtain ⟨dx, p, h, _⟩ := hst; exact ⟨dx, _, h⟩
      refine ⟨_, rfl, _, rfl, ss, a, dx, v, x, y, rfl, hs, ha, fun hb H' q s1 nq hq => ?_, fun hb H' q p l' dp hold np nl hss hp hl nq hq => ?_⟩
      · have e1 : (Kv438.execute st (.create x y)).1 = st ∧ (Kv438.execute st (.create x y)).2 = .error (-22) := by
          cases st with
          | none => rw [exec_new, if_pos hb]; exact ⟨rfl, rfl⟩
          | some pl =>
            obtain ⟨m⟩ := pl
            rw [exec_some, run_0, if_pos hb]; exact ⟨rfl, rfl⟩
        exact k H' q l (fun b o e _ _ _ => s1 _ _ e) (by rw [e1.1]; exact hst.same s1) nq (by rw [e1.2]; exact hq)
      · have e1 : Kv438.execute st (.create x y) = (some ⟨⟨x, y, []⟩⟩, .number 0) := by
          cases st with
          | none => rw [exec_new, if_neg hb]
          | some pl =>
            obtain ⟨m⟩ := pl
            rw [exec_some, run_0, if_neg hb]
        refine k H' q l' (fun b o e _ n2 _ => hold b o e n2) ?_ nq (by rw [e1]; exact hq)
        rw [e1]
        exact ⟨dx, p, hss, ⟨dp, [], hp, hl, .nil, List.nodup_nil, fun e => by rw [e, hxs] at nl; cases nl⟩, by show 1 ≤ x; omega, by show x ≤ 7; omega, by show y ≤ 7; omega, Nat.zero_le _, fun b hb => by cases hb⟩
    have h0 : numOf op ≠ 0 := fun e => hc (decide_eq_true (by rw [e]; rfl))
    cases st with
    | none =>
      obtain ⟨el, dx, hs⟩ := id hst
      refine ⟨_, rfl, ss, CS, dx, _, _, rfl, hs, T.clS, T.nSp, ss_planner _, rfl, _, rfl, ?_⟩
      refine ite2 (fun _ => ?_) (fun hc2 => absurd (decide_eq_true rfl) hc2)
      refine ⟨(by show 1 ≤ sizeLine; decide), fun q nq => ?_⟩
      have s1 := same_new (o := .lst [V.int (-11)]) nq
      refine k _ q l (fun b o e _ _ _ => s1 _ _ e) ?_ nq ?_
      · rw [exec_none h0]; exact StAt.same (st := none) s1 hst
      · rw [exec_none h0]; exact upd_same
    | some pl =>
      obtain ⟨m⟩ := pl
      obtain ⟨dx, p, hs, hP, hG⟩ := id hst
      refine ⟨_, rfl, ss, CS, dx, _, _, rfl, hs, T.clS, T.nSp, ss_planner _, rfl, _, rfl, ?_⟩
      refine ite2 (fun hc2 => nomatch (of_decide_eq_true hc2)) (fun _ => ?_)
      obtain ⟨g, hg, hH⟩ := hK (numOf op) (by omega) (numOf_le op)
      refine ⟨_, rfl, aO, _, _, rfl, rfl, hg, ?_⟩
      refine ⟨g, _, rfl, hH, _, rfl, ss, CS, dx, _, _, rfl, hs, T.clS, T.nSp, ss_planner _, _, rfl, r, p, l, m, a, av, op, rfl, rfl, hP, hG, ha, hav, fun H' q kp hP' nq hq => ?_⟩
      obtain ⟨dp, bs, _, hl, _⟩ := id hP
      refine k H' q l (fun b o e n1 _ n3 => kp.old b o e n1 n3) ?_ nq hq
      exact ⟨dx, p, kp.old ss _ hs (lst_ne hl hs).symm rfl, hP', gm_run hG op⟩
end
end Bp

/-! # blockprices: how calls stand in a list -/
namespace Bp
open PySem PySem.Spec PyProof.Rows L2
open Kv438 (Block Market Operation Response)

def cst (l : List Nat) : List Int := l.map fun n : Nat => (n : Int)
def sing : List Nat := [2, 1, 1, 2, 1, 1, 2, 2, 2, 0, 0, 0, 0, 0, 0, 0, 2, 1, 1, 1, 1, 1, 0]
def wrow : List Nat := [1, 4, 12, 13, 14]
theorem cst_drop (l : List Nat) (n : Nat) : (cst l).drop n = cst (l.drop n) := List.map_drop.symm
theorem cst_take (l : List Nat) (n : Nat) : (cst l).take n = cst (l.take n) := List.map_take.symm
theorem cst_len (l : List Nat) : (cst l).length = l.length := List.length_map ..
theorem nats_cst (l : List Nat) : Kv438Neutral.naturals (cst l) = l := by
  unfold Kv438Neutral.naturals cst
  rw [List.map_map]
  exact List.map_id l
theorem nL_cst (l : List Nat) : nL l = (cst l).map V.int := nL_ints l

/-! ### shapes -/
def tabOk (p : Nat) : Bool := match PyKv438.shape (p : Int) with
  | none => false
  | some (n, k) => (sing[p]? == some n) && ((k == 0 && !inV (nV p) (nL wrow)) || (k == 1 && inV (nV p) (nL wrow)))
theorem tab_ok : ∀ p, p < 23 → tabOk p = true := by decide +kernel
theorem shape_none {p : Nat} (h : 23 ≤ p) : PyKv438.shape (p : Int) = none := by
  unfold PyKv438.shape
  repeat rw [if_neg (by omega)]
theorem shape_tab {p n k : Nat} (h : PyKv438.shape (p : Int) = some (n, k)) : p < 23 ∧ sing[p]? = some n ∧ ((k = 0 ∧ inV (nV p) (nL wrow) = false) ∨ (k = 1 ∧ inV (nV p) (nL wrow) = true)) := by
  have hp : p < 23 := by
    rcases Nat.lt_or_ge p 23 with q | q
    · exact q
    · rw [shape_none q] at h; cases h
  have t := tab_ok p hp
  unfold tabOk at t
  rw [h] at t
  replace t : ((sing[p]? == some n) && ((k == 0 && !inV (nV p) (nL wrow)) || (k == 1 && inV (nV p) (nL wrow)))) = true := t
  rw [Bool.and_eq_true, beq_iff_eq, Bool.or_eq_true, Bool.and_eq_true, Bool.and_eq_true, beq_iff_eq, beq_iff_eq] at t
  refine ⟨hp, t.1, ?_⟩
  rcases t.2 with q | q
  · exact .inl ⟨q.1, by simpa using q.2⟩
  · exact .inr q
theorem len0 {as : List Nat} (h : as.length = 0) : as = [] := List.eq_nil_of_length_eq_zero h
theorem len1 {as : List Nat} (h : as.length = 1) : ∃ x, as = [x] := by
  match as, h with
  | [x], _ => exact ⟨x, rfl⟩
theorem len2 {as : List Nat} (h : as.length = 2) : ∃ x y, as = [x, y] := by
  match as, h with
  | [x, y], _ => exact ⟨x, y, rfl⟩
def rowL (ro : Option (List Nat)) : List (List Int) := match ro with
  | none => []
  | some r => [cst r]
def RoK (k : Nat) (ro : Option (List Nat)) : Prop := (k = 0 ∧ ro = none) ∨ (k = 1 ∧ ∃ row, ro = some row)
theorem ro0 {ro : Option (List Nat)} (h : RoK 0 ro) : ro = none := h.elim (fun z => z.2) fun z => by cases z.1
theorem ro1 {ro : Option (List Nat)} (h : RoK 1 ro) : ∃ row, ro = some row := h.elim (fun z => by cases z.1) fun z => z.2
theorem op_of {p n k : Nat} {as : List Nat} {ro : Option (List Nat)} (h : PyKv438.shape (p : Int) = some (n, k)) (ha : as.length = n) (hk : RoK k ro) :
    ∃ op, Kv438Neutral.operationOf (cst (p :: as) :: rowL ro) = some op ∧ numOf op = p ∧ argsOf op = (as, ro) := by
  have hp := (shape_tab h).1
  have h23 : p = 0 ∨ p = 1 ∨ p = 2 ∨ p = 3 ∨ p = 4 ∨ p = 5 ∨ p = 6 ∨ p = 7 ∨ p = 8 ∨ p = 9 ∨ p = 10 ∨ p = 11 ∨ p = 12 ∨ p = 13 ∨ p = 14 ∨ p = 15 ∨ p = 16 ∨ p = 17 ∨ p = 18 ∨ p = 19 ∨ p = 20 ∨ p = 21 ∨ p = 22 := by omega
  rcases h23 with rfl | rfl | rfl | rfl | rfl | rfl | rfl | rfl | rfl | rfl | rfl | rfl | rfl | rfl | rfl | rfl | rfl | rfl | rfl | rfl | rfl | rfl | rfl
  · have e : some (2, 0) = some (n, k) := h
    cases e
    obtain ⟨x, y, rfl⟩ := len2 ha
    obtain rfl := ro0 hk
    exact ⟨.create x y, rfl, rfl, rfl⟩
  · have e : some (1, 1) = some (n, k) := h
    cases e
    obtain ⟨x, rfl⟩ := len1 ha
    obtain ⟨row, rfl⟩ := ro1 hk
    exact ⟨.addBlock x row, (congrArg (fun z => some (Operation.addBlock x z)) (nats_cst row)), rfl, rfl⟩
  · have e : some (1, 0) = some (n, k) := h
    cases e
    obtain ⟨i, rfl⟩ := len1 ha
    obtain rfl := ro0 hk
    exact ⟨.removeBlock i, rfl, rfl, rfl⟩
  · have e : some (2, 0) = some (n, k) := h
    cases e
    obtain ⟨i, x, rfl⟩ := len2 ha
    obtain rfl := ro0 hk
    exact ⟨.setSeats i x, rfl, rfl, rfl⟩
  · have e : some (1, 1) = some (n, k) := h
    cases e
    obtain ⟨i, rfl⟩ := len1 ha
    obtain ⟨row, rfl⟩ := ro1 hk
    exact ⟨.setDemand i row, (congrArg (fun z => some (Operation.setDemand i z)) (nats_cst row)), rfl, rfl⟩
  · have e : some (1, 0) = some (n, k) := h
    cases e
    obtain ⟨x, rfl⟩ := len1 ha
    obtain rfl := ro0 hk
    exact ⟨.setMaxStep x, rfl, rfl, rfl⟩
  · have e : some (2, 0) = some (n, k) := h
    cases e
    obtain ⟨i, j, rfl⟩ := len2 ha
    obtain rfl := ro0 hk
    exact ⟨.swapBlocks i j, rfl, rfl, rfl⟩
  · have e : some (2, 0) = some (n, k) := h
    cases e
    obtain ⟨i, pr, rfl⟩ := len2 ha
    obtain rfl := ro0 hk
    exact ⟨.attendance i pr, rfl, rfl, rfl⟩
  · have e : some (2, 0) = some (n, k) := h
    cases e
    obtain ⟨i, pr, rfl⟩ := len2 ha
    obtain rfl := ro0 hk
    exact ⟨.revenue i pr, rfl, rfl, rfl⟩
  · have e : some (0, 0) = some (n, k) := h
    cases e
    obtain rfl := len0 ha
    obtain rfl := ro0 hk
    exact ⟨.bestPrices, rfl, rfl, rfl⟩
  · have e : some (0, 0) = some (n, k) := h
    cases e
    obtain rfl := len0 ha
    obtain rfl := ro0 hk
    exact ⟨.unconstrainedPrices, rfl, rfl, rfl⟩
  · have e : some (0, 0) = some (n, k) := h
    cases e
    obtain rfl := len0 ha
    obtain rfl := ro0 hk
    exact ⟨.orderingLoss, rfl, rfl, rfl⟩
  · have e : some (0, 1) = some (n, k) := h
    cases e
    obtain rfl := len0 ha
    obtain ⟨row, rfl⟩ := ro1 hk
    exact ⟨.totalRevenue row, (congrArg (fun z => some (Operation.totalRevenue z)) (nats_cst row)), rfl, rfl⟩
  · have e : some (0, 1) = some (n, k) := h
    cases e
    obtain rfl := len0 ha
    obtain ⟨row, rfl⟩ := ro1 hk
    exact ⟨.isOrdered row, (congrArg (fun z => some (Operation.isOrdered z)) (nats_cst row)), rfl, rfl⟩
  · have e : some (0, 1) = some (n, k) := h
    cases e
    obtain rfl := len0 ha
    obtain ⟨row, rfl⟩ := ro1 hk
    exact ⟨.totalAttendance row, (congrArg (fun z => some (Operation.totalAttendance z)) (nats_cst row)), rfl, rfl⟩
  · have e : some (0, 0) = some (n, k) := h
    cases e
    obtain rfl := len0 ha
    obtain rfl := ro0 hk
    exact ⟨.countOrdered, rfl, rfl, rfl⟩
  · have e : some (2, 0) = some (n, k) := h
    cases e
    obtain ⟨i, pr, rfl⟩ := len2 ha
    obtain rfl := ro0 hk
    exact ⟨.bestWithPrice i pr, rfl, rfl, rfl⟩
  · have e : some (1, 0) = some (n, k) := h
    cases e
    obtain ⟨x, rfl⟩ := len1 ha
    obtain rfl := ro0 hk
    exact ⟨.bestWithAttendance x, rfl, rfl, rfl⟩
  · have e : some (1, 0) = some (n, k) := h
    cases e
    obtain ⟨i, rfl⟩ := len1 ha
    obtain rfl := ro0 hk
    exact ⟨.bestSinglePrice i, rfl, rfl, rfl⟩
  · have e : some (1, 0) = some (n, k) := h
    cases e
    obtain ⟨x, rfl⟩ := len1 ha
    obtain rfl := ro0 hk
    exact ⟨.revenueIfStep x, rfl, rfl, rfl⟩
  · have e : some (1, 0) = some (n, k) := h
    cases e
    obtain ⟨i, rfl⟩ := len1 ha
    obtain rfl := ro0 hk
    exact ⟨.revenueWithout i, rfl, rfl, rfl⟩
  · have e : some (1, 0) = some (n, k) := h
    cases e
    obtain ⟨i, rfl⟩ := len1 ha
    obtain rfl := ro0 hk
    exact ⟨.getBlock i, rfl, rfl, rfl⟩
  · have e : some (0, 0) = some (n, k) := h
    cases e
    obtain rfl := len0 ha
    obtain rfl := ro0 hk
    exact ⟨.getState, rfl, rfl, rfl⟩

/-! ### one call off the list -/
theorem drop_at {ns : List Nat} {i : Nat} (hi : i < ns.length) : ns.drop i = ns[i] :: ns.drop (i + 1) := List.drop_eq_getElem_cons hi
theorem parse_turn {ns : List Nat} {i f : Nat} {cs : List (List (List Int))} (h : PyFlat.calls PyKv438.shape f (cst (ns.drop i)) = some cs) (hi : i < ns.length) :
    ∃ p n k f' cs' ro j, ns[i]? = some p ∧ PyKv438.shape (p : Int) = some (n, k) ∧ i + 1 + n ≤ ns.length ∧ RoK k ro ∧ cs = (cst (p :: (ns.drop (i + 1)).take n) :: rowL ro) :: cs' ∧ PyFlat.calls PyKv438.shape f' (cst (ns.drop j)) = some cs' ∧
      i < j ∧ j ≤ ns.length ∧ (ro = none → j = i + 1 + n) ∧ ∀ row, ro = some row → ∃ q, ns[i + 1 + n]? = some q ∧ j = i + 1 + n + 1 + q ∧ row = (ns.drop (i + 1 + n + 1)).take q := by
  rw [drop_at hi] at h
  generalize hpe : ns[i] = p at h
  have hp : ns[i]? = some p := by rw [List.getElem?_eq_getElem hi, hpe]
  cases f with
  | zero => cases h
  | succ f =>
    replace h : (match PyFlat.call PyKv438.shape ((p : Int) :: cst (ns.drop (i + 1))) with
      | none => none
      | some (c, t) => match PyFlat.calls PyKv438.shape f t with
        | none => none
        | some cs => some (c :: cs)) = some cs := h
    cases hc : PyFlat.call PyKv438.shape ((p : Int) :: cst (ns.drop (i + 1))) with
    | none => rw [hc] at h; cases h
    | some ct =>
      obtain ⟨c, t⟩ := ct
      rw [hc] at h
      replace h : (match PyFlat.calls PyKv438.shape f t with
        | none => none
        | some cs => some (c :: cs)) = some cs := h
      cases ht : PyFlat.calls PyKv438.shape f t with
      | none => rw [ht] at h; cases h
      | some cs' =>
        rw [ht] at h
        have ecs : c :: cs' = cs := Option.some.inj h
        subst ecs
        replace hc : (match PyKv438.shape (p : Int) with
          | none => none
          | some (n, k) => if (cst (ns.drop (i + 1))).length < n then none else match PyFlat.rows k ((cst (ns.drop (i + 1))).drop n) with
            | none => none
            | some (xs, t) => some (((p : Int) :: (cst (ns.drop (i + 1))).take n) :: xs, t)) = some (c, t) := hc
        cases hs : PyKv438.shape (p : Int) with
        | none => rw [hs] at hc; cases hc
        | some nk =>
          obtain ⟨n, k⟩ := nk
          rw [hs] at hc
          replace hc : (if (cst (ns.drop (i + 1))).length < n then none else match PyFlat.rows k ((cst (ns.drop (i + 1))).drop n) with
            | none => none
            | some (xs, t) => some (((p : Int) :: (cst (ns.drop (i + 1))).take n) :: xs, t)) = some (c, t) := hc
          by_cases hl : (cst (ns.drop (i + 1))).length < n
          · rw [if_pos hl] at hc; cases hc
          rw [if_neg hl] at hc
          rw [cst_len, List.length_drop] at hl
          have hin : i + 1 + n ≤ ns.length := by omega
          rw [cst_drop, cst_take, List.drop_drop] at hc
          obtain ⟨_, _, hk⟩ := shape_tab hs
          rcases hk with ⟨rfl, _⟩ | ⟨rfl, _⟩
          · have e : (cst (p :: (ns.drop (i + 1)).take n) :: [], cst (ns.drop (i + 1 + n))) = (c, t) := Option.some.inj hc
            cases e
            exact ⟨p, n, 0, f, cs', none, i + 1 + n, hp, hs, hin, .inl ⟨rfl, rfl⟩, rfl, ht, by omega, hin, fun _ => rfl, fun row e => by cases e⟩
          · by_cases hq : i + 1 + n < ns.length
            · rw [drop_at hq] at hc
              generalize hqe : ns[i + 1 + n] = q at hc
              have hq1 : ns[i + 1 + n]? = some q := by rw [List.getElem?_eq_getElem hq, hqe]
              by_cases hr : (0 : Int) ≤ (q : Int) ∧ ((q : Int)).toNat ≤ (cst (ns.drop (i + 1 + n + 1))).length
              · have er : PyFlat.row ((q : Int) :: cst (ns.drop (i + 1 + n + 1))) = some ((cst (ns.drop (i + 1 + n + 1))).take ((q : Int)).toNat, (cst (ns.drop (i + 1 + n + 1))).drop ((q : Int)).toNat) := if_pos hr
                have er2 : PyFlat.rows 1 ((q : Int) :: cst (ns.drop (i + 1 + n + 1))) = some ([(cst (ns.drop (i + 1 + n + 1))).take ((q : Int)).toNat], (cst (ns.drop (i + 1 + n + 1))).drop ((q : Int)).toNat) := by
                  unfold PyFlat.rows
                  rw [er]; rfl
                replace hc : (match PyFlat.rows 1 ((q : Int) :: cst (ns.drop (i + 1 + n + 1))) with
                  | none => none
                  | some (xs, t) => some (cst (p :: (ns.drop (i + 1)).take n) :: xs, t)) = some (c, t) := hc
                rw [er2, cst_drop, cst_take, List.drop_drop, Int.toNat_natCast] at hc
                rw [cst_len, List.length_drop, Int.toNat_natCast] at hr
                have e : (cst (p :: (ns.drop (i + 1)).take n) :: [cst ((ns.drop (i + 1 + n + 1)).take q)], cst (ns.drop (i + 1 + n + 1 + q))) = (c, t) := Option.some.inj hc
                cases e
                exact ⟨p, n, 1, f, cs', some ((ns.drop (i + 1 + n + 1)).take q), i + 1 + n + 1 + q, hp, hs, hin, .inr ⟨rfl, _, rfl⟩, rfl, ht, by omega, by omega, (fun e => nomatch e), fun row e => ⟨q, hq1, rfl, (Option.some.inj e).symm⟩⟩
              · have er : PyFlat.row ((q : Int) :: cst (ns.drop (i + 1 + n + 1))) = none := if_neg hr
                have er2 : PyFlat.rows 1 ((q : Int) :: cst (ns.drop (i + 1 + n + 1))) = none := by
                  unfold PyFlat.rows
                  rw [er]
                replace hc : (match PyFlat.rows 1 ((q : Int) :: cst (ns.drop (i + 1 + n + 1))) with
                  | none => none
                  | some (xs, t) => some (cst (p :: (ns.drop (i + 1)).take n) :: xs, t)) = some (c, t) := hc
                rw [er2] at hc
                cases hc
            · rw [List.drop_of_length_le (by omega)] at hc
              cases hc
theorem step_of {st : Kv438.State} {c : Kv438Neutral.Call} {op : Operation} (h : Kv438Neutral.operationOf c = some op) : Kv438Neutral.step st c = ((Kv438.execute st op).1, Kv438Neutral.resultRow (Kv438.execute st op).2) := by
  unfold Kv438Neutral.step
  rw [h]
theorem told_cons {st : Kv438.State} {c : Kv438Neutral.Call} {cs : List (List (List Int))} {op : Operation} (h : Kv438Neutral.operationOf c = some op) :
    PyFlat.told (PyFlat.played Kv438Neutral.step st (c :: cs)) = (((Kv438Neutral.resultRow (Kv438.execute st op).2).length : Int) :: Kv438Neutral.resultRow (Kv438.execute st op).2) ++ PyFlat.told (PyFlat.played Kv438Neutral.step (Kv438.execute st op).1 cs) := by
  show PyFlat.told ((Kv438Neutral.step st c).2 :: PyFlat.played Kv438Neutral.step (Kv438Neutral.step st c).1 cs) = _
  rw [step_of h]
  unfold PyFlat.told
  rw [List.flatMap_cons]
theorem whole_id (c : List (List Int)) : PyKv438.whole c = c := by
  unfold PyKv438.whole
  split <;> rfl
theorem wholes (cs : List (List (List Int))) : cs.map PyKv438.whole = cs := by
  have e : PyKv438.whole = id := funext whole_id
  rw [e, List.map_id]
theorem asked_is {l : List Int} (h : PyKv438.answers_asked l = true) : ∃ cs, PyFlat.calls PyKv438.shape l.length l = some cs ∧ PyKv438.answers l = PyFlat.told (PyFlat.played Kv438Neutral.step Kv438Neutral.start cs) ∧ (PyKv438.answers l).length ≤ 10000000 := by
  unfold PyKv438.answers_asked at h
  cases e : PyFlat.calls PyKv438.shape l.length l with
  | none => rw [e] at h; cases h
  | some cs =>
    rw [e] at h
    have h2 : (!cs.isEmpty && PyFlat.atMost 256 cs && PyInside.calls PyKv438.bound cs && Kv438Neutral.asked (cs.map PyKv438.whole) && PyFlat.short 10000000 (PyKv438.answers l)) = true := h
    rw [Bool.and_eq_true] at h2
    refine ⟨cs, rfl, ?_, of_decide_eq_true h2.2⟩
    unfold PyKv438.answers PyKv438.calls
    rw [e]
    show PyFlat.told (PyFlat.played Kv438Neutral.step Kv438Neutral.start (cs.map PyKv438.whole)) = _
    rw [wholes]
theorem parse_end {ns : List Nat} {i f : Nat} {cs : List (List (List Int))} (h : PyFlat.calls PyKv438.shape f (cst (ns.drop i)) = some cs) (hi : ns.length ≤ i) : cs = [] := by
  rw [List.drop_of_length_le hi] at h
  cases f <;> exact (Option.some.inj h).symm
end Bp

/-! # blockprices: all calls -/
namespace Bp
open PySem PySem.Spec PyProof.Rows L2
open C8 (Cal pe_c Mak pe_mk pe_gc)
open Kv438 (Block Market Operation Response)

/-- a class made without arguments -/
theorem pe_mk0 {X : Cx} {k j : Nat} {x : Str} {C : Addr} {sp : Sp} {dvs : List V} {p pos : Pos} (c : Mak X.prog X.w X.K X.mg X.base k x C sp dvs) (hr : Room j X.A) (hk : k + 1 ≤ j) (hg : Gl X x) (hdb : (x == ("__debug__" : Str)) = false := by decide) :
    PE X (.Call (.Name x p) [] [] pos) (tMake C sp dvs C8.E0 tNil) := by
  obtain ⟨f, fd, ps, ds, M, F, hm, b, d⟩ := c.ex
  exact pe_make0 M F (hr.mono hk) hg hm b d pass0 hdb
/-- the list that is handed in: it never changes -/
def CLs (K : PySem.W.Frag) (H : Hp) (c : Addr) (xs : List V) : Prop := (∃ o, H c = some (.frz o (.lst xs))) ∨
  ∃ (o : Obj) (its : Array Value) (n : Nat), K.lookup c = some o ∧ o.cls = .type "list" ∧ o.dict = none ∧ o.data = .seq its n ∧ its.size ≤ sizeLine ∧ Vals xs its.toList
theorem CLs.sq {K : PySem.W.Frag} {H : Hp} {c : Addr} {xs : List V} (h : CLs K H c xs) : SqL K H c xs := h.elim (fun ⟨o, e⟩ => .inl (.inr ⟨o, e⟩)) .inr
theorem CLs.keep {K : PySem.W.Frag} {H H' : Hp} {c : Addr} {xs : List V} (h : CLs K H c xs) (k : ∀ o, H c = some (.frz o (.lst xs)) → H' c = some (.frz o (.lst xs))) : CLs K H' c xs := h.elim (fun ⟨o, e⟩ => .inl ⟨o, k o e⟩) .inr
theorem CLs.of {K : PySem.W.Frag} {H : Hp} {c : Addr} {xs : List V} (hO : ∀ b, H b = none ∨ ∃ o u, H b = some (.frz o u)) (h : SqL K H c xs) : CLs K H c xs := by
  rcases h with h | h
  · rcases h with h | h
    · rcases hO c with e | ⟨o, u, e⟩
      · rw [e] at h; cases h
      · rw [e] at h; cases h
    · exact .inl h
  · exact .inr h
theorem CLs.updR {K : PySem.W.Frag} {H : Hp} {c r : Addr} {xs ys : List V} {o : HO} (hr : H r = some (.lst ys)) (h : CLs K H c xs) : CLs K (upd H r o) c xs := h.keep fun u e => by
  have n : c ≠ r := fun z => by rw [z, hr] at e; cases e
  rw [upd_ne n]; exact e
theorem StAt.updR {CP CB CS r ss l : Addr} {H : Hp} {st : Kv438.State} {xs : List V} {o : HO} (hr : H r = some (.lst xs)) (h : StAt CP CB CS r H ss l st) : StAt CP CB CS r (upd H r o) ss l st := by
  cases st with
  | none =>
    obtain ⟨e, dx, h⟩ := h
    exact ⟨e, dx, by rw [upd_ne (lst_ne hr h).symm]; exact h⟩
  | some pl =>
    obtain ⟨dx, p, h1, h2, h3⟩ := h
    exact ⟨dx, p, by rw [upd_ne (lst_ne hr h1).symm]; exact h1, h2.updR hr, h3⟩
theorem StAt.ssl {CP CB CS r ss l : Addr} {H : Hp} {st : Kv438.State} (h : StAt CP CB CS r H ss l st) : (∃ dx v, H ss = some (.ins CS dx (ssF v))) ∧ ((∃ xs, H l = some (.lst xs) ∧ l ≠ r) ∨ l = ss) := by
  cases st with
  | none => obtain ⟨e, dx, h⟩ := h; exact ⟨⟨dx, _, h⟩, .inr e⟩
  | some pl =>
    obtain ⟨dx, p, h1, ⟨dp, bs, _, hl, _, _, hlr⟩, h3⟩ := h
    exact ⟨⟨dx, _, h1⟩, .inl ⟨_, hl, hlr⟩⟩
theorem sing_le {p n : Nat} (h : sing[p]? = some n) : n ≤ 2 := by
  have hm := List.mem_of_getElem? h
  have : ∀ x ∈ sing, x ≤ 2 := by decide
  exact this n hm
section
variable {P : Program} {w : World} {K : PySem.W.Frag} {mg : Str → Option Value} {base : Heap} {CB CC CP CS aS aR : Addr}
def spAnswers (K : PySem.W.Frag) : Sp := fun vs H Q _ => ∃ (c : Addr) (ns : List Nat) (cs : List (List (List Int))) (f : Nat), vs = [.ref c] ∧ CLs K H c (nL ns) ∧ PyFlat.calls PyKv438.shape f (cst ns) = some cs ∧ (PyFlat.told (PyFlat.played Kv438Neutral.step Kv438Neutral.start cs)).length ≤ 10000000 ∧
  ∀ H' q, H' q = some (.lst ((PyFlat.told (PyFlat.played Kv438Neutral.step Kv438Neutral.start cs)).map V.int)) → Q (.ref q) H'
abbrev s_answers : Stmt := top 68
abbrev n_answers : List Str := ["calls", "session", "results", "place", "number", "first", "arguments", "row_end", "answered"]
theorem sc_answers : FnScope n_answers ["calls"] (defScope s_answers) := ⟨rfl, rfl, rfl, by decide +kernel, rfl, by decide +kernel, by decide +kernel⟩
theorem ok_answers {f : Addr} {fd : FuncData} (F : Fun K "answers" "answers" s_answers f fd) (T : Txt K mg CB CC CP CS aS aR) (c_Session : Mak P w K mg base 1 "Session" CS (spInitS CS) []) (c_answer : Cal P w K mg base 7 "answer" (spAnswer CP CB CS) []) : FnOk P w K mg base CX0 8 f fd ["calls"] (spAnswers K) := by
  refine F.ok sc_answers (fun vs H Q E h => ?_) (fun cdv A outer s H vs Q E hr h => ?_)
  · obtain ⟨c, ns, cs, f, rfl, _⟩ := h
    rfl
  · obtain ⟨c, ns, cs0, f0, rfl, hC0, hcs0, hlen0, k⟩ := h
    refine ⟨_, (pss_cons (ps_set (i := 1) sc_answers.nd rfl (.inl rfl) (pe_mk0 c_Session hr (by decide) rfl))
      (pss_cons (ps_set (i := 2) sc_answers.nd rfl (.inl rfl) (pe_lst pa_nil))
      (pss_cons (ps_set (i := 3) sc_answers.nd rfl (.inl rfl) pe_int)
      (pss_cons (ps_while PassesOwn.never (pt_cmpR op_lt (pv 3) (pe_callB call_len_seq rfl T.len PySem.boot_len (pa_cons (pv 0) pa_nil)) (nomark _)) (pss_cons (ps_set (i := 4) sc_answers.nd rfl (.inl rfl) (pe_ix ix_list (pv 0) (pv 3) (fun _ _ => rfl)))
      (pss_cons (ps_set (i := 5) sc_answers.nd rfl (.inl rfl) (pe_op op_add (pv 3) pe_int))
      (pss_cons (ps_set (i := 3) sc_answers.nd rfl (.inl rfl) (pe_op op_add (pv 5) (pe_ix ix_tup (pe_gc rfl T.cSINGLES) (pv 4) (fun _ _ => rfl))))
      (pss_cons (ps_set (i := 6) sc_answers.nd rfl (.inl rfl) (pe_slice sl_list (pv 0) (po_some (pv 5)) (po_some (pv 3))))
      (pss_cons (ps_if (pt_cmpR op_in_seq (pv 4) (pe_gc rfl T.cWITH_ROW) (by with_unfolding_all rfl)) (pss_cons (ps_set (i := 7) sc_answers.nd rfl (.inl rfl) (pe_op op_add (pe_op op_add (pv 3) pe_int) (pe_ix ix_list (pv 0) (pv 3) (fun _ _ => rfl))))
      (pss_cons (ps_expr (pe_bm PySem.F.plainAttrs_list PySem.F.slot_list_append PySem.F.type_list_append mt_append (pv 6) (pa_cons (pe_slice sl_list (pv 0) (po_some (pe_op op_add (pv 3) pe_int)) (po_some (pv 7))) pa_nil)))
      (pss_one (ps_set (i := 3) sc_answers.nd rfl (.inl rfl) (pv 7))))) pss_nil)
      (pss_cons (ps_set (i := 8) sc_answers.nd rfl (.inl rfl) (pe_c c_answer hr (by decide) rfl (pa_cons (pv 1) (pa_cons (pv 4) (pa_cons (pv 6) pa_nil)))))
      (pss_cons (ps_expr (pe_bm PySem.F.plainAttrs_list PySem.F.slot_list_append PySem.F.type_list_append mt_append (pv 2) (pa_cons (pe_callB call_len_seq rfl T.len PySem.boot_len (pa_cons (pv 8) pa_nil)) pa_nil)))
      (pss_one (ps_expr (pe_bm PySem.F.plainAttrs_list PySem.F.slot_list_extend PySem.F.type_list_extend mt_extend (pv 2) (pa_cons (pv 8) pa_nil))))))))))))
      (pss_one (ps_ret (pv 2))))))), ?_⟩
    generalize hALL : PyFlat.told (PyFlat.played Kv438Neutral.step Kv438Neutral.start cs0) = ALL at hlen0 k
    intro ss dx nss ndx nes
    refine ⟨ss, dx, rfl, upd_same, fun H1 hs hk => ⟨rfl, ?_⟩⟩
    have s1 := new_same nss ndx hk
    refine ⟨Nat.zero_le _, fun r nr => ?_⟩
    have s2 := same_new (o := .lst []) nr
    have hrs : r ≠ ss := fun e => by rw [e, hs] at nr; cases nr
    refine ⟨fun m σ H' => ∃ (i : Nat) (st : Kv438.State) (l : Addr) (res : List Int) (cs : List (List (List Int))) (f : Nat) (x4 x5 x6 x7 x8 : Option V), m = ns.length - i ∧ σ = [some (.ref c), some (.ref ss), some (.ref r), some (nV i), x4, x5, x6, x7, x8] ∧ i ≤ ns.length ∧ CLs K H' c (nL ns) ∧ H' r = some (.lst (res.map V.int)) ∧ StAt CP CB CS r H' ss l st ∧ PyFlat.calls PyKv438.shape f (cst (ns.drop i)) = some cs ∧ ALL = res ++ PyFlat.told (PyFlat.played Kv438Neutral.step st cs),
      ⟨_, 0, none, ss, [], cs0, f0, none, none, none, none, none, rfl, rfl, Nat.zero_le _, hC0.keep fun o e => s2 _ _ (s1 _ _ e), upd_same, ⟨rfl, dx, by rw [upd_ne hrs.symm]; exact hs⟩, hcs0, by rw [← hALL]; rfl⟩, ?_⟩
    clear hC0 hcs0 hk hs nr s1 s2 nss ndx nes
    rintro m σ H2 ⟨i, st, l, res, cs, f, x4, x5, x6, x7, x8, rfl, rfl, hi, hC, hr2, hst, hcs, hall⟩
    refine ⟨_, rfl, _, rfl, c, _, rfl, .inl hC.sq, _, _, rfl, rfl, _, rfl, ?_⟩
    refine ite2 (fun hlt => ?_) (fun hlt => ?_)
    · have hlt1 : i < ns.length := by
        have z := of_decide_eq_true hlt
        rw [nL_len] at z
        omega
      obtain ⟨pn, n, kk, f', cs', ro, j, hp, hsh, hin, hro, rfl, hcs', hij, hj2, hnone, hsome⟩ := parse_turn hcs hlt1
      obtain ⟨hp23, hsing, hin2⟩ := shape_tab hsh
      have hal : ((ns.drop (i + 1)).take n).length = n := by rw [List.length_take, List.length_drop]; omega
      obtain ⟨op, hop, hnum, hargs⟩ := op_of hsh hal hro
      obtain ⟨⟨dxs, vs0, hss⟩, hl0⟩ := hst.ssl
      have hrl : r ≠ l := by
        rcases hl0 with ⟨_, _, e⟩ | e
        · exact e.symm
        · rw [e]; exact hrs
      have hcl : ¬ ((∃ o, H2 c = some (.frz o (.lst (nL ns))) ∧ c = l) ∨ ∃ o, H2 c = some (.frz o (.lst (nL ns))) ∧ c = ss) := by
        rintro (⟨o, e1, e2⟩ | ⟨o, e1, e2⟩)
        · rcases hl0 with ⟨xs, e3, _⟩ | e3
          · rw [e2, e3] at e1; cases e1
          · rw [e2, e3, hss] at e1; cases e1
        · rw [e2, hss] at e1; cases e1
      have hSq := hC.sq
      refine ⟨fun σ' H' => ∃ m', m' < ns.length - i ∧ ∃ (i : Nat) (st : Kv438.State) (l : Addr) (res : List Int) (cs : List (List (List Int))) (f : Nat) (x4 x5 x6 x7 x8 : Option V), m' = ns.length - i ∧ σ' = [some (.ref c), some (.ref ss), some (.ref r), some (nV i), x4, x5, x6, x7, x8] ∧ i ≤ ns.length ∧ CLs K H' c (nL ns) ∧ H' r = some (.lst (res.map V.int)) ∧ StAt CP CB CS r H' ss l st ∧ PyFlat.calls PyKv438.shape f (cst (ns.drop i)) = some cs ∧ ALL = res ++ PyFlat.told (PyFlat.played Kv438Neutral.step st cs), fun _ _ z => z, ?_⟩
      refine ⟨_, rfl, _, rfl, c, _, _, _, rfl, rfl, hSq, atI_nat (nL_at hp), ?_⟩
      refine ⟨_, rfl, _, _, rfl, rfl, ?_⟩
      refine ⟨_, rfl, _, rfl, aS, _, _, _, rfl, rfl, T.sS H2, atI_nat (nL_at hsing), _, _, rfl, rfl, ?_⟩
      have ef : ((i : Int) + 1) = ((i + 1 : Nat) : Int) := by omega
      have ep : ((i : Int) + 1) + (n : Int) = ((i + 1 + n : Nat) : Int) := by omega
      show (tSeq _ _) _ [some (.ref c), some (.ref ss), some (.ref r), some (.int ((i : Int) + 1 + (n : Int))), some (nV pn), some (.int ((i : Int) + 1)), x6, x7, x8] _
      rw [ep, ef]
      refine ⟨_, rfl, _, rfl, _, rfl, _, rfl, _, rfl, c, _, rfl, hSq, fun a na => ?_⟩
      have ecut : cutV (nL ns) (some ((i + 1 : Nat) : Int)) (some ((i + 1 + n : Nat) : Int)) = nL ((ns.drop (i + 1)).take n) := by
        rw [cut_nat _ _ _ (by rw [nL_len]; omega) (by rw [nL_len]; omega), show i + 1 + n - (i + 1) = n by omega]
        unfold nL
        rw [List.map_take, List.map_drop]
      rw [ecut]
      have sa := same_new (o := .lst (nL ((ns.drop (i + 1)).take n))) na
      have hra := sa _ _ hr2
      have hSqa : SqL K (upd H2 a (.lst (nL ((ns.drop (i + 1)).take n)))) c (nL ns) := (hC.keep fun o e => sa _ _ e).sq
      refine ⟨_, rfl, aR, _, rfl, .inr (T.sR _), rfl, rfl, _, rfl, ?_⟩
      show (if inV (nV pn) (nL wrow) = true then _ else _)
      rcases hin2 with ⟨rfl, hw⟩ | ⟨rfl, hw⟩
      · rw [hw]
        refine iteF ?_
        obtain rfl := ro0 hro
        obtain rfl := hnone rfl
        refine ⟨_, rfl, _, rfl, _, rfl, ss, r, a, l, _, st, op, (by rw [hnum]; rfl), ⟨_, hra⟩, (hst.same sa), upd_same, (by rw [hargs]; rfl), fun H' q l' hold hst' nq hq => ?_⟩
        have hr' : H' r = some (.lst (res.map V.int)) := hold r _ hra hrl hrs rfl
        have hc' : CLs K H' c (nL ns) := hC.keep fun o e => hold c _ (sa _ _ e) (fun e2 => hcl (.inl ⟨_, e, e2⟩)) (fun e2 => hcl (.inr ⟨_, e, e2⟩)) rfl
        have nqr : q ≠ r := fun e => by rw [e, hra] at nq; cases nq
        have hsplit := told_cons (cs := cs') (st := st) hop
        rw [hsplit] at hall
        have hle : (res ++ (((Kv438Neutral.resultRow (Kv438.execute st op).2).length : Int) :: Kv438Neutral.resultRow (Kv438.execute st op).2)).length ≤ 10000000 := by
          have h1 := congrArg List.length hall
          rw [List.length_append, List.length_append] at h1
          rw [List.length_append]
          omega
        rw [List.length_append, List.length_cons] at hle
        have hlim : (10000000 : Nat) < sizeLine := by decide
        refine ⟨_, rfl, .inl ⟨rfl, _, SqL.of hr'⟩, _, rfl, q, _, rfl, .inl (SqL.of hq), r, _, _, rfl, rfl, hr', (by rw [List.length_map]; omega), ?_⟩
        refine ⟨_, rfl, .inl ⟨rfl, _, SqL.of upd_same⟩, _, rfl, r, q, _, _, rfl, rfl, upd_same, (by rw [upd_ne nqr]; exact hq), ?_, ?_⟩
        · rw [List.length_append, List.length_map, List.length_map]
          show res.length + 1 + _ ≤ sizeLine
          omega
        refine ⟨ns.length - (i + 1 + n), by omega, ⟨(i + 1 + n), (Kv438.execute st op).1, l', res ++ (((Kv438Neutral.resultRow (Kv438.execute st op).2).length : Int) :: Kv438Neutral.resultRow (Kv438.execute st op).2), cs', f', _, _, _, _, _, rfl, rfl, hj2, ?_, ?_, ?_, hcs', ?_⟩⟩
        · exact (hc'.updR hr').updR upd_same
        · rw [upd_same]
          show some (HO.lst ((res.map V.int ++ [V.int _]) ++ _)) = some (HO.lst ((res ++ (((Kv438Neutral.resultRow (Kv438.execute st op).2).length : Int) :: Kv438Neutral.resultRow (Kv438.execute st op).2)).map V.int))
          rw [List.length_map, List.map_append, List.map_cons, List.append_assoc]; rfl
        · exact (hst'.updR hr').updR upd_same
        · rw [hall, List.append_assoc]
      · rw [hw]
        refine iteT ?_
        obtain ⟨row, rfl⟩ := ro1 hro
        obtain ⟨qn, hqn, rfl, erow⟩ := hsome row rfl
        have eq1 : ((i + 1 + n : Nat) : Int) + 1 = ((i + 1 + n + 1 : Nat) : Int) := by omega
        have eq2 : ((i + 1 + n : Nat) : Int) + 1 + (qn : Int) = ((i + 1 + n + 1 + qn : Nat) : Int) := by omega
        refine ⟨_, rfl, _, _, rfl, rfl, _, rfl, _, rfl, c, _, _, _, rfl, rfl, hSqa, atI_nat (nL_at hqn), _, _, rfl, rfl, ?_⟩
        show (tSeq _ _) _ [some (.ref c), some (.ref ss), some (.ref r), some (nV (i + 1 + n)), some (nV pn), some (nV (i + 1)), some (.ref a), some (.int (((i + 1 + n : Nat) : Int) + 1 + (qn : Int))), x8] _
        rw [eq2]
        refine ⟨_, rfl, .inl ⟨rfl, _, SqL.of upd_same⟩, _, rfl, _, rfl, _, _, rfl, rfl, _, rfl, _, rfl, _, rfl, c, _, rfl, hSqa, fun d nd => ?_⟩
        have ecut2 : cutV (nL ns) (some (((i + 1 + n : Nat) : Int) + 1)) (some ((i + 1 + n + 1 + qn : Nat) : Int)) = nL row := by
          rw [eq1, cut_nat _ _ _ (by rw [nL_len]; omega) (by rw [nL_len]; omega), show i + 1 + n + 1 + qn - (i + 1 + n + 1) = qn by omega, erow]
          unfold nL
          rw [List.map_take, List.map_drop]
        have nda : a ≠ d := fun e => by rw [← e, upd_same] at nd; cases nd
        have ndH : H2 d = none := sa.free nd
        refine ⟨a, _, _, rfl, rfl, (by rw [upd_ne nda]; exact upd_same), ?_, ?_⟩
        · rw [nL_len, hal]
          have : n ≤ 2 := sing_le hsing
          exact Nat.lt_of_le_of_lt this (by decide)
        rw [ecut2]
        refine ⟨_, rfl, ?_⟩
        have sb : Same H2 (upd (upd (upd H2 a (.lst (nL ((ns.drop (i + 1)).take n)))) d (.lst (nL row))) a (.lst (nL ((ns.drop (i + 1)).take n) ++ [V.ref d]))) := same_upd (sa.trans (same_new nd)) na
        have hrb := sb _ _ hr2
        have hdr : d ≠ r := fun e => by rw [e, hr2] at ndH; cases ndH
        have hdl : d ≠ l := fun e => by
          rcases hl0 with ⟨xs, e3, _⟩ | e3
          · rw [e, e3] at ndH; cases ndH
          · rw [e, e3, hss] at ndH; cases ndH
        refine ⟨_, rfl, _, rfl, _, rfl, ss, r, a, l, _, st, op, (by rw [hnum]; rfl), ⟨_, hrb⟩, (hst.same sb), upd_same, (by rw [hargs]; exact ⟨d, rfl, by rw [upd_ne nda.symm, upd_same], hdr, hdl⟩), fun H' q l' hold hst' nq hq => ?_⟩
        have hr' : H' r = some (.lst (res.map V.int)) := hold r _ hrb hrl hrs rfl
        have hc' : CLs K H' c (nL ns) := hC.keep fun o e => hold c _ (sb _ _ e) (fun e2 => hcl (.inl ⟨_, e, e2⟩)) (fun e2 => hcl (.inr ⟨_, e, e2⟩)) rfl
        have nqr : q ≠ r := fun e => by rw [e, hrb] at nq; cases nq
        have hsplit := told_cons (cs := cs') (st := st) hop
        rw [hsplit] at hall
        have hle : (res ++ (((Kv438Neutral.resultRow (Kv438.execute st op).2).length : Int) :: Kv438Neutral.resultRow (Kv438.execute st op).2)).length ≤ 10000000 := by
          have h1 := congrArg List.length hall
          rw [List.length_append, List.length_append] at h1
          rw [List.length_append]
          omega
        rw [List.length_append, List.length_cons] at hle
        have hlim : (10000000 : Nat) < sizeLine := by decide
        refine ⟨_, rfl, .inl ⟨rfl, _, SqL.of hr'⟩, _, rfl, q, _, rfl, .inl (SqL.of hq), r, _, _, rfl, rfl, hr', (by rw [List.length_map]; omega), ?_⟩
        refine ⟨_, rfl, .inl ⟨rfl, _, SqL.of upd_same⟩, _, rfl, r, q, _, _, rfl, rfl, upd_same, (by rw [upd_ne nqr]; exact hq), ?_, ?_⟩
        · rw [List.length_append, List.length_map, List.length_map]
          show res.length + 1 + _ ≤ sizeLine
          omega
        refine ⟨ns.length - (i + 1 + n + 1 + qn), by omega, ⟨(i + 1 + n + 1 + qn), (Kv438.execute st op).1, l', res ++ (((Kv438Neutral.resultRow (Kv438.execute st op).2).length : Int) :: Kv438Neutral.resultRow (Kv438.execute st op).2), cs', f', _, _, _, _, _, rfl, rfl, hj2, ?_, ?_, ?_, hcs', ?_⟩⟩
        · exact (hc'.updR hr').updR upd_same
        · rw [upd_same]
          show some (HO.lst ((res.map V.int ++ [V.int _]) ++ _)) = some (HO.lst ((res ++ (((Kv438Neutral.resultRow (Kv438.execute st op).2).length : Int) :: Kv438Neutral.resultRow (Kv438.execute st op).2)).map V.int))
          rw [List.length_map, List.map_append, List.map_cons, List.append_assoc]; rfl
        · exact (hst'.updR hr').updR upd_same
        · rw [hall, List.append_assoc]
    · have hge : ns.length ≤ i := by
        have z : ¬ ((i : Int) < ((nL ns).length : Int)) := fun z => hlt (decide_eq_true z)
        rw [nL_len] at z
        omega
      obtain rfl := parse_end hcs hge
      have e : ALL = res := by
        rw [hall]
        show res ++ [] = res
        rw [List.append_nil]
      exact ⟨_, rfl, k H2 r (by rw [e]; exact hr2)⟩
end
end Bp

/-! # blockprices: what the top has written -/
namespace Bp
open PySem PySem.Spec PyProof.Rows L2
open C8 (Cal pe_c Mak pe_mk pe_gc)
open Kv438 (Block Market Operation Response)

def faL : List He.Fa := [.glo "Block", .glo "Choice", .glo "Planner", .glo "Session", .glo "may_stand_ahead", .glo "keeps_order", .glo "ordered_lists", .glo "lists_led_by", .glo "attendance_at", .glo "revenue_at", .glo "revenue_table", .glo "attendance_table", .glo "total_at", .glo "best_singles", .glo "best_ordered", .glo "led_by", .glo "best_listed", .glo "first_best", .glo "has_block", .glo "refusal_at", .glo "is_demand", .glo "is_price_list", .glo "revenue_tables", .glo "attendance_tables", .glo "all_ordered", .glo "best_choice", .glo "single_choice", .glo "told_whole", .glo "create", .glo "add_block", .glo "remove_block", .glo "set_seats", .glo "set_demand", .glo "set_max_step", .glo "swap_blocks", .glo "attendance", .glo "revenue", .glo "best_prices", .glo "unconstrained_prices", .glo "ordering_loss", .glo "total_revenue", .glo "is_ordered", .glo "total_attendance", .glo "count_ordered", .glo "best_with_price", .glo "best_with_attendance", .glo "best_single_price", .glo "revenue_if_step", .glo "revenue_without", .glo "get_block", .glo "get_state", .glo "answer", .glo "answers", .glo "SINGLES", .glo "WITH_ROW", .glo "OPERATIONS", .keep "may_stand_ahead", .keep "keeps_order", .keep "ordered_lists", .keep "lists_led_by", .keep "attendance_at", .keep "revenue_at", .keep "revenue_table", .keep "attendance_table", .keep "total_at", .keep "best_singles", .keep "best_ordered", .keep "led_by", .keep "best_listed", .keep "first_best", .keep "has_block", .keep "refusal_at", .keep "is_demand", .keep "is_price_list", .keep "revenue_tables", .keep "attendance_tables", .keep "all_ordered", .keep "best_choice", .keep "single_choice", .keep "told_whole", .keep "create", .keep "add_block", .keep "remove_block", .keep "set_seats", .keep "set_demand", .keep "set_max_step", .keep "swap_blocks", .keep "attendance", .keep "revenue", .keep "best_prices", .keep "unconstrained_prices", .keep "ordering_loss", .keep "total_revenue", .keep "is_ordered", .keep "total_attendance", .keep "count_ordered", .keep "best_with_price", .keep "best_with_attendance", .keep "best_single_price", .keep "revenue_if_step", .keep "revenue_without", .keep "get_block", .keep "get_state", .keep "answer", .keep "answers", .free "len", .free "range", .free "zip", .free "max", .free "min", .free "sum", .free "sorted", .free "reversed", .int "GREATEST_PRICE" (7), .int "GREATEST_STEP" (7), .int "MOST_PEOPLE" (999), .int "MOST_BLOCKS" (5), .int "NO_BLOCK" (-2), .int "NO_PLANNER" (-11), .int "OUT_OF_RANGE" (-22), .int "TOO_MANY_BLOCKS" (-28), .int "NO_PRICE_LIST" (-33), .int "CREATE" (0), .cls "Block", .mkr "Block", .meth "Block" "__init__", .cls "Choice", .mkr "Choice", .meth "Choice" "__init__", .cls "Planner", .mkr "Planner", .meth "Planner" "__init__", .cls "Session", .mkr "Session", .meth "Session" "__init__", .noat "Block" "seats", .noat "Block" "demand", .noat "Choice" "total", .noat "Choice" "prices", .noat "Planner" "max_price", .noat "Planner" "max_step", .noat "Planner" "blocks", .noat "Session" "planner"]
def fnL : List He.FnD := [⟨("Block", some "__init__"), "__init__", "Block.__init__", defArgs s_Block, defBody s_Block, defScope s_Block⟩,
  ⟨("Choice", some "__init__"), "__init__", "Choice.__init__", defArgs s_Choice, defBody s_Choice, defScope s_Choice⟩,
  ⟨("Planner", some "__init__"), "__init__", "Planner.__init__", defArgs s_Planner, defBody s_Planner, defScope s_Planner⟩,
  ⟨("Session", some "__init__"), "__init__", "Session.__init__", defArgs s_Session, defBody s_Session, defScope s_Session⟩,
  ⟨("may_stand_ahead", none), "may_stand_ahead", "may_stand_ahead", defArgs s_may_stand_ahead, defBody s_may_stand_ahead, defScope s_may_stand_ahead⟩,
  ⟨("keeps_order", none), "keeps_order", "keeps_order", defArgs s_keeps_order, defBody s_keeps_order, defScope s_keeps_order⟩,
  ⟨("ordered_lists", none), "ordered_lists", "ordered_lists", defArgs s_ordered_lists, defBody s_ordered_lists, defScope s_ordered_lists⟩,
  ⟨("lists_led_by", none), "lists_led_by", "lists_led_by", defArgs s_lists_led_by, defBody s_lists_led_by, defScope s_lists_led_by⟩,
  ⟨("attendance_at", none), "attendance_at", "attendance_at", defArgs s_attendance_at, defBody s_attendance_at, defScope s_attendance_at⟩,
  ⟨("revenue_at", none), "revenue_at", "revenue_at", defArgs s_revenue_at, defBody s_revenue_at, defScope s_revenue_at⟩,
  ⟨("revenue_table", none), "revenue_table", "revenue_table", defArgs s_revenue_table, defBody s_revenue_table, defScope s_revenue_table⟩,
  ⟨("attendance_table", none), "attendance_table", "attendance_table", defArgs s_attendance_table, defBody s_attendance_table, defScope s_attendance_table⟩,
  ⟨("total_at", none), "total_at", "total_at", defArgs s_total_at, defBody s_total_at, defScope s_total_at⟩,
  ⟨("best_singles", none), "best_singles", "best_singles", defArgs s_best_singles, defBody s_best_singles, defScope s_best_singles⟩,
  ⟨("best_ordered", none), "best_ordered", "best_ordered", defArgs s_best_ordered, defBody s_best_ordered, defScope s_best_ordered⟩,
  ⟨("led_by", none), "led_by", "led_by", defArgs s_led_by, defBody s_led_by, defScope s_led_by⟩,
  ⟨("best_listed", none), "best_listed", "best_listed", defArgs s_best_listed, defBody s_best_listed, defScope s_best_listed⟩,
  ⟨("first_best", none), "first_best", "first_best", defArgs s_first_best, defBody s_first_best, defScope s_first_best⟩,
  ⟨("has_block", none), "has_block", "has_block", defArgs s_has_block, defBody s_has_block, defScope s_has_block⟩,
  ⟨("refusal_at", none), "refusal_at", "refusal_at", defArgs s_refusal_at, defBody s_refusal_at, defScope s_refusal_at⟩,
  ⟨("is_demand", none), "is_demand", "is_demand", defArgs s_is_demand, defBody s_is_demand, defScope s_is_demand⟩,
  ⟨("is_price_list", none), "is_price_list", "is_price_list", defArgs s_is_price_list, defBody s_is_price_list, defScope s_is_price_list⟩,
  ⟨("revenue_tables", none), "revenue_tables", "revenue_tables", defArgs s_revenue_tables, defBody s_revenue_tables, defScope s_revenue_tables⟩,
  ⟨("attendance_tables", none), "attendance_tables", "attendance_tables", defArgs s_attendance_tables, defBody s_attendance_tables, defScope s_attendance_tables⟩,
  ⟨("all_ordered", none), "all_ordered", "all_ordered", defArgs s_all_ordered, defBody s_all_ordered, defScope s_all_ordered⟩,
  ⟨("best_choice", none), "best_choice", "best_choice", defArgs s_best_choice, defBody s_best_choice, defScope s_best_choice⟩,
  ⟨("single_choice", none), "single_choice", "single_choice", defArgs s_single_choice, defBody s_single_choice, defScope s_single_choice⟩,
  ⟨("told_whole", none), "told_whole", "told_whole", defArgs s_told_whole, defBody s_told_whole, defScope s_told_whole⟩,
  ⟨("create", none), "create", "create", defArgs s_create, defBody s_create, defScope s_create⟩,
  ⟨("add_block", none), "add_block", "add_block", defArgs s_add_block, defBody s_add_block, defScope s_add_block⟩,
  ⟨("remove_block", none), "remove_block", "remove_block", defArgs s_remove_block, defBody s_remove_block, defScope s_remove_block⟩,
  ⟨("set_seats", none), "set_seats", "set_seats", defArgs s_set_seats, defBody s_set_seats, defScope s_set_seats⟩,
  ⟨("set_demand", none), "set_demand", "set_demand", defArgs s_set_demand, defBody s_set_demand, defScope s_set_demand⟩,
  ⟨("set_max_step", none), "set_max_step", "set_max_step", defArgs s_set_max_step, defBody s_set_max_step, defScope s_set_max_step⟩,
  ⟨("swap_blocks", none), "swap_blocks", "swap_blocks", defArgs s_swap_blocks, defBody s_swap_blocks, defScope s_swap_blocks⟩,
  ⟨("attendance", none), "attendance", "attendance", defArgs s_attendance, defBody s_attendance, defScope s_attendance⟩,
  ⟨("revenue", none), "revenue", "revenue", defArgs s_revenue, defBody s_revenue, defScope s_revenue⟩,
  ⟨("best_prices", none), "best_prices", "best_prices", defArgs s_best_prices, defBody s_best_prices, defScope s_best_prices⟩,
  ⟨("unconstrained_prices", none), "unconstrained_prices", "unconstrained_prices", defArgs s_unconstrained_prices, defBody s_unconstrained_prices, defScope s_unconstrained_prices⟩,
  ⟨("ordering_loss", none), "ordering_loss", "ordering_loss", defArgs s_ordering_loss, defBody s_ordering_loss, defScope s_ordering_loss⟩,
  ⟨("total_revenue", none), "total_revenue", "total_revenue", defArgs s_total_revenue, defBody s_total_revenue, defScope s_total_revenue⟩,
  ⟨("is_ordered", none), "is_ordered", "is_ordered", defArgs s_is_ordered, defBody s_is_ordered, defScope s_is_ordered⟩,
  ⟨("total_attendance", none), "total_attendance", "total_attendance", defArgs s_total_attendance, defBody s_total_attendance, defScope s_total_attendance⟩,
  ⟨("count_ordered", none), "count_ordered", "count_ordered", defArgs s_count_ordered, defBody s_count_ordered, defScope s_count_ordered⟩,
  ⟨("best_with_price", none), "best_with_price", "best_with_price", defArgs s_best_with_price, defBody s_best_with_price, defScope s_best_with_price⟩,
  ⟨("best_with_attendance", none), "best_with_attendance", "best_with_attendance", defArgs s_best_with_attendance, defBody s_best_with_attendance, defScope s_best_with_attendance⟩,
  ⟨("best_single_price", none), "best_single_price", "best_single_price", defArgs s_best_single_price, defBody s_best_single_price, defScope s_best_single_price⟩,
  ⟨("revenue_if_step", none), "revenue_if_step", "revenue_if_step", defArgs s_revenue_if_step, defBody s_revenue_if_step, defScope s_revenue_if_step⟩,
  ⟨("revenue_without", none), "revenue_without", "revenue_without", defArgs s_revenue_without, defBody s_revenue_without, defScope s_revenue_without⟩,
  ⟨("get_block", none), "get_block", "get_block", defArgs s_get_block, defBody s_get_block, defScope s_get_block⟩,
  ⟨("get_state", none), "get_state", "get_state", defArgs s_get_state, defBody s_get_state, defScope s_get_state⟩,
  ⟨("answer", none), "answer", "answer", defArgs s_answer, defBody s_answer, defScope s_answer⟩,
  ⟨("answers", none), "answers", "answers", defArgs s_answers, defBody s_answers, defScope s_answers⟩]
/-! ### tuples and the dict of the top -/
def tupB (K : PySem.W.Frag) (a : Addr) (xs : List V) : Bool := match K.lookup a with
  | some ⟨.type c, _, .seq its _, _⟩ => decide (c = "tuple") && (Nat.ble its.size 1000 && He.relAll xs its.toList)
  | _ => false
theorem tupB_ok {K : PySem.W.Frag} {a : Addr} {xs : List V} (h : tupB K a xs = true) (H : Hp) : SqT K H a xs := by
  unfold tupB at h
  split at h
  · rename_i c d its n sl e
    rw [Bool.and_eq_true, Bool.and_eq_true] at h
    refine .inr ⟨_, its, n, e, ?_, rfl, Nat.le_trans (Nat.le_of_ble_eq_true h.2.1) (by decide), He.relAll_ok h.2.2⟩
    exact congrArg Value.type (of_decide_eq_true h.1)
  · cases h
def keyB (e : DictEntry) : Bool := match e.key with
  | .int k _ => decide (e.hash = hashInt k)
  | _ => false
theorem keyB_ok {e : DictEntry} (h : keyB e = true) : ∃ k t, e.key = .int k t ∧ e.hash = hashInt k := by
  unfold keyB at h
  split at h
  · rename_i k t q
    exact ⟨k, t, q, of_decide_eq_true h⟩
  · cases h
def opsAt (es : Array DictEntry) (k : Int) (a : Addr) : Bool := match findBy Value.isInt es k with
  | some u => He.relB (.ref a) u
  | none => false
def opsB (K : PySem.W.Frag) (a : Addr) (xs : List (Int × Str)) : Bool := match K.lookup a with
  | some ⟨.type c, none, .dict es _, sl⟩ => decide (c = "dict") && (sl.isEmpty && (es.toList.all keyB && xs.all fun q => opsAt es q.1 (He.ga K q.2)))
  | _ => false
theorem opsB_ok {K : PySem.W.Frag} {a : Addr} {xs : List (Int × Str)} (h : opsB K a xs = true) {q : Int × Str} (hq : q ∈ xs) : KInt K a q.1 (.ref (He.ga K q.2)) := by
  unfold opsB at h
  split at h
  · rename_i c es n sl e
    rw [Bool.and_eq_true, Bool.and_eq_true, Bool.and_eq_true] at h
    obtain ⟨h1, h2, h3, h4⟩ := h
    have e1 : c = "dict" := of_decide_eq_true h1
    have e2 : sl = #[] := Array.isEmpty_iff.mp h2
    subst e1; subst e2
    have h5 := List.all_eq_true.mp h4 q hq
    unfold opsAt at h5
    split at h5
    · rename_i u hu
      exact ⟨es, n, u, e, fun x hx => keyB_ok (List.all_eq_true.mp h3 x (Array.mem_toList_iff.mpr hx)), hu, He.relB_ok h5⟩
    · cases h5
  · cases h
def opsL : List (Int × Str) := [(1, "add_block"), (2, "remove_block"), (3, "set_seats"), (4, "set_demand"), (5, "set_max_step"), (6, "swap_blocks"), (7, "attendance"), (8, "revenue"), (9, "best_prices"), (10, "unconstrained_prices"), (11, "ordering_loss"), (12, "total_revenue"), (13, "is_ordered"), (14, "total_attendance"), (15, "count_ordered"), (16, "best_with_price"), (17, "best_with_attendance"), (18, "best_single_price"), (19, "revenue_if_step"), (20, "revenue_without"), (21, "get_block"), (22, "get_state")]
def extra (K : PySem.W.Frag) : Bool := tupB K (He.ga K "SINGLES") (nL sing) && (tupB K (He.ga K "WITH_ROW") (nL wrow) && opsB K (He.ga K "OPERATIONS") opsL)
section
variable {P : Program} {w : World} {K : PySem.W.Frag} {mg : Str → Option Value} {base h : Heap}
theorem fun_of {st : Stmt} {at_ : Str × Option Str} {x q : Str} (c : He.SaysE faL fnL K) (i : Nat) (h : fnL[i]? = some ⟨at_, x, q, defArgs st, defBody st, defScope st⟩) (kp : PySem.W.keepIn K (.ref (He.fAd K at_)) = true) : ∃ fd, Fun K x q st (He.fAd K at_) fd := by
  obtain ⟨oc, od, osl, kV, doc, pm, an, cdv, ct, l, cd⟩ := c.def_ i h
  exact ⟨_, fun_mk l cd kp⟩
theorem int_c (X : K.In h) (G : h.Ns mainGlobals mg) {x : Str} {i : Int} (c : (He.Fa.int x i).ok K = true) : ∃ u, mg x = some u ∧ RelV (.int i) u := by
  obtain ⟨t, e⟩ := He.int_ok X G c
  exact ⟨_, e, t, rfl⟩
theorem glo_c (X : K.In h) (G : h.Ns mainGlobals mg) {x : Str} (c : (He.Fa.glo x).ok K = true) : ∃ u, mg x = some u ∧ RelV (.ref (He.ga K x)) u := ⟨_, He.glo_ok X G c, rfl⟩
theorem txt_of (X : K.In h) (G : h.Ns mainGlobals mg) (c : He.SaysE faL fnL K) (x : extra K = true) : Txt K mg (He.ga K "Block") (He.ga K "Choice") (He.ga K "Planner") (He.ga K "Session") (He.ga K "SINGLES") (He.ga K "WITH_ROW") where
  clB := He.cls_ok (c.fact 123 (f := .cls "Block") rfl)
  clC := He.cls_ok (c.fact 126 (f := .cls "Choice") rfl)
  clP := He.cls_ok (c.fact 129 (f := .cls "Planner") rfl)
  clS := He.cls_ok (c.fact 132 (f := .cls "Session") rfl)
  nBs := He.noat_ok (c.fact 135 (f := .noat "Block" "seats") rfl)
  nBd := He.noat_ok (c.fact 136 (f := .noat "Block" "demand") rfl)
  nCt := He.noat_ok (c.fact 137 (f := .noat "Choice" "total") rfl)
  nCp := He.noat_ok (c.fact 138 (f := .noat "Choice" "prices") rfl)
  nPp := He.noat_ok (c.fact 139 (f := .noat "Planner" "max_price") rfl)
  nPs := He.noat_ok (c.fact 140 (f := .noat "Planner" "max_step") rfl)
  nPb := He.noat_ok (c.fact 141 (f := .noat "Planner" "blocks") rfl)
  nSp := He.noat_ok (c.fact 142 (f := .noat "Session" "planner") rfl)
  gSession := He.glo_ok X G (c.fact 3 (f := .glo "Session") rfl)
  len := He.free_ok X G (c.fact 105 (f := .free "len") rfl)
  range := He.free_ok X G (c.fact 106 (f := .free "range") rfl)
  zip := He.free_ok X G (c.fact 107 (f := .free "zip") rfl)
  max := He.free_ok X G (c.fact 108 (f := .free "max") rfl)
  min := He.free_ok X G (c.fact 109 (f := .free "min") rfl)
  sum := He.free_ok X G (c.fact 110 (f := .free "sum") rfl)
  sorted := He.free_ok X G (c.fact 111 (f := .free "sorted") rfl)
  reversed := He.free_ok X G (c.fact 112 (f := .free "reversed") rfl)
  cGREATEST_PRICE := int_c X G (c.fact 113 (f := .int "GREATEST_PRICE" (7)) rfl)
  cGREATEST_STEP := int_c X G (c.fact 114 (f := .int "GREATEST_STEP" (7)) rfl)
  cMOST_PEOPLE := int_c X G (c.fact 115 (f := .int "MOST_PEOPLE" (999)) rfl)
  cMOST_BLOCKS := int_c X G (c.fact 116 (f := .int "MOST_BLOCKS" (5)) rfl)
  cNO_BLOCK := int_c X G (c.fact 117 (f := .int "NO_BLOCK" (-2)) rfl)
  cNO_PLANNER := int_c X G (c.fact 118 (f := .int "NO_PLANNER" (-11)) rfl)
  cOUT_OF_RANGE := int_c X G (c.fact 119 (f := .int "OUT_OF_RANGE" (-22)) rfl)
  cTOO_MANY_BLOCKS := int_c X G (c.fact 120 (f := .int "TOO_MANY_BLOCKS" (-28)) rfl)
  cNO_PRICE_LIST := int_c X G (c.fact 121 (f := .int "NO_PRICE_LIST" (-33)) rfl)
  cCREATE := int_c X G (c.fact 122 (f := .int "CREATE" (0)) rfl)
  cSINGLES := glo_c X G (c.fact 53 (f := .glo "SINGLES") rfl)
  cWITH_ROW := glo_c X G (c.fact 54 (f := .glo "WITH_ROW") rfl)
  sS := tupB_ok (Bool.and_eq_true_iff.mp x).1
  sR := tupB_ok (Bool.and_eq_true_iff.mp (Bool.and_eq_true_iff.mp x).2).1
theorem ops_of (x : extra K = true) {q : Int × Str} (hq : q ∈ opsL) : KInt K (He.ga K "OPERATIONS") q.1 (.ref (He.ga K q.2)) := opsB_ok (Bool.and_eq_true_iff.mp (Bool.and_eq_true_iff.mp x).2).2 hq
theorem facts {fa : Addr} (X : K.In h) (G : h.Ns mainGlobals mg) (hfa : mg "answers" = some (.ref fa)) (c : He.SaysE faL fnL K) (x : extra K = true) :
    ∃ fd : FuncData, (∀ (s : Shared) (us : List Value), us.length = (["calls"] : List Str).length → BindsTo s fd ⟨us, []⟩ ((["calls"] : List Str).zip us)) ∧ ∀ base : Heap, K.In base → base.Ns mainGlobals mg → FnOk P w K mg base CX0 8 fa fd ["calls"] (spAnswers K) := by
  have e := hfa.symm.trans (He.glo_ok X G (c.fact 52 (f := .glo "answers") rfl))
  cases e
  have T := txt_of X G c x
  obtain ⟨fd_Block, F_Block⟩ := fun_of (st := s_Block) c 0 rfl (He.meth_ok (c.fact 125 (f := .meth "Block" "__init__") rfl)).kp
  have b_Block := F_Block.binds (ps := ["self", "seats", "demand"]) fun _ _ _ _ _ _ us hl => match us, hl with | [_, _, _], _ => rfl
  obtain ⟨fd_Choice, F_Choice⟩ := fun_of (st := s_Choice) c 1 rfl (He.meth_ok (c.fact 128 (f := .meth "Choice" "__init__") rfl)).kp
  have b_Choice := F_Choice.binds (ps := ["self", "total", "prices"]) fun _ _ _ _ _ _ us hl => match us, hl with | [_, _, _], _ => rfl
  obtain ⟨fd_Planner, F_Planner⟩ := fun_of (st := s_Planner) c 2 rfl (He.meth_ok (c.fact 131 (f := .meth "Planner" "__init__") rfl)).kp
  have b_Planner := F_Planner.binds (ps := ["self", "max_price", "max_step"]) fun _ _ _ _ _ _ us hl => match us, hl with | [_, _, _], _ => rfl
  obtain ⟨fd_Session, F_Session⟩ := fun_of (st := s_Session) c 3 rfl (He.meth_ok (c.fact 134 (f := .meth "Session" "__init__") rfl)).kp
  have b_Session := F_Session.binds (ps := ["self"]) fun _ _ _ _ _ _ us hl => match us, hl with | [_], _ => rfl
  obtain ⟨fd_may_stand_ahead, F_may_stand_ahead⟩ := fun_of (st := s_may_stand_ahead) c 4 rfl (c.fact 56 (f := .keep "may_stand_ahead") rfl)
  have b_may_stand_ahead := F_may_stand_ahead.binds (ps := ["price", "worse_price", "max_step"]) fun _ _ _ _ _ _ us hl => match us, hl with | [_, _, _], _ => rfl
  obtain ⟨fd_keeps_order, F_keeps_order⟩ := fun_of (st := s_keeps_order) c 5 rfl (c.fact 57 (f := .keep "keeps_order") rfl)
  have b_keeps_order := F_keeps_order.binds (ps := ["prices", "max_step"]) fun _ _ _ _ _ _ us hl => match us, hl with | [_, _], _ => rfl
  obtain ⟨fd_ordered_lists, F_ordered_lists⟩ := fun_of (st := s_ordered_lists) c 6 rfl (c.fact 58 (f := .keep "ordered_lists") rfl)
  have b_ordered_lists := F_ordered_lists.binds (ps := ["count", "max_price", "max_step"]) fun _ _ _ _ _ _ us hl => match us, hl with | [_, _, _], _ => rfl
  obtain ⟨fd_lists_led_by, F_lists_led_by⟩ := fun_of (st := s_lists_led_by) c 7 rfl (c.fact 59 (f := .keep "lists_led_by") rfl)
  have b_lists_led_by := F_lists_led_by.binds (ps := ["price", "lists", "max_step"]) fun _ _ _ _ _ _ us hl => match us, hl with | [_, _, _], _ => rfl
  obtain ⟨fd_attendance_at, F_attendance_at⟩ := fun_of (st := s_attendance_at) c 8 rfl (c.fact 60 (f := .keep "attendance_at") rfl)
  have b_attendance_at := F_attendance_at.binds (ps := ["block", "price"]) fun _ _ _ _ _ _ us hl => match us, hl with | [_, _], _ => rfl
  obtain ⟨fd_revenue_at, F_revenue_at⟩ := fun_of (st := s_revenue_at) c 9 rfl (c.fact 61 (f := .keep "revenue_at") rfl)
  have b_revenue_at := F_revenue_at.binds (ps := ["block", "price"]) fun _ _ _ _ _ _ us hl => match us, hl with | [_, _], _ => rfl
  obtain ⟨fd_revenue_table, F_revenue_table⟩ := fun_of (st := s_revenue_table) c 10 rfl (c.fact 62 (f := .keep "revenue_table") rfl)
  have b_revenue_table := F_revenue_table.binds (ps := ["block"]) fun _ _ _ _ _ _ us hl => match us, hl with | [_], _ => rfl
  obtain ⟨fd_attendance_table, F_attendance_table⟩ := fun_of (st := s_attendance_table) c 11 rfl (c.fact 63 (f := .keep "attendance_table") rfl)
  have b_attendance_table := F_attendance_table.binds (ps := ["block"]) fun _ _ _ _ _ _ us hl => match us, hl with | [_], _ => rfl
  obtain ⟨fd_total_at, F_total_at⟩ := fun_of (st := s_total_at) c 12 rfl (c.fact 64 (f := .keep "total_at") rfl)
  have b_total_at := F_total_at.binds (ps := ["tables", "prices"]) fun _ _ _ _ _ _ us hl => match us, hl with | [_, _], _ => rfl
  obtain ⟨fd_best_singles, F_best_singles⟩ := fun_of (st := s_best_singles) c 13 rfl (c.fact 65 (f := .keep "best_singles") rfl)
  have b_best_singles := F_best_singles.binds (ps := ["tables"]) fun _ _ _ _ _ _ us hl => match us, hl with | [_], _ => rfl
  obtain ⟨fd_best_ordered, F_best_ordered⟩ := fun_of (st := s_best_ordered) c 14 rfl (c.fact 66 (f := .keep "best_ordered") rfl)
  have b_best_ordered := F_best_ordered.binds (ps := ["tables", "max_price", "max_step"]) fun _ _ _ _ _ _ us hl => match us, hl with | [_, _, _], _ => rfl
  obtain ⟨fd_led_by, F_led_by⟩ := fun_of (st := s_led_by) c 15 rfl (c.fact 67 (f := .keep "led_by") rfl)
  have b_led_by := F_led_by.binds (ps := ["price", "earned", "choices", "max_step"]) fun _ _ _ _ _ _ us hl => match us, hl with | [_, _, _, _], _ => rfl
  obtain ⟨fd_best_listed, F_best_listed⟩ := fun_of (st := s_best_listed) c 16 rfl (c.fact 68 (f := .keep "best_listed") rfl)
  have b_best_listed := F_best_listed.binds (ps := ["tables", "lists"]) fun _ _ _ _ _ _ us hl => match us, hl with | [_, _], _ => rfl
  obtain ⟨fd_first_best, F_first_best⟩ := fun_of (st := s_first_best) c 17 rfl (c.fact 69 (f := .keep "first_best") rfl)
  have b_first_best := F_first_best.binds (ps := ["choices"]) fun _ _ _ _ _ _ us hl => match us, hl with | [_], _ => rfl
  obtain ⟨fd_has_block, F_has_block⟩ := fun_of (st := s_has_block) c 18 rfl (c.fact 70 (f := .keep "has_block") rfl)
  have b_has_block := F_has_block.binds (ps := ["planner", "block"]) fun _ _ _ _ _ _ us hl => match us, hl with | [_, _], _ => rfl
  obtain ⟨fd_refusal_at, F_refusal_at⟩ := fun_of (st := s_refusal_at) c 19 rfl (c.fact 71 (f := .keep "refusal_at") rfl)
  have b_refusal_at := F_refusal_at.binds (ps := ["planner", "block", "price"]) fun _ _ _ _ _ _ us hl => match us, hl with | [_, _, _], _ => rfl
  obtain ⟨fd_is_demand, F_is_demand⟩ := fun_of (st := s_is_demand) c 20 rfl (c.fact 72 (f := .keep "is_demand") rfl)
  have b_is_demand := F_is_demand.binds (ps := ["planner", "demand"]) fun _ _ _ _ _ _ us hl => match us, hl with | [_, _], _ => rfl
  obtain ⟨fd_is_price_list, F_is_price_list⟩ := fun_of (st := s_is_price_list) c 21 rfl (c.fact 73 (f := .keep "is_price_list") rfl)
  have b_is_price_list := F_is_price_list.binds (ps := ["planner", "prices"]) fun _ _ _ _ _ _ us hl => match us, hl with | [_, _], _ => rfl
  obtain ⟨fd_revenue_tables, F_revenue_tables⟩ := fun_of (st := s_revenue_tables) c 22 rfl (c.fact 74 (f := .keep "revenue_tables") rfl)
  have b_revenue_tables := F_revenue_tables.binds (ps := ["planner"]) fun _ _ _ _ _ _ us hl => match us, hl with | [_], _ => rfl
  obtain ⟨fd_attendance_tables, F_attendance_tables⟩ := fun_of (st := s_attendance_tables) c 23 rfl (c.fact 75 (f := .keep "attendance_tables") rfl)
  have b_attendance_tables := F_attendance_tables.binds (ps := ["planner"]) fun _ _ _ _ _ _ us hl => match us, hl with | [_], _ => rfl
  obtain ⟨fd_all_ordered, F_all_ordered⟩ := fun_of (st := s_all_ordered) c 24 rfl (c.fact 76 (f := .keep "all_ordered") rfl)
  have b_all_ordered := F_all_ordered.binds (ps := ["planner"]) fun _ _ _ _ _ _ us hl => match us, hl with | [_], _ => rfl
  obtain ⟨fd_best_choice, F_best_choice⟩ := fun_of (st := s_best_choice) c 25 rfl (c.fact 77 (f := .keep "best_choice") rfl)
  have b_best_choice := F_best_choice.binds (ps := ["planner"]) fun _ _ _ _ _ _ us hl => match us, hl with | [_], _ => rfl
  obtain ⟨fd_single_choice, F_single_choice⟩ := fun_of (st := s_single_choice) c 26 rfl (c.fact 78 (f := .keep "single_choice") rfl)
  have b_single_choice := F_single_choice.binds (ps := ["planner"]) fun _ _ _ _ _ _ us hl => match us, hl with | [_], _ => rfl
  obtain ⟨fd_told_whole, F_told_whole⟩ := fun_of (st := s_told_whole) c 27 rfl (c.fact 79 (f := .keep "told_whole") rfl)
  have b_told_whole := F_told_whole.binds (ps := ["choice"]) fun _ _ _ _ _ _ us hl => match us, hl with | [_], _ => rfl
  obtain ⟨fd_create, F_create⟩ := fun_of (st := s_create) c 28 rfl (c.fact 80 (f := .keep "create") rfl)
  have b_create := F_create.binds (ps := ["session", "arguments"]) fun _ _ _ _ _ _ us hl => match us, hl with | [_, _], _ => rfl
  obtain ⟨fd_add_block, F_add_block⟩ := fun_of (st := s_add_block) c 29 rfl (c.fact 81 (f := .keep "add_block") rfl)
  have b_add_block := F_add_block.binds (ps := ["planner", "arguments"]) fun _ _ _ _ _ _ us hl => match us, hl with | [_, _], _ => rfl
  obtain ⟨fd_remove_block, F_remove_block⟩ := fun_of (st := s_remove_block) c 30 rfl (c.fact 82 (f := .keep "remove_block") rfl)
  have b_remove_block := F_remove_block.binds (ps := ["planner", "arguments"]) fun _ _ _ _ _ _ us hl => match us, hl with | [_, _], _ => rfl
  obtain ⟨fd_set_seats, F_set_seats⟩ := fun_of (st := s_set_seats) c 31 rfl (c.fact 83 (f := .keep "set_seats") rfl)
  have b_set_seats := F_set_seats.binds (ps := ["planner", "arguments"]) fun _ _ _ _ _ _ us hl => match us, hl with | [_, _], _ => rfl
  obtain ⟨fd_set_demand, F_set_demand⟩ := fun_of (st := s_set_demand) c 32 rfl (c.fact 84 (f := .keep "set_demand") rfl)
  have b_set_demand := F_set_demand.binds (ps := ["planner", "arguments"]) fun _ _ _ _ _ _ us hl => match us, hl with | [_, _], _ => rfl
  obtain ⟨fd_set_max_step, F_set_max_step⟩ := fun_of (st := s_set_max_step) c 33 rfl (c.fact 85 (f := .keep "set_max_step") rfl)
  have b_set_max_step := F_set_max_step.binds (ps := ["planner", "arguments"]) fun _ _ _ _ _ _ us hl => match us, hl with | [_, _], _ => rfl
  obtain ⟨fd_swap_blocks, F_swap_blocks⟩ := fun_of (st := s_swap_blocks) c 34 rfl (c.fact 86 (f := .keep "swap_blocks") rfl)
  have b_swap_blocks := F_swap_blocks.binds (ps := ["planner", "arguments"]) fun _ _ _ _ _ _ us hl => match us, hl with | [_, _], _ => rfl
  obtain ⟨fd_attendance, F_attendance⟩ := fun_of (st := s_attendance) c 35 rfl (c.fact 87 (f := .keep "attendance") rfl)
  have b_attendance := F_attendance.binds (ps := ["planner", "arguments"]) fun _ _ _ _ _ _ us hl => match us, hl with | [_, _], _ => rfl
  obtain ⟨fd_revenue, F_revenue⟩ := fun_of (st := s_revenue) c 36 rfl (c.fact 88 (f := .keep "revenue") rfl)
  have b_revenue := F_revenue.binds (ps := ["planner", "arguments"]) fun _ _ _ _ _ _ us hl => match us, hl with | [_, _], _ => rfl
  obtain ⟨fd_best_prices, F_best_prices⟩ := fun_of (st := s_best_prices) c 37 rfl (c.fact 89 (f := .keep "best_prices") rfl)
  have b_best_prices := F_best_prices.binds (ps := ["planner", "arguments"]) fun _ _ _ _ _ _ us hl => match us, hl with | [_, _], _ => rfl
  obtain ⟨fd_unconstrained_prices, F_unconstrained_prices⟩ := fun_of (st := s_unconstrained_prices) c 38 rfl (c.fact 90 (f := .keep "unconstrained_prices") rfl)
  have b_unconstrained_prices := F_unconstrained_prices.binds (ps := ["planner", "arguments"]) fun _ _ _ _ _ _ us hl => match us, hl with | [_, _], _ => rfl
  obtain ⟨fd_ordering_loss, F_ordering_loss⟩ := fun_of (st := s_ordering_loss) c 39 rfl (c.fact 91 (f := .keep "ordering_loss") rfl)
  have b_ordering_loss := F_ordering_loss.binds (ps := ["planner", "arguments"]) fun _ _ _ _ _ _ us hl => match us, hl with | [_, _], _ => rfl
  obtain ⟨fd_total_revenue, F_total_revenue⟩ := fun_of (st := s_total_revenue) c 40 rfl (c.fact 92 (f := .keep "total_revenue") rfl)
  have b_total_revenue := F_total_revenue.binds (ps := ["planner", "arguments"]) fun _ _ _ _ _ _ us hl => match us, hl with | [_, _], _ => rfl
  obtain ⟨fd_is_ordered, F_is_ordered⟩ := fun_of (st := s_is_ordered) c 41 rfl (c.fact 93 (f := .keep "is_ordered") rfl)
  have b_is_ordered := F_is_ordered.binds (ps := ["planner", "arguments"]) fun _ _ _ _ _ _ us hl => match us, hl with | [_, _], _ => rfl
  obtain ⟨fd_total_attendance, F_total_attendance⟩ := fun_of (st := s_total_attendance) c 42 rfl (c.fact 94 (f := .keep "total_attendance") rfl)
  have b_total_attendance := F_total_attendance.binds (ps := ["planner", "arguments"]) fun _ _ _ _ _ _ us hl => match us, hl with | [_, _], _ => rfl
  obtain ⟨fd_count_ordered, F_count_ordered⟩ := fun_of (st := s_count_ordered) c 43 rfl (c.fact 95 (f := .keep "count_ordered") rfl)
  have b_count_ordered := F_count_ordered.binds (ps := ["planner", "arguments"]) fun _ _ _ _ _ _ us hl => match us, hl with | [_, _], _ => rfl
  obtain ⟨fd_best_with_price, F_best_with_price⟩ := fun_of (st := s_best_with_price) c 44 rfl (c.fact 96 (f := .keep "best_with_price") rfl)
  have b_best_with_price := F_best_with_price.binds (ps := ["planner", "arguments"]) fun _ _ _ _ _ _ us hl => match us, hl with | [_, _], _ => rfl
  obtain ⟨fd_best_with_attendance, F_best_with_attendance⟩ := fun_of (st := s_best_with_attendance) c 45 rfl (c.fact 97 (f := .keep "best_with_attendance") rfl)
  have b_best_with_attendance := F_best_with_attendance.binds (ps := ["planner", "arguments"]) fun _ _ _ _ _ _ us hl => match us, hl with | [_, _], _ => rfl
  obtain ⟨fd_best_single_price, F_best_single_price⟩ := fun_of (st := s_best_single_price) c 46 rfl (c.fact 98 (f := .keep "best_single_price") rfl)
  have b_best_single_price := F_best_single_price.binds (ps := ["planner", "arguments"]) fun _ _ _ _ _ _ us hl => match us, hl with | [_, _], _ => rfl
  obtain ⟨fd_revenue_if_step, F_revenue_if_step⟩ := fun_of (st := s_revenue_if_step) c 47 rfl (c.fact 99 (f := .keep "revenue_if_step") rfl)
  have b_revenue_if_step := F_revenue_if_step.binds (ps := ["planner", "arguments"]) fun _ _ _ _ _ _ us hl => match us, hl with | [_, _], _ => rfl
  obtain ⟨fd_revenue_without, F_revenue_without⟩ := fun_of (st := s_revenue_without) c 48 rfl (c.fact 100 (f := .keep "revenue_without") rfl)
  have b_revenue_without := F_revenue_without.binds (ps := ["planner", "arguments"]) fun _ _ _ _ _ _ us hl => match us, hl with | [_, _], _ => rfl
  obtain ⟨fd_get_block, F_get_block⟩ := fun_of (st := s_get_block) c 49 rfl (c.fact 101 (f := .keep "get_block") rfl)
  have b_get_block := F_get_block.binds (ps := ["planner", "arguments"]) fun _ _ _ _ _ _ us hl => match us, hl with | [_, _], _ => rfl
  obtain ⟨fd_get_state, F_get_state⟩ := fun_of (st := s_get_state) c 50 rfl (c.fact 102 (f := .keep "get_state") rfl)
  have b_get_state := F_get_state.binds (ps := ["planner", "arguments"]) fun _ _ _ _ _ _ us hl => match us, hl with | [_, _], _ => rfl
  obtain ⟨fd_answer, F_answer⟩ := fun_of (st := s_answer) c 51 rfl (c.fact 103 (f := .keep "answer") rfl)
  have b_answer := F_answer.binds (ps := ["session", "number", "arguments"]) fun _ _ _ _ _ _ us hl => match us, hl with | [_, _, _], _ => rfl
  obtain ⟨oc, od, osl, kV, doc, pm, an, cdv, ct, l, cd⟩ := c.def_ 52 (d := ⟨("answers", none), "answers", "answers", defArgs s_answers, defBody s_answers, defScope s_answers⟩) rfl
  have F_answers := fun_mk (st := s_answers) l cd (c.fact 104 (f := .keep "answers") rfl)
  refine ⟨PySem.W.fnOf "answers" "answers" (defArgs s_answers) (defBody s_answers) (defScope s_answers) .none kV doc pm an cdv ct, fun s us hu => match us, hu with | [_], _ => .of_eq rfl, fun base _ _ => ?_⟩
  have G_Block := ok_Block (P := P) (w := w) (base := base) F_Block T
  have c_Block : Mak P w K mg base 1 "Block" (He.ga K "Block") _ [] := ⟨_, _, _, _, He.mkr_ok (c.fact 124 (f := .mkr "Block") rfl), G_Block, He.glo_ok X G (c.fact 0 (f := .glo "Block") rfl), b_Block, .nil⟩
  have G_Choice := ok_Choice (P := P) (w := w) (base := base) F_Choice T
  have c_Choice : Mak P w K mg base 1 "Choice" (He.ga K "Choice") _ [] := ⟨_, _, _, _, He.mkr_ok (c.fact 127 (f := .mkr "Choice") rfl), G_Choice, He.glo_ok X G (c.fact 1 (f := .glo "Choice") rfl), b_Choice, .nil⟩
  have G_Planner := ok_Planner (P := P) (w := w) (base := base) F_Planner T
  have c_Planner : Mak P w K mg base 1 "Planner" (He.ga K "Planner") _ [] := ⟨_, _, _, _, He.mkr_ok (c.fact 130 (f := .mkr "Planner") rfl), G_Planner, He.glo_ok X G (c.fact 2 (f := .glo "Planner") rfl), b_Planner, .nil⟩
  have G_Session := ok_Session (P := P) (w := w) (base := base) F_Session T
  have c_Session : Mak P w K mg base 1 "Session" (He.ga K "Session") _ [] := ⟨_, _, _, _, He.mkr_ok (c.fact 133 (f := .mkr "Session") rfl), G_Session, He.glo_ok X G (c.fact 3 (f := .glo "Session") rfl), b_Session, .nil⟩
  have G_may_stand_ahead := ok_may_stand_ahead (P := P) (w := w) (mg := mg) (base := base) F_may_stand_ahead
  have c_may_stand_ahead := cal_of G_may_stand_ahead (x := "may_stand_ahead") (He.glo_ok X G (c.fact 4 (f := .glo "may_stand_ahead") rfl)) (c.fact 56 (f := .keep "may_stand_ahead") rfl) b_may_stand_ahead
  have G_attendance_at := ok_attendance_at (P := P) (w := w) (base := base) F_attendance_at T
  have c_attendance_at := cal_of G_attendance_at (x := "attendance_at") (He.glo_ok X G (c.fact 8 (f := .glo "attendance_at") rfl)) (c.fact 60 (f := .keep "attendance_at") rfl) b_attendance_at
  have G_total_at := ok_total_at (P := P) (w := w) (base := base) F_total_at T
  have c_total_at := cal_of G_total_at (x := "total_at") (He.glo_ok X G (c.fact 12 (f := .glo "total_at") rfl)) (c.fact 64 (f := .keep "total_at") rfl) b_total_at
  have G_first_best := ok_first_best (P := P) (w := w) (base := base) F_first_best T
  have c_first_best := cal_of G_first_best (x := "first_best") (He.glo_ok X G (c.fact 17 (f := .glo "first_best") rfl)) (c.fact 69 (f := .keep "first_best") rfl) b_first_best
  have G_has_block := ok_has_block (P := P) (w := w) (base := base) F_has_block T
  have c_has_block := cal_of G_has_block (x := "has_block") (He.glo_ok X G (c.fact 18 (f := .glo "has_block") rfl)) (c.fact 70 (f := .keep "has_block") rfl) b_has_block
  have G_is_demand := ok_is_demand (P := P) (w := w) (base := base) F_is_demand T
  have c_is_demand := cal_of G_is_demand (x := "is_demand") (He.glo_ok X G (c.fact 20 (f := .glo "is_demand") rfl)) (c.fact 72 (f := .keep "is_demand") rfl) b_is_demand
  have G_is_price_list := ok_is_price_list (P := P) (w := w) (base := base) F_is_price_list T
  have c_is_price_list := cal_of G_is_price_list (x := "is_price_list") (He.glo_ok X G (c.fact 21 (f := .glo "is_price_list") rfl)) (c.fact 73 (f := .keep "is_price_list") rfl) b_is_price_list
  have G_told_whole := ok_told_whole (P := P) (w := w) (base := base) F_told_whole T
  have c_told_whole := cal_of G_told_whole (x := "told_whole") (He.glo_ok X G (c.fact 27 (f := .glo "told_whole") rfl)) (c.fact 79 (f := .keep "told_whole") rfl) b_told_whole
  have G_set_max_step := ok_set_max_step (P := P) (w := w) (base := base) F_set_max_step T
  have c_set_max_step := cal_of G_set_max_step (x := "set_max_step") (He.glo_ok X G (c.fact 33 (f := .glo "set_max_step") rfl)) (c.fact 85 (f := .keep "set_max_step") rfl) b_set_max_step
  have G_get_state := ok_get_state (P := P) (w := w) (base := base) F_get_state T
  have c_get_state := cal_of G_get_state (x := "get_state") (He.glo_ok X G (c.fact 50 (f := .glo "get_state") rfl)) (c.fact 102 (f := .keep "get_state") rfl) b_get_state
  have G_keeps_order := ok_keeps_order (P := P) (w := w) (base := base) F_keeps_order T c_may_stand_ahead
  have c_keeps_order := cal_of G_keeps_order (x := "keeps_order") (He.glo_ok X G (c.fact 5 (f := .glo "keeps_order") rfl)) (c.fact 57 (f := .keep "keeps_order") rfl) b_keeps_order
  have G_lists_led_by := ok_lists_led_by (P := P) (w := w) (mg := mg) (base := base) F_lists_led_by c_may_stand_ahead
  have c_lists_led_by := cal_of G_lists_led_by (x := "lists_led_by") (He.glo_ok X G (c.fact 7 (f := .glo "lists_led_by") rfl)) (c.fact 59 (f := .keep "lists_led_by") rfl) b_lists_led_by
  have G_revenue_at := ok_revenue_at (P := P) (w := w) (base := base) F_revenue_at T c_attendance_at
  have c_revenue_at := cal_of G_revenue_at (x := "revenue_at") (He.glo_ok X G (c.fact 9 (f := .glo "revenue_at") rfl)) (c.fact 61 (f := .keep "revenue_at") rfl) b_revenue_at
  have G_attendance_table := ok_attendance_table (P := P) (w := w) (base := base) F_attendance_table T c_attendance_at
  have c_attendance_table := cal_of G_attendance_table (x := "attendance_table") (He.glo_ok X G (c.fact 11 (f := .glo "attendance_table") rfl)) (c.fact 63 (f := .keep "attendance_table") rfl) b_attendance_table
  have G_refusal_at := ok_refusal_at (P := P) (w := w) (base := base) F_refusal_at T c_has_block
  have c_refusal_at := cal_of G_refusal_at (x := "refusal_at") (He.glo_ok X G (c.fact 19 (f := .glo "refusal_at") rfl)) (c.fact 71 (f := .keep "refusal_at") rfl) b_refusal_at
  have G_remove_block := ok_remove_block (P := P) (w := w) (base := base) F_remove_block T c_has_block
  have c_remove_block := cal_of G_remove_block (x := "remove_block") (He.glo_ok X G (c.fact 30 (f := .glo "remove_block") rfl)) (c.fact 82 (f := .keep "remove_block") rfl) b_remove_block
  have G_set_seats := ok_set_seats (P := P) (w := w) (base := base) F_set_seats T c_has_block
  have c_set_seats := cal_of G_set_seats (x := "set_seats") (He.glo_ok X G (c.fact 31 (f := .glo "set_seats") rfl)) (c.fact 83 (f := .keep "set_seats") rfl) b_set_seats
  have G_set_demand := ok_set_demand (P := P) (w := w) (base := base) F_set_demand T c_has_block c_is_demand
  have c_set_demand := cal_of G_set_demand (x := "set_demand") (He.glo_ok X G (c.fact 32 (f := .glo "set_demand") rfl)) (c.fact 84 (f := .keep "set_demand") rfl) b_set_demand
  have G_swap_blocks := ok_swap_blocks (P := P) (w := w) (base := base) F_swap_blocks T c_has_block
  have c_swap_blocks := cal_of G_swap_blocks (x := "swap_blocks") (He.glo_ok X G (c.fact 34 (f := .glo "swap_blocks") rfl)) (c.fact 86 (f := .keep "swap_blocks") rfl) b_swap_blocks
  have G_get_block := ok_get_block (P := P) (w := w) (base := base) F_get_block T c_has_block
  have c_get_block := cal_of G_get_block (x := "get_block") (He.glo_ok X G (c.fact 49 (f := .glo "get_block") rfl)) (c.fact 101 (f := .keep "get_block") rfl) b_get_block
  have G_ordered_lists := ok_ordered_lists (P := P) (w := w) (base := base) F_ordered_lists T c_lists_led_by
  have c_ordered_lists := cal_of G_ordered_lists (x := "ordered_lists") (He.glo_ok X G (c.fact 6 (f := .glo "ordered_lists") rfl)) (c.fact 58 (f := .keep "ordered_lists") rfl) b_ordered_lists
  have G_revenue_table := ok_revenue_table (P := P) (w := w) (base := base) F_revenue_table T c_revenue_at
  have c_revenue_table := cal_of G_revenue_table (x := "revenue_table") (He.glo_ok X G (c.fact 10 (f := .glo "revenue_table") rfl)) (c.fact 62 (f := .keep "revenue_table") rfl) b_revenue_table
  have G_best_singles := ok_best_singles (P := P) (w := w) (base := base) F_best_singles T c_Choice
  have c_best_singles := cal_of G_best_singles (x := "best_singles") (He.glo_ok X G (c.fact 13 (f := .glo "best_singles") rfl)) (c.fact 65 (f := .keep "best_singles") rfl) b_best_singles
  have G_led_by := ok_led_by (P := P) (w := w) (base := base) F_led_by T c_first_best c_Choice
  have c_led_by := cal_of G_led_by (x := "led_by") (He.glo_ok X G (c.fact 15 (f := .glo "led_by") rfl)) (c.fact 67 (f := .keep "led_by") rfl) b_led_by
  have G_best_listed := ok_best_listed (P := P) (w := w) (base := base) F_best_listed T c_first_best c_Choice c_total_at
  have c_best_listed := cal_of G_best_listed (x := "best_listed") (He.glo_ok X G (c.fact 16 (f := .glo "best_listed") rfl)) (c.fact 68 (f := .keep "best_listed") rfl) b_best_listed
  have G_attendance_tables := ok_attendance_tables (P := P) (w := w) (base := base) F_attendance_tables T c_attendance_table
  have c_attendance_tables := cal_of G_attendance_tables (x := "attendance_tables") (He.glo_ok X G (c.fact 23 (f := .glo "attendance_tables") rfl)) (c.fact 75 (f := .keep "attendance_tables") rfl) b_attendance_tables
  have G_create := ok_create (P := P) (w := w) (base := base) F_create T c_Planner
  have c_create := cal_of G_create (x := "create") (He.glo_ok X G (c.fact 28 (f := .glo "create") rfl)) (c.fact 80 (f := .keep "create") rfl) b_create
  have G_add_block := ok_add_block (P := P) (w := w) (base := base) F_add_block T c_is_demand c_Block
  have c_add_block := cal_of G_add_block (x := "add_block") (He.glo_ok X G (c.fact 29 (f := .glo "add_block") rfl)) (c.fact 81 (f := .keep "add_block") rfl) b_add_block
  have G_attendance := ok_attendance (P := P) (w := w) (base := base) F_attendance T c_attendance_at c_refusal_at
  have c_attendance := cal_of G_attendance (x := "attendance") (He.glo_ok X G (c.fact 35 (f := .glo "attendance") rfl)) (c.fact 87 (f := .keep "attendance") rfl) b_attendance
  have G_revenue := ok_revenue (P := P) (w := w) (base := base) F_revenue T c_refusal_at c_revenue_at
  have c_revenue := cal_of G_revenue (x := "revenue") (He.glo_ok X G (c.fact 36 (f := .glo "revenue") rfl)) (c.fact 88 (f := .keep "revenue") rfl) b_revenue
  have G_is_ordered := ok_is_ordered (P := P) (w := w) (base := base) F_is_ordered T c_is_price_list c_keeps_order
  have c_is_ordered := cal_of G_is_ordered (x := "is_ordered") (He.glo_ok X G (c.fact 41 (f := .glo "is_ordered") rfl)) (c.fact 93 (f := .keep "is_ordered") rfl) b_is_ordered
  have G_best_ordered := ok_best_ordered (P := P) (w := w) (base := base) F_best_ordered T c_first_best c_Choice c_led_by
  have c_best_ordered := cal_of G_best_ordered (x := "best_ordered") (He.glo_ok X G (c.fact 14 (f := .glo "best_ordered") rfl)) (c.fact 66 (f := .keep "best_ordered") rfl) b_best_ordered
  have G_revenue_tables := ok_revenue_tables (P := P) (w := w) (base := base) F_revenue_tables T c_revenue_table
  have c_revenue_tables := cal_of G_revenue_tables (x := "revenue_tables") (He.glo_ok X G (c.fact 22 (f := .glo "revenue_tables") rfl)) (c.fact 74 (f := .keep "revenue_tables") rfl) b_revenue_tables
  have G_all_ordered := ok_all_ordered (P := P) (w := w) (base := base) F_all_ordered T c_ordered_lists
  have c_all_ordered := cal_of G_all_ordered (x := "all_ordered") (He.glo_ok X G (c.fact 24 (f := .glo "all_ordered") rfl)) (c.fact 76 (f := .keep "all_ordered") rfl) b_all_ordered
  have G_total_attendance := ok_total_attendance (P := P) (w := w) (base := base) F_total_attendance T c_attendance_tables c_is_price_list c_total_at
  have c_total_attendance := cal_of G_total_attendance (x := "total_attendance") (He.glo_ok X G (c.fact 42 (f := .glo "total_attendance") rfl)) (c.fact 94 (f := .keep "total_attendance") rfl) b_total_attendance
  have G_best_single_price := ok_best_single_price (P := P) (w := w) (base := base) F_best_single_price T c_best_singles c_has_block c_revenue_table
  have c_best_single_price := cal_of G_best_single_price (x := "best_single_price") (He.glo_ok X G (c.fact 46 (f := .glo "best_single_price") rfl)) (c.fact 98 (f := .keep "best_single_price") rfl) b_best_single_price
  have G_best_choice := ok_best_choice (P := P) (w := w) (base := base) F_best_choice T c_best_ordered c_revenue_tables
  have c_best_choice := cal_of G_best_choice (x := "best_choice") (He.glo_ok X G (c.fact 25 (f := .glo "best_choice") rfl)) (c.fact 77 (f := .keep "best_choice") rfl) b_best_choice
  have G_single_choice := ok_single_choice (P := P) (w := w) (base := base) F_single_choice T c_best_singles c_revenue_tables
  have c_single_choice := cal_of G_single_choice (x := "single_choice") (He.glo_ok X G (c.fact 26 (f := .glo "single_choice") rfl)) (c.fact 78 (f := .keep "single_choice") rfl) b_single_choice
  have G_total_revenue := ok_total_revenue (P := P) (w := w) (base := base) F_total_revenue T c_is_price_list c_revenue_tables c_total_at
  have c_total_revenue := cal_of G_total_revenue (x := "total_revenue") (He.glo_ok X G (c.fact 40 (f := .glo "total_revenue") rfl)) (c.fact 92 (f := .keep "total_revenue") rfl) b_total_revenue
  have G_count_ordered := ok_count_ordered (P := P) (w := w) (base := base) F_count_ordered T c_all_ordered
  have c_count_ordered := cal_of G_count_ordered (x := "count_ordered") (He.glo_ok X G (c.fact 43 (f := .glo "count_ordered") rfl)) (c.fact 95 (f := .keep "count_ordered") rfl) b_count_ordered
  have G_best_with_price := ok_best_with_price (P := P) (w := w) (base := base) F_best_with_price T c_all_ordered c_best_listed c_refusal_at c_revenue_tables c_told_whole
  have c_best_with_price := cal_of G_best_with_price (x := "best_with_price") (He.glo_ok X G (c.fact 44 (f := .glo "best_with_price") rfl)) (c.fact 96 (f := .keep "best_with_price") rfl) b_best_with_price
  have G_best_with_attendance := ok_best_with_attendance (P := P) (w := w) (base := base) F_best_with_attendance T c_all_ordered c_attendance_tables c_best_listed c_revenue_tables c_told_whole c_total_at
  have c_best_with_attendance := cal_of G_best_with_attendance (x := "best_with_attendance") (He.glo_ok X G (c.fact 45 (f := .glo "best_with_attendance") rfl)) (c.fact 97 (f := .keep "best_with_attendance") rfl) b_best_with_attendance
  have G_revenue_if_step := ok_revenue_if_step (P := P) (w := w) (base := base) F_revenue_if_step T c_best_ordered c_revenue_tables
  have c_revenue_if_step := cal_of G_revenue_if_step (x := "revenue_if_step") (He.glo_ok X G (c.fact 47 (f := .glo "revenue_if_step") rfl)) (c.fact 99 (f := .keep "revenue_if_step") rfl) b_revenue_if_step
  have G_revenue_without := ok_revenue_without (P := P) (w := w) (base := base) F_revenue_without T c_best_ordered c_has_block c_revenue_tables
  have c_revenue_without := cal_of G_revenue_without (x := "revenue_without") (He.glo_ok X G (c.fact 48 (f := .glo "revenue_without") rfl)) (c.fact 100 (f := .keep "revenue_without") rfl) b_revenue_without
  have G_best_prices := ok_best_prices (P := P) (w := w) (base := base) F_best_prices T c_best_choice c_told_whole
  have c_best_prices := cal_of G_best_prices (x := "best_prices") (He.glo_ok X G (c.fact 37 (f := .glo "best_prices") rfl)) (c.fact 89 (f := .keep "best_prices") rfl) b_best_prices
  have G_unconstrained_prices := ok_unconstrained_prices (P := P) (w := w) (base := base) F_unconstrained_prices T c_single_choice c_told_whole
  have c_unconstrained_prices := cal_of G_unconstrained_prices (x := "unconstrained_prices") (He.glo_ok X G (c.fact 38 (f := .glo "unconstrained_prices") rfl)) (c.fact 90 (f := .keep "unconstrained_prices") rfl) b_unconstrained_prices
  have G_ordering_loss := ok_ordering_loss (P := P) (w := w) (base := base) F_ordering_loss T c_best_choice c_single_choice
  have c_ordering_loss := cal_of G_ordering_loss (x := "ordering_loss") (He.glo_ok X G (c.fact 39 (f := .glo "ordering_loss") rfl)) (c.fact 91 (f := .keep "ordering_loss") rfl) b_ordering_loss
  have hK : ∀ k : Nat, 1 ≤ k → k ≤ 22 → ∃ g, KInt K (He.ga K "OPERATIONS") (k : Int) (.ref g) ∧ Held P w K mg base 6 g (spOp (He.ga K "Planner") (He.ga K "Block") k) := by
    intro k h1 h2
    have h22 : k = 1 ∨ k = 2 ∨ k = 3 ∨ k = 4 ∨ k = 5 ∨ k = 6 ∨ k = 7 ∨ k = 8 ∨ k = 9 ∨ k = 10 ∨ k = 11 ∨ k = 12 ∨ k = 13 ∨ k = 14 ∨ k = 15 ∨ k = 16 ∨ k = 17 ∨ k = 18 ∨ k = 19 ∨ k = 20 ∨ k = 21 ∨ k = 22 := by omega
    rcases h22 with rfl | rfl | rfl | rfl | rfl | rfl | rfl | rfl | rfl | rfl | rfl | rfl | rfl | rfl | rfl | rfl | rfl | rfl | rfl | rfl | rfl | rfl
    · exact ⟨_, ops_of (q := (1, "add_block")) x (List.mem_of_getElem? (i := 0) rfl), ⟨_, _, G_add_block.mono (by decide), (c.fact 81 (f := .keep "add_block") rfl), b_add_block⟩⟩
    · exact ⟨_, ops_of (q := (2, "remove_block")) x (List.mem_of_getElem? (i := 1) rfl), ⟨_, _, G_remove_block.mono (by decide), (c.fact 82 (f := .keep "remove_block") rfl), b_remove_block⟩⟩
    · exact ⟨_, ops_of (q := (3, "set_seats")) x (List.mem_of_getElem? (i := 2) rfl), ⟨_, _, G_set_seats.mono (by decide), (c.fact 83 (f := .keep "set_seats") rfl), b_set_seats⟩⟩
    · exact ⟨_, ops_of (q := (4, "set_demand")) x (List.mem_of_getElem? (i := 3) rfl), ⟨_, _, G_set_demand.mono (by decide), (c.fact 84 (f := .keep "set_demand") rfl), b_set_demand⟩⟩
    · exact ⟨_, ops_of (q := (5, "set_max_step")) x (List.mem_of_getElem? (i := 4) rfl), ⟨_, _, G_set_max_step.mono (by decide), (c.fact 85 (f := .keep "set_max_step") rfl), b_set_max_step⟩⟩
    · exact ⟨_, ops_of (q := (6, "swap_blocks")) x (List.mem_of_getElem? (i := 5) rfl), ⟨_, _, G_swap_blocks.mono (by decide), (c.fact 86 (f := .keep "swap_blocks") rfl), b_swap_blocks⟩⟩
    · exact ⟨_, ops_of (q := (7, "attendance")) x (List.mem_of_getElem? (i := 6) rfl), ⟨_, _, G_attendance.mono (by decide), (c.fact 87 (f := .keep "attendance") rfl), b_attendance⟩⟩
    · exact ⟨_, ops_of (q := (8, "revenue")) x (List.mem_of_getElem? (i := 7) rfl), ⟨_, _, G_revenue.mono (by decide), (c.fact 88 (f := .keep "revenue") rfl), b_revenue⟩⟩
    · exact ⟨_, ops_of (q := (9, "best_prices")) x (List.mem_of_getElem? (i := 8) rfl), ⟨_, _, G_best_prices.mono (by decide), (c.fact 89 (f := .keep "best_prices") rfl), b_best_prices⟩⟩
    · exact ⟨_, ops_of (q := (10, "unconstrained_prices")) x (List.mem_of_getElem? (i := 9) rfl), ⟨_, _, G_unconstrained_prices.mono (by decide), (c.fact 90 (f := .keep "unconstrained_prices") rfl), b_unconstrained_prices⟩⟩
    · exact ⟨_, ops_of (q := (11, "ordering_loss")) x (List.mem_of_getElem? (i := 10) rfl), ⟨_, _, G_ordering_loss.mono (by decide), (c.fact 91 (f := .keep "ordering_loss") rfl), b_ordering_loss⟩⟩
    · exact ⟨_, ops_of (q := (12, "total_revenue")) x (List.mem_of_getElem? (i := 11) rfl), ⟨_, _, G_total_revenue.mono (by decide), (c.fact 92 (f := .keep "total_revenue") rfl), b_total_revenue⟩⟩
    · exact ⟨_, ops_of (q := (13, "is_ordered")) x (List.mem_of_getElem? (i := 12) rfl), ⟨_, _, G_is_ordered.mono (by decide), (c.fact 93 (f := .keep "is_ordered") rfl), b_is_ordered⟩⟩
    · exact ⟨_, ops_of (q := (14, "total_attendance")) x (List.mem_of_getElem? (i := 13) rfl), ⟨_, _, G_total_attendance.mono (by decide), (c.fact 94 (f := .keep "total_attendance") rfl), b_total_attendance⟩⟩
    · exact ⟨_, ops_of (q := (15, "count_ordered")) x (List.mem_of_getElem? (i := 14) rfl), ⟨_, _, G_count_ordered.mono (by decide), (c.fact 95 (f := .keep "count_ordered") rfl), b_count_ordered⟩⟩
    · exact ⟨_, ops_of (q := (16, "best_with_price")) x (List.mem_of_getElem? (i := 15) rfl), ⟨_, _, G_best_with_price.mono (by decide), (c.fact 96 (f := .keep "best_with_price") rfl), b_best_with_price⟩⟩
    · exact ⟨_, ops_of (q := (17, "best_with_attendance")) x (List.mem_of_getElem? (i := 16) rfl), ⟨_, _, G_best_with_attendance.mono (by decide), (c.fact 97 (f := .keep "best_with_attendance") rfl), b_best_with_attendance⟩⟩
    · exact ⟨_, ops_of (q := (18, "best_single_price")) x (List.mem_of_getElem? (i := 17) rfl), ⟨_, _, G_best_single_price.mono (by decide), (c.fact 98 (f := .keep "best_single_price") rfl), b_best_single_price⟩⟩
    · exact ⟨_, ops_of (q := (19, "revenue_if_step")) x (List.mem_of_getElem? (i := 18) rfl), ⟨_, _, G_revenue_if_step.mono (by decide), (c.fact 99 (f := .keep "revenue_if_step") rfl), b_revenue_if_step⟩⟩
    · exact ⟨_, ops_of (q := (20, "revenue_without")) x (List.mem_of_getElem? (i := 19) rfl), ⟨_, _, G_revenue_without.mono (by decide), (c.fact 100 (f := .keep "revenue_without") rfl), b_revenue_without⟩⟩
    · exact ⟨_, ops_of (q := (21, "get_block")) x (List.mem_of_getElem? (i := 20) rfl), ⟨_, _, G_get_block.mono (by decide), (c.fact 101 (f := .keep "get_block") rfl), b_get_block⟩⟩
    · exact ⟨_, ops_of (q := (22, "get_state")) x (List.mem_of_getElem? (i := 21) rfl), ⟨_, _, G_get_state.mono (by decide), (c.fact 102 (f := .keep "get_state") rfl), b_get_state⟩⟩
  have G_answer := ok_answer (P := P) (w := w) (base := base) F_answer T c_create (glo_c X G (c.fact 55 (f := .glo "OPERATIONS") rfl)) hK
  have c_answer := cal_of G_answer (x := "answer") (He.glo_ok X G (c.fact 51 (f := .glo "answer") rfl)) (c.fact 103 (f := .keep "answer") rfl) b_answer
  exact ok_answers F_answers T c_Session c_answer
end
end Bp

open PySem PySem.W PyProof.Rows
set_option maxHeartbeats 0 in
theorem PySem.Challenge.cw_blockprices_s01_answers_holds : PySem.Challenge.rw_blockprices_s01_answers.Holds := by
  w_on; k_headS; (case hw => exact ⟨[.list [.int 0, .int 1, .int 1]], by decide +kernel, by decide +kernel⟩)
  k_fillS
  refine L2.walk_specK (r := PySem.Challenge.rw_blockprices_s01_answers) (k := 8) (CX := L2.CX0) (ps := ["calls"]) (sp := Bp.spAnswers) (by decide +kernel) rfl rfl ⟨rfl, by decide, by decide⟩ (fun w h Y => PySem.W.kIn_of Y) ?F ?S (fun _ _ _ _ z => z)
  case F =>
    intro w mg fa h Y KX G hmg
    refine Bp.facts KX G hmg ?c ?x
    case c =>
      unfold He.SaysE
      kernel_rfl
    case x => kernel_rfl
  case S =>
    intro K H xs a hO hwi hask hx
    cases hx with
    | cons h1 h2 =>
      cases h2
      cases h1 with
      | lst hs ha =>
        have e := L2.ints_dw a.1 _ ha
        subst e
        have q : ((Codec.inLen 0 3900 a.1 && a.1.all (Codec.inInt 0 4294967295)) && true) = true := hwi
        rw [Bool.and_eq_true, Bool.and_eq_true] at q
        have hn : Bp.cst (a.1.map Int.toNat) = a.1 := by
          unfold Bp.cst
          rw [List.map_map]
          refine (List.map_congr_left fun z hz => ?_).trans (List.map_id _)
          have b : (decide (0 ≤ z) && decide (z ≤ 4294967295)) = true := List.all_eq_true.mp q.1.2 z hz
          rw [Bool.and_eq_true, decide_eq_true_eq] at b
          exact Int.toNat_of_nonneg b.1
        obtain ⟨cs, h3, h4, h5⟩ := Bp.asked_is (l := a.1) hask
        refine ⟨_, a.1.map Int.toNat, cs, a.1.length, rfl, Bp.CLs.of hO ?_, ?_, ?_, fun H' p hp => ?_⟩
        · rw [Bp.nL_cst, hn]; exact hs
        · rw [hn]; exact h3
        · rw [← h4]; exact h5
        · rw [← h4] at hp
          exact .lst (L2.SqL.of hp) (L2.dw_ints _)
