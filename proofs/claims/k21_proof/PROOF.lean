import PyProof.Rows.All
import Wide.All
import OpenK.AllK
import Wide.FinOn
import HandS.ForMost
import HandS.TupAny
import HandS.Style
import HandS.IsInst
import HandS.Star
import HandS.RevRange
import HandS.Wide
import HandS.Conv
import PyProof.StrOps2
import HandS.Evl
import HandS.Flow
import HandS.CallLocal
import HandS.DictComp
import HandS.Rev
import HandS.Comp
import HandS.Zip0
import PyProof.Draws
import PyProof.EnumMake
import KE.DataMinMax
import PyProof.Rows.RowBridgeK
import HandS.Deep
import PyProof.Rows.StrMeet
import HandS.ExcIs
import HandS.ExcValue
import HandS.ExcField
import HandS.ExcInit
import KE.KExcIs
import HandS.ForExc
import HandS.AnyAll
import HandS.Walk
import PySem.Challenge.RW_whatnext_k21_turned_back
set_option Elab.async false
set_option maxRecDepth 100000
set_option maxHeartbeats 8000000
set_option linter.unusedVariables false
namespace KB
open PySem L2
open PySem.AutoSeq1 PySem.MeetsSeq PySem.MeetsSeq2 PySem.MeetsSeq3

def top (i : Nat) : Stmt := (PySem.Challenge.pw_whatnext_k21_turned_back).main.body.getD i (.Pass ⟨0, 0, 0, 0⟩)

/-! ### two rules that the layer lacks: a list extended by a tuple, a text times a number -/
theorem ext_lt (l b : Addr) (us ws : Array Value) (n m : Nat) (dd : Option Addr) (sl : Array (Option Value))
    (h0 : ¬(!us.isEmpty && Builtin.List.listTooLong (us.size + ws.size)) = true) (h1 : us.size ≤ sizeLine) (h2 : us.size + ws.size ≤ sizeLine + 1) :
    Meets (Builtin.«list.extend» ⟨[.ref l, .ref b], []⟩) (fun _ R s => s.heap.get? l = some { cls := .type "list", dict := none, data := .seq us n, slots := #[] } ∧
      s.heap.get? b = some { cls := .type "tuple", dict := dd, data := .seq ws m, slots := sl } ∧
      R (.ok (.ret Value.none)) { s with heap := s.heap.update l (Obj.mapSeq fun x => x ++ ws), toks := s.toks }) := by
  refine .of_wp fun prog w A R s h => ?_
  obtain ⟨hp, g, d, tk, os⟩ := s
  obtain ⟨hl, hb, h⟩ := h
  have f1 := idx_int; have f2 := sub_tuple_tuple; have f3 := sub_list_list; have f4 := sub_tuple_list; have f5 := sub_list_tuple
  have hz' : (us ++ ws).size ≤ sizeLine + 1 := by
    rw [Array.size_append]
    exact h2
  wp_walk using (wpAny_updateSeq hl rfl (hz := h1) (_hz' := hz')), wpAny_loadPart' hl, wpAny_loadPart' hb
  exact ⟨_, rfl, h⟩
section
variable {X : Cx}
def rExtT (K : PySem.W.Frag) : V → List V → Hp → VK → Prop := fun x vs H Q => ∃ l b xs zs, x = .ref l ∧ vs = [.ref b] ∧ H l = some (.lst xs) ∧ SqT K H b zs ∧ xs.length + zs.length ≤ sizeLine ∧ Q .non (upd H l (.lst (xs ++ zs)))
theorem mt_extT : MtR X "list.extend" (rExtT X.K) := by
  intro pins s σ H x vs v us Q I rx rv h
  obtain ⟨l, b, xs, zs, rfl, rfl, hH, hB, hz, q⟩ := h
  cases rx
  obtain ⟨u, rfl, ru⟩ := rv.one
  cases ru
  obtain ⟨z, its, n, r, hl, e⟩ := I.lstM hH
  obtain ⟨its2, r2, ⟨⟨c2, d2, a2, s2⟩, e2, hc, n2, hd⟩, _⟩ := I.tuple hB
  cases hc
  cases hd
  have hl2 := r2.length
  have hsz : its.toArray.size + its2.toArray.size ≤ sizeLine := by
    rw [List.size_toArray, List.size_toArray]
    omega
  have hlong : ¬ (!its.toArray.isEmpty && Builtin.List.listTooLong (its.toArray.size + its2.toArray.size)) = true := by
    rw [notLongL hsz, Bool.and_false]
    exact Bool.false_ne_true
  refine call_meets F.slot_list_extend ⟨_, e, rfl⟩ F.entry_list_extend (F.args_list_extend_2 _ _)
    (ext_lt l b its.toArray its2.toArray n n2 d2 s2 hlong (by rw [List.size_toArray]; omega) (by omega)) ⟨e, e2, ?_⟩
  exact ⟨.non, _, I.lset (its' := its ++ its2) hH e (by simp) (r.append r2) (by rw [List.length_append]; exact hz), rfl, q⟩
end
end KB

namespace KB
open PySem L2

/-! ### terms as data -/
inductive Hd | num (z : Int) | nam (x : Str) | plus | less | tell | lett (x : Str) | iff | ask (f : Str)
inductive Tm | mk (h : Hd) (n : Nat) (k : Fin n → Tm)
def hs : Hd → Str
  | .num _ => "number" | .nam _ => "name" | .plus => "plus" | .less => "less" | .tell => "tell" | .lett _ => "let" | .iff => "if" | .ask _ => "ask"
/-- what stands at a, xs being its parts -/
def Lay (H : Hp) (a : Addr) : Hd → List V → Prop
  | .num z, xs => xs = [] ∧ H a = some (.tup [.str "number", .int z])
  | .nam x, xs => xs = [] ∧ H a = some (.tup [.str "name", .str x])
  | .plus, xs => xs.length = 2 ∧ H a = some (.tup (.str "plus" :: xs))
  | .less, xs => xs.length = 2 ∧ H a = some (.tup (.str "less" :: xs))
  | .tell, xs => xs.length = 1 ∧ H a = some (.tup (.str "tell" :: xs))
  | .lett x, xs => xs.length = 2 ∧ H a = some (.tup (.str "let" :: .str x :: xs))
  | .iff, xs => xs.length = 3 ∧ H a = some (.tup (.str "if" :: xs))
  | .ask f, xs => xs.length ≤ 4 ∧ ∃ p, H a = some (.tup [.str "ask", .str f, .ref p]) ∧ H p = some (.tup xs)
def Rfs {n : Nat} (ys : Fin n → Addr) : List V := List.ofFn fun i => V.ref (ys i)
def At (H : Hp) : Tm → Addr → Prop
  | .mk h n k, a => ∃ ys : Fin n → Addr, Lay H a h (Rfs ys) ∧ ∀ i, At H (k i) (ys i)
def cnt : Tm → Nat
  | .mk _ _ k => 1 + (List.ofFn fun i => cnt (k i)).sum
def places : Tm → List (List Int)
  | .mk _ n k => [] :: (List.ofFn fun i : Fin n => (places (k i)).map ((i.val : Int) :: ·)).flatten
def flatHd : Hd → Bool
  | .num _ | .nam _ | .plus | .less => true
  | _ => false
def simple : Tm → Bool
  | .mk h _ k => flatHd h && (List.ofFn fun i => simple (k i)).all id
def letsOf : Tm → List Str
  | .mk h _ k => (match h with | .lett x => [x] | _ => []) ++ (List.ofFn fun i => letsOf (k i)).flatten

theorem Lay.mono {H H' : Hp} (e : Same H H') {a : Addr} {h : Hd} {xs : List V} (l : Lay H a h xs) : Lay H' a h xs := by
  cases h with
  | ask f => obtain ⟨z, p, h1, h2⟩ := l; exact ⟨z, p, e _ _ h1, e _ _ h2⟩
  | _ => exact ⟨l.1, e _ _ l.2⟩
theorem At.mono {H H' : Hp} (e : Same H H') : ∀ {t : Tm} {a : Addr}, At H t a → At H' t a := by
  intro t
  induction t with
  | mk h n k ih =>
    rintro a ⟨ys, l, r⟩
    exact ⟨ys, l.mono e, fun i => ih i (r i)⟩
/-- every node begins with its word -/
theorem Lay.head {H : Hp} {a : Addr} {h : Hd} {xs : List V} (l : Lay H a h xs) : ∃ r, H a = some (.tup (.str (hs h) :: r)) := by
  cases h with
  | ask f => obtain ⟨z, p, h1, h2⟩ := l; exact ⟨_, h1⟩
  | _ => exact ⟨_, l.2⟩

theorem same_new {H : Hp} {p : Addr} (h : H p = none) (o : HO) : Same H (upd H p o) := fun b u q => by
  rw [upd_ne (ne_of_none q h)]
  exact q
theorem sIx_at {n d : Nat} {i : Int} (h0 : 0 ≤ i) (h : i.toNat ≤ n) : HT.sIx n d (some i) = i.toNat := by
  show (if i < 0 then (i + (n : Int)).toNat else min i.toNat n) = i.toNat
  rw [if_neg (by omega)]
  omega
theorem sIx_no {n d : Nat} : HT.sIx n d none = d := rfl
theorem not_whole {xs : List V} {i : Int} (h0 : 0 < i) (h : i.toNat ≤ xs.length) : ¬ (HT.sIx xs.length 0 (some i) = 0 ∧ HT.sIx xs.length xs.length none = xs.length) := by
  rw [sIx_at (by omega) h]
  omega
theorem cut_from {xs : List V} {i : Int} (h0 : 0 ≤ i) (h : i.toNat ≤ xs.length) : cutV xs (some i) none = xs.drop i.toNat := by
  unfold cutV
  rw [sIx_at h0 h, sIx_no, List.take_of_length_le (by rw [List.length_drop]; exact Nat.le_refl _)]
theorem len1 {α : Type} {x : α} {r : List α} : 1 ≤ (x :: r).length := Nat.succ_le_succ (Nat.zero_le _)
theorem len2 {α : Type} {x y : α} {r : List α} : 2 ≤ (x :: y :: r).length := Nat.succ_le_succ len1
theorem cut1 {x : V} {r : List V} : cutV (x :: r) (some 1) none = r := cut_from (i := 1) (by decide) len1
theorem cut2 {x y : V} {r : List V} : cutV (x :: y :: r) (some 2) none = r := cut_from (i := 2) (by decide) len2
theorem itT {b : Bool} {A B : Prop} (e : b = true) (h : A) : if b = true then A else B := by
  rw [if_pos e]
  exact h
theorem itF {b : Bool} {A B : Prop} (e : b = false) (h : B) : if b = true then A else B := by
  rw [if_neg (by rw [e]; exact Bool.false_ne_true)]
  exact h
theorem at0 {x : V} {r : List V} : atI (x :: r) 0 = some x := at_of (j := 0) rfl rfl
theorem at1 {x y : V} {r : List V} : atI (x :: y :: r) 1 = some y := at_of (j := 1) rfl rfl
theorem at2 {x y z : V} {r : List V} : atI (x :: y :: z :: r) 2 = some z := at_of (j := 2) rfl rfl
theorem sz {n : Nat} (h : n ≤ 100000) : n ≤ sizeLine := Nat.le_trans h (by decide)
/-- the facts of the top -/
structure Ref (K : PySem.W.Frag) (mg : Str → Option Value) (x : Str) (f : Addr) (fd : FuncData) (ps : List Str) : Prop where
  m : mg x = some (.ref f)
  k : PySem.W.keepIn K (.ref f) = true
  b : Binds K fd ps []
structure Txt (K : PySem.W.Frag) (mg : Str → Option Value) : Prop where
  m_len : mg "len" = none
  m_isinstance : mg "isinstance" = none
  m_int : mg "int" = none
  m_tuple : mg "tuple" = none
  m_list : mg "list" = none
  m_str : mg "str" = none
  m_bool : mg "bool" = none
  m_max : mg "max" = none
  m_all : mg "all" = none
  m_dict : mg "dict" = none
  m_range : mg "range" = none
  m_enumerate : mg "enumerate" = none
  m_reversed : mg "reversed" = none

section
variable {P : Program} {w : World} {K : PySem.W.Frag} {mg : Str → Option Value} {base : Heap}
/-! ### parts_of and _law_parts -/
def spParts : Sp := fun vs H Q _ => ∃ a h xs, vs = [.ref a] ∧ Lay H a h xs ∧ ∀ p H', Same H H' → H' p = some (.tup xs) → Q (.ref p) H'
abbrev sparts_of : Stmt := top 9
theorem scparts_of : FnScope ["term"] ["term"] (defScope sparts_of) := ⟨rfl, rfl, rfl, by decide +kernel, rfl, by decide +kernel, by decide +kernel⟩
theorem ok_parts {f : Addr} {fd : FuncData} (F : Fun K "parts_of" "parts_of" sparts_of f fd) : FnOk P w K mg base CX0 1 f fd ["term"] spParts := by
  refine F.ok scparts_of (fun vs H Q E h => ?_) (fun cdv A outer s H vs Q E hr h => ?_)
  · obtain ⟨a, h, xs, rfl, _⟩ := h
    rfl
  obtain ⟨a, h, xs, rfl, l, q⟩ := h
  refine ⟨_, (pss_cons (ps_if (pt_cmpR op_in_seq (pe_ix ix_tup (pv 0) pe_int (fun _ _ => rfl)) (pe_tup (pa_cons pe_str (pa_cons pe_str pa_nil))) rfl) (pss_one (ps_ret (pe_tup pa_nil))) pss_nil)
    (pss_cons (ps_if (pt_cmpR op_eq (pe_ix ix_tup (pv 0) pe_int (fun _ _ => rfl)) pe_str (nomark _)) (pss_one (ps_ret (pe_ix ix_tup (pv 0) pe_int (fun _ _ => rfl)))) pss_nil)
    (pss_cons (ps_if (pt_cmpR op_eq (pe_ix ix_tup (pv 0) pe_int (fun _ _ => rfl)) pe_str (nomark _)) (pss_one (ps_ret (pe_slice sl_tupA (pv 0) (po_some pe_int) po_none))) pss_nil)
    (pss_one (ps_ret (pe_slice sl_tupA (pv 0) (po_some pe_int) po_none)))))), ?_⟩
  obtain ⟨r, hd⟩ := l.head
  refine ⟨_, rfl, a, _, _, _, rfl, rfl, SqT.of hd, at0, sz (by show 2 ≤ 100000; decide), fun t ht => ?_⟩
  have s1 := same_new ht (.tup [.str "number", .str "name"])
  have l1 := l.mono s1
  refine ⟨t, _, rfl, .inr (SqT.of upd_same), rfl, rfl, _, rfl, ?_⟩
  cases h with
  | num z =>
    refine itT rfl ⟨sz (by decide), fun p hp => q p _ (s1.trans (same_new hp _)) ?_⟩
    rw [l.1, upd_same]
  | nam z =>
    refine itT rfl ⟨sz (by decide), fun p hp => q p _ (s1.trans (same_new hp _)) ?_⟩
    rw [l.1, upd_same]
  | ask f =>
    obtain ⟨l1, p, l2, l3⟩ := l
    refine itF rfl ⟨_, rfl, a, _, _, _, rfl, rfl, SqT.of (s1 _ _ l2), at0, rfl, _, rfl, ?_⟩
    refine itT rfl ⟨_, rfl, a, _, _, _, rfl, rfl, SqT.of (s1 _ _ l2), at2, ?_⟩
    exact q p _ s1 (s1 _ _ l3)
  | lett x =>
    refine itF rfl ⟨_, rfl, a, _, _, _, rfl, rfl, SqT.of (s1 _ _ l.2), at0, rfl, _, rfl, ?_⟩
    refine itF rfl ⟨_, rfl, a, _, _, _, rfl, rfl, SqT.of (s1 _ _ l.2), at0, rfl, _, rfl, ?_⟩
    refine itT rfl ⟨_, rfl, _, rfl, a, _, rfl, SqT.of (s1 _ _ l.2), ?_, ?_⟩
    · exact fun z => absurd z (not_whole (by decide) len2)
    · intro _ p hp
      refine q p _ (s1.trans (same_new hp _)) ?_
      rw [upd_same, cut2]
  | plus | less | tell | iff =>
    refine itF rfl ⟨_, rfl, a, _, _, _, rfl, rfl, SqT.of (s1 _ _ l.2), at0, rfl, _, rfl, ?_⟩
    refine itF rfl ⟨_, rfl, a, _, _, _, rfl, rfl, SqT.of (s1 _ _ l.2), at0, rfl, _, rfl, ?_⟩
    refine itF rfl ⟨_, rfl, _, rfl, a, _, rfl, SqT.of (s1 _ _ l.2), ?_, ?_⟩
    · exact fun z => absurd z (not_whole (by decide) len1)
    · intro _ p hp
      refine q p _ (s1.trans (same_new hp _)) ?_
      rw [upd_same, cut1]
end
end KB

namespace KB
open PySem L2

/-! ### rules and small facts -/
def repS (z : Str) (k : Int) : Str := ⟨(List.replicate k.toNat z.cps).foldl (· ++ ·) #[]⟩
def rMulS : R2 := fun x y H Q => ∃ z k, x = .str z ∧ y = .int k ∧ 1 ≤ k ∧ k ≤ 1000 ∧ 1 ≤ z.length ∧ z.length ≤ 1000 ∧ Q (.str (repS z k)) H
theorem repS_one (z : Str) : repS z 1 = z := by
  unfold repS
  show (⟨#[] ++ z.cps⟩ : Str) = z
  rw [Array.empty_append]
theorem size_rep (xs : Array Nat) : ∀ (k : Nat) (acc : Array Nat), ((List.replicate k xs).foldl (· ++ ·) acc).size = acc.size + k * xs.size
  | 0, acc => by
    rw [Nat.zero_mul]
    rfl
  | k + 1, acc => by
    rw [List.replicate_succ, List.foldl_cons, size_rep xs k, Array.size_append, Nat.succ_mul]
    omega
theorem op_mul_str {X : Cx} : OpR X (binaryOp .Mult) rMulS := by
  intro pins s σ H x y v u Q I rx ry h
  obtain ⟨z, k, rfl, rfl, h1, h2, h3, h4, q⟩ := h
  obtain ⟨t, rfl⟩ := rx
  obtain ⟨t', rfl⟩ := ry
  refine PySem.P.mul_str ?_ ?_ ?_ ?_
  · rw [decide_eq_false (by omega), decide_eq_false (by omega)]
    rfl
  · intro _ _
    have e1 : (1000 : Int) * k ≤ 1000000 := by omega
    have e2 : (9223372036854775807 : Int) / k ≥ 9223372036854775 := by
      have e3 : (9223372036854775807 : Int) / k ≥ 9223372036854775807 / 1000 := by
        refine Int.le_ediv_of_mul_le (by omega) ?_
        have : (9223372036854775807 / 1000 : Int) = 9223372036854775 := by decide
        rw [this]
        have : (9223372036854775 : Int) * k ≤ 9223372036854775 * 1000 := Int.mul_le_mul_of_nonneg_left h2 (by decide)
        omega
      have : (9223372036854775807 / 1000 : Int) = 9223372036854775 := by decide
      omega
    have e4 : ((2 : Int) ^ 63 - 1) = 9223372036854775807 := by decide
    rw [e4]
    omega
  · intro _ _
    have e : z.length * k.toNat ≤ 1000 * 1000 := Nat.mul_le_mul h4 (by omega)
    exact decide_eq_false (by show ¬ _ > sizeLine; exact Nat.not_lt.mpr (Nat.le_trans e (by decide)))
  · rw [if_neg (by omega)]
    have hz : (z.length == 0) = false := by
      rw [beq_eq_false_iff_ne]
      omega
    by_cases hk : k = 1
    · subst hk
      rw [if_pos (by rfl)]
      rw [repS_one] at q
      exact ⟨.str z, H, I, ⟨t, rfl⟩, q⟩
    · have hk2 : (k == 1) = false := by
        rw [beq_eq_false_iff_ne]
        exact hk
      rw [if_neg (by rw [hk2, hz]; decide)]
      have e : z.length * k.toNat ≤ 1000 * 1000 := Nat.mul_le_mul h4 (by omega)
      have e2 := size_rep z.cps k.toNat #[]
      refine ⟨?_, .str (repS z k), H, I.tok _, ⟨_, rfl⟩, q⟩
      show (List.foldl (fun x1 x2 => x1 ++ x2) #[] (List.replicate k.toNat z.cps)).size ≤ sizeLine
      rw [e2, Nat.mul_comm]
      show 0 + z.length * k.toNat ≤ sizeLine
      rw [Nat.zero_add]
      exact Nat.le_trans e (by decide)

/-! ### stacks of terms -/
def Stk (H : Hp) : List V → List Tm → Prop
  | [], [] => True
  | v :: vs, t :: ts => (∃ b, v = .ref b ∧ At H t b) ∧ Stk H vs ts
  | _, _ => False
theorem Stk.mono {H H' : Hp} (e : Same H H') : ∀ {vs : List V} {ts : List Tm}, Stk H vs ts → Stk H' vs ts
  | [], [], _ => trivial
  | _ :: _, _ :: _, h => ⟨let ⟨b, e1, h1⟩ := h.1; ⟨b, e1, h1.mono e⟩, Stk.mono e h.2⟩
  | [], _ :: _, h => h.elim
  | _ :: _, [], h => h.elim
theorem Stk.app {H : Hp} : ∀ {vs us : List V} {ts ss : List Tm}, Stk H vs ts → Stk H us ss → Stk H (vs ++ us) (ts ++ ss)
  | [], _, [], _, _, k => k
  | _ :: _, _, _ :: _, _, h, k => ⟨h.1, Stk.app h.2 k⟩
  | [], _, _ :: _, _, h, _ => h.elim
  | _ :: _, _, [], _, h, _ => h.elim
theorem Stk.rev {H : Hp} : ∀ {vs : List V} {ts : List Tm}, Stk H vs ts → Stk H vs.reverse ts.reverse
  | [], [], _ => trivial
  | v :: vs, t :: ts, h => by
    rw [List.reverse_cons, List.reverse_cons]
    exact Stk.app (Stk.rev h.2) ⟨h.1, trivial⟩
  | [], _ :: _, h => h.elim
  | _ :: _, [], h => h.elim
theorem Stk.len {H : Hp} : ∀ {vs : List V} {ts : List Tm}, Stk H vs ts → vs.length = ts.length
  | [], [], _ => rfl
  | _ :: _, _ :: _, h => congrArg (· + 1) (Stk.len h.2)
  | [], _ :: _, h => h.elim
  | _ :: _, [], h => h.elim
theorem Stk.fn {H : Hp} : ∀ {n : Nat} {ys : Fin n → Addr} {k : Fin n → Tm}, (∀ i, At H (k i) (ys i)) → Stk H (Rfs ys) (List.ofFn k)
  | 0, _, _, _ => trivial
  | n + 1, ys, k, h => by
    unfold Rfs
    rw [List.ofFn_succ, List.ofFn_succ]
    exact ⟨⟨_, rfl, h 0⟩, Stk.fn (ys := fun i => ys i.succ) (k := fun i => k i.succ) fun i => h i.succ⟩
def cnts (ts : List Tm) : Nat := (ts.map cnt).sum
theorem cnts_app (a b : List Tm) : cnts (a ++ b) = cnts a + cnts b := by
  unfold cnts
  rw [List.map_append, List.sum_append]
theorem cnts_rev (a : List Tm) : cnts a.reverse = cnts a := by
  induction a with
  | nil => rfl
  | cons x r ih =>
    rw [List.reverse_cons, cnts_app, ih]
    unfold cnts
    simp only [List.map_cons, List.map_nil, List.sum_cons, List.sum_nil]
    omega
theorem cnt_mk {h : Hd} {n : Nat} {k : Fin n → Tm} : cnt (.mk h n k) = 1 + cnts (List.ofFn k) := by
  show 1 + (List.ofFn fun i => cnt (k i)).sum = 1 + ((List.ofFn k).map cnt).sum
  rw [List.map_ofFn]
  rfl
theorem cnts_cons {t : Tm} {r : List Tm} : cnts (t :: r) = cnt t + cnts r := rfl
theorem cnt_pos : ∀ t : Tm, 1 ≤ cnt t
  | .mk _ _ _ => by rw [cnt_mk]; omega
theorem len_cnts : ∀ ts : List Tm, ts.length ≤ cnts ts
  | [] => Nat.le_refl _
  | t :: r => by
    have h1 := cnt_pos t
    have h2 := len_cnts r
    rw [cnts_cons, List.length_cons]
    omega

section
variable {P : Program} {w : World} {K : PySem.W.Frag} {mg : Str → Option Value} {base : Heap}
theorem same_mut {H H' : Hp} {p : Addr} {o : HO} (e : Same H H') (h : H p = none) : Same H (upd H' p o) := fun a u ha => by
  rw [upd_ne (ne_of_none ha h)]
  exact e _ _ ha
/-- a list rewritten leaves the terms -/
theorem Lay.put {H : Hp} {l : Addr} {xs ys : List V} (hl : H l = some (.lst xs)) {a : Addr} {h : Hd} {us : List V} (q : Lay H a h us) : Lay (upd H l (.lst ys)) a h us := by
  have go : ∀ {b : Addr} {zs : List V}, H b = some (.tup zs) → upd H l (.lst ys) b = some (.tup zs) := fun {b zs} z => by
    rw [upd_ne (ne_of z hl (by intro e; cases e))]
    exact z
  cases h with
  | ask f => obtain ⟨z, p, h1, h2⟩ := q; exact ⟨z, p, go h1, go h2⟩
  | _ => exact ⟨q.1, go q.2⟩
theorem At.put {H : Hp} {l : Addr} {xs ys : List V} (hl : H l = some (.lst xs)) : ∀ {t : Tm} {a : Addr}, At H t a → At (upd H l (.lst ys)) t a := by
  intro t
  induction t with
  | mk h n k ih =>
    rintro a ⟨zs, q, r⟩
    exact ⟨zs, q.put hl, fun i => ih i (r i)⟩
theorem Stk.put {H : Hp} {l : Addr} {xs ys : List V} (hl : H l = some (.lst xs)) : ∀ {vs : List V} {ts : List Tm}, Stk H vs ts → Stk (upd H l (.lst ys)) vs ts
  | [], [], _ => trivial
  | _ :: _, _ :: _, h => ⟨let ⟨b, e1, h1⟩ := h.1; ⟨b, e1, h1.put hl⟩, Stk.put hl h.2⟩
  | [], _ :: _, h => h.elim
  | _ :: _, [], h => h.elim
end
end KB

namespace KB
open PySem L2

/-! ### what leaves the tuples -/
def TK (H H' : Hp) : Prop := ∀ a xs, H a = some (.tup xs) → H' a = some (.tup xs)
theorem TK.refl (H : Hp) : TK H H := fun _ _ h => h
theorem TK.trans {H H1 H2 : Hp} (a : TK H H1) (b : TK H1 H2) : TK H H2 := fun x o h => b x o (a x o h)
theorem tk_same {H H' : Hp} (e : Same H H') : TK H H' := fun a _ h => e a _ h
theorem tk_put {H : Hp} {l : Addr} {xs : List V} {o : HO} (hl : H l = some (.lst xs)) : TK H (upd H l o) := fun a zs z => by
  rw [upd_ne (ne_of z hl (by intro e; cases e))]
  exact z
theorem Lay.tk {H H' : Hp} (e : TK H H') {a : Addr} {h : Hd} {xs : List V} (l : Lay H a h xs) : Lay H' a h xs := by
  cases h with
  | ask f => obtain ⟨z, p, h1, h2⟩ := l; exact ⟨z, p, e _ _ h1, e _ _ h2⟩
  | _ => exact ⟨l.1, e _ _ l.2⟩
theorem At.tk {H H' : Hp} (e : TK H H') : ∀ {t : Tm} {a : Addr}, At H t a → At H' t a := by
  intro t
  induction t with
  | mk h n k ih =>
    rintro a ⟨ys, l, r⟩
    exact ⟨ys, l.tk e, fun i => ih i (r i)⟩

theorem Stk.tk {H H' : Hp} (e : TK H H') : ∀ {vs : List V} {ts : List Tm}, Stk H vs ts → Stk H' vs ts
  | [], [], _ => trivial
  | _ :: _, _ :: _, h => ⟨let ⟨b, e1, h1⟩ := h.1; ⟨b, e1, h1.tk e⟩, Stk.tk e h.2⟩
  | [], _ :: _, h => h.elim
  | _ :: _, [], h => h.elim
theorem Stk.get {H : Hp} : ∀ {vs : List V} {ts : List Tm} {i : Nat} {v : V}, Stk H vs ts → vs[i]? = some v → ∃ t, ts[i]? = some t ∧ ∃ b, v = .ref b ∧ At H t b
  | [], [], _, _, _, e => by simp at e
  | x :: vs, t :: ts, 0, v, h, e => ⟨t, rfl, by
    have e' : x = v := by simpa using e
    subst e'
    exact h.1⟩
  | x :: vs, t :: ts, i + 1, v, h, e => by
    obtain ⟨b, h1, h2⟩ := Stk.get (i := i) (v := v) h.2 (by simpa using e)
    exact ⟨b, by simpa using h1, h2⟩
  | [], _ :: _, _, _, h, _ => h.elim
  | _ :: _, [], _, _, h, _ => h.elim

/-! ### two lists, item by item -/
def All2 {α : Type} (R : α → V → Prop) : List α → List V → Prop
  | [], [] => True
  | a :: as, v :: vs => R a v ∧ All2 R as vs
  | _, _ => False
theorem All2.imp {α : Type} {R S : α → V → Prop} (e : ∀ a v, R a v → S a v) : ∀ {as : List α} {vs : List V}, All2 R as vs → All2 S as vs
  | [], [], _ => trivial
  | _ :: _, _ :: _, h => ⟨e _ _ h.1, All2.imp e h.2⟩
  | [], _ :: _, h => h.elim
  | _ :: _, [], h => h.elim
theorem All2.app {α : Type} {R : α → V → Prop} : ∀ {as bs : List α} {vs ws : List V}, All2 R as vs → All2 R bs ws → All2 R (as ++ bs) (vs ++ ws)
  | [], _, [], _, _, k => k
  | _ :: _, _, _ :: _, _, h, k => ⟨h.1, All2.app h.2 k⟩
  | [], _, _ :: _, _, h, _ => h.elim
  | _ :: _, _, [], _, h, _ => h.elim
theorem All2.len {α : Type} {R : α → V → Prop} : ∀ {as : List α} {vs : List V}, All2 R as vs → vs.length = as.length
  | [], [], _ => rfl
  | _ :: _, _ :: _, h => congrArg (· + 1) (All2.len h.2)
  | [], _ :: _, h => h.elim
  | _ :: _, [], h => h.elim
theorem All2.get {α : Type} {R : α → V → Prop} : ∀ {as : List α} {vs : List V} {i : Nat} {v : V}, All2 R as vs → vs[i]? = some v → ∃ a, as[i]? = some a ∧ R a v
  | [], [], _, _, _, e => by simp at e
  | a :: as, x :: vs, 0, v, h, e => ⟨a, rfl, by
    have e' : x = v := by simpa using e
    subst e'
    exact h.1⟩
  | a :: as, x :: vs, i + 1, v, h, e => by
    obtain ⟨b, h1, h2⟩ := All2.get (i := i) (v := v) h.2 (by simpa using e)
    exact ⟨b, by simpa using h1, h2⟩
  | [], _ :: _, _, _, h, _ => h.elim
  | _ :: _, [], _, _, h, _ => h.elim

end KB

namespace KB
open PySem L2

/-! ### books -/
abbrev Er := Str × List Str × Tm
def ErV (H : Hp) (e : Er) (v : V) : Prop := ∃ q r b, v = .ref q ∧ H q = some (.tup [.str e.1, .ref r, .ref b]) ∧ H r = some (.tup (e.2.1.map V.str)) ∧ At H e.2.2 b
theorem ErV.tk {H H' : Hp} (t : TK H H') {e : Er} {v : V} (h : ErV H e v) : ErV H' e v :=
  let ⟨q, r, b, e1, h1, h2, h3⟩ := h; ⟨q, r, b, e1, t _ _ h1, t _ _ h2, h3.tk t⟩
def BkAt (H : Hp) (es : List Er) (vs : List V) (p : Addr) : Prop := H p = some (.tup vs) ∧ All2 (ErV H) es vs
theorem BkAt.tk {H H' : Hp} (t : TK H H') {es : List Er} {vs : List V} {p : Addr} (h : BkAt H es vs p) : BkAt H' es vs p := ⟨t _ _ h.1, h.2.imp fun _ _ z => z.tk t⟩
theorem All2.map {α β : Type} {R : β → V → Prop} {f : α → β} : ∀ {as : List α} {vs : List V}, All2 (fun a v => R (f a) v) as vs → All2 R (as.map f) vs
  | [], [], _ => trivial
  | _ :: _, _ :: _, h => ⟨h.1, All2.map h.2⟩
  | [], _ :: _, h => h.elim
  | _ :: _, [], h => h.elim

section
variable {P : Program} {w : World} {K : PySem.W.Frag} {mg : Str → Option Value} {base : Heap}
theorem mem_of_get {α : Type} {l : List α} {i : Nat} {a : α} (h : l[i]? = some a) : a ∈ l := List.mem_of_getElem? h
end
end KB

namespace KB
open PySem L2

theorem catA_of {K : PySem.W.Frag} {H : Hp} {a b : Addr} {xs ys : List V} {Q : VK} (ha : H a = some (.tup xs)) (hb : H b = some (.tup ys)) (hl : xs.length + ys.length ≤ 100000)
    (q : ∀ p H', Same H H' → H' p = some (.tup (xs ++ ys)) → Q (.ref p) H') : rCatA K (.ref a) (.ref b) H Q := by
  refine ⟨a, b, xs, ys, rfl, rfl, SqT.of ha, SqT.of hb, sz hl, fun z => ?_, fun _ z => ?_, fun _ _ p hp => ?_⟩
  · refine q b H (Same.refl H) ?_
    rw [z]
    exact hb
  · refine q a H (Same.refl H) ?_
    rw [z, List.append_nil]
    exact ha
  · exact q p _ (same_new hp _) upd_same
theorem cnt_mem {t : Tm} {ts : List Tm} (h : t ∈ ts) : cnt t ≤ cnts ts := by
  induction ts with
  | nil => cases h
  | cons a r ih =>
    rw [cnts_cons]
    rcases List.mem_cons.mp h with z | z
    · subst z
      omega
    · have := ih z
      omega
theorem cnts_take (ts : List Tm) (i : Nat) : cnts (ts.take i) ≤ cnts ts := by
  have e : cnts ts = cnts (ts.take i) + cnts (ts.drop i) := by rw [← cnts_app, List.take_append_drop]
  omega
def letsL (ts : List Tm) : List Str := (ts.map letsOf).flatten
def hdLets : Hd → List Str
  | .lett x => [x]
  | _ => []
theorem hdLets_le (h : Hd) : (hdLets h).length ≤ 1 := by
  cases h with
  | lett x => exact Nat.le_refl 1
  | _ => exact Nat.zero_le 1
theorem lets_mk {h : Hd} {n : Nat} {k : _root_.Fin n → Tm} : letsOf (.mk h n k) = hdLets h ++ letsL (List.ofFn k) := by
  have e : (List.ofFn fun i => letsOf (k i)) = (List.ofFn k).map letsOf := (List.map_ofFn ..).symm
  unfold letsL
  rw [← e]
  cases h <;> rfl
theorem lets_len : ∀ t : Tm, (letsOf t).length ≤ cnt t := by
  have go : ∀ ts : List Tm, (∀ t ∈ ts, (letsOf t).length ≤ cnt t) → (letsL ts).length ≤ cnts ts := by
    intro ts
    induction ts with
    | nil => intro _; exact Nat.le_refl _
    | cons a r ih =>
      intro h
      have h1 := h a List.mem_cons_self
      have h2 := ih fun u hu => h u (List.mem_cons_of_mem _ hu)
      have e : letsL (a :: r) = letsOf a ++ letsL r := by
        unfold letsL
        rw [List.map_cons, List.flatten_cons]
      rw [e, List.length_append, cnts_cons]
      omega
  intro t
  induction t with
  | mk h n k ih =>
    have := go (List.ofFn k) fun t ht => by
      obtain ⟨i, rfl⟩ := List.mem_ofFn.mp ht
      exact ih i
    rw [lets_mk, cnt_mk, List.length_append]
    have : (hdLets h).length ≤ 1 := hdLets_le h
    omega
theorem letsL_take {ts : List Tm} {i : Nat} {t : Tm} (h : ts[i]? = some t) : letsL (ts.take (i + 1)) = letsL (ts.take i) ++ letsOf t := by
  obtain ⟨hi, he⟩ := List.getElem?_eq_some_iff.mp h
  unfold letsL
  rw [List.take_succ_eq_append_getElem hi, List.map_append, List.flatten_append, he]
  simp

end KB

namespace KB
open PySem L2

/-! ### words as the program has them -/
def keptW : List Str := ["let", "be", "in", "tell", "if", "then", "else", "home", "zyzzyva"]
def small (c : Nat) : Bool := decide (97 ≤ c) && decide (c ≤ 122)
def isW (z : Str) : Bool := !keptW.contains z && (decide (1 ≤ z.length) && decide (z.length ≤ 8)) && z.cps.toList.all small
theorem isW_ok {z : Str} (h : isW z = true) : PySem.PyData.strOk z = true := by
  unfold isW at h
  rw [Bool.and_eq_true] at h
  have h2 := h.2
  rw [List.all_eq_true] at h2
  unfold PySem.PyData.strOk
  rw [← Array.all_toList, List.all_eq_true]
  intro c hc
  have := h2 c hc
  unfold small at this
  rw [Bool.and_eq_true] at this
  have := of_decide_eq_true this.2
  exact decide_eq_true (by omega)
theorem isW_len {z : Str} (h : isW z = true) : z.length ≤ 8 := by
  unfold isW at h
  rw [Bool.and_eq_true, Bool.and_eq_true, Bool.and_eq_true] at h
  exact of_decide_eq_true h.1.2.2
/-! ### the tape and lists of words -/
def But1 (tp : Addr) (H H' : Hp) : Prop := ∀ b o, b ≠ tp → H b = some o → H' b = some o
def Tp (H : Hp) (tp : Addr) : Prop := ∃ z, H tp = some (.lst [.int z])
theorem But1.refl (tp : Addr) (H : Hp) : But1 tp H H := fun _ _ _ h => h
theorem But1.trans {tp : Addr} {H H1 H2 : Hp} (a : But1 tp H H1) (b : But1 tp H1 H2) : But1 tp H H2 := fun x o n h => b x o n (a x o n h)
theorem but_same {tp : Addr} {H H' : Hp} (e : Same H H') : But1 tp H H' := fun b o _ h => e b o h
theorem But1.tk {tp : Addr} {H H' : Hp} (ht : Tp H tp) (e : But1 tp H H') : TK H H' := fun a xs h => by
  obtain ⟨z, hz⟩ := ht
  exact e a _ (ne_of h hz (by intro q; cases q)) h
/-- a list of words -/
def Wls (H : Hp) (a : Addr) (xs : List Str) : Prop := H a = some (.lst (xs.map V.str)) ∧ ∀ x ∈ xs, isW x = true
theorem wls_tp {H : Hp} {a tp : Addr} {xs : List Str} (h : H a = some (.lst (xs.map V.str))) (t : Tp H tp) : a ≠ tp := by
  rintro rfl
  obtain ⟨z, hz⟩ := t
  rw [h] at hz
  have e := HO.lst.inj (Option.some.inj hz)
  cases xs with
  | nil => cases e
  | cons x r =>
    rw [List.map_cons] at e
    cases (List.cons.inj e).1
theorem Wls.but {tp a : Addr} {H H' : Hp} {xs : List Str} (e : But1 tp H H') (t : Tp H tp) (h : Wls H a xs) : Wls H' a xs := ⟨e _ _ (wls_tp h.1 t) h.1, h.2⟩
theorem dp_strs {K : PySem.W.Frag} {H : Hp} : ∀ xs : List Str, DpAll K H (xs.map V.str) (xs.map PyData.str)
  | [] => .nil
  | x :: r => .cons (.str x) (dp_strs r)
theorem lay_strs : ∀ {xs : List Str}, (∀ x ∈ xs, PySem.PyData.strOk x = true) → PySem.PyData.canLayAll0 (xs.map PyData.str) = true
  | [], _ => rfl
  | x :: r, h => by
    show (PySem.PyData.strOk x && PySem.PyData.canLayAll0 (r.map PyData.str)) = true
    rw [h x List.mem_cons_self, lay_strs fun y hy => h y (List.mem_cons_of_mem _ hy)]
    rfl
theorem shaped_of {d : PyData} (h1 : d.canLay0 = true) (h2 : d.depth ≤ 64) : SeqAt.shaped d = true := Bool.and_eq_true_iff.mpr ⟨h1, decide_eq_true h2⟩
theorem depth_strs : ∀ xs : List Str, PySem.PyData.depthAll (xs.map PyData.str) = 0
  | [] => rfl
  | x :: r => by
    show max (PySem.PyData.depth (.str x)) (PySem.PyData.depthAll (r.map PyData.str)) = 0
    rw [depth_strs r]
    rfl
theorem shaped_strs {xs : List Str} (h : ∀ x ∈ xs, isW x = true) : SeqAt.shaped (.list (xs.map PyData.str)) = true := by
  refine shaped_of (lay_strs fun x hx => isW_ok (h x hx)) ?_
  show PySem.PyData.depthAll (xs.map PyData.str) + 1 ≤ 64
  rw [depth_strs]
  decide
theorem eqv_nil (xs : List Str) : PyData.eqv (.list (xs.map PyData.str)) (.list []) = xs.isEmpty := by
  cases xs <;> rfl

section
variable {P : Program} {w : World} {K : PySem.W.Frag} {mg : Str → Option Value} {base : Heap}
/-! ### _law_cell_at -/
def spCell (K : PySem.W.Frag) : Sp := fun vs H Q _ => ∃ (a : Addr) (ns : List Int) (k : Int), vs = [.ref a, .int k] ∧ SqL K H a (ns.map V.int) ∧ 0 ≤ k ∧ ∀ z, Q (.int z) H
abbrev s_law_cell_at : Stmt := top 37
theorem scLcell_at : FnScope ["script", "k"] ["script", "k"] (defScope s_law_cell_at) := ⟨rfl, rfl, rfl, by decide +kernel, rfl, by decide +kernel, by decide +kernel⟩
theorem ok_cell (T : Txt K mg) {f : Addr} {fd : FuncData} (F : Fun K "_law_cell_at" "_law_cell_at" s_law_cell_at f fd) : FnOk P w K mg base CX0 1 f fd ["script", "k"] (spCell K) := by
  refine F.ok scLcell_at (fun vs H Q E h => ?_) (fun cdv A outer s H vs Q E hr h => ?_)
  · obtain ⟨a, ns, k, rfl, _⟩ := h
    rfl
  obtain ⟨a, ns, k, rfl, hS, h0, q⟩ := h
  refine ⟨_, (pss_cons (ps_if (pt_cmpR op_lt (pv 1) (pe_callB call_len_seq (by rfl) T.m_len PySem.boot_len (pa_cons (pv 0) pa_nil)) (nomark _)) (pss_one (ps_ret (pe_ix ix_list (pv 0) (pv 1) (fun _ _ => rfl)))) pss_nil)
    (pss_one (ps_ret pe_int))), ?_⟩
  refine ⟨_, rfl, _, rfl, a, _, rfl, .inl hS, _, _, rfl, rfl, _, rfl, ?_⟩
  refine ite2 (fun c => ?_) (fun c => ?_)
  · have c' : k < (((ns.map V.int).length : Nat) : Int) := of_decide_eq_true c
    rw [List.length_map] at c'
    have hk : k.toNat < ns.length := by omega
    refine ⟨_, rfl, _, rfl, a, _, _, .int ns[k.toNat], rfl, rfl, hS, at_of (j := k.toNat) (by omega) ?_, q _⟩
    rw [List.getElem?_map, List.getElem?_eq_getElem hk]
    rfl
  · exact q 0
/-! ### _law_tape -/
def spTape (K : PySem.W.Frag) : Sp := fun vs H Q _ => ∃ (a : Addr) (ns : List Int) (k : Int), vs = [.ref a, .int k] ∧ SqL K H a (ns.map V.int) ∧ 0 ≤ k ∧ k ≤ 1000 ∧ ∀ p z, H p = none → Q (.ref p) (upd H p (.lst [.int z]))
abbrev s_law_tape : Stmt := top 38
theorem scLtape : FnScope ["script", "k", "cell", "p", "one", "found", "turn"] ["script", "k"] (defScope s_law_tape) := ⟨rfl, rfl, rfl, by decide +kernel, rfl, by decide +kernel, by decide +kernel⟩
theorem ok_tape (T : Txt K mg) {f g : Addr} {fd gd : FuncData} (F : Fun K "_law_tape" "_law_tape" s_law_tape f fd) (G_law_cell_at : FnOk P w K mg base CX0 1 g gd ["script", "k"] (spCell K)) (R_law_cell_at : Ref K mg "_law_cell_at" g gd ["script", "k"]) : FnOk P w K mg base CX0 2 f fd ["script", "k"] (spTape K) := by
  refine F.ok scLtape (fun vs H Q E h => ?_) (fun cdv A outer s H vs Q E hr h => ?_)
  · obtain ⟨a, ns, k, rfl, _⟩ := h
    rfl
  obtain ⟨a, ns, k, rfl, hS, h0, h1, q⟩ := h
  refine ⟨_, (pss_cons (ps_set (i := 2) scLtape.nd rfl (Or.inl rfl) (pe_call G_law_cell_at hr rfl R_law_cell_at.m R_law_cell_at.k R_law_cell_at.b .nil pass0 (pa_cons (pv 0) (pa_cons (pv 1) pa_nil))))
    (pss_cons (ps_if (pt_cmpR op_eq (pv 2) pe_int (nomark _)) (pss_one (ps_ret (pe_lst (pa_cons pe_int pa_nil)))) pss_nil)
    (pss_cons (ps_if (pt_cmpR op_ge (pv 2) (pe_op op_pow pe_int pe_int) (nomark _)) (pss_one (ps_ret (pe_lst (pa_cons (pe_op op_sub (pv 2) (pe_op op_pow pe_int pe_int)) pa_nil)))) pss_nil)
    (pss_cons (ps_set (i := 3) scLtape.nd rfl (Or.inl rfl) pe_int)
    (pss_cons (ps_set (i := 4) scLtape.nd rfl (Or.inl rfl) (pe_op op_mod (pe_op op_add (pe_op op_add (pe_op op_mul (pv 2) pe_int) (pe_op op_mul pe_int (pv 1))) pe_int) (pv 3)))
    (pss_cons (ps_set (i := 5) scLtape.nd rfl (Or.inl rfl) (pv 4))
    (pss_cons (ps_for PassesOwn.never rfl (pi_range1 rfl T.m_range (pa_cons pe_int pa_nil)) (pg_name (i := 6) scLtape.nd rfl (Or.inl rfl)) (pss_cons (ps_set (i := 4) scLtape.nd rfl (Or.inl rfl) (pe_op op_mod (pe_op op_add (pe_op op_add (pe_op op_add (pe_op op_mul (pv 4) (pv 4)) (pe_op op_mul pe_int (pv 6))) (pv 2)) pe_int) (pv 3)))
    (pss_one (ps_set (i := 5) scLtape.nd rfl (Or.inl rfl) (pe_op op_add (pe_op op_mul (pv 5) (pv 3)) (pv 4))))))
    (pss_one (ps_ret (pe_lst (pa_cons (pv 5) pa_nil))))))))))), ?_⟩
  have b1 : ∀ x : Int, 0 ≤ x → x < 2305843009213693951 → -(2 ^ 64) < x ∧ x < 2 ^ 64 := fun x h1 h2 => by
    have e : (2 : Int) ^ 64 = 18446744073709551616 := by decide
    rw [e]
    omega
  refine ⟨_, rfl, _, rfl, a, ns, k, rfl, hS, h0, fun z => ?_⟩
  refine ⟨_, rfl, rfl, _, rfl, ?_⟩
  refine ite2 (fun c => ?_) (fun c => ?_)
  · exact ⟨sz (by show 1 ≤ 100000; decide), fun p hp => q p 0 hp⟩
  refine ⟨_, rfl, _, _, rfl, rfl, ⟨by decide, by decide, by decide⟩, _, _, rfl, rfl, _, rfl, ?_⟩
  refine ite2 (fun c => ?_) (fun c => ?_)
  · exact ⟨_, rfl, _, _, rfl, rfl, ⟨by decide, by decide, by decide⟩, _, _, rfl, rfl, sz (by show 1 ≤ 100000; decide), fun p hp => q p _ hp⟩
  refine ⟨_, rfl, _, _, rfl, rfl, .inr ⟨by decide, by decide⟩, _, rfl, _, _, rfl, rfl, .inl ⟨by decide, by decide⟩, _, _, rfl, rfl, _, _, rfl, rfl, _, rfl, _, _, rfl, rfl, (by show (0 : Int) < 2305843009213693951; decide), ?_⟩
  refine ⟨_, rfl, ?_⟩
  refine ⟨20, rfl, by decide, by decide, for_range (lo := 0) (n := 20) (fun i σ H' => ∃ one found o, σ = [some (.ref a), some (.int k), some (.int z), some (.int 2305843009213693951), some (.int one), some (.int found), o] ∧ H' = H ∧ 0 ≤ one ∧ one < 2305843009213693951) ?_ ?_ ?_⟩
  · exact ⟨_, _, _, rfl, rfl, Int.emod_nonneg _ (by decide), Int.emod_lt_of_pos _ (by decide)⟩
  · rintro i σ H' hi ⟨one, found, o, rfl, rfl, g0, g1⟩
    refine ⟨_, rfl, _, rfl, _, _, rfl, rfl, .inl (b1 one g0 g1), _, rfl, _, _, rfl, rfl, .inl ⟨by decide, by decide⟩, _, _, rfl, rfl, _, rfl, _, _, rfl, rfl, _, _, rfl, rfl, _, rfl, _, _, rfl, rfl, (by show (0 : Int) < 2305843009213693951; decide), ?_⟩
    refine ⟨_, rfl, _, rfl, _, _, rfl, rfl, .inr ⟨by decide, by decide⟩, _, rfl, _, _, rfl, rfl, ?_⟩
    exact ⟨_, _, _, rfl, rfl, Int.emod_nonneg _ (by decide), Int.emod_lt_of_pos _ (by decide)⟩
  · rintro σ H' ⟨one, found, o, rfl, rfl, g0, g1⟩
    exact ⟨_, rfl, sz (by show 1 ≤ 100000; decide), fun p hp => q p _ hp⟩
/-! ### _law_digit -/
def spDig : Sp := fun vs H Q _ => ∃ (tp : Addr) (many : Int), vs = [.ref tp, .int many] ∧ Tp H tp ∧ 0 < many ∧ many ≤ 100000000000000000000000000000000000000000000000000000000000 ∧ ∀ r H', 0 ≤ r → r < many → But1 tp H H' → Tp H' tp → Q (.int r) H'
theorem log_many {m : Int} (h0 : 0 < m) (h1 : m ≤ 100000000000000000000000000000000000000000000000000000000000) : m.natAbs.log2 < 9000 := by
  refine PySem.Flt.log2_lt_of (by decide) (Nat.lt_of_le_of_lt (m := 100000000000000000000000000000000000000000000000000000000000) (by omega) ?_)
  exact Nat.lt_of_lt_of_le (m := 2 ^ 200) (by decide) (Nat.pow_le_pow_right (by decide) (by decide))
abbrev s_law_digit : Stmt := top 39
theorem scLdigit : FnScope ["tape", "many", "found"] ["tape", "many"] (defScope s_law_digit) := ⟨rfl, rfl, rfl, by decide +kernel, rfl, by decide +kernel, by decide +kernel⟩
theorem ok_dig {f : Addr} {fd : FuncData} (F : Fun K "_law_digit" "_law_digit" s_law_digit f fd) : FnOk P w K mg base CX0 1 f fd ["tape", "many"] spDig := by
  refine F.ok scLdigit (fun vs H Q E h => ?_) (fun cdv A outer s H vs Q E hr h => ?_)
  · obtain ⟨tp, many, rfl, _⟩ := h
    rfl
  obtain ⟨tp, many, rfl, ⟨z, hz⟩, h0, h1, q⟩ := h
  refine ⟨_, (pss_cons (ps_set (i := 2) scLdigit.nd rfl (Or.inl rfl) (pe_op op_mod (pe_ix ix_list (pv 0) pe_int (fun _ _ => rfl)) (pv 1)))
    (pss_cons (ps_asg (pe_op op_fdivW (pe_ix ix_list (pv 0) pe_int (fun _ _ => rfl)) (pv 1)) (pg_sub (pv 0) pe_int set_list))
    (pss_one (ps_ret (pv 2))))), ?_⟩
  refine ⟨_, rfl, tp, _, _, _, rfl, rfl, SqL.of hz, at0, _, rfl, _, _, rfl, rfl, h0, ?_⟩
  refine ⟨_, rfl, tp, _, _, _, rfl, rfl, SqL.of hz, at0, _, rfl, _, _, rfl, rfl, ⟨h0, log_many h0 h1⟩, ?_⟩
  refine ⟨_, rfl, tp, _, _, 0, rfl, rfl, hz, rfl, ?_⟩
  refine ⟨_, rfl, q _ _ (Int.emod_nonneg _ (by omega)) (Int.emod_lt_of_pos _ h0) (fun b o n h => ?_) ⟨_, upd_same⟩⟩
  rw [upd_ne n]
  exact h
/-! ### _law_number -/
def spNum : Sp := fun vs H Q _ => ∃ (tp : Addr), vs = [.ref tp] ∧ Tp H tp ∧ ∀ r H', But1 tp H H' → Tp H' tp → 0 ≤ r → r < 1000 → Q (.int r) H'
abbrev s_law_number : Stmt := top 41
theorem scLnumber : FnScope ["tape", "way"] ["tape"] (defScope s_law_number) := ⟨rfl, rfl, rfl, by decide +kernel, rfl, by decide +kernel, by decide +kernel⟩
theorem at_some {xs : List V} {i : Int} (h0 : 0 ≤ i) (h1 : i < (xs.length : Int)) : ∃ v, atI xs i = some v ∧ v ∈ xs := by
  have h : i.toNat < xs.length := by omega
  exact ⟨xs[i.toNat], at_of (j := i.toNat) (by omega) (List.getElem?_eq_getElem h), List.getElem_mem h⟩
theorem ok_num {f g : Addr} {fd gd : FuncData} (F : Fun K "_law_number" "_law_number" s_law_number f fd) (G_law_digit : FnOk P w K mg base CX0 1 g gd ["tape", "many"] spDig) (R_law_digit : Ref K mg "_law_digit" g gd ["tape", "many"]) : FnOk P w K mg base CX0 2 f fd ["tape"] spNum := by
  refine F.ok scLnumber (fun vs H Q E h => ?_) (fun cdv A outer s H vs Q E hr h => ?_)
  · obtain ⟨tp, rfl, _⟩ := h
    rfl
  obtain ⟨tp, rfl, ht, q⟩ := h
  refine ⟨_, (pss_cons (ps_set (i := 1) scLnumber.nd rfl (Or.inl rfl) (pe_call G_law_digit hr rfl R_law_digit.m R_law_digit.k R_law_digit.b .nil pass0 (pa_cons (pv 0) (pa_cons pe_int pa_nil))))
    (pss_cons (ps_if (pt_cmpR op_eq (pv 1) pe_int (nomark _)) (pss_one (ps_ret (pe_call G_law_digit hr rfl R_law_digit.m R_law_digit.k R_law_digit.b .nil pass0 (pa_cons (pv 0) (pa_cons pe_int pa_nil))))) pss_nil)
    (pss_one (ps_ret (pe_ix ix_list (pe_lst (pa_cons pe_int (pa_cons pe_int (pa_cons pe_int (pa_cons pe_int (pa_cons pe_int pa_nil)))))) (pv 1) (fun _ _ => rfl)))))), ?_⟩
  refine ⟨_, rfl, tp, 6, rfl, ht, by decide, by decide, fun r H1 r0 r1 k1 t1 => ?_⟩
  refine ⟨_, rfl, rfl, _, rfl, ?_⟩
  refine ite2 (fun c => ?_) (fun c => ?_)
  · exact ⟨_, rfl, tp, 1000, rfl, t1, by decide, by decide, fun r2 H2 z0 z1 k2 t2 => q r2 H2 (k1.trans k2) t2 z0 z1⟩
  · have c' : r ≠ 5 := fun z => c (decide_eq_true (congrArg V.int z))
    refine ⟨sz (by show 5 ≤ 100000; decide), fun p hp => ?_⟩
    have np : tp ≠ p := by
      obtain ⟨z, hz⟩ := t1
      exact ne_of_none hz hp
    obtain ⟨v, hv, hm⟩ := at_some (xs := [V.int 0, .int 1, .int 1, .int 2, .int 3]) (i := r) r0 (by show r < 5; omega)
    have hi : ∃ n : Int, v = V.int n ∧ 0 ≤ n ∧ n < 1000 := by
      simp only [List.mem_cons, List.not_mem_nil, or_false] at hm
      rcases hm with z | z | z | z | z <;> exact ⟨_, z, by decide, by decide⟩
    obtain ⟨n, rfl, z0, z1⟩ := hi
    refine ⟨_, rfl, p, _, _, _, rfl, rfl, SqL.of upd_same, hv, ?_⟩
    refine q n _ (k1.trans (but_same (same_new hp _))) ?_ z0 z1
    obtain ⟨z, hz⟩ := t1
    exact ⟨z, same_new hp _ _ _ hz⟩
end
end KB

namespace KB
open PySem L2

/-! ### good terms -/
def okH : Hd → Prop
  | .nam x | .lett x | .ask x => isW x = true
  | .num z => 0 ≤ z ∧ z < 1000
  | _ => True
def okT : Tm → Prop
  | .mk h _ k => okH h ∧ ∀ i, okT (k i)
def HtLe : Nat → Tm → Prop
  | 0, _ => False
  | n + 1, .mk _ _ k => ∀ i, HtLe n (k i)
theorem HtLe.up : ∀ {n : Nat} {t : Tm}, HtLe n t → HtLe (n + 1) t
  | 0, _, h => h.elim
  | n + 1, .mk _ _ _, h => fun i => HtLe.up (n := n) (h i)
theorem HtLe.le {n m : Nat} {t : Tm} (h : HtLe n t) (e : n ≤ m) : HtLe m t := by
  induction e with
  | refl => exact h
  | step _ ih => exact ih.up
/-- each name within its word's reach, each ask with as many terms as hd says -/
def okN (hd : Str → Option Nat) : Hd → Nat → List Str → Prop
  | .nam x, _, xs => x ∈ xs
  | .ask f, n, _ => hd f = some n
  | _, _, _ => True
def inn : Hd → Nat → List Str → List Str
  | .lett x, 1, xs => xs ++ [x]
  | _, _, xs => xs
def okS (hd : Str → Option Nat) : Tm → List Str → Prop
  | .mk h n k, xs => okN hd h n xs ∧ ∀ i, okS hd (k i) (inn h i.val xs)
def mkL (h : Hd) (ts : List Tm) : Tm := .mk h ts.length fun i => ts.get i
theorem ofFn_get (ts : List Tm) : List.ofFn (fun i => ts.get i) = ts := by
  refine List.ext_getElem (by simp) fun i h1 h2 => ?_
  simp
theorem cnt_mkL {h : Hd} {ts : List Tm} : cnt (mkL h ts) = 1 + cnts ts := by
  unfold mkL
  rw [cnt_mk, ofFn_get]
theorem ok_mkL {h : Hd} {ts : List Tm} (a : okH h) (b : ∀ t ∈ ts, okT t) : okT (mkL h ts) := ⟨a, fun i => b _ (List.get_mem ts i)⟩
theorem ht_mkL {n : Nat} {h : Hd} {ts : List Tm} (b : ∀ t ∈ ts, HtLe n t) : HtLe (n + 1) (mkL h ts) := fun i => b _ (List.get_mem ts i)
theorem sc_mkL {hd : Str → Option Nat} {h : Hd} {ts : List Tm} {xs : List Str} (a : okN hd h ts.length xs) (b : ∀ i t, ts[i]? = some t → okS hd t (inn h i xs)) : okS hd (mkL h ts) xs :=
  ⟨a, fun i => b i.val _ (by rw [List.getElem?_eq_getElem i.isLt]; rfl)⟩
theorem lt_mkL {h : Hd} {ts : List Tm} : letsOf (mkL h ts) = hdLets h ++ letsL ts := by
  unfold mkL
  rw [lets_mk, ofFn_get]
theorem letsL_app (a b : List Tm) : letsL (a ++ b) = letsL a ++ letsL b := by
  unfold letsL
  rw [List.map_append, List.flatten_append]
theorem letsL_cons (t : Tm) (r : List Tm) : letsL (t :: r) = letsOf t ++ letsL r := by
  unfold letsL
  rw [List.map_cons, List.flatten_cons]
theorem stk_fn {H : Hp} : ∀ {vs : List V} {ts : List Tm}, Stk H vs ts → ∃ ys : _root_.Fin ts.length → Addr, Rfs ys = vs ∧ ∀ i, At H (ts.get i) (ys i)
  | [], [], _ => ⟨fun i => i.elim0, rfl, fun i => i.elim0⟩
  | v :: vs, t :: ts, h => by
    obtain ⟨⟨b, e, hb⟩, hr⟩ := h
    subst e
    obtain ⟨ys, e1, e2⟩ := stk_fn hr
    refine ⟨fun i => match i with | ⟨0, _⟩ => b | ⟨j + 1, hj⟩ => ys ⟨j, Nat.lt_of_succ_lt_succ hj⟩, ?_, ?_⟩
    · unfold Rfs
      show List.ofFn (n := ts.length + 1) _ = _
      rw [List.ofFn_succ, ← e1]
      rfl
    · rintro ⟨j, hj⟩
      cases j with
      | zero => exact hb
      | succ j => exact e2 ⟨j, Nat.lt_of_succ_lt_succ hj⟩
  | [], _ :: _, h => h.elim
  | _ :: _, [], h => h.elim
theorem at_mkL {H : Hp} {a : Addr} {h : Hd} {vs : List V} {ts : List Tm} (l : Lay H a h vs) (s : Stk H vs ts) : At H (mkL h ts) a := by
  obtain ⟨ys, e1, e2⟩ := stk_fn s
  refine ⟨ys, ?_, e2⟩
  rw [e1]
  exact l
/-- a new good term at a, of at most n terms, within at most d -/
structure Gd (H : Hp) (a : Addr) (n d : Nat) (hd : Str → Option Nat) (xs ls : List Str) (t : Tm) : Prop where
  at_ : At H t a
  ok : okT t
  cn : cnt t ≤ n
  dp : HtLe d t
  sc : okS hd t xs
  lt : letsOf t = ls
theorem Gd.tk {H H' : Hp} {a : Addr} {n d : Nat} {hd : Str → Option Nat} {xs ls : List Str} {t : Tm} (e : TK H H') (g : Gd H a n d hd xs ls t) : Gd H' a n d hd xs ls t := ⟨g.at_.tk e, g.ok, g.cn, g.dp, g.sc, g.lt⟩
theorem Gd.le {H : Hp} {a : Addr} {n d m e : Nat} {hd : Str → Option Nat} {xs ls : List Str} {t : Tm} (g : Gd H a n d hd xs ls t) (h1 : n ≤ m) (h2 : d ≤ e) : Gd H a m e hd xs ls t := ⟨g.at_, g.ok, Nat.le_trans g.cn h1, g.dp.le h2, g.sc, g.lt⟩
theorem gd_num {H : Hp} {a : Addr} {z : Int} {hd : Str → Option Nat} {xs : List Str} (l : Lay H a (.num z) []) (o : 0 ≤ z ∧ z < 1000) : Gd H a 1 1 hd xs [] (mkL (.num z) []) :=
  ⟨at_mkL l trivial, ok_mkL o (fun _ z => nomatch z), (by rw [cnt_mkL]; exact Nat.le_refl 1), ht_mkL (n := 0) (fun _ z => nomatch z), sc_mkL trivial (fun _ _ z => by simp at z), lt_mkL⟩
theorem gd_nam {H : Hp} {a : Addr} {x : Str} {hd : Str → Option Nat} {xs : List Str} (l : Lay H a (.nam x) []) (o : isW x = true) (m : x ∈ xs) : Gd H a 1 1 hd xs [] (mkL (.nam x) []) :=
  ⟨at_mkL l trivial, ok_mkL o (fun _ z => nomatch z), (by rw [cnt_mkL]; exact Nat.le_refl 1), ht_mkL (n := 0) (fun _ z => nomatch z), sc_mkL m (fun _ _ z => by simp at z), lt_mkL⟩

section
variable {P : Program} {w : World} {K : PySem.W.Frag} {mg : Str → Option Value} {base : Heap}
/-! ### _law_leaf -/
def spLeaf : Sp := fun vs H Q _ => ∃ (tp : Addr) (kv : V) (ar : Addr) (xs : List Str), vs = [.ref tp, kv, .ref ar] ∧ Tp H tp ∧ Wls H ar xs ∧ xs.length ≤ 1000 ∧ ∀ a t H', But1 tp H H' → Tp H' tp → (∀ hd, Gd H' a 1 1 hd xs [] t) → Q (.ref a) H'
abbrev s_law_leaf : Stmt := top 42
theorem scLleaf : FnScope ["tape", "known", "around"] ["tape", "known", "around"] (defScope s_law_leaf) := ⟨rfl, rfl, rfl, by decide +kernel, rfl, by decide +kernel, by decide +kernel⟩
theorem Tp.same {H H' : Hp} {tp : Addr} (e : Same H H') (t : Tp H tp) : Tp H' tp := let ⟨z, h⟩ := t; ⟨z, e _ _ h⟩
theorem ok_leaf (T : Txt K mg) {f g h : Addr} {fd gd hd : FuncData} (F : Fun K "_law_leaf" "_law_leaf" s_law_leaf f fd) (G_law_digit : FnOk P w K mg base CX0 1 g gd ["tape", "many"] spDig) (R_law_digit : Ref K mg "_law_digit" g gd ["tape", "many"])
    (G_law_number : FnOk P w K mg base CX0 2 h hd ["tape"] spNum) (R_law_number : Ref K mg "_law_number" h hd ["tape"]) : FnOk P w K mg base CX0 3 f fd ["tape", "known", "around"] spLeaf := by
  refine F.ok scLleaf (fun vs H Q E h => ?_) (fun cdv A outer s H vs Q E hr h => ?_)
  · obtain ⟨tp, kv, ar, xs, rfl, _⟩ := h
    rfl
  obtain ⟨tp, kv, ar, xs, rfl, ht, hw, hl, q⟩ := h
  refine ⟨_, (pss_cons (ps_if (PW.pt (pw_and (pt_cmpR (op_neD hr.units) (pv 2) (pe_lst pa_nil) (nomark _)) (pw_and1 (pt_cmpR op_gt (pe_call G_law_digit (hr.mono (by omega)) rfl R_law_digit.m R_law_digit.k R_law_digit.b .nil pass0 (pa_cons (pv 0) (pa_cons pe_int pa_nil))) pe_int (nomark _))))) (pss_one (ps_ret (pe_tup (pa_cons pe_str (pa_cons (pe_ix ix_list (pv 2) (pe_call G_law_digit (hr.mono (by omega)) rfl R_law_digit.m R_law_digit.k R_law_digit.b .nil pass0 (pa_cons (pv 0) (pa_cons (pe_callB call_len_seq (by rfl) T.m_len PySem.boot_len (pa_cons (pv 2) pa_nil)) pa_nil))) (fun _ _ => rfl)) pa_nil))))) pss_nil)
    (pss_one (ps_ret (pe_tup (pa_cons pe_str (pa_cons (pe_call G_law_number hr rfl R_law_number.m R_law_number.k R_law_number.b .nil pass0 (pa_cons (pv 0) pa_nil)) pa_nil)))))), ?_⟩
  have numW : ∀ H1, But1 tp H H1 → Tp H1 tp → (tRet (tTup (tCons (tC (.str "number")) (tCons (tCall spNum [] E0 (tCons (tVar 0) tNil)) tNil)))) { nx := fun x H' => Q V.non H', rt := Q } [some (.ref tp), some kv, some (.ref ar)] H1 := by
    intro H1 k1 t1
    refine ⟨_, rfl, tp, rfl, t1, fun r H2 k2 t2 r0 r1 => ⟨sz (by show 2 ≤ 100000; decide), fun p hp => ?_⟩⟩
    have s := same_new hp (.tup [.str "number", .int r])
    exact q p (mkL (.num r) []) _ ((k1.trans k2).trans (but_same s)) (t2.same s) (fun _ => gd_num ⟨rfl, upd_same⟩ ⟨r0, r1⟩)
  refine ⟨_, rfl, sz (by show 0 ≤ 100000; decide), fun p0 hp0 => ?_⟩
  have s0 := same_new hp0 (.lst [])
  refine ⟨.list (xs.map PyData.str), .list [], .lst (SqL.of (s0 _ _ hw.1)) (dp_strs xs), .lst (SqL.of upd_same) .nil, shaped_strs hw.2, rfl, _, rfl, ?_⟩
  rw [eqv_nil]
  cases xs with
  | nil => exact iteF (numW _ (but_same s0) (ht.same s0))
  | cons x0 xr =>
    refine iteT ⟨_, rfl, tp, 3, rfl, ht.same s0, by decide, by decide, fun r H1 r0 r1 k1 t1 => ?_⟩
    have k01 := (but_same s0).trans k1
    refine ⟨_, _, rfl, rfl, _, rfl, ?_⟩
    refine ite2 (fun c => ?_) (fun c => ?_)
    · have w1 := hw.but k01 ht
      refine ⟨_, rfl, _, rfl, _, rfl, ar, _, rfl, .inl (SqL.of w1.1), tp, _, rfl, t1, ?_, ?_, fun r2 H2 r3 r4 k2 t2 => ?_⟩
      · show (0 : Int) < (((x0 :: xr).map V.str).length : Nat)
        rw [List.length_map, List.length_cons]
        omega
      · rw [List.length_map]
        omega
      have w2 := w1.but k2 t1
      obtain ⟨v, hv, hm⟩ := at_some r3 r4
      obtain ⟨z, hz, rfl⟩ := List.mem_map.mp hm
      refine ⟨ar, _, _, _, rfl, rfl, SqL.of w2.1, hv, sz (by show 2 ≤ 100000; decide), fun p hp => ?_⟩
      have s := same_new hp (.tup [.str "name", .str z])
      exact q p (mkL (.nam z) []) _ ((k01.trans k2).trans (but_same s)) (t2.same s) (fun _ => gd_nam ⟨rfl, upd_same⟩ (hw.2 z hz) hz)
    · exact numW _ k01 t1
/-! ### _law_shares -/
def spShr : Sp := fun vs H Q _ => ∃ (tp : Addr) (room many : Int), vs = [.ref tp, .int room, .int many] ∧ Tp H tp ∧ 0 ≤ many ∧ many ≤ room ∧ room ≤ 1000 ∧
  ∀ (p : Addr) (xs : List Int) (H' : Hp), But1 tp H H' → Tp H' tp → H p = none → H' p = some (.lst (xs.map V.int)) → (xs.length : Int) = many → (∀ x ∈ xs, (1 : Int) ≤ x) → xs.sum ≤ room → Q (.ref p) H'
abbrev s_law_shares : Stmt := top 43
theorem scLshares : FnScope ["tape", "room", "many", "found", "left", "k", "more"] ["tape", "room", "many"] (defScope s_law_shares) := ⟨rfl, rfl, rfl, by decide +kernel, rfl, by decide +kernel, by decide +kernel⟩
theorem rep1 (n : Nat) : (List.replicate n [V.int 1]).flatten = (List.replicate n (1 : Int)).map V.int := by
  induction n with
  | zero => rfl
  | succ n ih =>
    rw [List.replicate_succ, List.flatten_cons, ih, List.replicate_succ]
    rfl
theorem sum1 (n : Nat) : (List.replicate n (1 : Int)).sum = n := by
  induction n with
  | zero => rfl
  | succ n ih =>
    rw [List.replicate_succ, List.sum_cons, ih]
    omega
theorem ok_shares (T : Txt K mg) {f g : Addr} {fd gd : FuncData} (F : Fun K "_law_shares" "_law_shares" s_law_shares f fd) (G_law_digit : FnOk P w K mg base CX0 1 g gd ["tape", "many"] spDig) (R_law_digit : Ref K mg "_law_digit" g gd ["tape", "many"]) : FnOk P w K mg base CX0 2 f fd ["tape", "room", "many"] spShr := by
  refine F.ok scLshares (fun vs H Q E h => ?_) (fun cdv A outer s H vs Q E hr h => ?_)
  · obtain ⟨tp, room, many, rfl, _⟩ := h
    rfl
  obtain ⟨tp, room, many, rfl, ht, h0, h1, h2, q⟩ := h
  refine ⟨_, (pss_cons (ps_set (i := 3) scLshares.nd rfl (Or.inl rfl) (pe_op op_rep (pe_lst (pa_cons pe_int pa_nil)) (pv 2)))
    (pss_cons (ps_set (i := 4) scLshares.nd rfl (Or.inl rfl) (pe_op op_sub (pv 1) (pv 2)))
    (pss_cons (ps_for PassesOwn.never rfl (pi_range1 rfl T.m_range (pa_cons (pv 2) pa_nil)) (pg_name (i := 5) scLshares.nd rfl (Or.inl rfl)) (pss_cons (ps_set (i := 6) scLshares.nd rfl (Or.inl rfl) (pe_call G_law_digit hr rfl R_law_digit.m R_law_digit.k R_law_digit.b .nil pass0 (pa_cons (pv 0) (pa_cons (pe_op op_add (pv 4) pe_int) pa_nil))))
    (pss_cons (ps_asg (pe_op op_add (pe_ix ix_list (pv 3) (pv 5) (fun _ _ => rfl)) (pv 6)) (pg_sub (pv 3) (pv 5) set_list))
    (pss_one (ps_set (i := 4) scLshares.nd rfl (Or.inl rfl) (pe_op op_sub (pv 4) (pv 6)))))))
    (pss_one (ps_ret (pv 3)))))), ?_⟩
  refine ⟨sz (by show 1 ≤ 100000; decide), fun p1 hp1 => ?_⟩
  have s1 := same_new hp1 (.lst [.int 1])
  refine ⟨_, rfl, p1, _, _, rfl, rfl, upd_same, by omega, by omega, sz (by show 1 * many.toNat ≤ 100000; omega), fun fl hfl => ?_⟩
  have s2 := same_new hfl (.lst (List.replicate many.toNat [V.int 1]).flatten)
  have s12 := s1.trans s2
  have hfl0 : H fl = none := s1.free hfl
  have f1 : upd (upd H p1 (.lst [.int 1])) fl (.lst (List.replicate many.toNat [V.int 1]).flatten) fl = some (.lst ((List.replicate many.toNat (1 : Int)).map V.int)) := by
    rw [upd_same, rep1]
  refine ⟨_, rfl, _, rfl, _, _, rfl, rfl, ?_⟩
  refine ⟨_, rfl, many, rfl, by omega, by omega, ?_⟩
  have ntp : fl ≠ tp := by
    obtain ⟨z, hz⟩ := ht
    exact (ne_of_none hz hfl0).symm
  refine for_range (lo := 0) (n := many.toNat) (fun i σ H' => ∃ left o5 o6 xs, σ = [some (.ref tp), some (.int room), some (.int many), some (.ref fl), some (.int left), o5, o6] ∧ But1 tp H H' ∧ Tp H' tp ∧ H' fl = some (.lst ((xs : List Int).map V.int)) ∧
    (xs.length : Int) = many ∧ (∀ x ∈ xs, (1 : Int) ≤ x) ∧ xs.sum + left = room ∧ 0 ≤ left) ?_ ?_ ?_
  · refine ⟨_, _, _, List.replicate many.toNat 1, rfl, but_same s12, ht.same s12, f1, ?_, ?_, ?_, by omega⟩
    · rw [List.length_replicate]
      omega
    · intro x hx
      rw [(List.mem_replicate.mp hx).2]
      decide
    · rw [sum1]
      omega
  · rintro i σ H1 hi ⟨left, o5, o6, xs, rfl, k1, t1, g1, g2, g3, g4, g5⟩
    refine ⟨_, rfl, _, rfl, _, _, rfl, rfl, tp, _, rfl, t1, by omega, ?_, fun r H2 r0 r1 k2 t2 => ?_⟩
    · have : xs.sum ≥ 0 := by
        clear g1 g2 g4
        induction xs with
        | nil => decide
        | cons x r ih =>
          have e1 := g3 x List.mem_cons_self
          have e2 := ih fun y hy => g3 y (List.mem_cons_of_mem _ hy)
          rw [List.sum_cons]
          omega
      omega
    have g6 := k2 _ _ ntp g1
    have hi2 : i < xs.length := by omega
    have hx : xs[i]? = some xs[i] := List.getElem?_eq_getElem hi2
    have e0 : (0 : Int) + (i : Nat) = ((i : Nat) : Int) := by omega
    refine ⟨_, rfl, _, rfl, fl, _, _, .int xs[i], rfl, rfl, SqL.of g6, ?_, _, rfl, _, _, rfl, rfl, ?_⟩
    · rw [e0]
      exact atI_nat (by rw [List.getElem?_map, hx]; rfl)
    refine ⟨_, rfl, _, rfl, fl, _, _, i, rfl, rfl, g6, ?_, ?_⟩
    · rw [e0, List.length_map]
      unfold ixN
      rw [if_pos (by omega), if_pos (by omega)]
      rfl
    refine ⟨_, rfl, _, rfl, _, _, rfl, rfl, ?_⟩
    refine ⟨_, _, _, xs.set i (xs[i] + r), rfl, fun b o n h => ?_, ?_, ?_, ?_, ?_, ?_, by omega⟩
    · by_cases e : b = fl
      · subst e
        rw [hfl0] at h
        cases h
      · rw [upd_ne e]
        exact k2 _ _ n (k1 _ _ n h)
    · obtain ⟨z, hz⟩ := t2
      exact ⟨z, by rw [upd_ne (Ne.symm ntp)]; exact hz⟩
    · rw [upd_same, List.map_set]
    · rw [List.length_set]
      exact g2
    · intro x hx'
      rcases List.mem_or_eq_of_mem_set hx' with z | z
      · exact g3 x z
      · have := g3 _ (List.getElem_mem hi2)
        omega
    · rw [sum_set hx]
      omega
  · rintro σ H1 ⟨left, o5, o6, xs, rfl, k1, t1, g1, g2, g3, g4, g5⟩
    exact ⟨_, rfl, q fl xs H1 k1 t1 hfl0 g1 g2 g3 (by omega)⟩
/-! ### _law_less_one -/
theorem simple_mkL {h : Hd} {ts : List Tm} (a : flatHd h = true) (b : ∀ t ∈ ts, simple t = true) : simple (mkL h ts) = true := by
  unfold mkL simple
  rw [a, Bool.true_and, List.all_eq_true]
  intro x hx
  obtain ⟨i, rfl⟩ := List.mem_ofFn.mp hx
  exact b _ (List.get_mem ts i)
def spLess : Sp := fun vs H Q _ => ∃ (ar : Addr) (xs : List Str), vs = [.ref ar] ∧ Wls H ar xs ∧ ∀ a t H', Same H H' → (∀ hd, Gd H' a 3 2 hd xs [] t) → simple t = true → Q (.ref a) H'
abbrev s_law_less_one : Stmt := top 44
theorem scLless_one : FnScope ["around"] ["around"] (defScope s_law_less_one) := ⟨rfl, rfl, rfl, by decide +kernel, rfl, by decide +kernel, by decide +kernel⟩
theorem ok_less {f : Addr} {fd : FuncData} (F : Fun K "_law_less_one" "_law_less_one" s_law_less_one f fd) : FnOk P w K mg base CX0 1 f fd ["around"] spLess := by
  refine F.ok scLless_one (fun vs H Q E h => ?_) (fun cdv A outer s H vs Q E hr h => ?_)
  · obtain ⟨ar, xs, rfl, _⟩ := h
    rfl
  obtain ⟨ar, xs, rfl, hw, q⟩ := h
  refine ⟨_, (pss_cons (ps_if (pt_cmpR (op_eqD hr.units) (pv 0) (pe_lst pa_nil) (nomark _)) (pss_one (ps_ret (pe_tup (pa_cons pe_str (pa_cons pe_int pa_nil))))) pss_nil)
    (pss_one (ps_ret (pe_tup (pa_cons pe_str (pa_cons (pe_tup (pa_cons pe_str (pa_cons (pe_ix ix_list (pv 0) pe_int (fun _ _ => rfl)) pa_nil))) (pa_cons (pe_tup (pa_cons pe_str (pa_cons pe_int pa_nil))) pa_nil))))))), ?_⟩
  refine ⟨_, rfl, sz (by show 0 ≤ 100000; decide), fun p0 hp0 => ?_⟩
  have s0 := same_new hp0 (.lst [])
  refine ⟨.list (xs.map PyData.str), .list [], .lst (SqL.of (s0 _ _ hw.1)) (dp_strs xs), .lst (SqL.of upd_same) .nil, shaped_strs hw.2, rfl, _, rfl, ?_⟩
  rw [eqv_nil]
  cases xs with
  | nil =>
    refine iteT ⟨sz (by show 2 ≤ 100000; decide), fun p hp => ?_⟩
    exact q p (mkL (.num 0) []) _ (s0.trans (same_new hp _)) (fun _ => (gd_num ⟨rfl, upd_same⟩ (by decide)).le (by decide) (by decide)) (simple_mkL rfl (fun _ z => nomatch z))
  | cons x0 xr =>
    refine iteF ⟨_, rfl, ar, _, _, _, rfl, rfl, SqL.of (s0 _ _ hw.1), at0, sz (by show 2 ≤ 100000; decide), fun p1 hp1 => ?_⟩
    have s1 := same_new hp1 (.tup [.str "name", .str x0])
    refine ⟨sz (by show 2 ≤ 100000; decide), fun p2 hp2 => ?_⟩
    have s2 := same_new hp2 (.tup [.str "number", .int 1])
    refine ⟨sz (by show 3 ≤ 100000; decide), fun p3 hp3 => ?_⟩
    have s3 := same_new hp3 (.tup [.str "less", .ref p1, .ref p2])
    have s23 := s2.trans s3
    have l1 : Lay _ p1 (.nam x0) [] := ⟨rfl, s23 _ _ upd_same⟩
    have l2 : Lay _ p2 (.num 1) [] := ⟨rfl, s3 _ _ upd_same⟩
    refine q p3 (mkL .less [mkL (.nam x0) [], mkL (.num 1) []]) _ (s0.trans (s1.trans s23)) (fun hd => ?_) (simple_mkL rfl fun t ht => by
      simp only [List.mem_cons, List.not_mem_nil, or_false] at ht
      rcases ht with z | z <;> subst z <;> exact simple_mkL rfl (fun _ z => nomatch z))
    have g1 := gd_nam (hd := hd) (xs := x0 :: xr) l1 (hw.2 x0 List.mem_cons_self) List.mem_cons_self
    have g2 := gd_num (hd := hd) (xs := x0 :: xr) l2 (by decide)
    refine ⟨?_, ?_, ?_, ?_, ?_, ?_⟩
    · exact at_mkL (vs := [.ref p1, .ref p2]) ⟨rfl, upd_same⟩ ⟨⟨p1, rfl, g1.at_⟩, ⟨p2, rfl, g2.at_⟩, trivial⟩
    · refine ok_mkL trivial fun t ht => ?_
      simp only [List.mem_cons, List.not_mem_nil, or_false] at ht
      rcases ht with z | z
      · subst z
        exact g1.ok
      · subst z
        exact g2.ok
    · have c1 := g1.cn
      have c2 := g2.cn
      rw [cnt_mkL, cnts_cons, cnts_cons]
      show 1 + (_ + (_ + 0)) ≤ 3
      omega
    · refine ht_mkL fun t ht => ?_
      simp only [List.mem_cons, List.not_mem_nil, or_false] at ht
      rcases ht with z | z
      · subst z
        exact g1.dp
      · subst z
        exact g2.dp
    · refine sc_mkL trivial fun i t hi => ?_
      match i, hi with
      | 0, hi =>
        cases (Option.some.inj hi)
        exact g1.sc
      | 1, hi =>
        cases (Option.some.inj hi)
        exact g2.sc
      | i + 2, hi => simp at hi
    · rw [lt_mkL, letsL_cons, letsL_cons, g1.lt, g2.lt]
      rfl
end
end KB

namespace KB
open PySem L2

/-! ### what a generator of terms has at hand -/
def But2 (tp wl : Addr) (H H' : Hp) : Prop := ∀ b o, b ≠ tp → b ≠ wl → H b = some o → H' b = some o
theorem But2.refl (tp wl : Addr) (H : Hp) : But2 tp wl H H := fun _ _ _ _ h => h
theorem But2.trans {tp wl : Addr} {H H1 H2 : Hp} (a : But2 tp wl H H1) (b : But2 tp wl H1 H2) : But2 tp wl H H2 := fun x o n m h => b x o n m (a x o n m h)
theorem But1.two {tp wl : Addr} {H H' : Hp} (a : But1 tp H H') : But2 tp wl H H' := fun x o n _ h => a x o n h
theorem but2_same {tp wl : Addr} {H H' : Hp} (e : Same H H') : But2 tp wl H H' := fun b o _ _ h => e b o h
def kwE : Key := Sum.inr "errands"
def kwH : Key := Sum.inr "heads"
def kwW : Key := Sum.inr "words"
def knD (el hd wl : Addr) : List (Key × V) := [(Sum.inr "errands", .ref el), (Sum.inr "heads", .ref hd), (Sum.inr "words", .ref wl)]
structure GS (H : Hp) (tp kd wl : Addr) (hF : Str → Option Nat) (ws : List Str) : Prop where
  t : Tp H tp
  w : Wls H wl ws
  wn : ws.length ≤ 100
  k : ∃ el hd fs kvs, H kd = some (.dK (knD el hd wl)) ∧ el ≠ wl ∧ Wls H el fs ∧ 0 < fs.length ∧ fs.length ≤ 100 ∧ H hd = some (.dK kvs) ∧ ∀ f ∈ fs, ∃ n : Int, valV kvs (Sum.inr f) = some (.int n) ∧ 0 ≤ n ∧ n ≤ 4 ∧ hF f = some n.toNat
theorem GS.ntk {H : Hp} {tp kd wl : Addr} {hF : Str → Option Nat} {ws : List Str} (g : GS H tp kd wl hF ws) {a : Addr} {o : HO} (h : H a = some o) (hn : ∀ xs, o ≠ .lst xs) : a ≠ tp ∧ a ≠ wl := by
  obtain ⟨z, hz⟩ := g.t
  exact ⟨ne_of h hz (hn _), ne_of h g.w.1 (hn _)⟩
theorem GS.tk {H H' : Hp} {tp kd wl : Addr} {hF : Str → Option Nat} {ws : List Str} (g : GS H tp kd wl hF ws) (b : But2 tp wl H H') : TK H H' := fun a _ h => by
  obtain ⟨n1, n2⟩ := g.ntk h (fun _ z => nomatch z)
  exact b a _ n1 n2 h
theorem GS.step {H H' : Hp} {tp kd wl : Addr} {hF : Str → Option Nat} {ws ws' : List Str} (g : GS H tp kd wl hF ws) (b : But2 tp wl H H') (t : Tp H' tp) (w : Wls H' wl ws') (wn : ws'.length ≤ 100) : GS H' tp kd wl hF ws' := by
  obtain ⟨el, hd, fs, kvs, k1, k2, k3, k4, k5, k6, k7⟩ := g.k
  refine ⟨t, w, wn, el, hd, fs, kvs, ?_, k2, ⟨b _ _ (wls_tp k3.1 g.t) k2 k3.1, k3.2⟩, k4, k5, ?_, k7⟩
  · obtain ⟨n1, n2⟩ := g.ntk k1 (fun _ z => nomatch z)
    exact b _ _ n1 n2 k1
  · obtain ⟨n1, n2⟩ := g.ntk k6 (fun _ z => nomatch z)
    exact b _ _ n1 n2 k6
theorem GS.one {H H' : Hp} {tp kd wl : Addr} {hF : Str → Option Nat} {ws : List Str} (g : GS H tp kd wl hF ws) (b : But1 tp H H') (t : Tp H' tp) : GS H' tp kd wl hF ws :=
  g.step b.two t (g.w.but b g.t) g.wn
theorem GS.same {H H' : Hp} {tp kd wl : Addr} {hF : Str → Option Nat} {ws : List Str} (g : GS H tp kd wl hF ws) (e : Same H H') : GS H' tp kd wl hF ws := g.one (but_same e) (g.t.same e)
theorem Wls.two {tp kd wl a : Addr} {H H' : Hp} {xs : List Str} {hF : Str → Option Nat} {ws : List Str} (e : But2 tp wl H H') (g : GS H tp kd wl hF ws) (n : a ≠ wl) (h : Wls H a xs) : Wls H' a xs := ⟨e _ _ (wls_tp h.1 g.t) n h.1, h.2⟩
/-- an object that was new stays -/
theorem GS.new {tp kd wl : Addr} {H : Hp} {hF : Str → Option Nat} {ws : List Str} (g : GS H tp kd wl hF ws) {p : Addr} (h : H p = none) : p ≠ tp ∧ p ≠ wl := by
  obtain ⟨z, hz⟩ := g.t
  exact ⟨(ne_of_none hz h).symm, (ne_of_none g.w.1 h).symm⟩
theorem But2.put {tp wl : Addr} {H H' : Hp} {p : Addr} {o : HO} (e : But2 tp wl H H') (h : H p = none) : But2 tp wl H (upd H' p o) := fun a u n m ha => by
  rw [upd_ne (ne_of_none ha h)]
  exact e _ _ n m ha
theorem GS.put {tp kd wl : Addr} {H : Hp} {hF : Str → Option Nat} {ws : List Str} (g : GS H tp kd wl hF ws) {p : Addr} {o o' : HO} (h : H p = some o) (n1 : p ≠ tp) (n2 : p ≠ wl) (n3 : p ≠ kd) (n4 : ∀ kvs, o ≠ .dK kvs) (n5 : ∀ x : Str, ∀ xs, o ≠ .lst (.str x :: xs)) : GS (upd H p o') tp kd wl hF ws := by
  obtain ⟨el, hd, fs, kvs, k1, k2, k3, k4, k5, k6, k7⟩ := g.k
  obtain ⟨z, hz⟩ := g.t
  refine ⟨⟨z, by rw [upd_ne n1.symm]; exact hz⟩, ⟨by rw [upd_ne n2.symm]; exact g.w.1, g.w.2⟩, g.wn, el, hd, fs, kvs, by rw [upd_ne n3.symm]; exact k1, k2, ⟨?_, k3.2⟩, k4, k5, ?_, k7⟩
  · have ne : el ≠ p := by
      rintro rfl
      rw [k3.1] at h
      cases fs with
      | nil => exact absurd k4 (Nat.lt_irrefl 0)
      | cons x r => exact n5 x _ (Option.some.inj h).symm
    rw [upd_ne ne]
    exact k3.1
  · have ne : hd ≠ p := by
      rintro rfl
      rw [k6] at h
      exact n4 _ (Option.some.inj h).symm
    rw [upd_ne ne]
    exact k6
theorem get_errands {H : Hp} {kd el hd wl : Addr} (h : H kd = some (.dK (knD el hd wl))) : DGet H kd (.str "errands") (some (.ref el)) := DGet.k (k := kwE) h
theorem get_heads {H : Hp} {kd el hd wl : Addr} (h : H kd = some (.dK (knD el hd wl))) : DGet H kd (.str "heads") (some (.ref hd)) := DGet.k (k := kwH) h
theorem get_words {H : Hp} {kd el hd wl : Addr} (h : H kd = some (.dK (knD el hd wl))) : DGet H kd (.str "words") (some (.ref wl)) := DGet.k (k := kwW) h
theorem get_of {H : Hp} {hd : Addr} {kvs : List (Key × V)} {f : Str} {v : V} (h : H hd = some (.dK kvs)) (e : valV kvs (Sum.inr f) = some v) : DGet H hd (.str f) (some v) := by
  have := DGet.k (k := Sum.inr f) h
  rw [e] at this
  exact this
theorem small64 {x : Int} (h0 : 0 ≤ x) (h1 : x < 1000000) : -(2 ^ 64) < x ∧ x < 2 ^ 64 := by
  have e : (2 : Int) ^ 64 = 18446744073709551616 := by decide
  rw [e]
  omega

theorem conv_v {Q : V → Hp → Prop} {x y : V} {H : Hp} (e : x = y) (h : Q y H) : Q x H := e ▸ h
theorem ite_share {c : Prop} [Decidable c] {A B P : Prop} (hB : P → B) (hP : ¬ c → P) (hA : c → (P → B) → A) : if c then A else B := by
  by_cases h : c
  · rw [if_pos h]
    exact hA h hB
  · rw [if_neg h]
    exact hB (hP h)

section
variable {P : Program} {w : World} {K : PySem.W.Frag} {mg : Str → Option Value} {base : Heap}
def spTerm (n : Nat) : Sp := fun vs H Q _ => ∃ (tp kd wl ar : Addr) (hF : Str → Option Nat) (ws xs : List Str) (room deep : Int), vs = [.ref tp, .ref kd, .ref ar, .int room, .int deep] ∧ GS H tp kd wl hF ws ∧ Wls H ar xs ∧ ar ≠ wl ∧ (xs.length : Int) + deep ≤ 500 ∧
  1 ≤ room ∧ room ≤ 900 ∧ 0 ≤ deep ∧ deep.toNat < n ∧ ∀ a t ls H' ws', But2 tp wl H H' → ws = ws' ++ List.reverse ls → GS H' tp kd wl hF ws' → Gd H' a room.toNat (deep.toNat + 2) hF xs ls t → Q (.ref a) H'
def spAsk (n : Nat) : Sp := fun vs H Q _ => ∃ (tp kd wl ar : Addr) (hF : Str → Option Nat) (ws xs : List Str) (room deep : Int), vs = [.ref tp, .ref kd, .ref ar, .int room, .int deep] ∧ GS H tp kd wl hF ws ∧ Wls H ar xs ∧ ar ≠ wl ∧ (xs.length : Int) + deep ≤ 500 ∧
  2 ≤ room ∧ room ≤ 900 ∧ 1 ≤ deep ∧ deep.toNat ≤ n ∧ ∀ a t ls H' ws', But2 tp wl H H' → ws = ws' ++ List.reverse ls → GS H' tp kd wl hF ws' → Gd H' a room.toNat (deep.toNat + 2) hF xs ls t → Q (.ref a) H'
abbrev s_law_ask : Stmt := top 45
theorem scLask : FnScope ["tape", "known", "around", "room", "deep", "f", "many", "some", "first", "shares", "k"] ["tape", "known", "around", "room", "deep"] (defScope s_law_ask) := ⟨rfl, rfl, rfl, by decide +kernel, rfl, by decide +kernel, by decide +kernel⟩
theorem le_sum {l : List Int} {x : Int} (h : ∀ y ∈ l, (1 : Int) ≤ y) (hx : x ∈ l) : x ≤ l.sum := by
  induction l with
  | nil => cases hx
  | cons a r ih =>
    have e : (0 : Int) ≤ r.sum := by
      clear ih hx
      induction r with
      | nil => decide
      | cons b s ih2 =>
        have e1 := h b (List.mem_cons_of_mem _ List.mem_cons_self)
        have e2 := ih2 fun y hy => by
          rcases List.mem_cons.mp hy with z | z
          · exact h y (List.mem_cons.mpr (.inl z))
          · exact h y (List.mem_cons_of_mem _ (List.mem_cons_of_mem _ z))
        rw [List.sum_cons]
        omega
    have ha := h a List.mem_cons_self
    rw [List.sum_cons]
    rcases List.mem_cons.mp hx with z | z
    · omega
    · have := ih (fun y hy => h y (List.mem_cons_of_mem _ hy)) z
      omega
/-- within the loop over an ask's terms, i of them made -/
def AskI (H : Hp) (tp kd wl ar sl sh : Addr) (hF : Str → Option Nat) (ws xs : List Str) (ss : List Int) (fn : Str) (room deep many fi : Int) (i : Nat) (σ : St) (H' : Hp) : Prop :=
  ∃ o10 vs ts wsi, σ = [some (.ref tp), some (.ref kd), some (.ref ar), some (.int room), some (.int deep), some (.str fn), some (.int many), some (.ref sl), some (.int fi), some (.ref sh), o10] ∧
  But2 tp wl H H' ∧ GS H' tp kd wl hF wsi ∧ ws = wsi ++ (letsL ts).reverse ∧ Wls H' ar xs ∧ H' sh = some (.lst (ss.map V.int)) ∧ H' sl = some (.lst vs) ∧ Stk H' vs ts ∧ ts.length = i ∧ (∀ t ∈ ts, okT t ∧ HtLe (deep.toNat + 1) t ∧ okS hF t xs) ∧ (cnts ts : Int) ≤ (ss.take i).sum + (if fi > 0 then 2 else 0)
theorem ok_ask (T : Txt K mg) {n : Nat} {f fg fh fs_ fl_ ft : Addr} {fd gd hd sd ld td : FuncData} (F : Fun K "_law_ask" "_law_ask" s_law_ask f fd) (G_law_digit : FnOk P w K mg base CX0 1 fg gd ["tape", "many"] spDig) (R_law_digit : Ref K mg "_law_digit" fg gd ["tape", "many"])
    (G_law_leaf : FnOk P w K mg base CX0 3 fh hd ["tape", "known", "around"] spLeaf) (R_law_leaf : Ref K mg "_law_leaf" fh hd ["tape", "known", "around"]) (G_law_shares : FnOk P w K mg base CX0 2 fs_ sd ["tape", "room", "many"] spShr) (R_law_shares : Ref K mg "_law_shares" fs_ sd ["tape", "room", "many"])
    (G_law_less_one : FnOk P w K mg base CX0 1 fl_ ld ["around"] spLess) (R_law_less_one : Ref K mg "_law_less_one" fl_ ld ["around"])
    (G_law_term : FnOk P w K mg base CX0 (2 * n + 4) ft td ["tape", "known", "around", "room", "deep"] (spTerm n)) (R_law_term : Ref K mg "_law_term" ft td ["tape", "known", "around", "room", "deep"]) : FnOk P w K mg base CX0 (2 * n + 5) f fd ["tape", "known", "around", "room", "deep"] (spAsk n) := by
  refine F.ok scLask (fun vs H Q E h => ?_) (fun cdv A outer s H vs Q E hr h => ?_)
  · obtain ⟨tp, kd, wl, ar, hF, ws, xs, room, deep, rfl, _⟩ := h
    rfl
  obtain ⟨tp, kd, wl, ar, hF, ws, xs, room, deep, rfl, hg, hw, naw, hx, hr1, hr2, hd1, hd2, q⟩ := h
  refine ⟨_, (pss_cons (ps_set (i := 5) scLask.nd rfl (Or.inl rfl) (pe_ix ix_list (pe_dget (hu_of hr) (pv 1) pe_str (fun _ _ => rfl)) (pe_call G_law_digit (hr.mono (by omega)) rfl R_law_digit.m R_law_digit.k R_law_digit.b .nil pass0 (pa_cons (pv 0) (pa_cons (pe_callB call_len_seq (by rfl) T.m_len PySem.boot_len (pa_cons (pe_dget (hu_of hr) (pv 1) pe_str (fun _ _ => rfl)) pa_nil)) pa_nil))) (fun _ _ => rfl)))
    (pss_cons (ps_set (i := 6) scLask.nd rfl (Or.inl rfl) (pe_dget (hu_of hr) (pe_dget (hu_of hr) (pv 1) pe_str (fun _ _ => rfl)) (pv 5) (fun _ _ => rfl)))
    (pss_cons (ps_if (PW.pt (pw_and (pt_cmpR op_gt (pe_op op_add (pv 6) pe_int) (pv 3) (nomark _)) (pw_and1 (pt_cmpR op_gt (pv 6) pe_int (nomark _))))) (pss_one (ps_ret (pe_call G_law_leaf (hr.mono (by omega)) rfl R_law_leaf.m R_law_leaf.k R_law_leaf.b .nil pass0 (pa_cons (pv 0) (pa_cons (pv 1) (pa_cons (pv 2) pa_nil)))))) pss_nil)
    (pss_cons (ps_set (i := 7) scLask.nd rfl (Or.inl rfl) (pe_lst pa_nil))
    (pss_cons (ps_set (i := 8) scLask.nd rfl (Or.inl rfl) (pe_op op_mul (pe_call G_law_digit (hr.mono (by omega)) rfl R_law_digit.m R_law_digit.k R_law_digit.b .nil pass0 (pa_cons (pv 0) (pa_cons pe_int pa_nil))) (pe_callTy call_int1 (by rfl) T.m_int (by decide +kernel) (pa_cons (pe_cmpR op_gt (pv 6) pe_int (nomark _)) pa_nil))))
    (pss_cons (ps_set (i := 9) scLask.nd rfl (Or.inl rfl) (pe_call G_law_shares (hr.mono (by omega)) rfl R_law_shares.m R_law_shares.k R_law_shares.b .nil pass0 (pa_cons (pv 0) (pa_cons (pe_callB (call_max2 rfl) (by rfl) T.m_max (by decide +kernel) (pa_cons (pv 6) (pa_cons (pe_op op_sub (pv 3) (pe_ix ix_list (pe_lst (pa_cons pe_int (pa_cons pe_int pa_nil))) (pe_callTy call_int1 (by rfl) T.m_int (by decide +kernel) (pa_cons (pe_cmpR op_gt (pv 8) pe_int (nomark _)) pa_nil)) (fun _ _ => rfl))) pa_nil))) (pa_cons (pv 6) pa_nil)))))
    (pss_cons (ps_for PassesOwn.never rfl (pi_range1 rfl T.m_range (pa_cons (pv 6) pa_nil)) (pg_name (i := 10) scLask.nd rfl (Or.inl rfl)) (pss_one (ps_if (PW.pt (pw_and (pt_cmpR op_eq (pv 10) pe_int (nomark _)) (pw_and1 (pt_cmpR op_gt (pv 8) pe_int (nomark _))))) (pss_one (ps_expr (pe_bm PySem.F.plainAttrs_list PySem.F.slot_list_append PySem.F.type_list_append mt_append (pv 7) (pa_cons (pe_call G_law_less_one (hr.mono (by omega)) rfl R_law_less_one.m R_law_less_one.k R_law_less_one.b .nil pass0 (pa_cons (pv 2) pa_nil)) pa_nil)))) (pss_one (ps_expr (pe_bm PySem.F.plainAttrs_list PySem.F.slot_list_append PySem.F.type_list_append mt_append (pv 7) (pa_cons (pe_call G_law_term hr rfl R_law_term.m R_law_term.k R_law_term.b .nil pass0 (pa_cons (pv 0) (pa_cons (pv 1) (pa_cons (pv 2) (pa_cons (pe_ix ix_list (pv 9) (pv 10) (fun _ _ => rfl)) (pa_cons (pe_op op_sub (pv 4) pe_int) pa_nil)))))) pa_nil)))))))
    (pss_one (ps_ret (pe_tup (pa_cons pe_str (pa_cons (pv 5) (pa_cons (pe_callTy call_tuple_of (by rfl) T.m_tuple (by decide +kernel) (pa_cons (pv 7) pa_nil)) pa_nil))))))))))))), ?_⟩
  obtain ⟨el, hd', fs, kvs, k1, k2, k3, k4, k5, k6, k7⟩ := hg.k
  refine ⟨_, rfl, kd, _, rfl, get_errands k1, _, rfl, _, rfl, kd, _, rfl, get_errands k1, el, _, rfl, .inl (SqL.of k3.1), tp, _, rfl, hg.t, ?_, ?_, fun r H1 r0 r1 b1 t1 => ?_⟩
  · rw [List.length_map]
    omega
  · rw [List.length_map]
    omega
  have g1 := hg.one b1 t1
  have k3' := k3.but b1 hg.t
  have k1' : H1 kd = some (.dK (knD el hd' wl)) := by
    obtain ⟨n1, _⟩ := hg.ntk k1 (fun _ z => nomatch z)
    exact b1 _ _ n1 k1
  have k6' : H1 hd' = some (.dK kvs) := by
    obtain ⟨n1, _⟩ := hg.ntk k6 (fun _ z => nomatch z)
    exact b1 _ _ n1 k6
  obtain ⟨v, hv, hm⟩ := at_some r0 r1
  obtain ⟨fn, hfn, rfl⟩ := List.mem_map.mp hm
  obtain ⟨many, hmany, m0, m4, mF⟩ := k7 fn hfn
  refine ⟨el, _, _, _, rfl, rfl, SqL.of k3'.1, hv, ?_⟩
  refine ⟨_, rfl, kd, _, rfl, get_heads k1', _, rfl, hd', _, rfl, get_of k6' hmany, ?_⟩
  have hw1 := hw.but b1 hg.t
  have leafW : ∀ H2, But2 tp wl H H2 → GS H2 tp kd wl hF ws → Wls H2 ar xs → ∀ s7 s8 s9 s10 : Option V, (tRet (tCall spLeaf [] E0 (tCons (tVar 0) (tCons (tVar 1) (tCons (tVar 2) tNil))))) { nx := fun x H' => Q V.non H', rt := Q }
      [some (.ref tp), some (.ref kd), some (.ref ar), some (.int room), some (.int deep), some (.str fn), some (.int many), s7, s8, s9, s10] H2 := by
    intro H2 b2 g2 w2 s7 s8 s9 s10
    refine ⟨_, rfl, _, rfl, _, rfl, tp, .ref kd, ar, xs, rfl, g2.t, w2, by omega, fun a t H3 b3 t3 gd => ?_⟩
    exact q a t [] H3 ws (b2.trans b3.two) (List.append_nil ws).symm (g2.one b3 t3) ((gd hF).le (by omega) (by omega))
  refine ⟨_, rfl, _, _, rfl, rfl, _, rfl, _, _, rfl, rfl, _, rfl, ?_⟩
  refine ite_share (P := many > 0 → many + 3 ≤ room) (fun hp => ?_) (fun c z => ?_) (fun c kB => ?_)
  rotate_left
  · have c' : ¬ room < many + 3 := fun y => c (decide_eq_true y)
    omega
  · refine ⟨_, rfl, _, _, rfl, rfl, _, rfl, ?_⟩
    refine ite2 (fun c2 => ?_) (fun c2 => ?_)
    · exact leafW H1 b1.two g1 hw1 _ _ _ _
    · exact kB fun z => absurd (decide_eq_true z) c2
  -- some = []
  refine ⟨sz (by show 0 ≤ 100000; decide), fun sl hsl => ?_⟩
  have s1 := same_new hsl (.lst [])
  have hsl0 : H sl = none := by
    cases e : H sl with
    | none => rfl
    | some o =>
      obtain ⟨n1, n2⟩ := g1.new hsl
      rw [b1 _ _ n1 e] at hsl
      cases hsl
  -- first
  refine ⟨_, rfl, tp, 4, rfl, g1.t.same s1, by decide, by decide, fun r2 H2 r3 r4 b2 t2 => ?_⟩
  have g1s := g1.same s1
  have g2 := g1s.one b2 t2
  obtain ⟨nst, nsw⟩ := g1.new hsl
  have h2 : H2 sl = some (.lst []) := b2 _ _ nst upd_same
  have B2 : But2 tp wl H H2 := b1.two.trans ((but2_same s1).trans b2.two)
  have w2 := (hw1.but (but_same s1) g1.t).but b2 g1s.t
  refine ⟨_, rfl, _, _, rfl, rfl, .inr ⟨_, rfl, _, _, rfl, rfl, .inl (small64 r3 (by omega)), ?_⟩⟩
  have hfirst : ∃ fi : Int, r2 * (if decide (many > 0) = true then 1 else 0) = fi ∧ 0 ≤ fi ∧ fi < 4 ∧ (fi > 0 → many > 0) := by
    by_cases c : many > 0
    · refine ⟨r2, ?_, r3, r4, fun _ => c⟩
      rw [if_pos (decide_eq_true c)]
      omega
    · refine ⟨0, ?_, by decide, by decide, fun z => by omega⟩
      rw [if_neg (by rw [decide_eq_false c]; exact Bool.false_ne_true)]
      omega
  obtain ⟨fi, efi, fi0, fi4, fim⟩ := hfirst
  simp only [efi]
  -- shares
  refine ⟨_, rfl, _, rfl, _, rfl, sz (by show 2 ≤ 100000; decide), fun p2 hp2 => ?_⟩
  have s3 := same_new hp2 (.lst [.int 1, .int 3])
  have hix : ∃ d : Int, atI [V.int 1, .int 3] (if decide (fi > 0) = true then 1 else 0) = some (.int d) ∧ ((fi > 0 ∧ d = 3) ∨ (¬ fi > 0 ∧ d = 1)) := by
    by_cases c : fi > 0
    · exact ⟨3, by rw [if_pos (decide_eq_true c)]; exact at1, .inl ⟨c, rfl⟩⟩
    · exact ⟨1, by rw [if_neg (by rw [decide_eq_false c]; exact Bool.false_ne_true)]; exact at0, .inr ⟨c, rfl⟩⟩
  obtain ⟨d, hd0, hd9⟩ := hix
  refine ⟨_, rfl, _, _, rfl, rfl, .inr ⟨_, rfl, p2, _, _, _, rfl, rfl, SqL.of upd_same, hd0, _, _, rfl, rfl, ?_⟩⟩
  have hmx : ∃ mx : Int, (if room - d > many then room - d else many) = mx ∧ many ≤ mx ∧ mx ≤ 900 ∧ (fi > 0 → mx = room - 3) ∧ (¬ fi > 0 → mx ≤ room - 1 ∨ (many = 0 ∧ mx ≤ room)) := by
    refine ⟨_, rfl, ?_⟩
    split <;> omega
  obtain ⟨mx, emx, mx0, mx1, mx2, mx3⟩ := hmx
  refine ⟨_, _, rfl, ?_⟩
  simp only [emx]
  refine ⟨_, rfl, tp, mx, many, rfl, g2.t.same s3, m0, mx0, by omega, fun sh ss H4 b4 t4 hsh h4 hsl4 hs1 hsum => ?_⟩
  have g3 := g2.same s3
  have g4 := g3.one b4 t4
  have B4 : But2 tp wl H H4 := B2.trans ((but2_same s3).trans b4.two)
  have w4 := (w2.but (but_same s3) g2.t).but b4 g3.t
  have h4s : H4 sl = some (.lst []) := b4 _ _ nst (s3 _ _ h2)
  have nsh : sh ≠ sl := (ne_of_none (s3 _ _ h2) hsh).symm
  obtain ⟨nht, nhw⟩ := g3.new hsh
  have nskd : sl ≠ kd := (ne_of_none k1 hsl0).symm
  have nsar : ar ≠ sl := ne_of_none hw.1 hsl0
  have hsh0 : sh ≠ sl := nsh
  refine ⟨_, rfl, many, rfl, by omega, by omega, ?_⟩
  refine for_range (lo := 0) (n := many.toNat) (AskI H tp kd wl ar sl sh hF ws xs ss fn room deep many fi) ?_ ?_ ?_
  · refine ⟨_, [], [], ws, rfl, B4, g4, (List.append_nil ws).symm, w4, h4, h4s, trivial, rfl, (fun _ z => nomatch z), ?_⟩
    show (0 : Int) ≤ 0 + _
    split <;> omega
  · rintro i σ H5 hi ⟨o10, vs, ts, wsi, rfl, B5, g5, hws5, w5, h5, h5s, k5s, hlen, hts, hcn⟩
    have hil : i < ss.length := by omega
    have hss : ss[i]? = some ss[i] := List.getElem?_eq_getElem hil
    have hs1i := hs1 _ (List.getElem_mem hil)
    have hsi := le_sum hs1 (List.getElem_mem hil)
    have htake := sum_take hss
    have hvl := k5s.len
    have e0 : (0 : Int) + (i : Nat) = ((i : Nat) : Int) := by omega
    have put : ∀ (a : Addr) (t : Tm) (H6 : Hp) (ws6 : List Str), But2 tp wl H5 H6 → GS H6 tp kd wl hF ws6 → wsi = ws6 ++ (letsOf t).reverse → okS hF t xs → At H6 t a → okT t → HtLe (deep.toNat + 1) t → (cnts (ts ++ [t]) : Int) ≤ (ss.take (i + 1)).sum + (if fi > 0 then 2 else 0) →
        ∃ l zs y, V.ref sl = .ref l ∧ [V.ref a] = [y] ∧ H6 l = some (.lst zs) ∧ zs.length < sizeLine ∧ AskI H tp kd wl ar sl sh hF ws xs ss fn room deep many fi (i + 1) [some (.ref tp), some (.ref kd), some (.ref ar), some (.int room), some (.int deep), some (.str fn), some (.int many), some (.ref sl), some (.int fi), some (.ref sh), some (.int (0 + (i : Nat)))] (upd H6 l (.lst (zs ++ [y]))) := by
      intro a t H6 ws6 b6 g6 hws6 sc6 at6 ok6 ht6 cn6
      have h6s : H6 sl = some (.lst vs) := b6 _ _ nst nsw h5s
      have tk6 := g5.tk b6
      refine ⟨sl, vs, .ref a, rfl, rfl, h6s, Nat.lt_of_le_of_lt (m := 1000) (by omega) (by decide), _, vs ++ [.ref a], ts ++ [t], ws6, rfl, ?_, ?_, ?_, ?_, ?_, upd_same, ?_, ?_, ?_, cn6⟩
      · exact (B5.trans b6).put hsl0
      · refine g6.put h6s nst nsw nskd (fun _ z => nomatch z) fun x zs z => ?_
        have e := HO.lst.inj z
        cases ts with
        | nil =>
          cases vs with
          | nil => cases e
          | cons _ _ => exact k5s.elim
        | cons t0 tr =>
          cases vs with
          | nil => cases e
          | cons v0 vr =>
            obtain ⟨⟨b0, e0', _⟩, _⟩ := k5s
            rw [e0'] at e
            cases (List.cons.inj e).1
      · rw [hws5, hws6, letsL_app, List.reverse_append, List.append_assoc]
        show _ = ws6 ++ ((letsOf t ++ []).reverse ++ _)
        rw [List.append_nil]
      · have w6 := w5.two b6 g5 naw
        exact ⟨by rw [upd_ne nsar]; exact w6.1, w6.2⟩
      · rw [upd_ne nsh]
        exact b6 _ _ nht nhw h5
      · exact ((k5s.tk tk6).app (us := [.ref a]) (ss := [t]) ⟨⟨a, rfl, at6⟩, trivial⟩).tk (tk_put h6s)
      · rw [List.length_append, hlen]
        rfl
      · intro u hu
        rcases List.mem_append.mp hu with z | z
        · exact hts u z
        · rw [List.mem_singleton.mp z]
          exact ⟨ok6, ht6, sc6⟩
    refine ⟨_, rfl, rfl, _, rfl, ?_⟩
    refine ite_share (P := ¬ (i = 0 ∧ fi > 0)) (fun hp2 => ?_) (fun c z => c (decide_eq_true (by rw [z.1]; rfl))) (fun c kB => ?_)
    · -- the term is drawn
      refine ⟨_, rfl, .inl ⟨rfl, _, SqL.of h5s⟩, _, rfl, _, rfl, _, rfl, _, rfl, _, rfl, sh, _, _, .int ss[i], rfl, rfl, SqL.of h5, ?_, _, rfl, _, _, rfl, rfl, ?_⟩
      · rw [e0]
        exact atI_nat (by rw [List.getElem?_map, hss]; rfl)
      refine ⟨tp, kd, wl, ar, hF, wsi, xs, ss[i], deep - 1, rfl, g5, w5, naw, by omega, hs1i, by omega, by omega, by omega, fun a t ls H6 ws6 b6 e6 g6 gd6 => ?_⟩
      refine put a t H6 ws6 b6 g6 (by rw [gd6.lt]; exact e6) gd6.sc gd6.at_ gd6.ok (gd6.dp.le (by omega)) ?_
      have c6 := gd6.cn
      rw [cnts_app, htake]
      show ((cnts ts + (cnt t + 0) : Nat) : Int) ≤ _
      omega
    · have c' : i = 0 := by
        have := V.int.inj (of_decide_eq_true c)
        omega
      refine ⟨_, rfl, _, _, rfl, rfl, _, rfl, ?_⟩
      refine ite2 (fun c2 => ?_) (fun c2 => ?_)
      · have c2' : fi > 0 := of_decide_eq_true c2
        refine ⟨_, rfl, .inl ⟨rfl, _, SqL.of h5s⟩, _, rfl, ar, xs, rfl, w5, fun a t H6 s6 gd6' _ => ?_⟩
        have gd6 := gd6' hF
        refine put a t H6 wsi (but2_same s6) (g5.same s6) (by rw [gd6.lt]; exact (List.append_nil wsi).symm) gd6.sc gd6.at_ gd6.ok (gd6.dp.le (by omega)) ?_
        have c6 := gd6.cn
        subst c'
        have hz : ts = [] := List.eq_nil_of_length_eq_zero hlen
        subst hz
        rw [htake, if_pos c2']
        show ((cnt t + 0 : Nat) : Int) ≤ 0 + _ + 2
        omega
      · exact kB fun z => c2 (decide_eq_true z.2)
  · rintro σ H5 ⟨o10, vs, ts, wsi, rfl, B5, g5, hws5, w5, h5, h5s, k5s, hlen, hts, hcn⟩
    refine ⟨_, rfl, _, rfl, sl, _, rfl, .inl ⟨SqL.of h5s, fun pp hpp => ⟨sz (by show 3 ≤ 100000; decide), fun pa hpa => ?_⟩⟩⟩
    have s6 := same_new hpp (.tup vs)
    have s7 := same_new hpa (.tup [.str "ask", .str fn, .ref pp])
    have s67 := s6.trans s7
    have hvl := k5s.len
    refine q pa (mkL (.ask fn) ts) (letsL ts) _ wsi (B5.trans (but2_same s67)) hws5 (g5.same s67) ⟨?_, ?_, ?_, ?_, ?_, lt_mkL⟩
    · exact at_mkL (vs := vs) ⟨by omega, pp, upd_same, s7 _ _ upd_same⟩ (k5s.mono s67)
    · exact ok_mkL (k3.2 fn hfn) fun t ht => (hts t ht).1
    · rw [cnt_mkL]
      have e1 : ss.take many.toNat = ss := List.take_of_length_le (by omega)
      rw [e1] at hcn
      by_cases c : fi > 0
      · rw [if_pos c] at hcn
        have := mx2 c
        omega
      · rw [if_neg c] at hcn
        rcases mx3 c with z | ⟨z1, z2⟩
        · omega
        · have hz : ts = [] := List.eq_nil_of_length_eq_zero (by omega)
          rw [hz]
          show 1 + 0 ≤ _
          omega
    · exact ht_mkL fun t ht => (hts t ht).2.1
    · refine sc_mkL ?_ fun i t hi => (hts t (mem_of_get hi)).2.2
      show hF fn = some ts.length
      rw [mF, hlen]
end
end KB

namespace KB
open PySem L2

theorem stk_ok_app {d : Nat} {hF : Str → Option Nat} {xs : List Str} {ts : List Tm} {t : Tm} (h : ∀ u ∈ ts, okT u ∧ HtLe d u ∧ okS hF u xs) (o : okT t) (k : HtLe d t) (c : okS hF t xs) : ∀ u ∈ ts ++ [t], okT u ∧ HtLe d u ∧ okS hF u xs := fun u hu => by
  rcases List.mem_append.mp hu with z | z
  · exact h u z
  · rw [List.mem_singleton.mp z]
    exact ⟨o, k, c⟩
theorem sum2 {xs : List Int} (h : xs.length = 2) : ∃ a b, xs = [a, b] := by
  match xs, h with
  | [a, b], _ => exact ⟨a, b, rfl⟩
theorem eqv_nilW (ws : List Str) : (!PyData.eqv (.list (ws.map PyData.str)) (.list [])) = !ws.isEmpty := by rw [eqv_nil]

section
variable {P : Program} {w : World} {K : PySem.W.Frag} {mg : Str → Option Value} {base : Heap}
abbrev s_law_term : Stmt := top 46
theorem scLterm : FnScope ["tape", "known", "around", "room", "deep", "words", "word", "x", "shares", "first", "some", "share"] ["tape", "known", "around", "room", "deep"] (defScope s_law_term) := ⟨rfl, rfl, rfl, by decide +kernel, rfl, by decide +kernel, by decide +kernel⟩
def wds10 : List V := [.str "plus", .str "less", .str "tell", .str "let", .str "if", .str "ask", .str "ask", .str "ask", .str "plus", .str "let"]
theorem ok_term (T : Txt K mg) {n : Nat} {f fg fh fs_ fa : Addr} {fd gd hd sd ad : FuncData} (F : Fun K "_law_term" "_law_term" s_law_term f fd) (G_law_digit : FnOk P w K mg base CX0 1 fg gd ["tape", "many"] spDig) (R_law_digit : Ref K mg "_law_digit" fg gd ["tape", "many"])
    (G_law_leaf : FnOk P w K mg base CX0 3 fh hd ["tape", "known", "around"] spLeaf) (R_law_leaf : Ref K mg "_law_leaf" fh hd ["tape", "known", "around"]) (G_law_shares : FnOk P w K mg base CX0 2 fs_ sd ["tape", "room", "many"] spShr) (R_law_shares : Ref K mg "_law_shares" fs_ sd ["tape", "room", "many"])
    (G_law_ask : FnOk P w K mg base CX0 (2 * n + 5) fa ad ["tape", "known", "around", "room", "deep"] (spAsk n)) (R_law_ask : Ref K mg "_law_ask" fa ad ["tape", "known", "around", "room", "deep"])
    (G_law_term : FnOk P w K mg base CX0 (2 * n + 4) f fd ["tape", "known", "around", "room", "deep"] (spTerm n)) (R_law_term : Ref K mg "_law_term" f fd ["tape", "known", "around", "room", "deep"]) : FnOk P w K mg base CX0 (2 * n + 6) f fd ["tape", "known", "around", "room", "deep"] (spTerm (n + 1)) := by
  refine F.ok scLterm (fun vs H Q E h => ?_) (fun cdv A outer s H vs Q E hr h => ?_)
  · obtain ⟨tp, kd, wl, ar, hF, ws, xs, room, deep, rfl, _⟩ := h
    rfl
  obtain ⟨tp, kd, wl, ar, hF, ws, xs, room, deep, rfl, hg, hw, naw, hx, hr1, hr2, hd1, hd2, q⟩ := h
  refine ⟨_, (pss_cons (ps_if (PW.pt (pw_or (pt_cmpR op_lt (pv 3) pe_int (nomark _)) (pw_or1 (pt_cmpR op_eq (pv 4) pe_int (nomark _))))) (pss_one (ps_ret (pe_call G_law_leaf (hr.mono (by omega)) rfl R_law_leaf.m R_law_leaf.k R_law_leaf.b .nil pass0 (pa_cons (pv 0) (pa_cons (pv 1) (pa_cons (pv 2) pa_nil)))))) pss_nil)
    (pss_cons (ps_set (i := 5) scLterm.nd rfl (Or.inl rfl) (pe_lst (pa_cons pe_str (pa_cons pe_str (pa_cons pe_str (pa_cons pe_str (pa_cons pe_str (pa_cons pe_str (pa_cons pe_str (pa_cons pe_str (pa_cons pe_str (pa_cons pe_str pa_nil))))))))))))
    (pss_cons (ps_set (i := 6) scLterm.nd rfl (Or.inl rfl) (pe_ix ix_list (pv 5) (pe_call G_law_digit (hr.mono (by omega)) rfl R_law_digit.m R_law_digit.k R_law_digit.b .nil pass0 (pa_cons (pv 0) (pa_cons pe_int pa_nil))) (fun _ _ => rfl)))
    (pss_cons (ps_if (pt_cmpR op_eq (pv 6) pe_str (nomark _)) (pss_one (ps_ret (pe_call G_law_ask hr rfl R_law_ask.m R_law_ask.k R_law_ask.b .nil pass0 (pa_cons (pv 0) (pa_cons (pv 1) (pa_cons (pv 2) (pa_cons (pv 3) (pa_cons (pv 4) pa_nil)))))))) pss_nil)
    (pss_cons (ps_if (PW.pt (pw_or (pt_cmpR op_eq (pv 6) pe_str (nomark _)) (pw_or1 (pt_cmpR op_lt (pv 3) pe_int (nomark _))))) (pss_one (ps_ret (pe_tup (pa_cons pe_str (pa_cons (pe_call G_law_term (hr.mono (by omega)) rfl R_law_term.m R_law_term.k R_law_term.b .nil pass0 (pa_cons (pv 0) (pa_cons (pv 1) (pa_cons (pv 2) (pa_cons (pe_op op_sub (pv 3) pe_int) (pa_cons (pe_op op_sub (pv 4) pe_int) pa_nil)))))) pa_nil))))) pss_nil)
    (Evl.pss_cut (ps_if (PW.pt (pw_and (pt_cmpR op_eq (pv 6) pe_str (nomark _)) (pw_and1 (pt_cmpR (op_neD hr.units) (pe_dget (hu_of hr) (pv 1) pe_str (fun _ _ => rfl)) (pe_lst pa_nil) (nomark _))))) (pss_cons (ps_set (i := 7) scLterm.nd rfl (Or.inl rfl) (pe_bm0 PySem.F.plainAttrs_list PySem.F.slot_list_pop PySem.F.type_list_pop mt_pop (pe_dget (hu_of hr) (pv 1) pe_str (fun _ _ => rfl))))
    (pss_cons (ps_set (i := 8) scLterm.nd rfl (Or.inl rfl) (pe_call G_law_shares (hr.mono (by omega)) rfl R_law_shares.m R_law_shares.k R_law_shares.b .nil pass0 (pa_cons (pv 0) (pa_cons (pe_op op_sub (pv 3) pe_int) (pa_cons pe_int pa_nil)))))
    (pss_cons (ps_set (i := 9) scLterm.nd rfl (Or.inl rfl) (pe_call G_law_term (hr.mono (by omega)) rfl R_law_term.m R_law_term.k R_law_term.b .nil pass0 (pa_cons (pv 0) (pa_cons (pv 1) (pa_cons (pv 2) (pa_cons (pe_ix ix_list (pv 8) pe_int (fun _ _ => rfl)) (pa_cons (pe_op op_sub (pv 4) pe_int) pa_nil)))))))
    (pss_one (ps_ret (pe_tup (pa_cons pe_str (pa_cons (pv 7) (pa_cons (pv 9) (pa_cons (pe_call G_law_term (hr.mono (by omega)) rfl R_law_term.m R_law_term.k R_law_term.b .nil pass0 (pa_cons (pv 0) (pa_cons (pv 1) (pa_cons (pe_op op_cat (pv 2) (pe_lst (pa_cons (pv 7) pa_nil))) (pa_cons (pe_ix ix_list (pv 8) pe_int (fun _ _ => rfl)) (pa_cons (pe_op op_sub (pv 4) pe_int) pa_nil)))))) pa_nil)))))))))) pss_nil)
    (pss_cons (ps_set (i := 8) scLterm.nd rfl (Or.inl rfl) (pe_call G_law_shares (hr.mono (by omega)) rfl R_law_shares.m R_law_shares.k R_law_shares.b .nil pass0 (pa_cons (pv 0) (pa_cons (pe_op op_sub (pv 3) pe_int) (pa_cons (pe_ix ix_list (pe_lst (pa_cons pe_int (pa_cons pe_int pa_nil))) (pe_callTy call_int1 (by rfl) T.m_int (by decide +kernel) (pa_cons (pe_cmpR op_eq (pv 6) pe_str (nomark _)) pa_nil)) (fun _ _ => rfl)) pa_nil)))))
    (pss_cons (ps_setLc (i := 10) (own := [("share", 11)]) (g := gName 11) (by rfl) scLterm.nd rfl rfl (sw_true rfl rfl rfl (by decide +kernel)) (pi_list (pv 8)) (blkOk_by (own := [("share", 11)]) (N := ["tape", "known", "around", "room", "deep", "words", "word", "x", "shares", "first", "some", "share"]) (sc := defScope s_law_term) (by decide +kernel)) (fun _ _ _ _ _ => (pg_name (i := 11) scLterm.nd rfl (Or.inl rfl))) (fun _ _ _ _ _ => pts_nil) (fun _ _ _ _ _ => (pe_call G_law_term (hr.mono (by omega)) rfl R_law_term.m R_law_term.k R_law_term.b .nil pass0 (pa_cons (pv 0) (pa_cons (pv 1) (pa_cons (pv 2) (pa_cons (pv 11) (pa_cons (pe_op op_sub (pv 4) pe_int) pa_nil))))))))
    (pss_one (ps_ret (pe_op op_catA (pe_tup (pa_cons (pe_ix ix_list (pe_lst (pa_cons (pv 6) (pa_cons pe_str pa_nil))) (pe_callTy call_int1 (by rfl) T.m_int (by decide +kernel) (pa_cons (pe_cmpR op_eq (pv 6) pe_str (nomark _)) pa_nil)) (fun _ _ => rfl)) pa_nil)) (pe_callTy call_tuple_of (by rfl) T.m_tuple (by decide +kernel) (pa_cons (pv 10) pa_nil))))))))))))), ?_⟩
  have leafW : ∀ s5 s6 s7 s8 s9 s10 s11 : Option V, (tRet (tCall spLeaf [] E0 (tCons (tVar 0) (tCons (tVar 1) (tCons (tVar 2) tNil))))) { nx := fun x H' => Q V.non H', rt := Q }
      [some (.ref tp), some (.ref kd), some (.ref ar), some (.int room), some (.int deep), s5, s6, s7, s8, s9, s10, s11] H := by
    intro s5 s6 s7 s8 s9 s10 s11
    refine ⟨_, rfl, _, rfl, _, rfl, tp, .ref kd, ar, xs, rfl, hg.t, hw, by omega, fun a t H3 b3 t3 gd => ?_⟩
    exact q a t [] H3 ws b3.two (List.append_nil ws).symm (hg.one b3 t3) ((gd hF).le (by omega) (by omega))
  refine ⟨_, rfl, _, _, rfl, rfl, _, rfl, ?_⟩
  refine ite2 (fun c1 => ?_) (fun c1 => ?_)
  · exact leafW _ _ _ _ _ _ _
  have hroom : 2 ≤ room := by
    have : ¬ room < 2 := fun z => c1 (decide_eq_true z)
    omega
  refine ⟨_, rfl, rfl, _, rfl, ?_⟩
  refine ite2 (fun c2 => ?_) (fun c2 => ?_)
  · exact leafW _ _ _ _ _ _ _
  have hdeep : 1 ≤ deep := by
    have : deep ≠ 0 := fun z => c2 (decide_eq_true (congrArg V.int z))
    omega
  clear leafW
  -- words, word
  refine ⟨sz (by show 10 ≤ 100000; decide), fun p0 hp0 => ?_⟩
  have s0 := same_new hp0 (.lst wds10)
  have g0 := hg.same s0
  have w0 := hw.but (but_same s0) hg.t
  obtain ⟨n0t, n0w⟩ := hg.new hp0
  refine ⟨_, rfl, _, rfl, tp, 10, rfl, g0.t, by decide, by decide, fun r H1 r0 r1 b1 t1 => ?_⟩
  have g1 := g0.one b1 t1
  have w1 := w0.but b1 g0.t
  have B1 : But2 tp wl H H1 := (but2_same s0).trans b1.two
  obtain ⟨v, hv, hm⟩ := at_some (xs := wds10) r0 (by show r < 10; exact r1)
  refine ⟨p0, _, _, v, rfl, rfl, SqL.of (b1 _ _ n0t upd_same), hv, ?_⟩
  -- the rest, for each word
  have hword : ∃ wd : Str, v = .str wd ∧ (wd = "ask" ∨ wd = "tell" ∨ wd = "let" ∨ wd = "if" ∨ wd = "plus" ∨ wd = "less") := by
    simp only [wds10, List.mem_cons, List.not_mem_nil, or_false] at hm
    rcases hm with z | z | z | z | z | z | z | z | z | z
    · exact ⟨_, z, .inr (.inr (.inr (.inr (.inl rfl))))⟩
    · exact ⟨_, z, .inr (.inr (.inr (.inr (.inr rfl))))⟩
    · exact ⟨_, z, .inr (.inl rfl)⟩
    · exact ⟨_, z, .inr (.inr (.inl rfl))⟩
    · exact ⟨_, z, .inr (.inr (.inr (.inl rfl)))⟩
    · exact ⟨_, z, .inl rfl⟩
    · exact ⟨_, z, .inl rfl⟩
    · exact ⟨_, z, .inl rfl⟩
    · exact ⟨_, z, .inr (.inr (.inr (.inr (.inl rfl))))⟩
    · exact ⟨_, z, .inr (.inr (.inl rfl))⟩
  obtain ⟨wd, rfl, hwd⟩ := hword
  refine ⟨_, rfl, rfl, _, rfl, ?_⟩
  refine ite2 (fun c3 => ?_) (fun c3 => ?_)
  · -- ask
    refine ⟨_, rfl, _, rfl, _, rfl, _, rfl, _, rfl, tp, kd, wl, ar, hF, ws, xs, room, deep, rfl, g1, w1, naw, hx, hroom, hr2, hdeep, by omega, fun a t ls H3 ws3 b3 e3 g3 gd => ?_⟩
    exact q a t ls H3 ws3 (B1.trans b3) e3 g3 gd
  have nask : wd ≠ "ask" := fun z => c3 (decide_eq_true (congrArg V.str z))
  have ndeep : (deep - 1).toNat < n := by omega
  refine ⟨_, rfl, rfl, _, rfl, ?_⟩
  have tellW : ∀ s5 s6 s7 s8 s9 s10 s11 : Option V, (tRet (tTup (tCons (tC (.str "tell")) (tCons (tCall (spTerm n) [] E0 (tCons (tVar 0) (tCons (tVar 1) (tCons (tVar 2) (tCons (tOp (rI0 fun i j => .int (i - j)) (tVar 3) (tC (.int 1))) (tCons (tOp (rI0 fun i j => .int (i - j)) (tVar 4) (tC (.int 1))) tNil)))))) tNil)))) { nx := fun x H' => Q V.non H', rt := Q }
      [some (.ref tp), some (.ref kd), some (.ref ar), some (.int room), some (.int deep), s5, s6, s7, s8, s9, s10, s11] H1 := by
    intro s5 s6 s7 s8 s9 s10 s11
    refine ⟨_, rfl, _, rfl, _, rfl, _, rfl, _, _, rfl, rfl, _, rfl, _, _, rfl, rfl, tp, kd, wl, ar, hF, ws, xs, room - 1, deep - 1, rfl, g1, w1, naw, by omega, by omega, by omega, by omega, ndeep, fun a t ls H3 ws3 b3 e3 g3 gd => ?_⟩
    refine ⟨sz (by show 2 ≤ 100000; decide), fun p hp => ?_⟩
    have s4 := same_new hp (.tup [.str "tell", .ref a])
    refine q p (mkL .tell [t]) ls _ ws3 (B1.trans (b3.trans (but2_same s4))) e3 (g3.same s4) ⟨?_, ?_, ?_, ?_, ?_, ?_⟩
    · exact at_mkL (vs := [.ref a]) ⟨rfl, upd_same⟩ ⟨⟨a, rfl, gd.at_.mono s4⟩, trivial⟩
    · exact ok_mkL trivial fun u hu => by
        rw [List.mem_singleton.mp hu]
        exact gd.ok
    · rw [cnt_mkL]
      have := gd.cn
      show 1 + (cnt t + 0) ≤ _
      omega
    · exact ht_mkL (n := deep.toNat + 1) fun u hu => by
        rw [List.mem_singleton.mp hu]
        exact gd.dp.le (by omega)
    · refine sc_mkL trivial fun i u hi => ?_
      rw [List.mem_singleton.mp (mem_of_get hi)]
      exact gd.sc
    · rw [lt_mkL, letsL_cons, gd.lt]
      exact List.append_nil ls
  refine ite2 (fun c4 => ?_) (fun c4 => ?_)
  · exact tellW _ _ _ _ _ _ _
  have ntell : wd ≠ "tell" := fun z => c4 (decide_eq_true (congrArg V.str z))
  refine ⟨_, rfl, _, _, rfl, rfl, _, rfl, ?_⟩
  refine ite2 (fun c5 => ?_) (fun c5 => ?_)
  · exact tellW _ _ _ _ _ _ _
  have hroom4 : 4 ≤ room := by
    have : ¬ room < 4 := fun z => c5 (decide_eq_true z)
    omega
  clear tellW
  obtain ⟨el, hd', fs, kvs, k1, k2, k3, k4, k5, k6, k7⟩ := g1.k
  have hws := g1.w
  have hwl := g1.wn
  refine ⟨fun σ' H' => Same H1 H' ∧ σ' = [some (.ref tp), some (.ref kd), some (.ref ar), some (.int room), some (.int deep), some (.ref p0), some (.str wd), none, none, none, none, none], ?_, ?_⟩
  · -- let
    refine ⟨_, rfl, rfl, _, rfl, ?_⟩
    refine ite2 (fun c6 => ?_) (fun c6 => ⟨Same.refl _, rfl⟩)
    refine ⟨_, rfl, kd, _, rfl, get_words k1, sz (by show 0 ≤ 100000; decide), fun p1 hp1 => ?_⟩
    have s2 := same_new hp1 (.lst [])
    refine ⟨.list (ws.map PyData.str), .list [], .lst (SqL.of (s2 _ _ hws.1)) (dp_strs ws), .lst (SqL.of upd_same) .nil, shaped_strs hws.2, rfl, _, rfl, ?_⟩
    rw [eqv_nil]
    cases hnil : ws with
    | nil => exact iteF ⟨s2, rfl⟩
    | cons y0 yr =>
      rw [← hnil]
      have hne : ws ≠ [] := by
        rw [hnil]
        exact List.cons_ne_nil _ _
      have hemp : ws.isEmpty = false := by
        rw [hnil]
        rfl
      rw [hemp]
      have g2 := g1.same s2
      have w2 := w1.but (but_same s2) g1.t
      have hws2 := s2 _ _ hws.1
      generalize upd H1 p1 (.lst []) = H2 at s2 g2 w2 hws2
      have hlast : (ws.map V.str)[(ws.map V.str).length - 1]? = some (.str (ws.getLast hne)) := by
        rw [List.length_map, List.getElem?_map, ← List.getLast?_eq_getElem?, List.getLast?_eq_some_getLast hne]
        rfl
      have hxl := hws.2 _ (List.getLast_mem hne)
      have hwsx : ws = ws.dropLast ++ [ws.getLast hne] := (List.dropLast_concat_getLast hne).symm
      generalize ws.getLast hne = xl at hlast hxl hwsx
      refine iteT ⟨_, rfl, kd, _, rfl, get_words (s2 _ _ k1), .inl ⟨rfl, _, SqL.of hws2⟩, wl, _, .str xl, rfl, rfl, hws2, hlast, ?_⟩
      have eD : (ws.map V.str).dropLast = ws.dropLast.map V.str := by rw [List.map_dropLast]
      rw [eD]
      have b3 : But2 tp wl H2 (upd H2 wl (.lst (ws.dropLast.map V.str))) := fun b o _ m h => by
        rw [upd_ne m]
        exact h
      have ntw : tp ≠ wl := (wls_tp hws2 g2.t).symm
      have g3 : GS (upd H2 wl (.lst (ws.dropLast.map V.str))) tp kd wl hF ws.dropLast := g2.step b3 (by
        obtain ⟨z, hz⟩ := g2.t
        exact ⟨z, by rw [upd_ne ntw]; exact hz⟩) ⟨upd_same, fun x hx => hws.2 x ((List.dropLast_sublist ws).subset hx)⟩ (by rw [List.length_dropLast]; omega)
      have w3 := w2.two b3 g2 naw
      have B3 : But2 tp wl H (upd H2 wl (.lst (ws.dropLast.map V.str))) := B1.trans ((but2_same s2).trans b3)
      generalize upd H2 wl (.lst (ws.dropLast.map V.str)) = H3 at b3 g3 w3 B3
      refine ⟨_, rfl, _, rfl, _, _, rfl, rfl, tp, room - 1, 2, rfl, g3.t, by decide, by omega, by omega, fun sh ss H4 b4 t4 hsh h4 hsl4 hs1 hsum => ?_⟩
      obtain ⟨x0, x1, rfl⟩ := sum2 (xs := ss) (by omega)
      have hx0 := hs1 x0 List.mem_cons_self
      have hx1 := hs1 x1 (List.mem_cons_of_mem _ List.mem_cons_self)
      have esum : x0 + x1 ≤ room - 1 := by
        have e : [x0, x1].sum = x0 + (x1 + 0) := rfl
        omega
      have g4 := g3.one b4 t4
      have w4 := w3.but b4 g3.t
      obtain ⟨nht, nhw⟩ := g3.new hsh
      -- first
      refine ⟨_, rfl, _, rfl, _, rfl, _, rfl, sh, _, _, _, rfl, rfl, SqL.of h4, at0, _, rfl, _, _, rfl, rfl, tp, kd, wl, ar, hF, _, xs, x0, deep - 1, rfl, g4, w4, naw, by omega, by omega, by omega, by omega, ndeep, fun a5 t5 ls5 H5 ws5 b5 e5 g5 gd5 => ?_⟩
      have w5 := w4.two b5 g4 naw
      have h5 := b5 _ _ nht nhw h4
      refine ⟨_, rfl, _, rfl, _, rfl, _, rfl, _, rfl, _, rfl, sz (by show 1 ≤ 100000; decide), fun p6 hp6 => ?_⟩
      have s6 := same_new hp6 (.lst [.str xl])
      refine ⟨ar, p6, _, _, rfl, rfl, s6 _ _ w5.1, upd_same, sz (by rw [List.length_map]; show xs.length + 1 ≤ 100000; omega), fun p7 hp7 => ?_⟩
      have s7 := same_new hp7 (.lst (xs.map V.str ++ [.str xl]))
      have s67 := s6.trans s7
      have g7 := g5.same s67
      obtain ⟨_, n7w⟩ := (g5.same s6).new hp7
      have w7 : Wls (upd (upd H5 p6 (.lst [.str xl])) p7 (.lst (xs.map V.str ++ [.str xl]))) p7 (xs ++ [xl]) := by
        refine ⟨?_, fun x hx => ?_⟩
        · rw [upd_same, List.map_append]
          rfl
        · rcases List.mem_append.mp hx with z | z
          · exact hw.2 x z
          · rw [List.mem_singleton.mp z]
            exact hxl
      refine ⟨_, rfl, sh, _, _, _, rfl, rfl, SqL.of (s67 _ _ h5), at1, _, rfl, _, _, rfl, rfl, tp, kd, wl, p7, hF, _, xs ++ [xl], x1, deep - 1, rfl, g7, w7, n7w, ?_, by omega, by omega, by omega, ndeep, fun a8 t8 ls8 H8 ws8 b8 e8 g8 gd8 => ?_⟩
      · rw [List.length_append, List.length_singleton]
        omega
      refine ⟨sz (by show 4 ≤ 100000; decide), fun p9 hp9 => ?_⟩
      have s9 := same_new hp9 (.tup [.str "let", .str xl, .ref a5, .ref a8])
      have tk59 := (tk_same s67).trans ((g7.tk b8).trans (tk_same s9))
      refine q p9 (mkL (.lett xl) [t5, t8]) ([xl] ++ (ls5 ++ ls8)) _ ws8 (B3.trans (b4.two.trans (b5.trans ((but2_same s67).trans (b8.trans (but2_same s9)))))) ?_ (g8.same s9) ⟨?_, ?_, ?_, ?_, ?_, ?_⟩
      · rw [hwsx, e5, e8]
        simp
      · exact at_mkL (vs := [.ref a5, .ref a8]) ⟨rfl, upd_same⟩ ⟨⟨a5, rfl, gd5.at_.tk tk59⟩, ⟨a8, rfl, gd8.at_.mono s9⟩, trivial⟩
      · refine ok_mkL hxl fun u hu => ?_
        rcases List.mem_cons.mp hu with z | z
        · rw [z]
          exact gd5.ok
        · rw [List.mem_singleton.mp z]
          exact gd8.ok
      · have c5 := gd5.cn
        have c8 := gd8.cn
        rw [cnt_mkL]
        show 1 + (cnt t5 + (cnt t8 + 0)) ≤ _
        omega
      · refine ht_mkL (n := deep.toNat + 1) fun u hu => ?_
        rcases List.mem_cons.mp hu with z | z
        · rw [z]
          exact gd5.dp.le (by omega)
        · rw [List.mem_singleton.mp z]
          exact gd8.dp.le (by omega)
      · refine sc_mkL trivial fun i u hi => ?_
        match i, hi with
        | 0, hi =>
          cases (Option.some.inj hi)
          exact gd5.sc
        | 1, hi =>
          cases (Option.some.inj hi)
          exact gd8.sc
        | i + 2, hi => simp at hi
      · rw [lt_mkL, letsL_cons, letsL_cons, gd5.lt, gd8.lt]
        show [xl] ++ (ls5 ++ (ls8 ++ [])) = _
        rw [List.append_nil]
  · rintro σ' H2 ⟨s2, rfl⟩
    have g2 := g1.same s2
    have w2 := w1.but (but_same s2) g1.t
    have B2 : But2 tp wl H H2 := B1.trans (but2_same s2)
    have hx9 : wd = "let" ∨ wd = "if" ∨ wd = "plus" ∨ wd = "less" := by
      rcases hwd with z | z | z
      · exact absurd z nask
      · exact absurd z ntell
      · exact z
    refine ⟨_, rfl, _, rfl, _, _, rfl, rfl, sz (by show 2 ≤ 100000; decide), fun p3 hp3 => ?_⟩
    have s3 := same_new hp3 (.lst [.int 2, .int 3])
    have hm3 : ∃ m : Int, atI [V.int 2, .int 3] (if decide (V.str wd = V.str "if") = true then 1 else 0) = some (.int m) ∧ 2 ≤ m ∧ m ≤ 3 ∧ (wd = "if" → m = 3) ∧ (wd ≠ "if" → m = 2) := by
      by_cases c : wd = "if"
      · exact ⟨3, by rw [if_pos (decide_eq_true (congrArg V.str c))]; exact at1, by decide, by decide, fun _ => rfl, fun z => absurd c z⟩
      · exact ⟨2, by rw [if_neg (by rw [decide_eq_false fun z => c (V.str.inj z)]; exact Bool.false_ne_true)]; exact at0, by decide, by decide, fun z => absurd z c, fun _ => rfl⟩
    obtain ⟨m, hm0, hm1, hm2, hm4, hm5⟩ := hm3
    refine ⟨_, rfl, rfl, .inr ⟨_, rfl, p3, _, _, _, rfl, rfl, SqL.of upd_same, hm0, ?_⟩⟩
    refine ⟨tp, room - 1, m, rfl, g2.t.same s3, by omega, by omega, by omega, fun sh ss H4 b4 t4 hsh h4 hsl4 hs1 hsum => ?_⟩
    have g3 := g2.same s3
    have g4 := g3.one b4 t4
    have B4 : But2 tp wl H H4 := B2.trans ((but2_same s3).trans b4.two)
    have w4 := (w2.but (but_same s3) g2.t).but b4 g3.t
    obtain ⟨nht, nhw⟩ := g3.new hsh
    refine ⟨_, rfl, sh, rfl, ⟨_, SqL.of h4⟩, fun D hD => lc_list (K := K) (a := sh) (xs := ss.map V.int) (fun j H' => ∃ wsi, But2 tp wl H H' ∧ GS H' tp kd wl hF wsi ∧ Wls H' ar xs ∧ H' sh = some (.lst (ss.map V.int)) ∧ ∃ vs ts, ws = wsi ++ (letsL ts).reverse ∧ H' D = some (.lst vs) ∧ Stk H' vs ts ∧ ts.length = j ∧ (∀ t ∈ ts, okT t ∧ HtLe (deep.toNat + 1) t ∧ okS hF t xs) ∧ (cnts ts : Int) ≤ (ss.take j).sum) ?_ ?_ ?_ ?_⟩
    · have s5 := same_new hD (.lst [])
      exact ⟨ws, B4.trans (but2_same s5), g4.same s5, w4.but (but_same s5) g4.t, s5 _ _ h4, [], [], (List.append_nil ws).symm, upd_same, trivial, rfl, (fun _ z => nomatch z), by show (0 : Int) ≤ 0; decide⟩
    · rintro j H' _ ⟨_, _, _, _, h, _⟩
      exact SqL.of h
    · rintro j x H5 hx ⟨wsi, B5, g5, w5, h5, vs, ts, hws5, hD5, k5s, hlen, hts, hcn⟩
      rw [List.getElem?_map] at hx
      obtain ⟨z, hz, rfl⟩ : ∃ z, ss[j]? = some z ∧ V.int z = x := by
        cases e : ss[j]? with
        | none =>
          rw [e] at hx
          cases hx
        | some z =>
          rw [e] at hx
          exact ⟨z, rfl, Option.some.inj hx⟩
      have hzm := mem_of_get hz
      have hz1 := hs1 z hzm
      have hz2 := le_sum hs1 hzm
      have htake := sum_take hz
      obtain ⟨nDt, nDw⟩ := g4.new hD
      have hDsh : D ≠ sh := (ne_of_none h4 hD).symm
      have hDkd : D ≠ kd := by
        obtain ⟨_, _, _, _, kk, _⟩ := g4.k
        exact (ne_of_none kk hD).symm
      have hDar : ar ≠ D := ne_of_none w4.1 hD
      have hjl : j < ss.length := (List.getElem?_eq_some_iff.mp hz).1
      have hvl := k5s.len
      have hD0 : H D = none := by
        cases e : H D with
        | none => rfl
        | some o =>
          rw [B4 _ _ nDt nDw e] at hD
          cases hD
      refine ⟨rfl, ?_⟩
      dsimp only [tYes]
      refine iteT ?_
      refine ⟨_, rfl, _, rfl, _, rfl, _, rfl, _, rfl, _, _, rfl, rfl, tp, kd, wl, ar, hF, wsi, xs, z, deep - 1, rfl, g5, w5, naw, by omega, hz1, by omega, by omega, ndeep, fun a t ls H6 ws6 b6 e6 g6 gd6 => ?_⟩
      have h6D := b6 _ _ nDt nDw hD5
      have tk6 := g5.tk b6
      refine ⟨vs, h6D, Nat.lt_of_le_of_lt (m := 1000) (by omega) (by decide), ws6, (B5.trans b6).put hD0, ?_, ?_, ?_, vs ++ [.ref a], ts ++ [t], ?_, upd_same, ?_, ?_, ?_, ?_⟩
      · refine g6.put h6D nDt nDw hDkd (fun _ z => nomatch z) fun x zs z => ?_
        have e := HO.lst.inj z
        cases ts with
        | nil =>
          cases vs with
          | nil => cases e
          | cons _ _ => exact k5s.elim
        | cons t0 tr =>
          cases vs with
          | nil => cases e
          | cons v0 vr =>
            obtain ⟨⟨b0, e0', _⟩, _⟩ := k5s
            rw [e0'] at e
            cases (List.cons.inj e).1
      · have w6 := w5.two b6 g5 naw
        exact ⟨by rw [upd_ne hDar]; exact w6.1, w6.2⟩
      · rw [upd_ne hDsh.symm]
        exact b6 _ _ nht nhw h5
      · rw [hws5, e6, letsL_app, letsL_cons, gd6.lt, List.reverse_append, List.append_assoc]
        show _ = ws6 ++ ((ls ++ []).reverse ++ _)
        rw [List.append_nil]
      · exact ((k5s.tk tk6).app (us := [.ref a]) (ss := [t]) ⟨⟨a, rfl, gd6.at_⟩, trivial⟩).tk (tk_put h6D)
      · rw [List.length_append, hlen]
        rfl
      · exact stk_ok_app hts gd6.ok (gd6.dp.le (by omega)) gd6.sc
      · have c6 := gd6.cn
        rw [cnts_app, htake]
        show ((cnts ts + (cnt t + 0) : Nat) : Int) ≤ _
        omega
    · rintro H5 ⟨wsi, B5, g5, w5, h5, vs, ts, hws5, hD5, k5s, hlen, hts, hcn⟩
      rw [List.length_map] at hlen hcn
      rw [List.take_length] at hcn
      have hvl := k5s.len
      refine ⟨_, rfl, sz (by show 2 ≤ 100000; decide), fun p6 hp6 => ?_⟩
      have s6 := same_new hp6 (.lst [.str wd, .str "plus"])
      have hw6 : ∃ hx : Hd, atI [V.str wd, .str "plus"] (if decide (V.str wd = V.str "let") = true then 1 else 0) = some (.str (hs hx)) ∧ okH hx ∧ hdLets hx = [] ∧ (∀ nn ys, okN hF hx nn ys) ∧ (∀ ii ys, inn hx ii ys = ys) ∧ (∀ (H' : Hp) (p : Addr), H' p = some (.tup (.str (hs hx) :: vs)) → Lay H' p hx vs) := by
        rcases hx9 with z | z | z | z
        · subst z
          exact ⟨.plus, at1, trivial, rfl, fun _ _ => trivial, fun _ _ => rfl, fun H' p h => ⟨by rw [hvl, hlen]; have := hm5 (by decide); omega, h⟩⟩
        · subst z
          exact ⟨.iff, at0, trivial, rfl, fun _ _ => trivial, fun _ _ => rfl, fun H' p h => ⟨by rw [hvl, hlen]; have := hm4 rfl; omega, h⟩⟩
        · subst z
          exact ⟨.plus, at0, trivial, rfl, fun _ _ => trivial, fun _ _ => rfl, fun H' p h => ⟨by rw [hvl, hlen]; have := hm5 (by decide); omega, h⟩⟩
        · subst z
          exact ⟨.less, at0, trivial, rfl, fun _ _ => trivial, fun _ _ => rfl, fun H' p h => ⟨by rw [hvl, hlen]; have := hm5 (by decide); omega, h⟩⟩
      obtain ⟨hx, hxa, hxo, hxn, hxN, hxi, hxl⟩ := hw6
      refine ⟨_, rfl, rfl, .inr ⟨_, rfl, p6, _, _, _, rfl, rfl, SqL.of upd_same, hxa, sz (by show 1 ≤ 100000; decide), fun p7 hp7 => ?_⟩⟩
      have s7 := same_new hp7 (.tup [.str (hs hx)])
      have s67 := s6.trans s7
      refine ⟨_, rfl, D, _, rfl, .inl ⟨SqL.of (s67 _ _ hD5), fun p8 hp8 => ?_⟩⟩
      have s8 := same_new hp8 (.tup vs)
      have s68 := s67.trans s8
      refine catA_of (s8 _ _ upd_same) upd_same (by show 1 + vs.length ≤ 100000; omega) fun p9 H9 s9 h9 => ?_
      have s69 := s68.trans s9
      refine q p9 (mkL hx ts) (letsL ts) H9 wsi (B5.trans (but2_same s69)) hws5 (g5.same s69) ⟨?_, ?_, ?_, ?_, ?_, ?_⟩
      · exact at_mkL (hxl H9 p9 h9) (k5s.mono s69)
      · exact ok_mkL hxo fun t ht => (hts t ht).1
      · rw [cnt_mkL]
        omega
      · exact ht_mkL (n := deep.toNat + 1) fun t ht => (hts t ht).2.1
      · refine sc_mkL (hxN _ _) fun i t hi => ?_
        rw [hxi]
        exact (hts t (mem_of_get hi)).2.2
      · rw [lt_mkL, hxn]
        rfl
theorem no_term {f : Addr} {fd : FuncData} {k : Nat} : FnOk P w K mg base CX0 k f fd ["tape", "known", "around", "room", "deep"] (spTerm 0) := by
  have no : ∀ vs H Q E, ¬ spTerm 0 vs H Q E := fun vs H Q E h => by
    obtain ⟨tp, kd, wl, ar, hF, ws, xs, room, deep, _, _, _, _, _, _, _, _, h0, _⟩ := h
    omega
  exact ⟨fun vs H Q E h => absurd h (no vs H Q E), fun A outer s H args us vs Q E _ _ _ _ h => absurd h (no vs H Q E)⟩
theorem all_term (T : Txt K mg) {f fg fh fs_ fl_ fa : Addr} {fd gd hd sd ld ad : FuncData} (F : Fun K "_law_term" "_law_term" s_law_term f fd) (FA : Fun K "_law_ask" "_law_ask" s_law_ask fa ad)
    (G_law_digit : FnOk P w K mg base CX0 1 fg gd ["tape", "many"] spDig) (R_law_digit : Ref K mg "_law_digit" fg gd ["tape", "many"])
    (G_law_leaf : FnOk P w K mg base CX0 3 fh hd ["tape", "known", "around"] spLeaf) (R_law_leaf : Ref K mg "_law_leaf" fh hd ["tape", "known", "around"]) (G_law_shares : FnOk P w K mg base CX0 2 fs_ sd ["tape", "room", "many"] spShr) (R_law_shares : Ref K mg "_law_shares" fs_ sd ["tape", "room", "many"])
    (G_law_less_one : FnOk P w K mg base CX0 1 fl_ ld ["around"] spLess) (R_law_less_one : Ref K mg "_law_less_one" fl_ ld ["around"])
    (R_law_term : Ref K mg "_law_term" f fd ["tape", "known", "around", "room", "deep"]) (R_law_ask : Ref K mg "_law_ask" fa ad ["tape", "known", "around", "room", "deep"]) : ∀ n : Nat, FnOk P w K mg base CX0 (2 * n + 4) f fd ["tape", "known", "around", "room", "deep"] (spTerm n)
  | 0 => no_term
  | n + 1 => by
    have ih := all_term T F FA G_law_digit R_law_digit G_law_leaf R_law_leaf G_law_shares R_law_shares G_law_less_one R_law_less_one R_law_term R_law_ask n
    exact ok_term T F G_law_digit R_law_digit G_law_leaf R_law_leaf G_law_shares R_law_shares (ok_ask T FA G_law_digit R_law_digit G_law_leaf R_law_leaf G_law_shares R_law_shares G_law_less_one R_law_less_one ih R_law_term) R_law_ask ih R_law_term
end
end KB

namespace KB
open PySem L2

/-! ### the words that are drawn -/
def lettersS : Str := "abcdefghijklmnopqrstuvwxyz"
def sgn (i : Nat) : Str := ⟨#[97 + i % 26]⟩
def endsL : List Str := ["", "a", "omelons"]
def someL : List Str := ["give", "ask", "post", "plus", "less", "name", "number", "to", "as", "f", "x", "aq", "bq", "lets", "ifs", "ina", "homes", "q"]
def w0 (turn : Nat) (e : Str) (k : Nat) : Str := sgn (turn + k) ++ e
def w1 (turn : Nat) (k : Nat) : Str := repS (sgn (turn + k / 8)) (1 + (k : Int) % 8)
def w2 (turn : Nat) (k : Nat) : Str := someL.getD ((turn + k) % 18) ""
def good16 (f : Nat → Str) : Bool := ((List.range 16).map f).all isW && decide ((List.range 16).map f).Nodup
theorem good_w0 : ∀ turn < 26, ∀ e ∈ endsL, good16 (w0 turn e) = true := by decide +kernel
theorem good_w1 : ∀ turn < 26, good16 (w1 turn) = true := by decide +kernel
theorem good_w2 : ∀ turn < 26, good16 (w2 turn) = true := by decide +kernel
theorem good_of {f : Nat → Str} (h : good16 f = true) {n : Nat} (hn : n ≤ 16) : (∀ x ∈ (List.range n).map f, isW x = true) ∧ ((List.range n).map f).Nodup := by
  unfold good16 at h
  rw [Bool.and_eq_true] at h
  have hs : ((List.range n).map f).Sublist ((List.range 16).map f) := (List.range_sublist.mpr hn).map f
  exact ⟨fun x hx => List.all_eq_true.mp h.1 x (hs.subset hx), (of_decide_eq_true h.2).sublist hs⟩
theorem letters_at {i : Int} (h0 : 0 ≤ i) (h1 : i < 26) : atI lettersS.cps.toList i = some (97 + i.toNat) := by
  have e : lettersS.cps.toList = (List.range 26).map (97 + ·) := by decide +kernel
  rw [e]
  obtain ⟨n, rfl⟩ : ∃ n : Nat, i = (n : Int) := ⟨i.toNat, by omega⟩
  rw [Int.toNat_natCast]
  refine atI_nat ?_
  rw [List.getElem?_map, List.getElem?_range (by omega)]
  rfl
theorem range_push {f : Nat → Str} (i : Nat) : ((List.range i).map f).map V.str ++ [V.str (f i)] = ((List.range (i + 1)).map f).map V.str := by
  rw [List.range_succ, List.map_append, List.map_append]
  rfl

section
variable {P : Program} {w : World} {K : PySem.W.Frag} {mg : Str → Option Value} {base : Heap}
def spWords : Sp := fun vs H Q _ => ∃ (tp : Addr) (many : Int), vs = [.ref tp, .int many] ∧ Tp H tp ∧ 0 ≤ many ∧ many ≤ 16 ∧
  ∀ (p : Addr) (xs : List Str) (H' : Hp), But1 tp H H' → Tp H' tp → H p = none → Wls H' p xs → (xs.length : Int) = many → xs.Nodup → Q (.ref p) H'
abbrev s_law_words : Stmt := top 40
theorem scLwords : FnScope ["tape", "many", "letters", "way", "turn", "ends", "k", "some"] ["tape", "many"] (defScope s_law_words) := ⟨rfl, rfl, rfl, by decide +kernel, rfl, by decide +kernel, by decide +kernel⟩
theorem ok_words (T : Txt K mg) {f g : Addr} {fd gd : FuncData} (F : Fun K "_law_words" "_law_words" s_law_words f fd) (G_law_digit : FnOk P w K mg base CX0 1 g gd ["tape", "many"] spDig) (R_law_digit : Ref K mg "_law_digit" g gd ["tape", "many"]) : FnOk P w K mg base CX0 2 f fd ["tape", "many"] spWords := by
  refine F.ok scLwords (fun vs H Q E h => ?_) (fun cdv A outer s H vs Q E hr h => ?_)
  · obtain ⟨tp, many, rfl, _⟩ := h
    rfl
  obtain ⟨tp, many, rfl, ht, hm0, hm1, q⟩ := h
  refine ⟨_, (pss_cons (ps_set (i := 2) scLwords.nd rfl (Or.inr rfl) pe_str)
    (pss_cons (ps_set (i := 3) scLwords.nd rfl (Or.inl rfl) (pe_call G_law_digit hr rfl R_law_digit.m R_law_digit.k R_law_digit.b .nil pass0 (pa_cons (pv 0) (pa_cons pe_int pa_nil))))
    (pss_cons (ps_set (i := 4) scLwords.nd rfl (Or.inr rfl) (pe_call G_law_digit hr rfl R_law_digit.m R_law_digit.k R_law_digit.b .nil pass0 (pa_cons (pv 0) (pa_cons pe_int pa_nil))))
    (pss_cons (ps_if (pt_cmpR op_eq (pv 3) pe_int (nomark _)) (pss_cons (ps_set (i := 5) scLwords.nd rfl (Or.inr rfl) (pe_ix ix_list (pe_lst (pa_cons pe_str (pa_cons pe_str (pa_cons pe_str pa_nil)))) (pe_call G_law_digit hr rfl R_law_digit.m R_law_digit.k R_law_digit.b .nil pass0 (pa_cons (pv 0) (pa_cons pe_int pa_nil))) (fun _ _ => rfl)))
    (pss_one (ps_ret (pe_lc (own := [("k", 6)]) (g := gName 6) (by rfl) scLwords.nd (pi_range1 rfl T.m_range (pa_cons (pv 1) pa_nil)) (blkOk_by (own := [("k", 6)]) (N := ["tape", "many", "letters", "way", "turn", "ends", "k", "some"]) (sc := defScope s_law_words) (by decide +kernel)) (fun _ _ _ _ _ => (pg_name (i := 6) scLwords.nd rfl (Or.inl rfl))) (fun _ _ _ _ _ => pts_nil) (fun _ _ _ _ _ => (pe_op op_add_str (pe_ix ix_str (pv 2) (pe_op op_mod (pe_op op_add (pv 4) (pv 6)) pe_int) (fun _ _ => rfl)) (pv 5))))))) pss_nil)
    (pss_cons (ps_if (pt_cmpR op_eq (pv 3) pe_int (nomark _)) (pss_one (ps_ret (pe_lc (own := [("k", 6)]) (g := gName 6) (by rfl) scLwords.nd (pi_range1 rfl T.m_range (pa_cons (pv 1) pa_nil)) (blkOk_by (own := [("k", 6)]) (N := ["tape", "many", "letters", "way", "turn", "ends", "k", "some"]) (sc := defScope s_law_words) (by decide +kernel)) (fun _ _ _ _ _ => (pg_name (i := 6) scLwords.nd rfl (Or.inl rfl))) (fun _ _ _ _ _ => pts_nil) (fun _ _ _ _ _ => (pe_op op_mul_str (pe_ix ix_str (pv 2) (pe_op op_mod (pe_op op_add (pv 4) (pe_op op_fdiv (pv 6) pe_int)) pe_int) (fun _ _ => rfl)) (pe_op op_add pe_int (pe_op op_mod (pv 6) pe_int))))))) pss_nil)
    (pss_cons (ps_set (i := 7) scLwords.nd rfl (Or.inr rfl) (pe_lst (pa_cons pe_str (pa_cons pe_str (pa_cons pe_str (pa_cons pe_str (pa_cons pe_str (pa_cons pe_str (pa_cons pe_str (pa_cons pe_str (pa_cons pe_str (pa_cons pe_str (pa_cons pe_str pa_nil)))))))))))))
    (pss_cons (ps_set (i := 7) scLwords.nd rfl (Or.inr rfl) (pe_op op_cat (pv 7) (pe_lst (pa_cons pe_str (pa_cons pe_str (pa_cons pe_str (pa_cons pe_str (pa_cons pe_str (pa_cons pe_str (pa_cons pe_str pa_nil))))))))))
    (pss_one (ps_ret (pe_lc (own := [("k", 6)]) (g := gName 6) (te := tOp (rIxL K) (tVar 7) (tOp (rI (fun _ j => 0 < j) fun i j => .int (i % j)) (tOp (rI0 fun i j => .int (i + j)) (tVar 4) (tVar 6)) (tC (.int 18)))) (by rfl) scLwords.nd (pi_range1 rfl T.m_range (pa_cons (pv 1) pa_nil)) (blkOk_by (own := [("k", 6)]) (N := ["tape", "many", "letters", "way", "turn", "ends", "k", "some"]) (sc := defScope s_law_words) (by decide +kernel)) (fun _ _ _ _ _ => (pg_name (i := 6) scLwords.nd rfl (Or.inl rfl))) (fun _ _ _ _ _ => pts_nil) (fun _ _ _ _ _ => (pe_ix ix_list (pv 7) (pe_op op_mod (pe_op op_add (pv 4) (pv 6)) pe_int) (fun _ _ => rfl))))))))))))), ?_⟩
  have fin : ∀ (f : Nat → Str), good16 f = true → ∀ (H1 : Hp) (D : Addr) (H' : Hp), But1 tp H H1 → Tp H1 tp → H1 D = none → Same H1 H' → H' D = some (.lst (((List.range many.toNat).map f).map V.str)) → Q (.ref D) H' := by
    intro f hf H1 D H' b1 t1 hD s1 h1
    obtain ⟨e1, e2⟩ := good_of hf (n := many.toNat) (by omega)
    refine q D _ H' (b1.trans (but_same s1)) (t1.same s1) ?_ ⟨h1, e1⟩ (by rw [List.length_map, List.length_range]; omega) e2
    cases e : H D with
    | none => rfl
    | some o =>
      obtain ⟨z, hz⟩ := t1
      rw [b1 _ _ (ne_of_none hz hD).symm e] at hD
      cases hD
  refine ⟨_, rfl, tp, 3, rfl, ht, by decide, by decide, fun way H1 _ _ b1 t1 => ?_⟩
  refine ⟨_, rfl, tp, 26, rfl, t1, by decide, by decide, fun turn H2 r0 r1 b2 t2 => ?_⟩
  have b12 := b1.trans b2
  refine ⟨_, rfl, rfl, _, rfl, ?_⟩
  refine ite2 (fun c1 => ?_) (fun c1 => ?_)
  · refine ⟨sz (by show 3 ≤ 100000; decide), fun p hp => ?_⟩
    have s3 := same_new hp (.lst [.str "", .str "a", .str "omelons"])
    have np : p ≠ tp := by
      obtain ⟨z, hz⟩ := t2
      exact (ne_of_none hz hp).symm
    refine ⟨_, rfl, tp, 3, rfl, t2.same s3, by decide, by decide, fun r H3 r2 r3 b3 t3 => ?_⟩
    obtain ⟨v, hv, hm⟩ := at_some (xs := endsL.map V.str) r2 r3
    obtain ⟨e, he, rfl⟩ := List.mem_map.mp hm
    have hel : e.length ≤ 100 := by
      have : ∀ x ∈ endsL, x.length ≤ 100 := by decide +kernel
      exact this e he
    refine ⟨p, _, _, _, rfl, rfl, SqL.of (b3 _ _ np upd_same), hv, ?_⟩
    have b4 := (b12.trans (but_same s3)).trans b3
    refine ⟨_, rfl, many, rfl, by omega, by omega, fun D hD => lc_range (lo := 0) (n := many.toNat) (fun i H' => Same H3 H' ∧ H' D = some (.lst (((List.range i).map (w0 turn.toNat e)).map V.str))) ⟨same_new hD _, upd_same⟩ ?_ ?_⟩
    · rintro i H' hi ⟨s5, h5⟩
      have ei : (turn + (0 + (i : Nat))) % 26 = (((turn.toNat + i) % 26 : Nat) : Int) := by omega
      refine ⟨rfl, ?_⟩
      dsimp only [tYes]
      refine iteT ?_
      refine ⟨_, rfl, _, rfl, _, rfl, _, _, rfl, rfl, _, _, rfl, rfl, (by show (0 : Int) < 26; decide), lettersS, _, _, rfl, rfl, (by decide +kernel), letters_at (Int.emod_nonneg _ (by decide)) (Int.emod_lt_of_pos _ (by decide)), ?_⟩
      refine ⟨_, rfl, _, _, rfl, rfl, sz (by show 1 + e.length ≤ 100000; omega), ?_⟩
      refine ⟨_, h5, Nat.lt_of_le_of_lt (m := 100) (by rw [List.length_map, List.length_map, List.length_range]; omega) (by decide), same_mut s5 hD, ?_⟩
      rw [upd_same, ← range_push]
      have e9 : w0 turn.toNat e i = (⟨#[97 + ((turn + (0 + (i : Nat))) % 26).toNat]⟩ : Str) ++ e := by
        rw [ei, Int.toNat_natCast]
        rfl
      rw [e9]
    · rintro H' ⟨s5, h5⟩
      exact fin _ (good_w0 turn.toNat (by omega) e he) H3 D H' b4 t3 hD s5 h5
  refine ⟨_, rfl, rfl, _, rfl, ?_⟩
  refine ite2 (fun c2 => ?_) (fun c2 => ?_)
  · refine ⟨_, rfl, many, rfl, by omega, by omega, fun D hD => lc_range (lo := 0) (n := many.toNat) (fun i H' => Same H2 H' ∧ H' D = some (.lst (((List.range i).map (w1 turn.toNat)).map V.str))) ⟨same_new hD _, upd_same⟩ ?_ ?_⟩
    · rintro i H' hi ⟨s5, h5⟩
      have ei : (turn + (0 + (i : Nat)) / 8) % 26 = (((turn.toNat + i / 8) % 26 : Nat) : Int) := by omega
      refine ⟨rfl, ?_⟩
      dsimp only [tYes]
      refine iteT ?_
      refine ⟨_, rfl, _, rfl, _, rfl, _, _, rfl, rfl, ⟨by decide, by decide⟩, _, _, rfl, rfl, _, _, rfl, rfl, (by show (0 : Int) < 26; decide), lettersS, _, _, rfl, rfl, (by decide +kernel), letters_at (Int.emod_nonneg _ (by decide)) (Int.emod_lt_of_pos _ (by decide)), ?_⟩
      refine ⟨_, rfl, _, _, rfl, rfl, (by show (0 : Int) < 8; decide), _, _, rfl, rfl, _, _, rfl, rfl, by omega, by omega, Nat.le_refl 1, by show 1 ≤ 1000; decide, ?_⟩
      refine ⟨_, h5, Nat.lt_of_le_of_lt (m := 100) (by rw [List.length_map, List.length_map, List.length_range]; omega) (by decide), same_mut s5 hD, ?_⟩
      rw [upd_same, ← range_push]
      have e9 : w1 turn.toNat i = repS (⟨#[97 + ((turn + (0 + (i : Nat)) / 8) % 26).toNat]⟩ : Str) (1 + (0 + (i : Nat)) % 8) := by
        rw [ei, Int.toNat_natCast, Int.zero_add]
        rfl
      rw [e9]
    · rintro H' ⟨s5, h5⟩
      exact fin _ (good_w1 turn.toNat (by omega)) H2 D H' b12 t2 hD s5 h5
  · refine ⟨sz (by show 11 ≤ 100000; decide), fun p1 hp1 => ?_⟩
    have s3 := same_new hp1 (.lst ((someL.take 11).map V.str))
    refine ⟨_, rfl, sz (by show 7 ≤ 100000; decide), fun p2 hp2 => ?_⟩
    have s4 := same_new hp2 (.lst ((someL.drop 11).map V.str))
    refine ⟨p1, p2, (someL.take 11).map V.str, (someL.drop 11).map V.str, rfl, rfl, s4 _ _ upd_same, upd_same, sz (by show 18 ≤ 100000; decide), fun p3 hp3 => ?_⟩
    have s5 := same_new hp3 (.lst ((someL.take 11).map V.str ++ (someL.drop 11).map V.str))
    have s35 := s3.trans (s4.trans s5)
    have h3 : upd (upd (upd H2 p1 (.lst ((someL.take 11).map V.str))) p2 (.lst ((someL.drop 11).map V.str))) p3 (.lst ((someL.take 11).map V.str ++ (someL.drop 11).map V.str)) p3 = some (.lst (someL.map V.str)) := upd_same
    have t3 := t2.same s35
    have b3 := b12.trans (but_same s35)
    refine ⟨_, rfl, many, rfl, by omega, by omega, fun D hD => lc_range (lo := 0) (n := many.toNat) (fun i H' => Same (upd (upd (upd H2 p1 (.lst ((someL.take 11).map V.str))) p2 (.lst ((someL.drop 11).map V.str))) p3 (.lst ((someL.take 11).map V.str ++ (someL.drop 11).map V.str))) H' ∧ H' D = some (.lst (((List.range i).map (w2 turn.toNat)).map V.str))) ⟨same_new hD _, upd_same⟩ ?_ ?_⟩
    · rintro i H' hi ⟨s6, h6⟩
      have ei : (turn + (0 + (i : Nat))) % 18 = (((turn.toNat + i) % 18 : Nat) : Int) := by omega
      have hat : atI (someL.map V.str) ((turn + (0 + (i : Nat))) % 18) = some (V.str (w2 turn.toNat i)) := by
        rw [ei]
        refine atI_nat ?_
        rw [List.getElem?_map]
        unfold w2
        have hl : (turn.toNat + i) % 18 < someL.length := Nat.mod_lt _ (by decide)
        rw [List.getElem?_eq_getElem hl, List.getD_eq_getElem?_getD, List.getElem?_eq_getElem hl]
        rfl
      refine ⟨rfl, ?_⟩
      dsimp only [tYes]
      refine iteT ?_
      refine ⟨_, rfl, _, rfl, _, rfl, _, _, rfl, rfl, _, _, rfl, rfl, (by show (0 : Int) < 18; decide), p3, _, _, _, rfl, rfl, SqL.of (s6 _ _ h3), hat, ?_⟩
      refine ⟨_, h6, Nat.lt_of_le_of_lt (m := 100) (by rw [List.length_map, List.length_map, List.length_range]; omega) (by decide), same_mut s6 hD, ?_⟩
      rw [upd_same, ← range_push]
    · rintro H' ⟨s6, h6⟩
      exact fin _ (good_w2 turn.toNat (by omega)) _ D H' b3 t3 hD s6 h6
end
end KB

namespace KB
open PySem L2

section
variable {P : Program} {w : World} {K : PySem.W.Frag} {mg : Str → Option Value} {base : Heap}
/-! ### _law_body -/
def spBody : Sp := fun vs H Q _ => ∃ (tp kd wl nl : Addr) (hF : Str → Option Nat) (ws xs : List Str) (room : Int), vs = [.ref tp, .ref kd, .ref nl, .int room] ∧ GS H tp kd wl hF ws ∧ Wls H nl xs ∧ nl ≠ wl ∧ xs.length ≤ 100 ∧ 8 ≤ room ∧ room ≤ 40 ∧
  ∀ a t ls H' ws', But2 tp wl H H' → ws = ws' ++ List.reverse ls → GS H' tp kd wl hF ws' → Gd H' a room.toNat 13 hF xs ls t → Q (.ref a) H'
abbrev s_law_body : Stmt := top 47
theorem scLbody : FnScope ["tape", "known", "names", "room", "shares", "one"] ["tape", "known", "names", "room"] (defScope s_law_body) := ⟨rfl, rfl, rfl, by decide +kernel, rfl, by decide +kernel, by decide +kernel⟩
theorem ok_body (T : Txt K mg) {f fg fs_ ft : Addr} {fd gd sd td : FuncData} (F : Fun K "_law_body" "_law_body" s_law_body f fd) (G_law_digit : FnOk P w K mg base CX0 1 fg gd ["tape", "many"] spDig) (R_law_digit : Ref K mg "_law_digit" fg gd ["tape", "many"])
    (G_law_shares : FnOk P w K mg base CX0 2 fs_ sd ["tape", "room", "many"] spShr) (R_law_shares : Ref K mg "_law_shares" fs_ sd ["tape", "room", "many"])
    (G_law_term : FnOk P w K mg base CX0 28 ft td ["tape", "known", "around", "room", "deep"] (spTerm 12)) (R_law_term : Ref K mg "_law_term" ft td ["tape", "known", "around", "room", "deep"]) : FnOk P w K mg base CX0 29 f fd ["tape", "known", "names", "room"] spBody := by
  refine F.ok scLbody (fun vs H Q E h => ?_) (fun cdv A outer s H vs Q E hr h => ?_)
  · obtain ⟨tp, kd, wl, nl, hF, ws, xs, room, rfl, _⟩ := h
    rfl
  obtain ⟨tp, kd, wl, nl, hF, ws, xs, room, rfl, hg, hw, nnw, hx, hr1, hr2, q⟩ := h
  refine ⟨_, (pss_cons (ps_if (PW.pt (pw_and (pt_cmpR (op_neD hr.units) (pv 2) (pe_lst pa_nil) (nomark _)) (pw_and1 (pt_cmpR op_gt (pe_call G_law_digit (hr.mono (by omega)) rfl R_law_digit.m R_law_digit.k R_law_digit.b .nil pass0 (pa_cons (pv 0) (pa_cons pe_int pa_nil))) pe_int (nomark _))))) (pss_cons (ps_set (i := 4) scLbody.nd rfl (Or.inl rfl) (pe_call G_law_shares (hr.mono (by omega)) rfl R_law_shares.m R_law_shares.k R_law_shares.b .nil pass0 (pa_cons (pv 0) (pa_cons (pe_op op_sub (pv 3) pe_int) (pa_cons pe_int pa_nil)))))
    (pss_cons (ps_set (i := 5) scLbody.nd rfl (Or.inl rfl) (pe_call G_law_term hr rfl R_law_term.m R_law_term.k R_law_term.b .nil pass0 (pa_cons (pv 0) (pa_cons (pv 1) (pa_cons (pv 2) (pa_cons (pe_ix ix_list (pv 4) pe_int (fun _ _ => rfl)) (pa_cons pe_int pa_nil)))))))
    (pss_one (ps_ret (pe_tup (pa_cons pe_str (pa_cons (pe_tup (pa_cons pe_str (pa_cons (pe_ix ix_list (pv 2) pe_int (fun _ _ => rfl)) pa_nil))) (pa_cons (pv 5) (pa_cons (pe_call G_law_term hr rfl R_law_term.m R_law_term.k R_law_term.b .nil pass0 (pa_cons (pv 0) (pa_cons (pv 1) (pa_cons (pv 2) (pa_cons (pe_ix ix_list (pv 4) pe_int (fun _ _ => rfl)) (pa_cons pe_int pa_nil)))))) pa_nil))))))))) pss_nil)
    (pss_one (ps_ret (pe_call G_law_term hr rfl R_law_term.m R_law_term.k R_law_term.b .nil pass0 (pa_cons (pv 0) (pa_cons (pv 1) (pa_cons (pv 2) (pa_cons (pv 3) (pa_cons pe_int pa_nil))))))))), ?_⟩
  have termW : ∀ H1, But2 tp wl H H1 → GS H1 tp kd wl hF ws → Wls H1 nl xs → (tRet (tCall (spTerm 12) [] E0 (tCons (tVar 0) (tCons (tVar 1) (tCons (tVar 2) (tCons (tVar 3) (tCons (tC (.int 11)) tNil))))))) { nx := fun x H' => Q V.non H', rt := Q } [some (.ref tp), some (.ref kd), some (.ref nl), some (.int room), none, none] H1 := by
    intro H1 b1 g1 w1
    refine ⟨_, rfl, _, rfl, _, rfl, _, rfl, tp, kd, wl, nl, hF, ws, xs, room, 11, rfl, g1, w1, nnw, by omega, by omega, by omega, by decide, by decide, fun a t ls H2 ws2 b2 e2 g2 gd => ?_⟩
    exact q a t ls H2 ws2 (b1.trans b2) e2 g2 (gd.le (Nat.le_refl _) (by decide))
  refine ⟨_, rfl, sz (by show 0 ≤ 100000; decide), fun p0 hp0 => ?_⟩
  have s0 := same_new hp0 (.lst [])
  have g0 := hg.same s0
  have w0 := hw.but (but_same s0) hg.t
  refine ⟨.list (xs.map PyData.str), .list [], .lst (SqL.of w0.1) (dp_strs xs), .lst (SqL.of upd_same) .nil, shaped_strs hw.2, rfl, _, rfl, ?_⟩
  rw [eqv_nil]
  cases xs with
  | nil => exact iteF (termW _ (but2_same s0) g0 w0)
  | cons x0 xr =>
    refine iteT ⟨_, rfl, tp, 4, rfl, g0.t, by decide, by decide, fun r H1 _ _ b1 t1 => ?_⟩
    have g1 := g0.one b1 t1
    have w1 := w0.but b1 g0.t
    have B1 : But2 tp wl H H1 := (but2_same s0).trans b1.two
    refine ⟨_, _, rfl, rfl, _, rfl, ?_⟩
    refine ite2 (fun c => ?_) (fun c => ?_)
    · refine ⟨_, rfl, _, rfl, _, _, rfl, rfl, tp, room - 2, 2, rfl, g1.t, by decide, by omega, by omega, fun sh ss H4 b4 t4 hsh h4 hsl4 hs1 hsum => ?_⟩
      obtain ⟨y0, y1, rfl⟩ := sum2 (xs := ss) (by omega)
      have hx0 := hs1 y0 List.mem_cons_self
      have hx1 := hs1 y1 (List.mem_cons_of_mem _ List.mem_cons_self)
      have esum : y0 + y1 ≤ room - 2 := by
        have e : [y0, y1].sum = y0 + (y1 + 0) := rfl
        omega
      have g4 := g1.one b4 t4
      have w4 := w1.but b4 g1.t
      obtain ⟨nht, nhw⟩ := g1.new hsh
      refine ⟨_, rfl, _, rfl, _, rfl, _, rfl, sh, _, _, _, rfl, rfl, SqL.of h4, at0, tp, kd, wl, nl, hF, ws, x0 :: xr, y0, 10, rfl, g4, w4, nnw, by omega, by omega, by omega, by decide, by decide, fun a5 t5 ls5 H5 ws5 b5 e5 g5 gd5 => ?_⟩
      have w5 := w4.two b5 g4 nnw
      have h5 := b5 _ _ nht nhw h4
      refine ⟨_, rfl, nl, _, _, _, rfl, rfl, SqL.of w5.1, at0, sz (by show 2 ≤ 100000; decide), fun p6 hp6 => ?_⟩
      have s6 := same_new hp6 (.tup [.str "name", .str x0])
      have g6 := g5.same s6
      have w6 := w5.but (but_same s6) g5.t
      refine ⟨_, rfl, _, rfl, _, rfl, _, rfl, _, rfl, sh, _, _, _, rfl, rfl, SqL.of (s6 _ _ h5), at1, tp, kd, wl, nl, hF, ws5, x0 :: xr, y1, 10, rfl, g6, w6, nnw, by omega, by omega, by omega, by decide, by decide, fun a8 t8 ls8 H8 ws8 b8 e8 g8 gd8 => ?_⟩
      refine ⟨sz (by show 4 ≤ 100000; decide), fun p9 hp9 => ?_⟩
      have s9 := same_new hp9 (.tup [.str "if", .ref p6, .ref a5, .ref a8])
      have tk68 := (g6.tk b8).trans (tk_same s9)
      have tk59 := (tk_same s6).trans tk68
      have l6 : Lay _ p6 (.nam x0) [] := ⟨rfl, tk68 _ _ upd_same⟩
      have gl := gd_nam (hd := hF) (xs := x0 :: xr) l6 (hw.2 x0 List.mem_cons_self) List.mem_cons_self
      refine q p9 (mkL .iff [mkL (.nam x0) [], t5, t8]) (ls5 ++ ls8) _ ws8 (B1.trans (b4.two.trans (b5.trans ((but2_same s6).trans (b8.trans (but2_same s9)))))) (by rw [e5, e8]; simp) (g8.same s9) ⟨?_, ?_, ?_, ?_, ?_, ?_⟩
      · exact at_mkL (vs := [.ref p6, .ref a5, .ref a8]) ⟨rfl, upd_same⟩ ⟨⟨p6, rfl, gl.at_⟩, ⟨a5, rfl, gd5.at_.tk tk59⟩, ⟨a8, rfl, gd8.at_.mono s9⟩, trivial⟩
      · refine ok_mkL trivial fun u hu => ?_
        rcases List.mem_cons.mp hu with z | z
        · rw [z]
          exact gl.ok
        · rcases List.mem_cons.mp z with z | z
          · rw [z]
            exact gd5.ok
          · rw [List.mem_singleton.mp z]
            exact gd8.ok
      · have c5 := gd5.cn
        have c8 := gd8.cn
        have c6 := gl.cn
        rw [cnt_mkL]
        show 1 + (cnt (mkL (.nam x0) []) + (cnt t5 + (cnt t8 + 0))) ≤ _
        omega
      · refine ht_mkL (n := 12) fun u hu => ?_
        rcases List.mem_cons.mp hu with z | z
        · rw [z]
          exact gl.dp.le (by decide)
        · rcases List.mem_cons.mp z with z | z
          · rw [z]
            exact gd5.dp.le (by decide)
          · rw [List.mem_singleton.mp z]
            exact gd8.dp.le (by decide)
      · refine sc_mkL trivial fun i u hi => ?_
        match i, hi with
        | 0, hi =>
          cases (Option.some.inj hi)
          exact gl.sc
        | 1, hi =>
          cases (Option.some.inj hi)
          exact gd5.sc
        | 2, hi =>
          cases (Option.some.inj hi)
          exact gd8.sc
        | i + 3, hi => simp at hi
      · rw [lt_mkL, letsL_cons, letsL_cons, letsL_cons, gl.lt, gd5.lt, gd8.lt]
        show [] ++ ([] ++ (ls5 ++ (ls8 ++ []))) = _
        rw [List.append_nil]
        rfl
    · exact termW _ B1 g1 w1

/-! ### _law_book -/
/-- a book that is good -/
structure GdE (hF : Str → Option Nat) (e : Er) : Prop where
  w : isW e.1 = true
  ws : ∀ x ∈ e.2.1, isW x = true
  n4 : e.2.1.length ≤ 4
  ok : okT e.2.2
  cn : cnt e.2.2 ≤ 40
  dp : HtLe 13 e.2.2
  hf : hF e.1 = some e.2.1.length
  sc : okS hF e.2.2 e.2.1
  un : (e.2.1 ++ letsOf e.2.2).Nodup
structure GdB (es : List Er) : Prop where
  len : 1 ≤ es.length ∧ es.length ≤ 6
  nd : (es.map (·.1)).Nodup
  er : ∃ hF : Str → Option Nat, (∀ e ∈ es, GdE hF e) ∧ ∀ f n, hF f = some n → f ∈ es.map (·.1)
def hFof (fs : List Str) (kvs : List (Key × V)) (f : Str) : Option Nat :=
  if f ∈ fs then (match valV kvs (Sum.inr f) with | some (.int n) => some n.toNat | _ => none) else none
theorem hFof_at {fs : List Str} {kvs : List (Key × V)} {f : Str} {n : Int} (h : f ∈ fs) (e : valV kvs (Sum.inr f) = some (.int n)) : hFof fs kvs f = some n.toNat := by
  unfold hFof
  rw [if_pos h, e]
theorem hFof_in {fs : List Str} {kvs : List (Key × V)} {f : Str} {n : Nat} (h : hFof fs kvs f = some n) : f ∈ fs := by
  unfold hFof at h
  by_cases c : f ∈ fs
  · exact c
  · rw [if_neg c] at h
    cases h
def spBook (K : PySem.W.Frag) : Sp := fun vs H Q _ => ∃ (sc : Addr) (ns : List Int) (start : Int), vs = [.ref sc, .int start] ∧ SqL K H sc (ns.map V.int) ∧ 0 ≤ start ∧ start ≤ 100 ∧ ∀ p es us H', Same H H' → BkAt H' es us p → GdB es → Q (.ref p) H'
abbrev s_law_book : Stmt := top 48
theorem scLbook : FnScope ["script", "start", "head", "errands", "heads", "f", "room", "found", "k", "tape", "words", "names", "known"] ["script", "start"] (defScope s_law_book) := ⟨rfl, rfl, rfl, by decide +kernel, rfl, by decide +kernel, by decide +kernel⟩
theorem merge_kn (el hd wl : Addr) : mergeK [] (knD el hd wl) = knD el hd wl := by
  have e1 : ¬ ((Sum.inr "errands" : Key) = (Sum.inr "heads" : Key)) := by decide +kernel
  have e2 : ¬ ((Sum.inr "errands" : Key) = (Sum.inr "words" : Key)) := by decide +kernel
  have e3 : ¬ ((Sum.inr "heads" : Key) = (Sum.inr "words" : Key)) := by decide +kernel
  unfold mergeK knD
  simp [putK, e1, e2, e3]
theorem cut_to {xs : List V} {i : Int} (h0 : 0 ≤ i) (h : i.toNat ≤ xs.length) : cutV xs none (some i) = xs.take i.toNat := by
  unfold cutV
  rw [sIx_no, sIx_at h0 h, List.drop_zero, Nat.sub_zero]
theorem ok_book (T : Txt K mg) {f fg ft fw fb : Addr} {fd gd td wd bd : FuncData} (F : Fun K "_law_book" "_law_book" s_law_book f fd) (G_law_digit : FnOk P w K mg base CX0 1 fg gd ["tape", "many"] spDig) (R_law_digit : Ref K mg "_law_digit" fg gd ["tape", "many"])
    (G_law_tape : FnOk P w K mg base CX0 2 ft td ["script", "k"] (spTape K)) (R_law_tape : Ref K mg "_law_tape" ft td ["script", "k"]) (G_law_words : FnOk P w K mg base CX0 2 fw wd ["tape", "many"] spWords) (R_law_words : Ref K mg "_law_words" fw wd ["tape", "many"])
    (G_law_body : FnOk P w K mg base CX0 29 fb bd ["tape", "known", "names", "room"] spBody) (R_law_body : Ref K mg "_law_body" fb bd ["tape", "known", "names", "room"]) : FnOk P w K mg base CX0 30 f fd ["script", "start"] (spBook K) := by
  refine F.ok scLbook (fun vs H Q E h => ?_) (fun cdv A outer s H vs Q E hr h => ?_)
  · obtain ⟨sc, ns, start, rfl, _⟩ := h
    rfl
  obtain ⟨sc, ns, start, rfl, hS, hst0, hst1, q⟩ := h
  refine ⟨_, (pss_cons (ps_set (i := 2) scLbook.nd rfl (Or.inl rfl) (pe_call G_law_tape (hr.mono (by omega)) rfl R_law_tape.m R_law_tape.k R_law_tape.b .nil pass0 (pa_cons (pv 0) (pa_cons (pv 1) pa_nil))))
    (pss_cons (ps_set (i := 3) scLbook.nd rfl (Or.inl rfl) (pe_call G_law_words (hr.mono (by omega)) rfl R_law_words.m R_law_words.k R_law_words.b .nil pass0 (pa_cons (pv 2) (pa_cons (pe_ix ix_list (pe_lst (pa_cons pe_int (pa_cons pe_int (pa_cons pe_int (pa_cons pe_int (pa_cons pe_int (pa_cons pe_int pa_nil))))))) (pe_call G_law_digit (hr.mono (by omega)) rfl R_law_digit.m R_law_digit.k R_law_digit.b .nil pass0 (pa_cons (pv 2) (pa_cons pe_int pa_nil))) (fun _ _ => rfl)) pa_nil))))
    (pss_cons (ps_set (i := 4) scLbook.nd rfl (Or.inl rfl) pe_dnewK)
    (pss_cons (ps_for PassesOwn.never rfl (pi_list (pv 3)) (pg_name (i := 5) scLbook.nd rfl (Or.inl rfl)) (pss_one (ps_dput (hu_of hr) (pv 4) (pv 5) (pe_ix ix_list (pe_lst (pa_cons pe_int (pa_cons pe_int (pa_cons pe_int (pa_cons pe_int (pa_cons pe_int (pa_cons pe_int pa_nil))))))) (pe_call G_law_digit (hr.mono (by omega)) rfl R_law_digit.m R_law_digit.k R_law_digit.b .nil pass0 (pa_cons (pv 2) (pa_cons pe_int pa_nil))) (fun _ _ => rfl)) rfl)))
    (pss_cons (ps_set (i := 6) scLbook.nd rfl (Or.inl rfl) (pe_ix ix_list (pe_lst (pa_cons pe_int (pa_cons pe_int (pa_cons pe_int (pa_cons pe_int pa_nil))))) (pe_call G_law_digit (hr.mono (by omega)) rfl R_law_digit.m R_law_digit.k R_law_digit.b .nil pass0 (pa_cons (pv 2) (pa_cons pe_int pa_nil))) (fun _ _ => rfl)))
    (pss_cons (ps_set (i := 7) scLbook.nd rfl (Or.inl rfl) (pe_lst pa_nil))
    (pss_cons (ps_for PassesOwn.never rfl (pi_range1 rfl T.m_range (pa_cons (pe_callB call_len_seq (by rfl) T.m_len PySem.boot_len (pa_cons (pv 3) pa_nil)) pa_nil)) (pg_name (i := 8) scLbook.nd rfl (Or.inl rfl)) (pss_cons (ps_set (i := 9) scLbook.nd rfl (Or.inl rfl) (pe_call G_law_tape (hr.mono (by omega)) rfl R_law_tape.m R_law_tape.k R_law_tape.b .nil pass0 (pa_cons (pv 0) (pa_cons (pe_op op_add (pe_op op_add (pv 1) pe_int) (pv 8)) pa_nil))))
    (pss_cons (ps_set (i := 10) scLbook.nd rfl (Or.inl rfl) (pe_call G_law_words (hr.mono (by omega)) rfl R_law_words.m R_law_words.k R_law_words.b .nil pass0 (pa_cons (pv 9) (pa_cons pe_int pa_nil))))
    (pss_cons (ps_set (i := 11) scLbook.nd rfl (Or.inl rfl) (pe_slice sl_list (pv 10) po_none (po_some (pe_dget (hu_of hr) (pv 4) (pe_ix ix_list (pv 3) (pv 8) (fun _ _ => rfl)) (fun _ _ => rfl)))))
    (pss_cons (ps_set (i := 12) scLbook.nd rfl (Or.inl rfl) (pe_disp (pps_cons pe_str (pv 3) (pps_cons pe_str (pv 4) (pps_cons pe_str (pe_slice sl_list (pv 10) (po_some (pe_callB call_len_seq (by rfl) T.m_len PySem.boot_len (pa_cons (pv 11) pa_nil))) po_none) pps_nil))) (by rfl) (by rfl) (fun z => by cases z) (by decide)))
    (pss_one (ps_expr (pe_bm PySem.F.plainAttrs_list PySem.F.slot_list_append PySem.F.type_list_append mt_append (pv 7) (pa_cons (pe_tup (pa_cons (pe_ix ix_list (pv 3) (pv 8) (fun _ _ => rfl)) (pa_cons (pe_callTy call_tuple_of (by rfl) T.m_tuple (by decide +kernel) (pa_cons (pv 11) pa_nil)) (pa_cons (pe_call G_law_body hr rfl R_law_body.m R_law_body.k R_law_body.b .nil pass0 (pa_cons (pv 9) (pa_cons (pv 12) (pa_cons (pv 11) (pa_cons (pv 6) pa_nil))))) pa_nil)))) pa_nil)))))))))
    (pss_one (ps_ret (pe_callTy call_tuple_of (by rfl) T.m_tuple (by decide +kernel) (pa_cons (pv 7) pa_nil))))))))))), ?_⟩
  refine ⟨_, rfl, _, rfl, sc, ns, start, rfl, hS, hst0, by omega, fun hp z0 hhp => ?_⟩
  have s1 := same_new hhp (.lst [.int z0])
  have t1 : Tp (upd H hp (.lst [.int z0])) hp := ⟨z0, upd_same⟩
  -- errands
  refine ⟨_, rfl, sz (by show 6 ≤ 100000; decide), fun p2 hp2 => ?_⟩
  have s2 := same_new hp2 (.lst [.int 1, .int 2, .int 2, .int 3, .int 4, .int 6])
  have t2 := t1.same s2
  have n2 : p2 ≠ hp := (ne_of_none upd_same hp2).symm
  refine ⟨_, rfl, hp, 6, rfl, t2, by decide, by decide, fun r H3 r0 r1 b3 t3 => ?_⟩
  have hme : ∃ m : Int, atI [V.int 1, .int 2, .int 2, .int 3, .int 4, .int 6] r = some (.int m) ∧ 1 ≤ m ∧ m ≤ 6 := by
    obtain ⟨v, hv, hm⟩ := at_some (xs := [V.int 1, .int 2, .int 2, .int 3, .int 4, .int 6]) r0 r1
    simp only [List.mem_cons, List.not_mem_nil, or_false] at hm
    rcases hm with z | z | z | z | z | z <;> subst z <;> exact ⟨_, hv, by decide, by decide⟩
  obtain ⟨m, hma, hm1, hm6⟩ := hme
  refine ⟨p2, _, _, _, rfl, rfl, SqL.of (b3 _ _ n2 upd_same), hma, ?_⟩
  refine ⟨hp, m, rfl, t3, by omega, by omega, fun el fs H4 b4 t4 hel w4 hfl hnd => ?_⟩
  have sH3 : Same H H3 := fun b o h => b3 _ _ (ne_of_none h hhp) (s2 _ _ (s1 _ _ h))
  have sH4 : Same H H4 := fun b o h => b4 _ _ (ne_of_none h hhp) (sH3 _ _ h)
  -- heads
  intro hd hhd
  have s5 := same_new hhd (.dK [])
  have t5 := t4.same s5
  have w5 := w4.but (but_same s5) t4
  have hhd0 : H hd = none := by
    cases e : H hd with
    | none => rfl
    | some o =>
      rw [sH4 _ _ e] at hhd
      cases hhd
  have nhd : hd ≠ hp := by
    obtain ⟨z, hz⟩ := t4
    exact (ne_of_none hz hhd).symm
  have neh : el ≠ hd := ne_of_none w4.1 hhd
  have hlen6 : fs.length ≤ 6 := by omega
  have sH5 : Same H (upd H4 hd (.dK [])) := sH4.trans s5
  have h5d : upd H4 hd (.dK []) hd = some (.dK []) := upd_same
  generalize upd H4 hd (.dK []) = H5 at s5 t5 w5 sH5 h5d
  refine ⟨_, rfl, el, rfl, ⟨_, SqL.of w5.1⟩, for_list (K := K) (a := el) (xs := fs.map V.str) (fun i σ H' => ∃ o kvs, σ = [some (.ref sc), some (.int start), some (.ref hp), some (.ref el), some (.ref hd), o, none, none, none, none, none, none, none] ∧
    But2 hp hd H5 H' ∧ Tp H' hp ∧ H' hd = some (.dK kvs) ∧ kvs.length ≤ i ∧ ∀ f ∈ fs.take i, ∃ n : Int, valV kvs (Sum.inr f) = some (.int n) ∧ 0 ≤ n ∧ n ≤ 4) ?_ ?_ ?_ ?_⟩
  · refine ⟨none, [], rfl, But2.refl _ _ _, t5, h5d, Nat.le_refl _, fun f hf => ?_⟩
    rw [List.take_zero] at hf
    cases hf
  · rintro i σ H' _ ⟨o, kvs, rfl, b6, _⟩
    exact SqL.of (b6 _ _ (wls_tp w5.1 t5) neh w5.1)
  · rintro i x σ H6 hx ⟨o, kvs, rfl, b6, t6, h6, hkl, hkv⟩
    rw [List.getElem?_map] at hx
    obtain ⟨fn, hfn, rfl⟩ : ∃ fn, fs[i]? = some fn ∧ V.str fn = x := by
      cases e : fs[i]? with
      | none =>
        rw [e] at hx
        cases hx
      | some fn =>
        rw [e] at hx
        exact ⟨fn, rfl, Option.some.inj hx⟩
    obtain ⟨hi, hi2⟩ := List.getElem?_eq_some_iff.mp hfn
    refine ⟨sz (by show 6 ≤ 100000; decide), fun p7 hp7 => ?_⟩
    have s7 := same_new hp7 (.lst [.int 1, .int 2, .int 1, .int 0, .int 3, .int 4])
    have n7 : p7 ≠ hp := by
      obtain ⟨z, hz⟩ := t6
      exact (ne_of_none hz hp7).symm
    refine ⟨_, rfl, hp, 6, rfl, t6.same s7, by decide, by decide, fun r2 H8 r3 r4 b8 t8 => ?_⟩
    have hne : ∃ m : Int, atI [V.int 1, .int 2, .int 1, .int 0, .int 3, .int 4] r2 = some (.int m) ∧ 0 ≤ m ∧ m ≤ 4 := by
      obtain ⟨v, hv, hm⟩ := at_some (xs := [V.int 1, .int 2, .int 1, .int 0, .int 3, .int 4]) r3 r4
      simp only [List.mem_cons, List.not_mem_nil, or_false] at hm
      rcases hm with z | z | z | z | z | z <;> subst z <;> exact ⟨_, hv, by decide, by decide⟩
    obtain ⟨m2, hma2, hm20, hm24⟩ := hne
    have h8 : H8 hd = some (.dK kvs) := b8 _ _ nhd (s7 _ _ h6)
    refine ⟨p7, _, _, _, rfl, rfl, SqL.of (b8 _ _ n7 upd_same), hma2, _, rfl, _, rfl, hd, _, rfl, DPut.k (k := Sum.inr fn) h8 (Nat.lt_of_le_of_lt (m := 1000) (by omega) (by decide)), ?_⟩
    refine ⟨_, _, rfl, fun b o n1 n2 hb => ?_, ?_, upd_same, ?_, ?_⟩
    · rw [upd_ne n2]
      exact b8 _ _ n1 (s7 _ _ (b6 _ _ n1 n2 hb))
    · obtain ⟨z, hz⟩ := t8
      exact ⟨z, by rw [upd_ne nhd.symm]; exact hz⟩
    · have := length_putK kvs (Sum.inr fn) (V.int m2)
      omega
    · intro f' hf'
      rw [List.take_succ_eq_append_getElem hi, hi2] at hf'
      by_cases e : f' = fn
      · subst e
        exact ⟨m2, by rw [valV_put, if_pos rfl], hm20, hm24⟩
      · rcases List.mem_append.mp hf' with z | z
        · obtain ⟨n3, q1, q2, q3⟩ := hkv f' z
          refine ⟨n3, ?_, q2, q3⟩
          rw [valV_put, if_neg (fun y => e (Sum.inr.inj y))]
          exact q1
        · exact absurd (List.mem_singleton.mp z) e
  rintro σ H6 ⟨o5, kvs, rfl, b6, t6, h6, _, hkv⟩
  rw [List.length_map, List.take_length] at hkv
  have w6 : Wls H6 el fs := ⟨b6 _ _ (wls_tp w5.1 t5) neh w5.1, w5.2⟩
  have sH6 : Same H H6 := fun b o hb => b6 _ _ (ne_of_none hb hhp) (ne_of_none hb hhd0) (sH5 _ _ hb)
  -- room
  refine ⟨sz (by show 4 ≤ 100000; decide), fun p7 hp7 => ?_⟩
  have s7 := same_new hp7 (.lst [.int 8, .int 14, .int 24, .int 40])
  have n7 : p7 ≠ hp := by
    obtain ⟨z, hz⟩ := t6
    exact (ne_of_none hz hp7).symm
  refine ⟨_, rfl, hp, 4, rfl, t6.same s7, by decide, by decide, fun r2 H8 r3 r4 b8 t8 => ?_⟩
  have hre : ∃ m : Int, atI [V.int 8, .int 14, .int 24, .int 40] r2 = some (.int m) ∧ 8 ≤ m ∧ m ≤ 40 := by
    obtain ⟨v, hv, hm⟩ := at_some (xs := [V.int 8, .int 14, .int 24, .int 40]) r3 r4
    simp only [List.mem_cons, List.not_mem_nil, or_false] at hm
    rcases hm with z | z | z | z <;> subst z <;> exact ⟨_, hv, by decide, by decide⟩
  obtain ⟨room, hra, hr8, hr40⟩ := hre
  refine ⟨p7, _, _, _, rfl, rfl, SqL.of (b8 _ _ n7 upd_same), hra, ?_⟩
  have sH8 : Same H H8 := fun b o hb => b8 _ _ (ne_of_none hb hhp) (s7 _ _ (sH6 _ _ hb))
  have w8 : Wls H8 el fs := ⟨b8 _ _ (wls_tp w6.1 t6) (s7 _ _ w6.1), w6.2⟩
  have h8 : H8 hd = some (.dK kvs) := b8 _ _ nhd (s7 _ _ h6)
  have hS8 : SqL K H8 sc (ns.map V.int) := sH8.seq hS
  clear h6 w6 sH6 s7 b8 t8 hp7 b6 t6
  -- found
  refine ⟨sz (by show 0 ≤ 100000; decide), fun fl hflN => ?_⟩
  have s9 := same_new hflN (.lst [])
  refine ⟨_, rfl, el, _, rfl, .inl (SqL.of (s9 _ _ w8.1)), _, rfl, by omega, by rw [List.length_map]; omega, ?_⟩
  have hnl : (((fs.map V.str).length : Nat) : Int).toNat = fs.length := by
    rw [Int.toNat_natCast, List.length_map]
  refine for_range (lo := 0) (n := (((fs.map V.str).length : Nat) : Int).toNat) (fun i σ H' => ∃ o8 o9 o10 o11 o12 vs es, σ = [some (.ref sc), some (.int start), some (.ref hp), some (.ref el), some (.ref hd), o5, some (.int room), some (.ref fl), o8, o9, o10, o11, o12] ∧
    Same H8 H' ∧ H' fl = some (.lst vs) ∧ All2 (ErV H') es vs ∧ es.length = i ∧ es.map (·.1) = fs.take i ∧ ∀ e ∈ es, GdE (hFof fs kvs) e) ?_ ?_ ?_
  · exact ⟨_, _, _, _, _, [], [], rfl, s9, upd_same, trivial, rfl, rfl, fun _ z => nomatch z⟩
  · rintro i σ H' hi ⟨o8, o9, o10, o11, o12, vs, es, rfl, sA, hfA, kA, hel2, hnm, hgd⟩
    rw [hnl] at hi
    have hfi : fs[i]? = some fs[i] := List.getElem?_eq_getElem hi
    have hfm := List.getElem_mem hi
    generalize fs[i] = fn at hfi hfm
    have ei : (0 : Int) + (i : Nat) = ((i : Nat) : Int) := by omega
    have hat : atI (fs.map V.str) ((0 : Int) + (i : Nat)) = some (V.str fn) := by
      rw [ei]
      exact atI_nat (by rw [List.getElem?_map, hfi]; rfl)
    obtain ⟨nn, hnn, hn0, hn4⟩ := hkv fn hfm
    -- tape
    refine ⟨_, rfl, _, rfl, _, _, rfl, rfl, _, rfl, _, _, rfl, rfl, sc, ns, _, rfl, sA.seq hS8, by omega, by omega, fun tp z htp => ?_⟩
    have sB := same_new htp (.lst [.int z])
    have tB : Tp (upd H' tp (.lst [.int z])) tp := ⟨z, upd_same⟩
    refine ⟨_, rfl, tp, 16, rfl, tB, by decide, by decide, fun wp ws HC bC tC hwp wC hwl hwnd => ?_⟩
    have hwl16 : ws.length = 16 := by omega
    have sC : Same H' HC := fun b o hb => bC _ _ (ne_of_none hb htp) (sB _ _ hb)
    have wCe : Wls HC el fs := ⟨sC _ _ (sA _ _ w8.1), w8.2⟩
    have hCd : HC hd = some (.dK kvs) := sC _ _ (sA _ _ h8)
    -- names
    refine ⟨_, rfl, _, rfl, _, rfl, _, rfl, el, _, _, _, rfl, rfl, SqL.of wCe.1, hat, hd, _, rfl, get_of hCd hnn, _, rfl, wp, _, rfl, SqL.of wC.1, fun np hnp => ?_⟩
    have eN : cutV (ws.map V.str) none (some nn) = (ws.take nn.toNat).map V.str := by
      rw [cut_to hn0 (by rw [List.length_map]; omega), List.map_take]
    rw [eN]
    have sD := same_new hnp (.lst ((ws.take nn.toNat).map V.str))
    have hD : upd HC np (.lst ((ws.take nn.toNat).map V.str)) np = some (.lst ((ws.take nn.toNat).map V.str)) := upd_same
    have tD := tC.same sD
    generalize upd HC np (.lst ((ws.take nn.toNat).map V.str)) = HD at sD hD tD
    -- known
    intro kd hkd
    have sE := same_new hkd (.dK [])
    refine ⟨_, rfl, _, rfl, _, rfl, _, rfl, np, _, rfl, .inl (SqL.of (sE _ _ hD)), _, rfl, wp, _, rfl, SqL.of (sE _ _ (sD _ _ wC.1)), fun wl hwlN => ?_⟩
    have eW : cutV (ws.map V.str) (some ((((ws.take nn.toNat).map V.str).length : Nat) : Int)) none = (ws.drop nn.toNat).map V.str := by
      have e1 : ((ws.take nn.toNat).map V.str).length = nn.toNat := by
        rw [List.length_map, List.length_take]
        omega
      rw [e1, cut_from (by omega) (by rw [List.length_map]; omega), List.map_drop, Int.toNat_natCast]
    rw [eW]
    have sF := same_new hwlN (.lst ((ws.drop nn.toNat).map V.str))
    have hkF : upd (upd HD kd (.dK [])) wl (.lst ((ws.drop nn.toNat).map V.str)) kd = some (.dK []) := sF _ _ upd_same
    have hwF : upd (upd HD kd (.dK [])) wl (.lst ((ws.drop nn.toNat).map V.str)) wl = some (.lst ((ws.drop nn.toNat).map V.str)) := upd_same
    have nwk : wl ≠ kd := (ne_of_none upd_same hwlN).symm
    have nwn : np ≠ wl := ne_of_none (sE _ _ hD) hwlN
    have sDF := sE.trans sF
    have nwe : el ≠ wl := ne_of_none (sE _ _ (sD _ _ wCe.1)) hwlN
    have hwl0 : H' wl = none := by
      cases e : H' wl with
      | none => rfl
      | some o =>
        rw [sE _ _ (sD _ _ (sC _ _ e))] at hwlN
        cases hwlN
    generalize upd (upd HD kd (.dK [])) wl (.lst ((ws.drop nn.toNat).map V.str)) = HF at sDF hkF hwF
    refine ⟨hkF, knD el hd wl, rfl, by show 3 ≤ 15; decide, ?_⟩
    rw [merge_kn]
    have sG : Same HD (upd HF kd (.dK (knD el hd wl))) := fun b o hb => by
      have nb : b ≠ kd := ne_of_none hb hkd
      rw [upd_ne nb]
      exact sDF _ _ hb
    have hkG : upd HF kd (.dK (knD el hd wl)) kd = some (.dK (knD el hd wl)) := upd_same
    have hwG : upd HF kd (.dK (knD el hd wl)) wl = some (.lst ((ws.drop nn.toNat).map V.str)) := by
      rw [upd_ne nwk]
      exact hwF
    generalize upd HF kd (.dK (knD el hd wl)) = HG at sG hkG hwG
    have sCG := sD.trans sG
    have gG : GS HG tp kd wl (hFof fs kvs) (ws.drop nn.toNat) := ⟨tC.same sCG, ⟨hwG, fun x hx => wC.2 x (List.mem_of_mem_drop hx)⟩, by rw [List.length_drop]; omega,
      el, hd, fs, kvs, hkG, nwe, ⟨sCG _ _ wCe.1, wCe.2⟩, by omega, by omega, sCG _ _ hCd, fun f hf => let ⟨n, e1, e2, e3⟩ := hkv f hf; ⟨n, e1, e2, e3, hFof_at hf e1⟩⟩
    have wG : Wls HG np (ws.take nn.toNat) := ⟨sG _ _ hD, fun x hx => wC.2 x (List.mem_of_mem_take hx)⟩
    -- the errand
    refine ⟨_, rfl, .inl ⟨rfl, _, SqL.of (sCG _ _ (sC _ _ hfA))⟩, _, rfl, _, rfl, el, _, _, _, rfl, rfl, SqL.of (sCG _ _ wCe.1), hat, _, rfl, np, _, rfl, .inl ⟨SqL.of wG.1, fun tl htl => ?_⟩⟩
    have sH := same_new htl (.tup ((ws.take nn.toNat).map V.str))
    refine ⟨_, rfl, _, rfl, _, rfl, _, rfl, tp, kd, wl, np, hFof fs kvs, ws.drop nn.toNat, ws.take nn.toNat, room, rfl, gG.same sH, wG.but (but_same sH) gG.t, nwn, by rw [List.length_take]; omega, hr8, hr40, fun a t ls HI wsI bI eI gI gdI => ?_⟩
    refine ⟨sz (by show 3 ≤ 100000; decide), fun ep hep => ?_⟩
    have sJ := same_new hep (.tup [.str fn, .ref tl, .ref a])
    have tkI : TK (upd HG tl (.tup ((ws.take nn.toNat).map V.str))) HI := (gG.same sH).tk bI
    have sX : Same H' HI := fun b o hb => bI _ _ (ne_of_none hb htp) (ne_of_none hb hwl0) (sH _ _ (sCG _ _ (sC _ _ hb)))
    have sXJ := sX.trans sJ
    have hfJ := sXJ _ _ hfA
    have hvl := kA.len
    refine ⟨fl, _, _, rfl, rfl, hfJ, Nat.lt_of_le_of_lt (m := 1000) (by omega) (by decide), ?_⟩
    have tkJ := (tk_same sXJ).trans (tk_put (o := .lst (vs ++ [.ref ep])) hfJ)
    have tkP := tk_put (o := .lst (vs ++ [.ref ep])) hfJ
    refine ⟨_, _, _, _, _, vs ++ [.ref ep], es ++ [(fn, ws.take nn.toNat, t)], rfl, same_mut (sA.trans sXJ) hflN, upd_same, ?_, ?_, ?_, ?_⟩
    · refine (kA.imp fun _ _ z => z.tk tkJ).app ⟨⟨ep, tl, a, rfl, tkP _ _ upd_same, tkP _ _ (sJ _ _ (tkI _ _ upd_same)), (gdI.at_.mono sJ).tk tkP⟩, trivial⟩
    · rw [List.length_append, hel2]
      rfl
    · rw [List.map_append, hnm, List.take_succ_eq_append_getElem hi]
      have e : fs[i] = fn := by
        rw [List.getElem?_eq_getElem hi] at hfi
        exact Option.some.inj hfi
      rw [e]
      rfl
    · intro e he
      rcases List.mem_append.mp he with z | z
      · exact hgd e z
      · rw [List.mem_singleton.mp z]
        have etk : (ws.take nn.toNat).length = nn.toNat := by
          rw [List.length_take]
          omega
        refine ⟨w8.2 fn hfm, fun x hx => wC.2 x (List.mem_of_mem_take hx), by show (ws.take nn.toNat).length ≤ 4; omega, gdI.ok, ?_, gdI.dp, ?_, gdI.sc, ?_⟩
        · have := gdI.cn
          show cnt t ≤ 40
          omega
        · show hFof fs kvs fn = some (ws.take nn.toNat).length
          rw [etk]
          exact hFof_at hfm hnn
        · show (ws.take nn.toNat ++ letsOf t).Nodup
          rw [gdI.lt]
          have e9 : ws = ws.take nn.toNat ++ (wsI ++ ls.reverse) := by rw [← eI, List.take_append_drop]
          rw [e9] at hwnd
          rw [List.nodup_append] at hwnd ⊢
          obtain ⟨n1, n2, n3⟩ := hwnd
          refine ⟨n1, ?_, fun a ha b hb => n3 a ha b (List.mem_append_right _ (List.mem_reverse.mpr hb))⟩
          have n4 := (List.nodup_append.mp n2).2.1
          exact (List.reverse_perm ls).nodup_iff.mp n4
  · rintro σ H' ⟨o8, o9, o10, o11, o12, vs, es, rfl, sA, hfA, kA, hel2, hnm, hgd⟩
    rw [hnl] at hel2 hnm
    rw [List.take_length] at hnm
    refine ⟨_, rfl, fl, _, rfl, .inl ⟨SqL.of hfA, fun p hp9 => ?_⟩⟩
    have sK := same_new hp9 (.tup vs)
    refine q p es vs _ ((sH8.trans sA).trans sK) ⟨upd_same, kA.imp fun _ _ z => z.tk (tk_same sK)⟩ ⟨by omega, by rw [hnm]; exact hnd, _, hgd, fun f n hf => by rw [hnm]; exact hFof_in hf⟩
end
end KB

namespace KB
open PySem L2 HT

/-! ### del xs[a:] -/
theorem filt_take {α : Type} (sel : Nat → Bool) (a : Nat) : ∀ (xs : List α) (j : Nat), (∀ k, j ≤ k → k < j + xs.length → sel k = decide (a ≤ k)) →
    (xs.zipIdx j).filterMap (fun p => if sel p.2 = true then none else some p.1) = xs.take (a - j)
  | [], _, _ => by simp
  | x :: r, j, h => by
    have h0 := h j (Nat.le_refl _) (by rw [List.length_cons]; omega)
    have ih := filt_take sel a r (j + 1) fun k h1 h2 => h k (by omega) (by rw [List.length_cons]; omega)
    rw [List.zipIdx_cons, List.filterMap_cons]
    by_cases c : a ≤ j
    · rw [decide_eq_true c] at h0
      simp only [h0, if_true]
      rw [ih]
      have e1 : a - j = 0 := by omega
      have e2 : a - (j + 1) = 0 := by omega
      rw [e1, e2]
      rfl
    · rw [decide_eq_false c] at h0
      simp only [h0]
      rw [ih]
      have e1 : a - j = (a - (j + 1)) + 1 := by omega
      rw [e1]
      rfl
theorem bounds_from {a n : Nat} (h : a ≤ n) : sliceBounds (some (a : Int)) none none n = ((a : Int), (n : Int), 1) := by
  simp only [sliceBounds, Option.getD_none]
  have h1 : ¬ ((a : Int) < 0) := by omega
  simp only [h1, if_false, show (1 : Int) > 0 by decide, if_true]
  congr 1
  omega
section
variable {prog : Program} {w : World} {A : Around} {E : Value → Shared → Prop} {s : Shared}
theorem delItem_from {l sl : Addr} {items : Array Value} {n : Nat} {vl : Value} {a : Nat} {Q : Unit → Shared → Prop}
    (e : s.heap.get? l = some { cls := .type "list", data := .seq items n }) (hs : s.heap.IsSliceOf sl vl .none .none) (pl : IsPart vl (some (a : Int))) (ha : a ≤ items.size)
    (hsz : items.size ≤ sizeLine) (h : ∀ g : Array Value → Array Value, g items = (items.toList.take a).toArray → Q () { s with heap := s.heap.update l (Obj.mapSeq g) }) :
    wpAny (model prog w) A (delItem (.ref l) (.ref sl)) Q E s := by
  have hl : s.heap.IsList l items := PySem.IsL.isList e
  obtain ⟨os, hos, hcs, hds⟩ := id hs
  have hTs : s.TypeIs (.ref sl) "slice" := ⟨os, hos, hcs⟩
  have hstep : ¬ ((rawPart none == rawInt 0) = true) := Bool.false_ne_true
  refine wpAny_delItem_slot hl.typeIs (by decide) F.slot_list_delitem (wpAny_call_entry F.slot_list_delitem hl.typeIs F.entry_list_delitem ?_ (F.args_list_delitem_2 _ _))
  show wpAny _ _ (Builtin.List.listSubscript? (.ref sl) >>= _) _ _ s
  refine wpAny_bind ?_
  unfold Builtin.List.listSubscript?
  refine wpAny_bind (wpAny_specialOf hTs slice_no_index ?_)
  simp only [Option.isNone_none, if_true]
  refine wpAny_pure ?_
  show wpAny _ _ (typeOf (.ref sl) >>= _) _ _ s
  refine wpAny_bind (wpAny_typeOf hTs ?_)
  first
    | rw [if_neg (by decide)]
    | refine PySem.W.KFB.if_not (by decide) ?_
  rw [listSliceParts_eq]
  refine wpAny_bind (wpAny_bind (wpAny_field hos hds (x := .none) rfl (wpAny_bind (wpAny_listPart .none ?_))))
  rw [if_neg hstep]
  refine wpAny_bind (wpAny_field hos hds (x := vl) rfl (wpAny_bind (wpAny_listPart pl ?_)))
  refine wpAny_bind (wpAny_field hos hds (x := .none) rfl (wpAny_bind (wpAny_listPart .none (wpAny_pure ?_))))
  unfold Builtin.List.listItems
  refine wpAny_bind (wpAny_bind (wpAny_seqItems e rfl (wpAny_pure ?_)))
  refine wpAny_bind (wpAny_of_eq ((sliceIndices_raw (some (a : Int)) none none items.size (by simp)).trans (congrArg (pure : Int × Int × Int → Sem (Int × Int × Int)) (bounds_from ha))) ?_)
  refine wpAny_bind (wpAny_rule ?_)
  show wpAny _ _ (updateSeq l _ >>= _) _ _ s
  have hsel : ∀ (sel : Nat → Bool), (∀ k : Nat, sel k = (((a : Int) ≤ (k : Int)) && ((k : Int) < (items.size : Int)) && (((k : Int) - (a : Int)) % 1 == 0))) →
      (List.filterMap (fun p => if sel p.2 = true then none else some p.1) items.toList.zipIdx).toArray = (items.toList.take a).toArray := by
    intro sel hk
    congr 1
    refine filt_take sel a items.toList 0 fun k _ h2 => ?_
    rw [hk k]
    have h3 : (k : Int) < (items.size : Int) := by
      rw [Array.length_toList] at h2
      omega
    have h4 : (((k : Int) - (a : Int)) % 1 == 0) = true := by
      rw [Int.emod_one]
      rfl
    rw [h4, decide_eq_true h3, Bool.and_true, Bool.and_true]
    by_cases c : a ≤ k
    · rw [decide_eq_true c, decide_eq_true (by omega)]
    · rw [decide_eq_false c, decide_eq_false (by omega)]
  refine wpAny_bind (wpAny_updateSeq (hz := hsz) (_hz' := ?sz) e rfl ?_)
  case sz =>
    refine Nat.le_trans (Nat.le_of_eq (congrArg Array.size (hsel _ fun k => rfl))) ?_
    rw [List.size_toArray, List.length_take]
    omega
  refine wpAny_bind (wpAny_letGo ?_)
  exact wpAny_pure ⟨.none, rfl, h _ (hsel _ fun k => rfl)⟩
end
section
variable {X : Cx} {pos : Pos}
/-- del xs[a:] -/
def tDelFrom (to ti : TE) : TS := fun D σ H => to σ H fun x H1 => tPart ti σ H1 fun o H2 => ∃ (l : Addr) (xs : List V) (a : Nat), x = .ref l ∧ o = some (a : Int) ∧ H2 l = some (.lst xs) ∧ a ≤ xs.length ∧ D.nx σ (upd H2 l (.lst (xs.take a)))
theorem ps_delFrom {o lo : Expr} {to ti : TE} {spos tpos : Pos} (ho : PE X o to) (hi : PE X lo ti) : PS X (.Delete [.Subscript o (.Slice (some lo) none none spos) tpos] pos) (tDelFrom to ti) := by
  refine ⟨fun pins s σ H D I h => ?_⟩
  refine wpAny_Delete (wpAny_deleteEach_cons (wpAny_delete_Subscript (thn (ho.run pins s σ H _ I h) fun u s1 ⟨x, H1, I1, rx, q1⟩ => ?_)))
  refine wpAny_Slice (thn ((po_some hi).run pins s1 σ H1 _ I1 q1) fun vl s2 ⟨l', H2, I2, pl, q2⟩ => thn (po_none.run pins s2 σ H2 (fun o H3 => o = none ∧ H3 = H2) I2 ⟨rfl, rfl⟩) fun vu s3 ⟨u', H3, I3, pu, eu, eH⟩ => ?_)
  subst eu eH
  rw [evalPart_none]
  refine wpAny_pure ?_
  obtain ⟨l, xs, a, ex, eo, hH, ha, q⟩ := q2
  subst ex eo
  cases (show u = Value.ref l from rx)
  have hvu : vu = Value.none := by
    cases pu
    rfl
  subst hvu
  have I4 : Inv X pins σ H3 { s3 with heap := s3.heap.push { cls := .type "slice", data := .fields #[vl, .none, .none] } } := I3.kept (t' := s3.toks) fun b ob q => Heap.get?_push_of_some _ q
  obtain ⟨z, its, n, r, hl, e⟩ := I4.lstM hH
  refine delItem_from (a := a) e (Heap.IsSliceOf.new ..) pl (by rw [List.size_toArray, ← hl]; exact ha) (by rw [List.size_toArray, ← hl]; exact z) fun g hg => ?_
  refine wpAny_deleteEach_nil ⟨σ, _, I4.lset (its' := its.take a) (t' := s3.toks) hH e hg (r.take a) ?_, q⟩
  rw [List.length_take]
  omega
end
end KB

namespace KB
open PySem L2 HT

def kidsT : Tm → List Tm | .mk _ _ k => List.ofFn k
def hdT : Tm → Hd | .mk h _ _ => h
def lazyH : Hd → Bool | .lett _ | .iff => true | _ => false
def firstT (t : Tm) : List Tm := if lazyH (hdT t) = true then (kidsT t).take 1 else kidsT t
def restT (t : Tm) : List Tm := if lazyH (hdT t) = true then (kidsT t).drop 1 else []
def noT : Tm := mkL .plus []
def kid (t : Tm) (i : Nat) : Tm := ((kidsT t)[i]?).getD noT
theorem kids_len {h : Hd} {n : Nat} {k : _root_.Fin n → Tm} : (kidsT (.mk h n k)).length = n := List.length_ofFn
theorem kid_eq {t : Tm} {i : Nat} (h : i < (kidsT t).length) : (kidsT t)[i]? = some (kid t i) := by
  unfold kid
  rw [List.getElem?_eq_getElem h]
  rfl
end KB

namespace HT
open PySem PySem.Spec PyProof.Rows
section
variable {prog : Program} {w : World} {A : Around} {E : Value → Shared → Prop} {s : Shared}
theorem sliceApplied_rev {sl : Addr} {vk : Value} {n : Nat} {Q : Int × Int × Nat → Shared → Prop} (hs : s.heap.IsSliceOf sl .none .none vk) (pk : IsPart vk (some (-1)))
    (h : Q ((n : Int) - 1, -1, n) s) : wpAny (model prog w) A (Builtin.Slice.sliceApplied (.ref sl) (pure (n : Int))) Q E s := by
  obtain ⟨os, hos, hcs, hds⟩ := id hs
  unfold Builtin.Slice.sliceApplied Builtin.Slice.sliceFields
  refine wpAny_bind (wpAny_bind (wpAny_field hos hds (x := .none) rfl (wpAny_bind (wpAny_field hos hds (x := .none) rfl (wpAny_bind (wpAny_field hos hds (x := vk) rfl (wpAny_pure ?_)))))))
  refine wpAny_bind (slicePart_ pk ?_)
  show wpAny _ _ (if ((-1 : Int) == 0) = true then _ else _) _ _ s
  rw [if_neg (by decide)]
  refine wpAny_bind (slicePart_none (wpAny_bind (slicePart_none (wpAny_bind (wpAny_pure ?_)))))
  show wpAny _ _ (pure ((n : Int) - 1, (-1 : Int), Builtin.Slice.slicePlaces ((n : Int) - 1) (-1) (-1))) _ _ s
  have e : Builtin.Slice.slicePlaces ((n : Int) - 1) (-1) (-1) = n := by
    unfold Builtin.Slice.slicePlaces
    have h1 : ¬ ((-1 : Int) > 0) := by omega
    have h2 : (-(-1) : Int) = 1 := by decide
    simp only [h1, if_false, h2, Int.ediv_one]
    split <;> omega
  rw [e]
  exact wpAny_pure h
theorem pick_rev (xs : Array Value) : ((List.range xs.size).filterMap fun (m : Nat) => xs[(((xs.size : Nat) : Int) - 1 + (m : Int) * (-1)).toNat]?).toArray = xs.toList.reverse.toArray := by
  have e : (fun (m : Nat) => xs[(((xs.size : Nat) : Int) - 1 + (m : Int) * (-1)).toNat]?) = fun m => xs[xs.size - 1 - m]? := by
    funext m
    have : (((xs.size : Nat) : Int) - 1 + (m : Int) * (-1)).toNat = xs.size - 1 - m := by omega
    rw [this]
  rw [e]
  have h := PySem.W.krv_range xs.size
  have e2 : (List.range xs.size).filterMap (fun m => xs[xs.size - 1 - m]?) = ((List.range xs.size).map fun k => xs.size - 1 - k).filterMap (xs[·]?) := by
    rw [List.filterMap_map]
    rfl
  rw [e2, h, List.filterMap_reverse, PySem.W.krv_all]
theorem getItem_tuple_rev {t sl : Addr} {items : Array Value} {vk : Value} {Q : Value → Shared → Prop} (ht : IsTup s.heap t items) (hs : s.heap.IsSliceOf sl .none .none vk) (pk : IsPart vk (some (-1)))
    (h : Q (.ref s.heap.objs.size) { s with heap := s.heap.push { cls := .type "tuple", data := .seq (items.toList.reverse).toArray } })
    (hsz : items.size ≤ sizeLine) : wpAny (model prog w) A (getItem (.ref t) (.ref sl)) Q E s := by
  have htake : sizeOk (.seq (items.toList.reverse).toArray) := by
    show (items.toList.reverse).toArray.size ≤ sizeLine
    rw [List.size_toArray, List.length_reverse, Array.length_toList]
    omega
  obtain ⟨os, hos, hcs, hds⟩ := id hs
  have hTs : s.TypeIs (.ref sl) "slice" := ⟨os, hos, hcs⟩
  unfold getItem
  try with_reducible refine wpAny_holding ?_
  first | refine wpAny_bind (wpAny_pure ?_) | skip
  refine wpAny_bind (wpAny_sequenceKey ht.typeIs (by decide) ?_)
  refine wpAny_bind (wpAny_callSpecial?_slot (name := Str.ofString "__getitem__") ht.typeIs PyProof.Rows.slot_tuple_getitem
    (wpAny_call_entry PyProof.Rows.slot_tuple_getitem ht.typeIs entry_tuple_getitem ?_ (args_tuple_getitem _ _)))
  show wpAny _ _ (Builtin.Tuple.tupleItemsOf (.ref t) >>= _) _ _ s
  refine wpAny_bind (tupleItemsOf_ ht ?_)
  refine wpAny_bind (wpAny_typeOf hTs ?_)
  rw [if_pos (by decide)]
  refine wpAny_bind (sliceApplied_rev hs pk ?_)
  have hno : ¬ ((((((items.size : Nat) : Int) - 1) == 0 && (-1 : Int) == 1 && items.size == items.size)) = true) := by
    intro q
    rw [Bool.and_eq_true, Bool.and_eq_true] at q
    exact absurd (eq_of_beq q.1.2) (by decide)
  show wpAny _ _ (if ((((items.size : Nat) : Int) - 1) == 0 && (-1 : Int) == 1 && items.size == items.size) = true then _ else _) _ _ s
  rw [if_neg hno, pick_rev]
  first
    | exact wpAny_bind (m := Builtin.Tuple.tupleExact _) (wpAny_newObj_type (wpAny_pure ⟨_, rfl, wpAny_pure h⟩) htake)
    | exact wpAny_bind (m := Builtin.Tuple.tupleExact _) (wpAny_newObj_type (wpAny_bind (wpAny_pure (wpAny_pure ⟨_, rfl, wpAny_pure h⟩))) htake)
    | exact wpAny_bind (wpAny_bind (m := Builtin.Tuple.tupleExact _) (wpAny_newObj_type (wpAny_pure (wpAny_pure ⟨_, rfl, wpAny_pure h⟩)) htake))
    | exact wpAny_bind (wpAny_bind (m := Builtin.Tuple.tupleExact _) (wpAny_newObj_type (wpAny_pure ⟨_, rfl, wpAny_pure h⟩) htake))
end
end HT

namespace KB
open PySem PySem.Spec PyProof.Rows L2
/-- t[::-1] of a tuple -/
def tRevT (K : PySem.W.Frag) (te : TE) (tk : TO) : TE := fun σ H Q => te σ H fun x H1 => tk σ H1 fun k H2 => k = some (-1) ∧ ∃ a xs, x = .ref a ∧ SqT K H2 a xs ∧ ∀ p, H2 p = none → Q (.ref p) (upd H2 p (.tup xs.reverse))
theorem pe_revT {X : Cx} {e : Expr} {te : TE} {st : Option Expr} {tk : TO} {pos p2 : Pos} (he : PE X e te) (hk : PO X st tk) (hs : ∀ a c : Addr, subscripted (.Slice none none st p2) false (.ref a) (.ref c) = operate [.ref a, .ref c] (getItem (.ref a) (.ref c)) := by intro _ _; rfl) : PE X (.Subscript e (.Slice none none st p2) pos) (tRevT X.K te tk) := by
  refine ⟨fun pins s σ H Q I h => ?_⟩
  refine Subscript_ (thn (he.run pins s σ H _ I h) fun v s1 ⟨x, H1, I1, r1, q1⟩ => ?_)
  refine wpAny_Slice (thn ((po_none (X := X)).run pins s1 σ H1 (fun l H' => l = none ∧ H' = H1) I1 ⟨rfl, rfl⟩) fun vl s2 ⟨l, H2, I2, pl, q2⟩ => thn ((po_none (X := X)).run pins s2 σ H2 (fun l H' => l = none ∧ H' = H1) I2 ⟨rfl, q2.2⟩) fun vu s3 ⟨u, H3, I3, pu, q3⟩ => ?_)
  obtain ⟨rfl, e2⟩ := q2
  obtain ⟨rfl, e3⟩ := q3
  subst e3
  cases pl
  cases pu
  refine thn (hk.run pins s3 σ H3 _ I3 q1) fun vk s4 ⟨k, H4, I4, pk, q4⟩ => ?_
  obtain ⟨rfl, a, xs, rfl, hx, q⟩ := q4
  have I5 : Inv X pins σ H4 { s4 with heap := s4.heap.push { cls := .type "slice", data := .fields #[.none, .none, vk] } } := I4.kept (t' := s4.toks) fun b ob q => Heap.get?_push_of_some _ q
  cases r1
  obtain ⟨its, r, ht, hz⟩ := I5.tuple hx
  have hlen : its.toArray.size = xs.length := by rw [List.size_toArray]; exact r.length.symm
  refine tail_any (T := "tuple") (ops := [.ref a, .ref s4.heap.objs.size]) ht.typeIs PyProof.Rows.slot_tuple_getitem.lookup ?_ (hs _ _)
  refine HT.getItem_tuple_rev ht (Heap.IsSliceOf.new ..) pk ?_ (by rw [hlen]; exact hz)
  refine ⟨.ref _, _, I5.laid (t' := s4.toks) (o := .tup xs.reverse) (fun b ob q => Heap.get?_push_of_some _ q) (Nat.le_refl _) ?_, rfl, q _ (I5.hok.fresh (Nat.le_refl _))⟩
  refine ⟨by rw [List.length_reverse]; exact hz, _, ?_, IsTup.new _ _⟩
  show Vals xs.reverse its.toArray.toList.reverse
  exact r.reverse
end KB

namespace KB
open PySem L2

/-! ### parts of turned books as data -/
inductive Pt
  | give (j : Str) (t : Tm)
  | ask (f : Str) (ts : List Tm) (j : Str)
  | tell (x : Str) (t : Tm) (p : Pt)
  | lett (x : Str) (t : Tm) (p : Pt)
  | iff (t : Tm) (p q : Pt)
  | post (j x : Str) (p q : Pt)
def RefV (H : Hp) (t : Tm) (v : V) : Prop := ∃ b, v = .ref b ∧ At H t b
def PAt (H : Hp) : Pt → Addr → Prop
  | .give j t, a => ∃ b, H a = some (.tup [.str "give", .str j, .ref b]) ∧ At H t b
  | .ask f ts j, a => ∃ q vs, H a = some (.tup [.str "ask", .str f, .ref q, .str j]) ∧ H q = some (.tup vs) ∧ All2 (RefV H) ts vs
  | .tell x t p, a => ∃ b c, H a = some (.tup [.str "tell", .str x, .ref b, .ref c]) ∧ At H t b ∧ PAt H p c
  | .lett x t p, a => ∃ b c, H a = some (.tup [.str "let", .str x, .ref b, .ref c]) ∧ At H t b ∧ PAt H p c
  | .iff t p q, a => ∃ b c d, H a = some (.tup [.str "if", .ref b, .ref c, .ref d]) ∧ At H t b ∧ PAt H p c ∧ PAt H q d
  | .post j x p q, a => ∃ c d, H a = some (.tup [.str "post", .str j, .str x, .ref c, .ref d]) ∧ PAt H p c ∧ PAt H q d
theorem RefV.tk {H H' : Hp} (k : TK H H') {t : Tm} {v : V} (h : RefV H t v) : RefV H' t v := let ⟨b, e, g⟩ := h; ⟨b, e, g.tk k⟩
theorem PAt.tk {H H' : Hp} (k : TK H H') : ∀ {p : Pt} {a : Addr}, PAt H p a → PAt H' p a
  | .give j t, a, ⟨b, h1, h2⟩ => ⟨b, k _ _ h1, h2.tk k⟩
  | .ask f ts j, a, ⟨q, vs, h1, h2, h3⟩ => ⟨q, vs, k _ _ h1, k _ _ h2, h3.imp fun _ _ z => z.tk k⟩
  | .tell x t p, a, ⟨b, c, h1, h2, h3⟩ => ⟨b, c, k _ _ h1, h2.tk k, PAt.tk k h3⟩
  | .lett x t p, a, ⟨b, c, h1, h2, h3⟩ => ⟨b, c, k _ _ h1, h2.tk k, PAt.tk k h3⟩
  | .iff t p q, a, ⟨b, c, d, h1, h2, h3, h4⟩ => ⟨b, c, d, k _ _ h1, h2.tk k, PAt.tk k h3, PAt.tk k h4⟩
  | .post j x p q, a, ⟨c, d, h1, h2, h3⟩ => ⟨c, d, k _ _ h1, PAt.tk k h2, PAt.tk k h3⟩
def pcnt : Pt → Nat
  | .give _ _ => 1
  | .ask _ _ _ => 1
  | .tell _ _ p => 1 + pcnt p
  | .lett _ _ p => 1 + pcnt p
  | .iff _ p q => 1 + pcnt p + pcnt q
  | .post _ _ p q => 1 + pcnt p + pcnt q
/-! ### trees, whatever they are made of -/
def plL {N : Type} (pl : N → List (List Int × N)) : Nat → List N → List (List Int × N)
  | _, [] => []
  | j, t :: ts => (pl t).map (fun e => ((j : Int) :: e.1, e.2)) ++ plL pl (j + 1) ts
structure Tre (N : Type) where
  kids : N → List N
  sz : N → Nat
  pl : N → List (List Int × N)
  A : Hp → N → Addr → Prop
  tk : ∀ {H H' : Hp} {n : N} {a : Addr}, TK H H' → A H n a → A H' n a
  szk : ∀ n, sz n = 1 + ((kids n).map sz).sum
  plk : ∀ n, pl n = ([], n) :: plL pl 0 (kids n)
namespace Tre
variable {N : Type} (R : Tre N)
def V (H : Hp) (n : N) (v : L2.V) : Prop := ∃ b, v = .ref b ∧ R.A H n b
def szs (ns : List N) : Nat := (ns.map R.sz).sum
def pre (n : N) : List N := (R.pl n).map (·.2)
def pres (ns : List N) : List N := (ns.map R.pre).flatten
theorem V.tk {R : Tre N} {H H' : Hp} (e : TK H H') {n : N} {v : L2.V} (h : R.V H n v) : R.V H' n v := let ⟨b, e1, h1⟩ := h; ⟨b, e1, R.tk e h1⟩
theorem szs_cons (n : N) (r : List N) : R.szs (n :: r) = R.sz n + R.szs r := rfl
theorem szs_app (a b : List N) : R.szs (a ++ b) = R.szs a + R.szs b := by
  unfold szs
  rw [List.map_append, List.sum_append]
theorem pos (n : N) : 1 ≤ R.sz n := by
  rw [R.szk]
  omega
theorem len_szs : ∀ ns : List N, ns.length ≤ R.szs ns
  | [] => Nat.le_refl _
  | n :: r => by
    have h1 := R.pos n
    have h2 := len_szs r
    rw [R.szs_cons, List.length_cons]
    omega
theorem pres_cons (n : N) (r : List N) : R.pres (n :: r) = R.pre n ++ R.pres r := rfl
theorem pres_app (a b : List N) : R.pres (a ++ b) = R.pres a ++ R.pres b := by
  unfold pres
  rw [List.map_append, List.flatten_append]
theorem plL_snd : ∀ (ns : List N) (j : Nat), (plL R.pl j ns).map (·.2) = R.pres ns
  | [], _ => rfl
  | n :: r, j => by
    show ((R.pl n).map (fun e => ((j : Int) :: e.1, e.2)) ++ plL R.pl (j + 1) r).map (·.2) = R.pre n ++ R.pres r
    rw [List.map_append, plL_snd r, List.map_map]
    rfl
theorem pre_mk (n : N) : R.pre n = n :: R.pres (R.kids n) := by
  unfold pre
  rw [R.plk, List.map_cons, R.plL_snd]
theorem plL_len (h : ∀ n, (R.pl n).length = R.sz n) : ∀ (ns : List N) (j : Nat), (plL R.pl j ns).length = R.szs ns
  | [], _ => rfl
  | n :: r, j => by
    show ((R.pl n).map (fun e => ((j : Int) :: e.1, e.2)) ++ plL R.pl (j + 1) r).length = R.sz n + R.szs r
    rw [List.length_append, List.length_map, plL_len h r, h n]
theorem mem_szs {n : N} {ns : List N} (h : n ∈ ns) : R.sz n ≤ R.szs ns := by
  induction ns with
  | nil => cases h
  | cons a r ih =>
    rw [R.szs_cons]
    rcases List.mem_cons.mp h with z | z
    · subst z
      omega
    · have := ih z
      omega
theorem pl_len (m : Nat) : ∀ n, R.sz n ≤ m → (R.pl n).length = R.sz n := by
  induction m with
  | zero => intro n h; have := R.pos n; omega
  | succ m ih =>
    intro n h
    have e := R.szk n
    have go : ∀ (ns : List N) (j : Nat), R.szs ns ≤ m → (plL R.pl j ns).length = R.szs ns := by
      intro ns
      induction ns with
      | nil => intro j _; rfl
      | cons a r ihr =>
        intro j hj
        rw [R.szs_cons] at hj ⊢
        show ((R.pl a).map (fun e => ((j : Int) :: e.1, e.2)) ++ plL R.pl (j + 1) r).length = _
        rw [List.length_append, List.length_map, ihr (j + 1) (by omega), ih a (by omega)]
    rw [R.plk, List.length_cons, go (R.kids n) 0 (by show ((R.kids n).map R.sz).sum ≤ m; omega), e]
    show R.szs (R.kids n) + 1 = 1 + R.szs (R.kids n)
    omega
theorem pl_short (m : Nat) : ∀ n, R.sz n ≤ m → ∀ e ∈ R.pl n, e.1.length < R.sz n := by
  induction m with
  | zero => intro n h; have := R.pos n; omega
  | succ m ih =>
    intro n h
    have e := R.szk n
    have go : ∀ (ns : List N) (j : Nat), R.szs ns ≤ m → ∀ e ∈ plL R.pl j ns, e.1.length ≤ R.szs ns := by
      intro ns
      induction ns with
      | nil => intro j _ e he; cases he
      | cons a r ihr =>
        intro j hj e he
        rw [R.szs_cons] at hj ⊢
        have he' : e ∈ (R.pl a).map (fun e => ((j : Int) :: e.1, e.2)) ++ plL R.pl (j + 1) r := he
        rcases List.mem_append.mp he' with z | z
        · obtain ⟨e', h1, rfl⟩ := List.mem_map.mp z
          have := ih a (by omega) e' h1
          show e'.1.length + 1 ≤ _
          omega
        · have := ihr (j + 1) (by omega) e z
          omega
    intro x hx
    rw [R.plk] at hx
    have e2 : R.sz n = 1 + R.szs (R.kids n) := e
    rcases List.mem_cons.mp hx with z | z
    · subst z
      show 0 < R.sz n
      omega
    · have := go (R.kids n) 0 (by omega) x z
      omega
theorem sz_pl (m : Nat) : ∀ n, R.sz n ≤ m → ∀ e ∈ R.pl n, R.sz e.2 ≤ R.sz n := by
  induction m with
  | zero => intro n h; have := R.pos n; omega
  | succ m ih =>
    intro n h
    have e := R.szk n
    have go : ∀ (ns : List N) (j : Nat), R.szs ns ≤ m → ∀ e ∈ plL R.pl j ns, R.sz e.2 ≤ R.szs ns := by
      intro ns
      induction ns with
      | nil => intro j _ e he; cases he
      | cons a r ihr =>
        intro j hj e he
        rw [R.szs_cons] at hj ⊢
        have he' : e ∈ (R.pl a).map (fun e => ((j : Int) :: e.1, e.2)) ++ plL R.pl (j + 1) r := he
        rcases List.mem_append.mp he' with z | z
        · obtain ⟨e', h1, rfl⟩ := List.mem_map.mp z
          have := ih a (by omega) e' h1
          show R.sz e'.2 ≤ _
          omega
        · have := ihr (j + 1) (by omega) e z
          omega
    intro x hx
    rw [R.plk] at hx
    have e2 : R.sz n = 1 + R.szs (R.kids n) := e
    rcases List.mem_cons.mp hx with z | z
    · subst z
      exact Nat.le_refl _
    · have := go (R.kids n) 0 (by omega) x z
      omega
end Tre
theorem All2.rev {α : Type} {S : α → V → Prop} : ∀ {as : List α} {vs : List V}, All2 S as vs → All2 S as.reverse vs.reverse
  | [], [], _ => trivial
  | a :: as, v :: vs, h => by
    rw [List.reverse_cons, List.reverse_cons]
    exact (All2.rev h.2).app ⟨h.1, trivial⟩
  | [], _ :: _, h => h.elim
  | _ :: _, [], h => h.elim

section
variable {P : Program} {w : World} {K : PySem.W.Frag} {mg : Str → Option Value} {base : Heap}
/-- what a function promises that tells the parts right in a part -/
def spKids {N : Type} (R : Tre N) : Sp := fun vs H Q _ => ∃ (n : N) (a : Addr), vs = [.ref a] ∧ R.A H n a ∧ ∀ p H' us, Same H H' → H' p = some (.tup us) → All2 (R.V H') (R.kids n) us → Q (.ref p) H'
/-! ### met -/
def spMet {N : Type} (R : Tre N) (g : Addr) : Sp := fun vs H Q _ => ∃ (n : N) (a : Addr), vs = [.ref a, .ref g] ∧ R.A H n a ∧ R.sz n ≤ 1000 ∧ ∀ p H' its, H p = none → Same H H' → H' p = some (.lst its) → All2 (R.V H') (R.pre n) its → Q (.ref p) H'
abbrev smet : Stmt := top 4
theorem scmet : FnScope ["body", "parts", "found", "waiting", "part"] ["body", "parts"] (defScope smet) := ⟨rfl, rfl, rfl, by decide +kernel, rfl, by decide +kernel, by decide +kernel⟩
def MetW {N : Type} (R : Tre N) (H : Hp) (a g fl wl : Addr) (n : N) (m : Nat) (σ : St) (H' : Hp) : Prop := ∃ o fv fs rs ts, σ = [some (.ref a), some (.ref g), some (.ref fl), some (.ref wl), o] ∧ Same H H' ∧ H' fl = some (.lst fv) ∧ All2 (R.V H') fs fv ∧ H' wl = some (.lst (List.reverse rs)) ∧ All2 (R.V H') ts rs ∧ m = R.szs ts ∧ fs.length + R.szs ts ≤ 1000 ∧ fs ++ R.pres ts = R.pre n
theorem ok_met {N : Type} (R : Tre N) {k : Nat} {f g : Addr} {fd gd : FuncData} {x : Str} (F : Fun K "met" "met" smet f fd) (Gparts : FnOk P w K mg base CX0 k g gd [x] (spKids R)) (kk : PySem.W.keepIn K (.ref g) = true) (bb : Binds K gd [x] []) : FnOk P w K mg base CX0 (k + 1) f fd ["body", "parts"] (spMet R g) := by
  refine F.ok scmet (fun vs H Q E h => ?_) (fun cdv A outer s H vs Q E hr h => ?_)
  · obtain ⟨n, a, rfl, _⟩ := h
    rfl
  obtain ⟨n, a, rfl, hA, hc, q⟩ := h
  refine ⟨_, (pss_cons (ps_set (i := 2) scmet.nd rfl (Or.inl rfl) (pe_lst pa_nil))
    (pss_cons (ps_set (i := 3) scmet.nd rfl (Or.inl rfl) (pe_lst (pa_cons (pv 0) pa_nil)))
    (pss_cons (ps_while PassesOwn.never (pt_truth (pv 3) (by intro _; rfl)) (pss_cons (ps_set (i := 4) scmet.nd rfl (Or.inl rfl) (pe_bm0 PySem.F.plainAttrs_list PySem.F.slot_list_pop PySem.F.type_list_pop mt_pop (pv 3)))
    (pss_cons (ps_expr (pe_bm PySem.F.plainAttrs_list PySem.F.slot_list_append PySem.F.type_list_append mt_append (pv 2) (pa_cons (pv 4) pa_nil)))
    (pss_one (ps_expr (pe_bm PySem.F.plainAttrs_list PySem.F.slot_list_extend PySem.F.type_list_extend mt_extT (pv 3) (pa_cons (pe_revT (pe_callL (i := 1) Gparts (hr.mono (by omega)) rfl (.inl rfl) kk bb .nil pass0 (pa_cons (pv 4) pa_nil)) (po_some (pe_un un_neg pe_int))) pa_nil)))))))
    (pss_one (ps_ret (pv 2)))))), ?_⟩
  refine ⟨sz (by show 0 ≤ 100000; decide), fun fl hfl => ?_⟩
  have s0 := same_new hfl (.lst [])
  have f0 : upd H fl (.lst []) fl = some (.lst []) := upd_same
  refine ⟨_, rfl, sz (by show 1 ≤ 100000; decide), fun wl hwl => ?_⟩
  have s1 := same_new hwl (.lst [.ref a])
  have hwf : fl ≠ wl := ne_of_none f0 hwl
  have sA := s0.trans s1
  refine ⟨MetW R H a g fl wl n, ⟨_, none, [], [], [.ref a], [n], rfl, sA, s1 _ _ f0, trivial, upd_same, ⟨⟨a, rfl, R.tk (tk_same sA) hA⟩, trivial⟩, rfl, ?_, ?_⟩, ?_⟩
  · show 0 + (R.sz n + 0) ≤ 1000
    omega
  · rw [R.pres_cons]
    exact List.append_nil _
  have hw0 : H wl = none := s0.free hwl
  clear s0 f0 hwl s1 sA
  rintro m σ H1 ⟨o, fv, fs, rs, ts, rfl, s1, h1, k1, h2, k2, rfl, hm, hP⟩
  refine ⟨_, rfl, _, .inl ⟨_, SqL.of h2, rfl⟩, ?_⟩
  cases rs with
  | nil =>
    cases ts with
    | cons _ _ => exact k2.elim
    | nil =>
      refine itF rfl ⟨_, rfl, ?_⟩
      have e : fs = R.pre n := by
        rw [← hP]
        exact (List.append_nil fs).symm
      subst e
      exact q _ _ _ hfl s1 h1 k1
  | cons r rs =>
    cases ts with
    | nil => exact k2.elim
    | cons t1 ts =>
      obtain ⟨⟨b, rfl, hb⟩, k3⟩ := k2
      refine itT (by simp) ⟨fun σ' H' => ∃ m', m' < R.szs (t1 :: ts) ∧ MetW R H a g fl wl n m' σ' H', fun _ _ z => z, ?_⟩
      -- part = waiting.pop()
      refine ⟨_, rfl, .inl ⟨rfl, _, SqL.of h2⟩, wl, _, .ref b, rfl, rfl, h2, by simp, ?_⟩
      have eD : ((V.ref b :: rs).reverse).dropLast = rs.reverse := by rw [List.reverse_cons, List.dropLast_concat]
      rw [eD]
      have tk2 : TK H1 (upd H1 wl (.lst rs.reverse)) := tk_put h2
      have s2 : Same H (upd H1 wl (.lst rs.reverse)) := same_mut s1 hw0
      have w2 : upd H1 wl (.lst rs.reverse) wl = some (.lst rs.reverse) := upd_same
      have f2 : upd H1 wl (.lst rs.reverse) fl = some (.lst fv) := by
        rw [upd_ne hwf]
        exact h1
      have k4 := k1.imp fun _ _ z => Tre.V.tk tk2 z
      have k5 := k3.imp fun _ _ z => Tre.V.tk tk2 z
      have b2 := R.tk tk2 hb
      clear tk2
      generalize upd H1 wl (.lst rs.reverse) = H2 at s2 w2 f2 k4 k5 b2
      -- found.append(part)
      have hfs := k4.len
      refine ⟨_, rfl, .inl ⟨rfl, _, SqL.of f2⟩, _, rfl, fl, _, _, rfl, rfl, f2, Nat.lt_of_le_of_lt (m := 1000) (by omega) (by decide), ?_⟩
      have tk3 : TK H2 (upd H2 fl (.lst (fv ++ [.ref b]))) := tk_put f2
      have s3 : Same H (upd H2 fl (.lst (fv ++ [.ref b]))) := same_mut s2 hfl
      have f3 : upd H2 fl (.lst (fv ++ [.ref b])) fl = some (.lst (fv ++ [.ref b])) := upd_same
      have w3 : upd H2 fl (.lst (fv ++ [.ref b])) wl = some (.lst rs.reverse) := by
        rw [upd_ne (Ne.symm hwf)]
        exact w2
      have b3 := R.tk tk3 b2
      have k6 : All2 (R.V _) (fs ++ [t1]) (fv ++ [.ref b]) := (k4.imp fun _ _ z => Tre.V.tk tk3 z).app ⟨⟨b, rfl, b3⟩, trivial⟩
      have k7 := k5.imp fun _ _ z => Tre.V.tk tk3 z
      clear tk3
      generalize upd H2 fl (.lst (fv ++ [.ref b])) = H3 at s3 f3 w3 b3 k6 k7
      -- waiting.extend(parts(part)[::-1])
      have hcm : R.szs (t1 :: ts) = 1 + R.szs (R.kids t1) + R.szs ts := by
        rw [R.szs_cons, R.szk]
        rfl
      refine ⟨_, rfl, .inl ⟨rfl, _, SqL.of w3⟩, rfl, _, rfl, t1, b, rfl, b3, fun p' H4 us s5 h4 kk4 => ?_⟩
      have hlen := kk4.len
      have k8 := k7.imp fun _ _ z => Tre.V.tk (tk_same s5) z
      have hlen2 := k8.len
      have z1 := R.len_szs (R.kids t1)
      have z2 := R.len_szs ts
      refine ⟨1, rfl, -1, rfl, rfl, p', _, rfl, SqT.of h4, fun p5 hp5 => ?_⟩
      have s6 := same_new hp5 (.tup us.reverse)
      have w6 := s6 _ _ (s5 _ _ w3)
      refine ⟨wl, p5, _, _, rfl, rfl, w6, SqT.of upd_same, sz (by rw [List.length_reverse, List.length_reverse]; omega), ?_⟩
      have s7 := s5.trans s6
      have tk8 := (tk_same s6).trans (tk_put (o := .lst (rs.reverse ++ us.reverse)) w6)
      refine ⟨R.szs (R.kids t1 ++ ts), ?_, some (.ref b), fv ++ [.ref b], fs ++ [t1], us ++ rs, R.kids t1 ++ ts, rfl, same_mut (s3.trans s7) hw0, ?_, ?_, ?_, ?_, rfl, ?_, ?_⟩
      · rw [R.szs_app, hcm]
        omega
      · rw [upd_ne hwf]
        exact s7 _ _ f3
      · exact (k6.imp fun _ _ z => Tre.V.tk (tk_same s5) z).imp fun _ _ z => Tre.V.tk tk8 z
      · rw [upd_same, List.reverse_append]
      · exact (kk4.imp fun _ _ z => Tre.V.tk tk8 z).app (k8.imp fun _ _ z => Tre.V.tk tk8 z)
      · rw [List.length_append, List.length_singleton, R.szs_app]
        omega
      · rw [← hP, R.pres_app, R.pres_cons, R.pre_mk]
        simp
end
end KB

namespace KB
open PySem L2 HT

/-! ### new words -/
def digs (k : Nat) : List Nat := (if h : k / 26 = 0 then [] else digs (k / 26)) ++ [97 + k % 26]
termination_by k
decreasing_by omega
theorem digs_eq (k : Nat) : digs k = (if k / 26 = 0 then [] else digs (k / 26)) ++ [97 + k % 26] := by
  rw [digs]
  by_cases h : k / 26 = 0
  · rw [dif_pos h, if_pos h]
  · rw [dif_neg h, if_neg h]
def digs0 (k : Nat) : List Nat := if k = 0 then [] else digs k
theorem digs0_eq {k : Nat} (h : k ≠ 0) : digs0 k = digs0 (k / 26) ++ [97 + k % 26] := by
  unfold digs0
  rw [if_neg h, digs_eq]
theorem digs_digs0 (k : Nat) : digs k = digs0 (k / 26) ++ [97 + k % 26] := digs_eq k
theorem digs_inj : ∀ {a b : Nat}, digs a = digs b → a = b := by
  have go : ∀ n a b : Nat, a ≤ n → digs a = digs b → a = b := by
    intro n
    induction n with
    | zero =>
      intro a b ha h
      have h0 : a = 0 := by omega
      subst h0
      rw [digs_eq 0, digs_eq b] at h
      have h1 : ([] : List Nat) = (if b / 26 = 0 then [] else digs (b / 26)) ∧ [97] = [97 + b % 26] := List.append_inj' h rfl
      have h2 : b % 26 = 0 := by
        have := (List.cons.inj h1.2).1
        omega
      by_cases c : b / 26 = 0
      · omega
      · rw [if_neg c, digs_eq] at h1
        have := congrArg List.length h1.1
        simp at this
    | succ n ih =>
      intro a b ha h
      rw [digs_eq a, digs_eq b] at h
      have h1 := List.append_inj' h rfl
      have h2 : a % 26 = b % 26 := by
        have := (List.cons.inj h1.2).1
        omega
      have ne : ∀ k, digs k ≠ [] := fun k z => by
        rw [digs_eq] at z
        simp at z
      by_cases c : a / 26 = 0
      · by_cases d : b / 26 = 0
        · omega
        · rw [if_pos c, if_neg d] at h1
          exact absurd h1.1.symm (ne _)
      · by_cases d : b / 26 = 0
        · rw [if_neg c, if_pos d] at h1
          exact absurd h1.1 (ne _)
        · rw [if_neg c, if_neg d] at h1
          have := ih (a / 26) (b / 26) (by omega) h1.1
          omega
  intro a b h
  exact go a a b (Nat.le_refl _) h
theorem digs_len : ∀ n k : Nat, k < 26 ^ (n + 1) → (digs k).length ≤ n + 1 := by
  intro n
  induction n with
  | zero =>
    intro k h
    rw [digs_eq, if_pos (by omega)]
    exact Nat.le_refl 1
  | succ n ih =>
    intro k h
    rw [digs_eq, List.length_append, List.length_singleton]
    by_cases c : k / 26 = 0
    · rw [if_pos c]
      simp
    · rw [if_neg c]
      have := ih (k / 26) (by
        rw [Nat.pow_succ] at h
        exact Nat.div_lt_of_lt_mul (by rw [Nat.mul_comm]; exact h))
      omega
def wordOf (k : Nat) : Str := ⟨(digs k ++ [113]).toArray⟩
theorem wordOf_inj {a b : Nat} (h : wordOf a = wordOf b) : a = b := by
  have h1 : (digs a ++ [113]).toArray = (digs b ++ [113]).toArray := congrArg Str.cps h
  have h2 := congrArg Array.toList h1
  exact digs_inj (List.append_inj' h2 rfl).1
theorem wordOf_home (k : Nat) : wordOf k ≠ "home" := by
  intro h
  have h1 : (digs k ++ [113]).toArray = (Str.ofString "home").cps := congrArg Str.cps h
  have h2 := congrArg Array.toList h1
  have h3 : (digs k ++ [113]).getLast? = some 113 := by rw [List.getLast?_append]; rfl
  have h4 : (digs k ++ [113]) = (Str.ofString "home").cps.toList := h2
  rw [h4] at h3
  revert h3
  decide +kernel
theorem pig {α : Type} [DecidableEq α] : ∀ {l l' : List α}, l.Nodup → (∀ x ∈ l, x ∈ l') → l.length ≤ l'.length
  | [], _, _, _ => Nat.zero_le _
  | x :: r, l', hn, h => by
    have hx := h x List.mem_cons_self
    obtain ⟨hn1, hn2⟩ := List.nodup_cons.mp hn
    have := pig (l := r) (l' := l'.erase x) hn2 fun y hy => (List.mem_erase_of_ne (by intro z; subst z; exact hn1 hy)).mpr (h y (List.mem_cons_of_mem _ hy))
    rw [List.length_erase_of_mem hx] at this
    have hp : 0 < l'.length := List.length_pos_of_mem hx
    rw [List.length_cons]
    omega
theorem free_word (tk : List Str) (m : Nat) : ∃ k, m ≤ k ∧ k ≤ m + tk.length ∧ wordOf k ∉ tk := by
  by_cases h : ∃ i, i < tk.length + 1 ∧ wordOf (m + i) ∉ tk
  · obtain ⟨i, h1, h2⟩ := h
    exact ⟨m + i, by omega, by omega, h2⟩
  · have hall : ∀ x ∈ (List.range (tk.length + 1)).map fun i => wordOf (m + i), x ∈ tk := fun x hx => by
      obtain ⟨i, hi, rfl⟩ := List.mem_map.mp hx
      by_cases c : wordOf (m + i) ∈ tk
      · exact c
      · exact absurd ⟨i, List.mem_range.mp hi, c⟩ h
    have hnd : ((List.range (tk.length + 1)).map fun i => wordOf (m + i)).Nodup := by
      rw [List.nodup_iff_pairwise_ne, List.pairwise_map]
      refine List.Pairwise.imp ?_ List.nodup_range
      intro a b hab z
      exact hab (by have := wordOf_inj z; omega)
    have := pig hnd hall
    rw [List.length_map, List.length_range] at this
    omega
/-- a new word, and the count behind it -/
def NwR (tk : List Str) (m : Nat) (w : Str) (m' : Nat) : Prop := ∃ k, m ≤ k ∧ k ≤ m + tk.length ∧ w = wordOf k ∧ w ∉ tk ∧ m' = k + 1 ∧ ∀ i, m ≤ i → i < k → wordOf i ∈ tk

section
variable {P : Program} {w : World} {K : PySem.W.Frag} {mg : Str → Option Value} {base : Heap}
/-! ### word_of -/
structure TxS (K : PySem.W.Frag) (mg : Str → Option Value) : Prop where
  signs : ∃ t, mg "SIGNS" = some (.str lettersS t)
  behind : ∃ t, mg "BEHIND" = some (.str "q" t)
  home : ∃ t, mg "HOME" = some (.str "home" t)
def spWordOf : Sp := fun vs H Q _ => ∃ k : Nat, vs = [.int (k : Int)] ∧ k < 26 ^ 9 ∧ Q (.str (wordOf k)) H
abbrev sword_of : Stmt := top 20
theorem scword_of : FnScope ["k", "word", "rest"] ["k"] (defScope sword_of) := ⟨rfl, rfl, rfl, by decide +kernel, rfl, by decide +kernel, by decide +kernel⟩
theorem str_cons (c : Nat) (l : List Nat) : (⟨#[c]⟩ : Str) ++ ⟨l.toArray⟩ = ⟨(c :: l).toArray⟩ := by
  show (⟨#[c] ++ l.toArray⟩ : Str) = _
  congr 1
  simp
theorem ok_wordOf (T : Txt K mg) (S : TxS K mg) {f : Addr} {fd : FuncData} (F : Fun K "word_of" "word_of" sword_of f fd) : FnOk P w K mg base CX0 1 f fd ["k"] spWordOf := by
  refine F.ok scword_of (fun vs H Q E h => ?_) (fun cdv A outer s H vs Q E hr h => ?_)
  · obtain ⟨k, rfl, _⟩ := h
    rfl
  obtain ⟨k, rfl, hk, q⟩ := h
  obtain ⟨t1, hs⟩ := S.signs
  obtain ⟨t2, hb⟩ := S.behind
  refine ⟨_, (pss_cons (ps_set (i := 1) scword_of.nd rfl (Or.inl rfl) (pe_op op_add_str (pe_ix ix_str (pe_glob (v := .str lettersS) rfl hs ⟨_, rfl⟩) (pe_op op_mod (pv 0) (pe_callB call_len (by rfl) T.m_len PySem.boot_len (pa_cons (pe_glob (v := .str lettersS) rfl hs ⟨_, rfl⟩) pa_nil))) (fun _ _ => rfl)) (pe_glob (v := .str "q") rfl hb ⟨_, rfl⟩)))
    (pss_cons (ps_set (i := 2) scword_of.nd rfl (Or.inl rfl) (pe_op op_fdivW (pv 0) (pe_callB call_len (by rfl) T.m_len PySem.boot_len (pa_cons (pe_glob (v := .str lettersS) rfl hs ⟨_, rfl⟩) pa_nil))))
    (pss_cons (ps_while PassesOwn.never (pt_cmpR op_gt (pv 2) pe_int (nomark _)) (pss_cons (ps_set (i := 1) scword_of.nd rfl (Or.inl rfl) (pe_op op_add_str (pe_ix ix_str (pe_glob (v := .str lettersS) rfl hs ⟨_, rfl⟩) (pe_op op_mod (pv 2) (pe_callB call_len (by rfl) T.m_len PySem.boot_len (pa_cons (pe_glob (v := .str lettersS) rfl hs ⟨_, rfl⟩) pa_nil))) (fun _ _ => rfl)) (pv 1)))
    (pss_one (ps_set (i := 2) scword_of.nd rfl (Or.inl rfl) (pe_op op_fdivW (pv 2) (pe_callB call_len (by rfl) T.m_len PySem.boot_len (pa_cons (pe_glob (v := .str lettersS) rfl hs ⟨_, rfl⟩) pa_nil)))))))
    (pss_one (ps_ret (pv 1)))))), ?_⟩
  have hl26 : lettersS.length = 26 := by decide +kernel
  have hd10 : (digs k ++ [113]).length ≤ 10 := by
    rw [List.length_append]
    have := digs_len 8 k hk
    show (digs k).length + 1 ≤ 10
    omega
  have lenW : LenV K (.str lettersS) H 26 := ⟨by decide +kernel, hl26.symm⟩
  refine ⟨_, rfl, _, _, rfl, lenW, _, _, rfl, rfl, (by show (0 : Int) < 26; decide), lettersS, _, _, rfl, rfl, (by decide +kernel), letters_at (Int.emod_nonneg _ (by decide)) (Int.emod_lt_of_pos _ (by decide)), _, _, rfl, rfl, sz (by show 1 + 1 ≤ 100000; decide), ?_⟩
  refine ⟨_, rfl, _, _, rfl, lenW, _, _, rfl, rfl, ⟨by decide, log_many (by decide) (by decide)⟩, ?_⟩
  refine ⟨fun m σ H' => ∃ (r : Nat) (l : List Nat), σ = [some (.int (k : Int)), some (.str ⟨l.toArray⟩), some (.int (r : Int))] ∧ H = H' ∧ r = m ∧ digs0 r ++ l = digs k ++ [113], ⟨_, k / 26, [97 + k % 26, 113], ?_, rfl, rfl, ?_⟩, ?_⟩
  · congr 3
  · rw [digs_digs0 k]
    simp
  rintro m σ H' ⟨r, l, rfl, rfl, rfl, e⟩
  refine ⟨_, rfl, _, _, rfl, rfl, _, rfl, ?_⟩
  by_cases c : r = 0
  · subst c
    refine itF (decide_eq_false (by omega)) ⟨_, rfl, ?_⟩
    have e2 : l = digs k ++ [113] := e
    rw [e2]
    exact q
  · refine itT (decide_eq_true (by omega)) ⟨fun σ' H' => ∃ m', m' < r ∧ ∃ (r' : Nat) (l : List Nat), σ' = [some (.int (k : Int)), some (.str ⟨l.toArray⟩), some (.int (r' : Int))] ∧ H = H' ∧ r' = m' ∧ digs0 r' ++ l = digs k ++ [113], fun _ _ z => z, ?_⟩
    have hll : l.length ≤ 10 := by
      have := congrArg List.length e
      rw [List.length_append] at this
      omega
    refine ⟨_, rfl, _, _, rfl, lenW, _, _, rfl, rfl, (by show (0 : Int) < 26; decide), lettersS, _, _, rfl, rfl, (by decide +kernel), letters_at (Int.emod_nonneg _ (by decide)) (Int.emod_lt_of_pos _ (by decide)), _, rfl, _, _, rfl, rfl, sz (by show 1 + l.toArray.size ≤ 100000; rw [List.size_toArray]; omega), ?_⟩
    refine ⟨_, rfl, _, _, rfl, lenW, _, _, rfl, rfl, ⟨by decide, log_many (by decide) (by decide)⟩, ?_⟩
    refine ⟨r / 26, by omega, r / 26, (97 + r % 26) :: l, ?_, rfl, rfl, ?_⟩
    · rw [str_cons]
      congr 4
    · rw [← e, digs0_eq c]
      simp
end
end KB

namespace KB
open PySem L2 HT

/-! ### the turning of a body as a machine of data -/
inductive Ld | lett (x : Str) (s : Tm) | tell (x : Str) (s : Tm) | post (j x : Str) (u : Pt)
def putAh : List Ld → Pt → Pt
  | [], p => p
  | .lett x s :: r, p => .lett x s (putAh r p)
  | .tell x s :: r, p => .tell x s (putAh r p)
  | .post j x u :: r, p => .post j x (putAh r p) u
inductive Gt | t (s : Tm) | p (q : Pt)
inductive Jb | row | done (t : Tm) (j : Str) | put (t : Tm) (x : Str) | simple (t : Tm) | known (t : Tm) | close | lett (x : Str) | tell (x : Str) | post (j x : Str)
  | ask (f : Str) (n : Nat) (j : Str) | give (j : Str) | iff | op (l : Bool)
structure Cg where
  jobs : List Jb
  rows : List (List Ld)
  got : List Gt
  m : Nat
def endJ (t : Tm) (j : Str) : List Jb :=
  match hdT t, kidsT t with
  | .ask f, ts => ts.map Jb.simple ++ [.ask f ts.length j]
  | .iff, [a, b, c] => [.simple a, .row, .done b j, .row, .done c j, .iff]
  | _, _ => [.simple t, .give j]
def doneJ (t : Tm) (j : Str) : List Jb :=
  match hdT t, kidsT t with
  | .lett x, [a, b] => [.put a x, .done b j]
  | _, _ => endJ t j ++ [.close]
def plainH : Hd → Bool
  | .ask _ | .iff | .tell | .lett _ => false
  | _ => true
def wordH : Hd → Bool
  | .ask _ | .iff => true
  | _ => false
/-- a term put under x, w a new word where one is asked for -/
def putJ (t : Tm) (x w : Str) : List Jb :=
  match hdT t, kidsT t with
  | .lett y, [a, b] => [.put a y, .put b x]
  | .ask _, _ => endJ t w ++ [.post w x]
  | .iff, _ => endJ t w ++ [.post w x]
  | .tell, [a] => [.simple a, .tell x]
  | _, _ => [.simple t, .lett x]
def simpJ (t : Tm) (w : Str) : List Jb :=
  match hdT t, kidsT t with
  | .num _, _ => [.known t]
  | .nam _, _ => [.known t]
  | .plus, [a, b] => [.simple a, .simple b, .op false]
  | .less, [a, b] => [.simple a, .simple b, .op true]
  | .lett y, [a, b] => [.put a y, .simple b]
  | _, _ => [.put t w, .known (mkL (.nam w) [])]
/-- whether simpJ asks for a new word -/
def wordS : Hd → Bool
  | .ask _ | .iff | .tell => true
  | _ => false
def mkOp (l : Bool) (a b : Tm) : Tm := mkL (if l then .less else .plus) [a, b]
def tmsG : List Gt → List Tm
  | [] => []
  | .t s :: r => s :: tmsG r
  | .p _ :: r => tmsG r
/-- one job that is finished -/
inductive Fin : Jb → List (List Ld) → List Gt → List (List Ld) → List Gt → Prop
  | row {R G} : Fin .row R G ([] :: R) G
  | close {r R q G} : Fin .close (r :: R) (.p q :: G) R (.p (putAh r q) :: G)
  | lett {x r R s G} : Fin (.lett x) (r :: R) (.t s :: G) ((r ++ [.lett x s]) :: R) G
  | tell {x r R s G} : Fin (.tell x) (r :: R) (.t s :: G) ((r ++ [.tell x s]) :: R) G
  | post {j x r R q G} : Fin (.post j x) (r :: R) (.p q :: G) ((r ++ [.post j x q]) :: R) G
  | known {t R G} : Fin (.known t) R G R (.t t :: G)
  | ask {f j ts R G} : Fin (.ask f ts.length j) R ((ts.map Gt.t).reverse ++ G) R (.p (.ask f ts j) :: G)
  | give {j s R G} : Fin (.give j) R (.t s :: G) R (.p (.give j s) :: G)
  | iff {a b c R G} : Fin .iff R (.p c :: .p b :: .t a :: G) R (.p (.iff a b c) :: G)
  | op {l a b R G} : Fin (.op l) R (.t b :: .t a :: G) R (.t (mkOp l a b) :: G)
/-- what comes of a row of jobs -/
inductive Run (tk : List Str) : List Jb → List (List Ld) → List Gt → Nat → List (List Ld) → List Gt → Nat → Prop
  | nil {R G m} : Run tk [] R G m R G m
  | fin {j J R G m R1 G1 R2 G2 m2} : Fin j R G R1 G1 → Run tk J R1 G1 m R2 G2 m2 → Run tk (j :: J) R G m R2 G2 m2
  | done {t j J R G m R2 G2 m2} : Run tk (doneJ t j ++ J) R G m R2 G2 m2 → Run tk (.done t j :: J) R G m R2 G2 m2
  | put {t x w J R G m m1 R2 G2 m2} : (wordH (hdT t) = true → NwR tk m w m1) → (wordH (hdT t) = false → m1 = m) → Run tk (putJ t x w ++ J) R G m1 R2 G2 m2 → Run tk (.put t x :: J) R G m R2 G2 m2
  | simple {t w J R G m m1 R2 G2 m2} : (wordS (hdT t) = true → NwR tk m w m1) → (wordS (hdT t) = false → m1 = m) → Run tk (simpJ t w ++ J) R G m1 R2 G2 m2 → Run tk (.simple t :: J) R G m R2 G2 m2
theorem Run.split {tk : List Str} {J : List Jb} {R G m R2 G2 m2} (h : Run tk J R G m R2 G2 m2) : ∀ {J1 J2 : List Jb}, J = J1 ++ J2 → ∃ R1 G1 m1, Run tk J1 R G m R1 G1 m1 ∧ Run tk J2 R1 G1 m1 R2 G2 m2 := by
  induction h with
  | nil =>
    intro J1 J2 e
    obtain ⟨rfl, rfl⟩ := List.append_eq_nil_iff.mp e.symm
    exact ⟨_, _, _, .nil, .nil⟩
  | fin f h ih =>
    intro J1 J2 e
    cases J1 with
    | nil => subst e; exact ⟨_, _, _, .nil, .fin f h⟩
    | cons a r =>
      obtain ⟨e1, e2⟩ := List.cons.inj e
      subst e1
      obtain ⟨R1, G1, m1, a1, a2⟩ := ih e2
      exact ⟨_, _, _, .fin f a1, a2⟩
  | @done t j J R G m R2 G2 m2 h ih =>
    intro J1 J2 e
    cases J1 with
    | nil => subst e; exact ⟨_, _, _, .nil, .done h⟩
    | cons a r =>
      obtain ⟨e1, e2⟩ := List.cons.inj e
      subst e1
      obtain ⟨R1, G1, m1, a1, a2⟩ := ih (J1 := doneJ t j ++ r) (J2 := J2) (by rw [e2]; exact (List.append_assoc _ r J2).symm)
      exact ⟨_, _, _, .done a1, a2⟩
  | @put t x w J R G m m1 R2 G2 m2 h1 h2 h ih =>
    intro J1 J2 e
    cases J1 with
    | nil => subst e; exact ⟨_, _, _, .nil, .put h1 h2 h⟩
    | cons a r =>
      obtain ⟨e1, e2⟩ := List.cons.inj e
      subst e1
      obtain ⟨R1, G1, m1, a1, a2⟩ := ih (J1 := putJ t x w ++ r) (J2 := J2) (by rw [e2]; exact (List.append_assoc _ r J2).symm)
      exact ⟨_, _, _, .put h1 h2 a1, a2⟩
  | @simple t w J R G m m1 R2 G2 m2 h1 h2 h ih =>
    intro J1 J2 e
    cases J1 with
    | nil => subst e; exact ⟨_, _, _, .nil, .simple h1 h2 h⟩
    | cons a r =>
      obtain ⟨e1, e2⟩ := List.cons.inj e
      subst e1
      obtain ⟨R1, G1, m1, a1, a2⟩ := ih (J1 := simpJ t w ++ r) (J2 := J2) (by rw [e2]; exact (List.append_assoc _ r J2).symm)
      exact ⟨_, _, _, .simple h1 h2 a1, a2⟩
/-! ### how much is left to be done -/
def wS (t : Tm) : Nat := 20 * cnt t + (if wordS (hdT t) = true then 2 else 0)
def wP (t : Tm) : Nat := 20 * cnt t + (if wordS (hdT t) = true then 0 else 2)
def wD (t : Tm) : Nat := 20 * cnt t + 5
def wJ : Jb → Nat
  | .done t _ => wD t
  | .put t _ => wP t
  | .simple t => wS t
  | _ => 1
def wJs (J : List Jb) : Nat := (J.map wJ).sum
theorem wJs_cons (j : Jb) (J : List Jb) : wJs (j :: J) = wJ j + wJs J := rfl
theorem wJs_app (a b : List Jb) : wJs (a ++ b) = wJs a + wJs b := by
  unfold wJs
  rw [List.map_append, List.sum_append]
theorem wJ_pos (j : Jb) : 1 ≤ wJ j := by
  cases j with
  | done t j => show 1 ≤ 20 * cnt t + 5; omega
  | put t x => have := cnt_pos t; show 1 ≤ 20 * cnt t + _; omega
  | simple t => have := cnt_pos t; show 1 ≤ 20 * cnt t + _; omega
  | _ => exact Nat.le_refl 1
theorem len_wJs : ∀ J : List Jb, J.length ≤ wJs J
  | [] => Nat.le_refl _
  | j :: r => by
    have := len_wJs r
    have := wJ_pos j
    rw [wJs_cons, List.length_cons]
    omega
theorem cnt_kids (t : Tm) : cnt t = 1 + cnts (kidsT t) := by
  cases t with
  | mk h n k => exact cnt_mk
theorem wS_le (t : Tm) : wS t ≤ 20 * cnt t + 2 := by
  unfold wS
  split <;> omega
theorem wP_le (t : Tm) : wP t ≤ 20 * cnt t + 2 := by
  unfold wP
  split <;> omega
theorem w_simples : ∀ ts : List Tm, wJs (ts.map Jb.simple) ≤ 20 * cnts ts + 2 * ts.length
  | [] => Nat.le_refl _
  | t :: r => by
    have := w_simples r
    have := wS_le t
    rw [List.map_cons, wJs_cons, cnts_cons, List.length_cons]
    show wS t + _ ≤ _
    omega
/-- the number of parts that a term of this kind has -/
def arH : Hd → Nat → Prop
  | .num _, n => n = 0
  | .nam _, n => n = 0
  | .plus, n => n = 2
  | .less, n => n = 2
  | .tell, n => n = 1
  | .lett _, n => n = 2
  | .iff, n => n = 3
  | .ask _, n => n ≤ 4
def arN (t : Tm) : Prop := arH (hdT t) (kidsT t).length
theorem Lay.ar {H : Hp} {a : Addr} {h : Hd} {xs : List V} (l : Lay H a h xs) : arH h xs.length := by
  cases h with
  | num z => rw [l.1]; rfl
  | nam z => rw [l.1]; rfl
  | ask f => exact l.1
  | _ => exact l.1
theorem two_of {α : Type} {l : List α} (h : l.length = 2) : ∃ a b, l = [a, b] := by
  match l, h with
  | [a, b], _ => exact ⟨a, b, rfl⟩
theorem three_of {α : Type} {l : List α} (h : l.length = 3) : ∃ a b c, l = [a, b, c] := by
  match l, h with
  | [a, b, c], _ => exact ⟨a, b, c, rfl⟩
theorem one_of {α : Type} {l : List α} (h : l.length = 1) : ∃ a, l = [a] := by
  match l, h with
  | [a], _ => exact ⟨a, rfl⟩
theorem w_end (t : Tm) (j : Str) (h : arN t) : wJs (endJ t j) ≤ 20 * cnt t + 3 ∧ (wordH (hdT t) = true → wJs (endJ t j) + 3 ≤ 20 * cnt t) := by
  have hc := cnt_kids t
  unfold arN at h
  unfold endJ
  cases hh : hdT t with
  | ask f =>
    rw [hh] at h
    have h4 : (kidsT t).length ≤ 4 := h
    have := w_simples (kidsT t)
    show wJs ((kidsT t).map Jb.simple ++ [.ask f (kidsT t).length j]) ≤ _ ∧ (_ → wJs ((kidsT t).map Jb.simple ++ [.ask f (kidsT t).length j]) + 3 ≤ _)
    rw [wJs_app]
    have e : wJs [Jb.ask f (kidsT t).length j] = 1 := rfl
    omega
  | iff =>
    rw [hh] at h
    obtain ⟨a, b, c, e⟩ := three_of (show (kidsT t).length = 3 from h)
    rw [e] at hc ⊢
    have e2 : cnts [a, b, c] = cnt a + (cnt b + (cnt c + 0)) := rfl
    have := wS_le a
    show (wS a + (1 + (wD b + (1 + (wD c + (1 + 0)))))) ≤ _ ∧ (_ → (wS a + (1 + (wD b + (1 + (wD c + (1 + 0)))))) + 3 ≤ _)
    unfold wD
    omega
  | _ =>
    have := wS_le t
    refine ⟨?_, fun z => nomatch z⟩
    show wS t + (1 + 0) ≤ _
    omega
theorem w_done (t : Tm) (j : Str) (h : arN t) : wJs (doneJ t j) < wD t := by
  have he := w_end t j h
  have hc := cnt_kids t
  unfold doneJ wD
  unfold arN at h
  cases hh : hdT t with
  | lett x =>
    rw [hh] at h
    obtain ⟨a, b, e⟩ := two_of (show (kidsT t).length = 2 from h)
    rw [e] at hc ⊢
    have e2 : cnts [a, b] = cnt a + (cnt b + 0) := rfl
    have := wP_le a
    show wP a + (wD b + 0) < _
    unfold wD
    omega
  | _ =>
    show wJs (endJ t j ++ [.close]) < _
    rw [wJs_app]
    have e : wJs [Jb.close] = 1 := rfl
    omega
theorem w_put (t : Tm) (x w : Str) (h : arN t) : wJs (putJ t x w) < wP t := by
  have he := w_end t w h
  have hc := cnt_kids t
  unfold arN at h
  unfold putJ
  cases hh : hdT t with
  | lett y =>
    rw [hh] at h
    obtain ⟨a, b, e⟩ := two_of (show (kidsT t).length = 2 from h)
    rw [e] at hc ⊢
    have e2 : cnts [a, b] = cnt a + (cnt b + 0) := rfl
    have := wP_le a
    have := wP_le b
    have e3 : wP t = 20 * cnt t + 2 := by unfold wP; rw [hh]; rfl
    show wP a + (wP b + 0) < _
    omega
  | ask f =>
    have e3 : wP t = 20 * cnt t := by unfold wP; rw [hh]; rfl
    have := he.2 (by rw [hh]; rfl)
    show wJs (endJ t w ++ [.post w x]) < _
    rw [wJs_app]
    have e : wJs [Jb.post w x] = 1 := rfl
    omega
  | iff =>
    have e3 : wP t = 20 * cnt t := by unfold wP; rw [hh]; rfl
    have := he.2 (by rw [hh]; rfl)
    show wJs (endJ t w ++ [.post w x]) < _
    rw [wJs_app]
    have e : wJs [Jb.post w x] = 1 := rfl
    omega
  | tell =>
    rw [hh] at h
    obtain ⟨a, e⟩ := one_of (show (kidsT t).length = 1 from h)
    rw [e] at hc ⊢
    have e2 : cnts [a] = cnt a + 0 := rfl
    have := wS_le a
    have e3 : wP t = 20 * cnt t := by unfold wP; rw [hh]; rfl
    show wS a + (1 + 0) < _
    omega
  | _ =>
    have e3 : wP t = 20 * cnt t + 2 := by unfold wP; rw [hh]; rfl
    have e4 : wS t = 20 * cnt t := by unfold wS; rw [hh]; rfl
    show wS t + (1 + 0) < _
    omega
theorem w_simple (t : Tm) (w : Str) (h : arN t) : wJs (simpJ t w) < wS t := by
  have hc := cnt_kids t
  unfold arN at h
  unfold simpJ
  have plain : ∀ l : Bool, (kidsT t).length = 2 → wS t = 20 * cnt t → ∃ a b, kidsT t = [a, b] ∧ wJs [.simple a, .simple b, .op l] < wS t := fun l h2 e3 => by
    obtain ⟨a, b, e⟩ := two_of h2
    rw [e] at hc
    have e2 : cnts [a, b] = cnt a + (cnt b + 0) := rfl
    have := wS_le a
    have := wS_le b
    refine ⟨a, b, e, ?_⟩
    show wS a + (wS b + (1 + 0)) < _
    omega
  cases hh : hdT t with
  | num z => have e3 : wS t = 20 * cnt t := by unfold wS; rw [hh]; rfl
             show 1 + 0 < _; omega
  | nam z => have e3 : wS t = 20 * cnt t := by unfold wS; rw [hh]; rfl
             show 1 + 0 < _; omega
  | plus =>
    rw [hh] at h
    obtain ⟨a, b, e, h9⟩ := plain false h (by unfold wS; rw [hh]; rfl)
    rw [e]
    exact h9
  | less =>
    rw [hh] at h
    obtain ⟨a, b, e, h9⟩ := plain true h (by unfold wS; rw [hh]; rfl)
    rw [e]
    exact h9
  | lett y =>
    rw [hh] at h
    obtain ⟨a, b, e⟩ := two_of (show (kidsT t).length = 2 from h)
    rw [e] at hc ⊢
    have e2 : cnts [a, b] = cnt a + (cnt b + 0) := rfl
    have := wP_le a
    have := wS_le b
    have e3 : wS t = 20 * cnt t := by unfold wS; rw [hh]; rfl
    show wP a + (wS b + 0) < _
    omega
  | _ =>
    have e3 : wS t = 20 * cnt t + 2 := by unfold wS; rw [hh]; rfl
    have e4 : wP t = 20 * cnt t := by unfold wP; rw [hh]; rfl
    show wP t + (1 + 0) < _
    omega
/-! ### nothing is left over, nothing is lacking -/
def okJ : List Jb → Nat → List Bool → Prop
  | [], r, g => r = 0 ∧ g = [true]
  | .row :: J, r, g => okJ J (r + 1) g
  | .done _ _ :: J, r, g => ∃ r', r = r' + 1 ∧ okJ J r' (true :: g)
  | .put _ _ :: J, r, g => 0 < r ∧ okJ J r g
  | .simple _ :: J, r, g => 0 < r ∧ okJ J r (false :: g)
  | .known _ :: J, r, g => okJ J r (false :: g)
  | .close :: J, r, g => ∃ r' g', r = r' + 1 ∧ g = true :: g' ∧ okJ J r' (true :: g')
  | .lett _ :: J, r, g => ∃ g', 0 < r ∧ g = false :: g' ∧ okJ J r g'
  | .tell _ :: J, r, g => ∃ g', 0 < r ∧ g = false :: g' ∧ okJ J r g'
  | .post _ _ :: J, r, g => ∃ g', 0 < r ∧ g = true :: g' ∧ okJ J r g'
  | .ask _ n _ :: J, r, g => ∃ g', g = List.replicate n false ++ g' ∧ okJ J r (true :: g')
  | .give _ :: J, r, g => ∃ g', g = false :: g' ∧ okJ J r (true :: g')
  | .iff :: J, r, g => ∃ g', g = true :: true :: false :: g' ∧ okJ J r (true :: g')
  | .op _ :: J, r, g => ∃ g', g = false :: false :: g' ∧ okJ J r (false :: g')
def kG : Gt → Bool
  | .t _ => false
  | .p _ => true
theorem ok_simples {J : List Jb} {r : Nat} (hr : 0 < r) : ∀ (ts : List Tm) (g : List Bool), okJ J r (List.replicate ts.length false ++ g) → okJ (ts.map Jb.simple ++ J) r g
  | [], g, h => h
  | t :: ts, g, h => by
    refine ⟨hr, ok_simples hr ts (false :: g) ?_⟩
    have e : List.replicate ts.length false ++ false :: g = List.replicate (t :: ts).length false ++ g := by
      rw [List.length_cons, List.replicate_succ']
      simp
    rw [e]
    exact h
theorem ok_end {t : Tm} {j : Str} {J : List Jb} {r : Nat} {g : List Bool} (h : arN t) (hr : 0 < r) (o : okJ J r (true :: g)) : okJ (endJ t j ++ J) r g := by
  unfold arN at h
  unfold endJ
  cases hh : hdT t with
  | ask f =>
    show okJ (((kidsT t).map Jb.simple ++ [.ask f (kidsT t).length j]) ++ J) r g
    rw [List.append_assoc]
    exact ok_simples hr _ g ⟨g, rfl, o⟩
  | iff =>
    rw [hh] at h
    obtain ⟨a, b, c, e⟩ := three_of (show (kidsT t).length = 3 from h)
    rw [e]
    exact ⟨hr, r, rfl, r, rfl, g, rfl, o⟩
  | _ => exact ⟨hr, g, rfl, o⟩
theorem ok_done {t : Tm} {j : Str} {J : List Jb} {r : Nat} {g : List Bool} (h : arN t) (o : okJ (.done t j :: J) r g) : okJ (doneJ t j ++ J) r g := by
  obtain ⟨r', rfl, o⟩ := o
  have he : okJ ((endJ t j ++ [.close]) ++ J) (r' + 1) g := by
    rw [List.append_assoc]
    exact ok_end h (Nat.succ_pos _) ⟨r', g, rfl, rfl, o⟩
  unfold arN at h
  unfold doneJ
  cases hh : hdT t with
  | lett x =>
    rw [hh] at h
    obtain ⟨a, b, e⟩ := two_of (show (kidsT t).length = 2 from h)
    rw [e]
    exact ⟨Nat.succ_pos _, r', rfl, o⟩
  | _ => exact he
theorem ok_put {t : Tm} {x w : Str} {J : List Jb} {r : Nat} {g : List Bool} (h : arN t) (o : okJ (.put t x :: J) r g) : okJ (putJ t x w ++ J) r g := by
  obtain ⟨hr, o⟩ := o
  have he : okJ ((endJ t w ++ [.post w x]) ++ J) r g := by
    rw [List.append_assoc]
    exact ok_end h hr ⟨g, hr, rfl, o⟩
  unfold arN at h
  unfold putJ
  cases hh : hdT t with
  | lett y =>
    rw [hh] at h
    obtain ⟨a, b, e⟩ := two_of (show (kidsT t).length = 2 from h)
    rw [e]
    exact ⟨hr, hr, o⟩
  | ask f => exact he
  | iff => exact he
  | tell =>
    rw [hh] at h
    obtain ⟨a, e⟩ := one_of (show (kidsT t).length = 1 from h)
    rw [e]
    exact ⟨hr, g, hr, rfl, o⟩
  | _ => exact ⟨hr, g, hr, rfl, o⟩
theorem ok_simp {t : Tm} {w : Str} {J : List Jb} {r : Nat} {g : List Bool} (h : arN t) (o : okJ (.simple t :: J) r g) : okJ (simpJ t w ++ J) r g := by
  obtain ⟨hr, o⟩ := o
  unfold arN at h
  unfold simpJ
  cases hh : hdT t with
  | num z => exact o
  | nam z => exact o
  | plus =>
    rw [hh] at h
    obtain ⟨a, b, e⟩ := two_of (show (kidsT t).length = 2 from h)
    rw [e]
    exact ⟨hr, hr, g, rfl, o⟩
  | less =>
    rw [hh] at h
    obtain ⟨a, b, e⟩ := two_of (show (kidsT t).length = 2 from h)
    rw [e]
    exact ⟨hr, hr, g, rfl, o⟩
  | lett y =>
    rw [hh] at h
    obtain ⟨a, b, e⟩ := two_of (show (kidsT t).length = 2 from h)
    rw [e]
    exact ⟨hr, hr, o⟩
  | _ => exact ⟨hr, o⟩
end KB

namespace KB
open PySem L2 HT

theorem tk_upd {H : Hp} {p : Addr} {o o' : HO} (h : H p = some o) (n : ∀ xs, o ≠ .tup xs) : TK H (upd H p o') := fun a xs e => by
  rw [upd_ne (ne_of e h (fun z => n xs z.symm))]
  exact e
structure TxN (K : PySem.W.Frag) (mg : Str → Option Value) (CN CT : Addr) : Prop where
  clN : Cls K CN
  nTaken : NoAttr K CN "taken"
  nMany : NoAttr K CN "many"
  clT : Cls K CT
  tNew : NoAttr K CT "new_words"
  tJobs : NoAttr K CT "jobs"
  tRows : NoAttr K CT "rows"
  tGot : NoAttr K CT "got"
  mgN : mg "NewWords" = some (.ref CN)
  mgT : mg "Turning" = some (.ref CT)
def fsN (t m : V) : List (Str × V) := [("taken", t), ("many", m)]
def fsT (w j r g : V) : List (Str × V) := [("new_words", w), ("jobs", j), ("rows", r), ("got", g)]
theorem n_many (t m v : V) : putF "many" v (fsN t m) = fsN t v := by rfl
def Tkn (H : Hp) (td : Addr) (tk : List Str) : Prop := ∃ kvs, H td = some (.dK kvs) ∧ ∀ x : Str, (valV kvs (Sum.inr x)).isSome = decide (x ∈ tk)
structure NWAt (CN : Addr) (H : Hp) (p dx td : Addr) (tk : List Str) (m : Nat) : Prop where
  ob : H p = some (.ins CN dx (fsN (.ref td) (.int (m : Int))))
  tk : Tkn H td tk
theorem NWAt.ne {CN : Addr} {H : Hp} {p dx td : Addr} {tk : List Str} {m : Nat} (h : NWAt CN H p dx td tk m) : td ≠ p := by
  obtain ⟨kvs, h1, _⟩ := h.tk
  exact ne_of h1 h.ob (by intro z; cases z)
theorem NWAt.put {CN : Addr} {H : Hp} {p dx td : Addr} {tk : List Str} {m : Nat} (h : NWAt CN H p dx td tk m) (m' : Nat) : NWAt CN (upd H p (.ins CN dx (fsN (.ref td) (.int (m' : Int))))) p dx td tk m' := by
  refine ⟨upd_same, ?_⟩
  obtain ⟨kvs, h1, h2⟩ := h.tk
  exact ⟨kvs, by rw [upd_ne h.ne]; exact h1, h2⟩

section
variable {P : Program} {w : World} {K : PySem.W.Frag} {mg : Str → Option Value} {base : Heap} {CN CT : Addr}
/-! ### NewWords -/
def spNew0 (CN : Addr) : Sp := fun vs H Q _ => ∃ (p dx tl : Addr) (tk : List Str), vs = [.ref p, .ref tl] ∧ H p = some (.ins CN dx []) ∧ H tl = some (.lst (tk.map V.str)) ∧ tk.length ≤ 1000 ∧
  ∀ H' td, (∀ b o, b ≠ p → H b = some o → H' b = some o) → H td = none → NWAt CN H' p dx td tk 0 → Q .non H'
abbrev sNew0 : Stmt := inClass (top 22) 0
theorem scNew0 : FnScope ["self", "taken", "word"] ["self", "taken"] (defScope sNew0) := ⟨rfl, rfl, rfl, by decide +kernel, rfl, by decide +kernel, by decide +kernel⟩
theorem ok_new0 (X : TxN K mg CN CT) {f : Addr} {fd : FuncData} (F : Fun K "__init__" "NewWords.__init__" sNew0 f fd) : FnOk P w K mg base CX0 1 f fd ["self", "taken"] (spNew0 CN) := by
  refine F.ok scNew0 (fun vs H Q E h => ?_) (fun cdv A outer s H vs Q E hr h => ?_)
  · obtain ⟨p, dx, tl, tk, rfl, _⟩ := h
    rfl
  obtain ⟨p, dx, tl, tk, rfl, hp, ht, hl, q⟩ := h
  refine ⟨_, pss_cons (ps_fld (pv 0) (pe_dc (own := [("word", 2)]) (g := gName 2) (tt := tYes) (tk := tVar 2) (tv := tC (.bl true)) (by rfl) scNew0.nd (pi_list (pv 1)) (blkOk_by (own := [("word", 2)]) (N := ["self", "taken", "word"]) (sc := defScope sNew0) (by decide +kernel)) (fun _ _ _ _ _ => pg_name (i := 2) scNew0.nd rfl (Or.inl rfl)) (fun _ _ _ _ _ => pts_nil) (fun _ _ _ _ _ => pv 2) (fun _ _ _ _ _ => pe_bl)) rfl)
    (pss_one (ps_fld (pv 0) pe_int rfl)), ?_⟩
  refine ⟨_, rfl, tl, rfl, ⟨_, SqL.of ht⟩, fun D hD => ?_⟩
  refine ⟨fun i m' H' => m' = tk.length - i ∧ i ≤ tk.length ∧ Same H H' ∧ ∃ kvs, H' D = some (.dK kvs) ∧ kvs.length ≤ i ∧ ∀ x : Str, (valV kvs (Sum.inr x)).isSome = decide (x ∈ tk.take i),
    ⟨_, rfl, Nat.zero_le _, same_new hD _, [], upd_same, Nat.le_refl _, fun x => by rw [List.take_zero]; rfl⟩, ?_⟩
  rintro i m' H1 ⟨rfl, hi, s1, kvs, hk, hkl, hall⟩
  by_cases c : i < tk.length
  · have hx1 : (tk.map V.str)[i]? = some (.str tk[i]) := by rw [List.getElem?_map, List.getElem?_eq_getElem c]; rfl
    refine .inr ⟨⟨_, _, SqL.of (s1 _ _ ht), hx1⟩, fun H' => i + 1 ≤ tk.length ∧ Same H H' ∧ ∃ kvs, H' D = some (.dK kvs) ∧ kvs.length ≤ i + 1 ∧ ∀ x : Str, (valV kvs (Sum.inr x)).isSome = decide (x ∈ tk.take (i + 1)),
      fun H' h => ⟨tk.length - (i + 1), by omega, rfl, h⟩, fun x H' hy => ?_⟩
    obtain ⟨e', hx⟩ := hy
    subst e'
    have hx := hx _ (SqL.of (s1 _ _ ht))
    rw [hx1] at hx
    cases hx
    refine ⟨rfl, ?_⟩
    dsimp only [tYes]
    rw [if_pos rfl]
    refine ⟨_, rfl, kvs, Sum.inr tk[i], rfl, hk, Nat.lt_of_le_of_lt (m := 1000) (by omega) (by decide), c, same_mut s1 hD, putK kvs (Sum.inr tk[i]) (.bl true), upd_same, Nat.le_trans (length_putK _ _ _) (Nat.succ_le_succ hkl), fun x => ?_⟩
    rw [valV_put, List.take_succ_eq_append_getElem c]
    by_cases e : x = tk[i]
    · rw [if_pos (by rw [e])]
      rw [decide_eq_true (by rw [e]; exact List.mem_append_right _ List.mem_cons_self)]
      rfl
    · rw [if_neg (fun z => e (Sum.inr.inj z)), hall]
      by_cases e2 : x ∈ tk.take i
      · rw [decide_eq_true e2, decide_eq_true (List.mem_append_left _ e2)]
      · rw [decide_eq_false e2, decide_eq_false fun z => ?_]
        rcases List.mem_append.mp z with z | z
        · exact e2 z
        · exact e (List.mem_singleton.mp z)
  · have ei : i = tk.length := by omega
    subst ei
    rw [List.take_length] at hall
    refine .inl ⟨⟨_, SqL.of (s1 _ _ ht), by rw [List.length_map]; exact Nat.le_refl _⟩, ?_⟩
    have hp1 := s1 _ _ hp
    have nD : D ≠ p := (ne_of_none hp hD).symm
    refine ⟨_, rfl, p, CN, dx, _, rfl, hp1, X.clN, X.nTaken, (by show 0 < 1000; decide), ?_⟩
    refine ⟨_, rfl, p, CN, dx, _, rfl, upd_same, X.clN, X.nMany, (by show 1 < 1000; decide), ?_⟩
    rw [upd_upd]
    refine q _ D (fun b o n hb => ?_) hD ⟨upd_same, kvs, ?_, hall⟩
    · rw [upd_ne n]
      exact s1 _ _ hb
    · rw [upd_ne nD]
      exact hk
/-! ### one_more -/
def spMore (CN : Addr) : Sp := fun vs H Q _ => ∃ (p dx td : Addr) (tk : List Str) (m : Nat), vs = [.ref p] ∧ NWAt CN H p dx td tk m ∧ m + tk.length + 2 < 26 ^ 9 ∧
  ∀ w m', NwR tk m w m' → Q (.str w) (upd H p (.ins CN dx (fsN (.ref td) (.int (m' : Int)))))
abbrev sMore : Stmt := inClass (top 22) 1
theorem scMore : FnScope ["self", "word"] ["self"] (defScope sMore) := ⟨rfl, rfl, rfl, by decide +kernel, rfl, by decide +kernel, by decide +kernel⟩
theorem ok_more (X : TxN K mg CN CT) {f f1 : Addr} {fd d1 : FuncData} (F : Fun K "one_more" "NewWords.one_more" sMore f fd) (Gword_of : FnOk P w K mg base CX0 1 f1 d1 ["k"] spWordOf) (Rword_of : Ref K mg "word_of" f1 d1 ["k"]) : FnOk P w K mg base CX0 2 f fd ["self"] (spMore CN) := by
  refine F.ok scMore (fun vs H Q E h => ?_) (fun cdv A outer s H vs Q E hr h => ?_)
  · obtain ⟨p, dx, td, tk, m, rfl, _⟩ := h
    rfl
  obtain ⟨p, dx, td, tk, m, rfl, hN, hb, q⟩ := h
  refine ⟨_, (pss_cons (ps_set (i := 1) scMore.nd rfl (Or.inl rfl) (pe_call Gword_of (hr.mono (by omega)) rfl Rword_of.m Rword_of.k Rword_of.b .nil pass0 (pa_cons (pe_fld (pv 0) rfl) pa_nil)))
    (pss_cons (ps_fldaug (pv 0) pe_int in_add)
    (pss_cons (ps_while PassesOwn.never (pt_cmp (pc_din (hu_of hr) (pv 1) (pe_fld (pv 0) rfl))) (pss_cons (ps_set (i := 1) scMore.nd rfl (Or.inl rfl) (pe_call Gword_of (hr.mono (by omega)) rfl Rword_of.m Rword_of.k Rword_of.b .nil pass0 (pa_cons (pe_fld (pv 0) rfl) pa_nil)))
    (pss_one (ps_fldaug (pv 0) pe_int in_add))))
    (pss_one (ps_ret (pv 1)))))), ?_⟩
  obtain ⟨k0, hk1, hk2, hk3⟩ := free_word tk m
  have step : ∀ (i : Nat), putF "many" (.int ((i : Int) + 1)) (fsN (.ref td) (.int (i : Int))) = fsN (.ref td) (.int ((i + 1 : Nat) : Int)) := fun i => by
    rw [n_many]
    rfl
  refine ⟨_, rfl, p, CN, dx, _, _, rfl, hN.ob, X.clN, X.nMany, rfl, m, rfl, by omega, ?_⟩
  refine ⟨_, rfl, p, CN, dx, _, _, rfl, hN.ob, X.clN, X.nMany, rfl, _, _, rfl, rfl, _, _, hN.ob, (by show 2 < 1000; decide), ?_⟩
  rw [step]
  refine ⟨fun μ σ H' => ∃ i : Nat, m ≤ i ∧ i ≤ k0 ∧ (∀ l, m ≤ l → l < i → wordOf l ∈ tk) ∧ σ = [some (.ref p), some (.str (wordOf i))] ∧ upd H p (.ins CN dx (fsN (.ref td) (.int ((i + 1 : Nat) : Int)))) = H' ∧ k0 - i = μ, ⟨_, m, Nat.le_refl _, hk1, fun l z1 z2 => by omega, rfl, rfl, rfl⟩, ?_⟩
  rintro μ σ H' ⟨i, h1, h2, hin, rfl, rfl, rfl⟩
  have hNi := hN.put (i + 1)
  obtain ⟨kvs, ht1, ht2⟩ := hNi.tk
  refine ⟨_, rfl, _, rfl, p, CN, dx, _, _, rfl, hNi.ob, X.clN, X.nTaken, rfl, td, _, rfl, DGet.k (k := Sum.inr (wordOf i)) ht1, _, rfl, ?_⟩
  rw [ht2]
  by_cases c : wordOf i ∈ tk
  · have hlt : i < k0 := by
      rcases Nat.lt_or_ge i k0 with z | z
      · exact z
      · have : i = k0 := by omega
        subst this
        exact absurd c hk3
    refine itT (decide_eq_true c) ⟨fun σ' H' => ∃ m', m' < k0 - i ∧ ∃ i : Nat, m ≤ i ∧ i ≤ k0 ∧ (∀ l, m ≤ l → l < i → wordOf l ∈ tk) ∧ σ' = [some (.ref p), some (.str (wordOf i))] ∧ upd H p (.ins CN dx (fsN (.ref td) (.int ((i + 1 : Nat) : Int)))) = H' ∧ k0 - i = m', fun _ _ z => z, ?_⟩
    refine ⟨_, rfl, p, CN, dx, _, _, rfl, hNi.ob, X.clN, X.nMany, rfl, i + 1, rfl, by omega, ?_⟩
    refine ⟨_, rfl, p, CN, dx, _, _, rfl, hNi.ob, X.clN, X.nMany, rfl, _, _, rfl, rfl, _, _, hNi.ob, (by show 2 < 1000; decide), ?_⟩
    rw [step, upd_upd]
    refine ⟨k0 - (i + 1), by omega, i + 1, by omega, by omega, fun l z1 z2 => ?_, rfl, rfl, rfl⟩
    rcases Nat.lt_or_ge l i with y | y
    · exact hin l z1 y
    · have : l = i := by omega
      subst this
      exact c
  · refine itF (decide_eq_false c) ⟨_, rfl, q _ (i + 1) ⟨i, h1, by omega, rfl, c, rfl, hin⟩⟩
end
end KB

namespace KB
open PySem L2 HT

/-! ### jobs, leads and what is made, as they stand -/
def JbA (H : Hp) (q : Addr) : Jb → Prop
  | .row => H q = some (.tup [.str "row"])
  | .done t j => ∃ b, H q = some (.tup [.str "done", .ref b, .str j]) ∧ At H t b
  | .put t x => ∃ b, H q = some (.tup [.str "put", .ref b, .str x]) ∧ At H t b
  | .simple t => ∃ b, H q = some (.tup [.str "simple", .ref b]) ∧ At H t b
  | .known t => ∃ b, H q = some (.tup [.str "known", .ref b]) ∧ At H t b
  | .close => H q = some (.tup [.str "close"])
  | .lett x => H q = some (.tup [.str "let", .str x])
  | .tell x => H q = some (.tup [.str "tell", .str x])
  | .post j x => H q = some (.tup [.str "post", .str j, .str x])
  | .ask f n j => H q = some (.tup [.str "ask", .str f, .int (n : Int), .str j])
  | .give j => H q = some (.tup [.str "give", .str j])
  | .iff => H q = some (.tup [.str "if"])
  | .op l => H q = some (.tup [.str (if l then "less" else "plus")])
def JbV (H : Hp) (j : Jb) (v : V) : Prop := ∃ q, v = .ref q ∧ JbA H q j
theorem JbA.tk {H H' : Hp} (e : TK H H') {q : Addr} {j : Jb} (h : JbA H q j) : JbA H' q j := by
  cases j with
  | done t j => obtain ⟨b, h1, h2⟩ := h; exact ⟨b, e _ _ h1, h2.tk e⟩
  | put t x => obtain ⟨b, h1, h2⟩ := h; exact ⟨b, e _ _ h1, h2.tk e⟩
  | simple t => obtain ⟨b, h1, h2⟩ := h; exact ⟨b, e _ _ h1, h2.tk e⟩
  | known t => obtain ⟨b, h1, h2⟩ := h; exact ⟨b, e _ _ h1, h2.tk e⟩
  | _ => exact e _ _ h
theorem JbV.tk {H H' : Hp} (e : TK H H') {j : Jb} {v : V} (h : JbV H j v) : JbV H' j v := let ⟨q, e1, h1⟩ := h; ⟨q, e1, h1.tk e⟩
def LdV (H : Hp) (l : Ld) (v : V) : Prop := ∃ q b, v = .ref q ∧ (match l with
  | .lett x s => H q = some (.tup [.str "let", .str x, .ref b]) ∧ At H s b
  | .tell x s => H q = some (.tup [.str "tell", .str x, .ref b]) ∧ At H s b
  | .post j x u => H q = some (.tup [.str "post", .str j, .str x, .ref b]) ∧ PAt H u b)
theorem LdV.tk {H H' : Hp} (e : TK H H') {l : Ld} {v : V} (h : LdV H l v) : LdV H' l v := by
  obtain ⟨q, b, e1, h1⟩ := h
  refine ⟨q, b, e1, ?_⟩
  cases l with
  | lett x s => exact ⟨e _ _ h1.1, h1.2.tk e⟩
  | tell x s => exact ⟨e _ _ h1.1, h1.2.tk e⟩
  | post j x u => exact ⟨e _ _ h1.1, PAt.tk e h1.2⟩
def GtV (H : Hp) (g : Gt) (v : V) : Prop := ∃ b, v = .ref b ∧ (match g with | .t s => At H s b | .p q => PAt H q b)
theorem GtV.tk {H H' : Hp} (e : TK H H') {g : Gt} {v : V} (h : GtV H g v) : GtV H' g v := by
  obtain ⟨b, e1, h1⟩ := h
  refine ⟨b, e1, ?_⟩
  cases g with
  | t s => exact At.tk e h1
  | p q => exact PAt.tk e h1
theorem all2_fnR {H : Hp} : ∀ {n : Nat} {k : _root_.Fin n → Tm} {ys : _root_.Fin n → Addr}, (∀ i, At H (k i) (ys i)) → All2 (RefV H) (List.ofFn k) (Rfs ys)
  | 0, _, _, _ => trivial
  | n + 1, k, ys, h => by
    unfold Rfs
    rw [List.ofFn_succ, List.ofFn_succ]
    exact ⟨⟨ys 0, rfl, h 0⟩, all2_fnR (k := fun i => k i.succ) (ys := fun i => ys i.succ) fun i => h i.succ⟩
theorem At.kids {H : Hp} {t : Tm} {a : Addr} (h : At H t a) : ∃ xs, Lay H a (hdT t) xs ∧ All2 (RefV H) (kidsT t) xs := by
  cases t with
  | mk hd n k =>
    obtain ⟨ys, l, r⟩ := h
    exact ⟨Rfs ys, l, all2_fnR r⟩
theorem At.ar {H : Hp} {t : Tm} {a : Addr} (h : At H t a) : arN t := by
  obtain ⟨xs, l, k⟩ := h.kids
  unfold arN
  rw [← k.len]
  exact l.ar
theorem all2_one {α : Type} {R : α → V → Prop} {a : α} {vs : List V} (h : All2 R [a] vs) : ∃ v, vs = [v] ∧ R a v := by
  match vs, h with
  | [v], ⟨h1, _⟩ => exact ⟨v, rfl, h1⟩
theorem all2_two {α : Type} {R : α → V → Prop} {a b : α} {vs : List V} (h : All2 R [a, b] vs) : ∃ v w, vs = [v, w] ∧ R a v ∧ R b w := by
  match vs, h with
  | [v, w], ⟨h1, h2, _⟩ => exact ⟨v, w, rfl, h1, h2⟩
theorem all2_three {α : Type} {R : α → V → Prop} {a b c : α} {vs : List V} (h : All2 R [a, b, c] vs) : ∃ v w x, vs = [v, w, x] ∧ R a v ∧ R b w ∧ R c x := by
  match vs, h with
  | [v, w, x], ⟨h1, h2, h3, _⟩ => exact ⟨v, w, x, rfl, h1, h2, h3⟩
theorem at3 {x y z u : V} {r : List V} : atI (x :: y :: z :: u :: r) 3 = some u := at_of (j := 3) rfl rfl
section
variable {P : Program} {w : World} {K : PySem.W.Frag} {mg : Str → Option Value} {base : Heap} {CN CT : Addr}
/-! ### jobs_to_end -/
def spJend : Sp := fun vs H Q _ => ∃ (a : Addr) (t : Tm) (j : Str), vs = [.ref a, .str j] ∧ At H t a ∧ ∀ r H' us, H r = none → Same H H' → H' r = some (.lst us) → All2 (JbV H') (endJ t j) us → Q (.ref r) H'
abbrev sjobs_to_end : Stmt := top 26
theorem scjobs_to_end : FnScope ["term", "j", "part", "sides"] ["term", "j"] (defScope sjobs_to_end) := ⟨rfl, rfl, rfl, by decide +kernel, rfl, by decide +kernel, by decide +kernel⟩
theorem hs_ask {h : Hd} (e : hs h = "ask") : ∃ f, h = .ask f := by
  cases h <;> dsimp only [hs] at e <;> first | exact ⟨_, rfl⟩ | exact absurd e (by decide)
theorem hs_iff {h : Hd} (e : hs h = "if") : h = .iff := by
  cases h <;> dsimp only [hs] at e <;> first | rfl | exact absurd e (by decide)
theorem hs_let {h : Hd} (e : hs h = "let") : ∃ x, h = .lett x := by
  cases h <;> dsimp only [hs] at e <;> first | exact ⟨_, rfl⟩ | exact absurd e (by decide)
theorem hs_tell {h : Hd} (e : hs h = "tell") : h = .tell := by
  cases h <;> dsimp only [hs] at e <;> first | rfl | exact absurd e (by decide)
theorem endJ_plain {t : Tm} {j : Str} (h1 : hs (hdT t) ≠ "ask") (h2 : hs (hdT t) ≠ "if") : endJ t j = [.simple t, .give j] := by
  unfold endJ
  cases hh : hdT t with
  | ask f => rw [hh] at h1; exact absurd rfl h1
  | iff => rw [hh] at h2; exact absurd rfl h2
  | _ => rfl
theorem ok_jend (T : Txt K mg) {f : Addr} {fd : FuncData} (F : Fun K "jobs_to_end" "jobs_to_end" sjobs_to_end f fd) : FnOk P w K mg base CX0 1 f fd ["term", "j"] spJend := by
  refine F.ok scjobs_to_end (fun vs H Q E h => ?_) (fun cdv A outer s H vs Q E hr h => ?_)
  · obtain ⟨a, t, j, rfl, _⟩ := h
    rfl
  obtain ⟨a, t, j, rfl, hA, q⟩ := h
  refine ⟨_, (pss_cons (ps_if (pt_cmpR op_eq (pe_ix ix_tup (pv 0) pe_int (fun _ _ => rfl)) pe_str (nomark _)) (pss_one (ps_ret (pe_lst (StX.pa_star (pe_lc (own := [("part", 2)]) (g := gName 2) (by rfl) scjobs_to_end.nd (pi_tup (pe_ix ix_tup (pv 0) pe_int (fun _ _ => rfl))) (blkOk_by (own := [("part", 2)]) (N := ["term", "j", "part", "sides"]) (sc := defScope sjobs_to_end) (by decide +kernel)) (fun _ _ _ _ _ => (pg_name (i := 2) scjobs_to_end.nd rfl (Or.inl rfl))) (fun _ _ _ _ _ => pts_nil) (fun _ _ _ _ _ => (pe_tup (pa_cons pe_str (pa_cons (pv 2) pa_nil))))) (pa_cons (pe_tup (pa_cons pe_str (pa_cons (pe_ix ix_tup (pv 0) pe_int (fun _ _ => rfl)) (pa_cons (pe_callB call_len_seq (by rfl) T.m_len PySem.boot_len (pa_cons (pe_ix ix_tup (pv 0) pe_int (fun _ _ => rfl)) pa_nil)) (pa_cons (pv 1) pa_nil))))) pa_nil))))) pss_nil)
    (pss_cons (ps_if (pt_cmpR op_eq (pe_ix ix_tup (pv 0) pe_int (fun _ _ => rfl)) pe_str (nomark _)) (pss_cons (ps_set (i := 3) scjobs_to_end.nd rfl (Or.inl rfl) (pe_lst (pa_cons (pe_tup (pa_cons pe_str pa_nil)) (pa_cons (pe_tup (pa_cons pe_str (pa_cons (pe_ix ix_tup (pv 0) pe_int (fun _ _ => rfl)) (pa_cons (pv 1) pa_nil)))) (pa_cons (pe_tup (pa_cons pe_str pa_nil)) (pa_cons (pe_tup (pa_cons pe_str (pa_cons (pe_ix ix_tup (pv 0) pe_int (fun _ _ => rfl)) (pa_cons (pv 1) pa_nil)))) pa_nil))))))
    (pss_one (ps_ret (pe_lst (pa_cons (pe_tup (pa_cons pe_str (pa_cons (pe_ix ix_tup (pv 0) pe_int (fun _ _ => rfl)) pa_nil))) (StX.pa_star (pv 3) (pa_cons (pe_tup (pa_cons pe_str pa_nil)) pa_nil))))))) pss_nil)
    (pss_one (ps_ret (pe_lst (pa_cons (pe_tup (pa_cons pe_str (pa_cons (pv 0) pa_nil))) (pa_cons (pe_tup (pa_cons pe_str (pa_cons (pv 1) pa_nil))) pa_nil))))))), ?_⟩
  obtain ⟨xs, l, kx⟩ := hA.kids
  obtain ⟨r0, hd⟩ := l.head
  have hlk := kx.len
  refine ⟨_, rfl, a, _, _, _, rfl, rfl, SqT.of hd, at0, rfl, _, rfl, ?_⟩
  refine ite2 (fun c => ?_) (fun c => ?_)
  · obtain ⟨g, hh⟩ := hs_ask (V.str.inj (of_decide_eq_true c))
    have eE : endJ t j = (kidsT t).map Jb.simple ++ [.ask g (kidsT t).length j] := by
      unfold endJ
      rw [hh]
    rw [eE] at q
    rw [hh] at l
    obtain ⟨l4, ap, la, lp⟩ := l
    refine ⟨_, rfl, a, _, _, _, rfl, rfl, SqT.of la, at2, ap, rfl, ⟨_, SqT.of lp⟩, fun D hD => lc_tup (K := K) (a := ap) (xs := xs) (fun i H' => Same H H' ∧ ∃ acc, H' D = some (.lst acc) ∧ All2 (JbV H') (((kidsT t).take i).map Jb.simple) acc) ⟨same_new hD _, [], upd_same, trivial⟩ ?_ ?_ ?_⟩
    · rintro i H' _ ⟨s1, _⟩
      exact SqT.of (s1 _ _ lp)
    · rintro i x H1 hx ⟨s1, acc, h1, k1⟩
      obtain ⟨u, hu, b, rfl, hb⟩ := kx.get hx
      have hil := (List.getElem?_eq_some_iff.mp hx).1
      refine ⟨rfl, ?_⟩
      dsimp only [tYes]
      refine iteT ⟨_, rfl, sz (by show 2 ≤ 100000; decide), fun t1 ht1 => ?_⟩
      have s2 := same_new ht1 (.tup [.str "simple", .ref b])
      have h2 := s2 _ _ h1
      have hal := k1.len
      rw [List.length_map, List.length_take] at hal
      refine ⟨acc, h2, Nat.lt_of_le_of_lt (m := 1000) (by omega) (by decide), same_mut (s1.trans s2) hD, _, upd_same, ?_⟩
      have tk := tk_put (o := .lst (acc ++ [.ref t1])) h2
      obtain ⟨hj, hj2⟩ := List.getElem?_eq_some_iff.mp hu
      rw [List.take_succ_eq_append_getElem hj, hj2, List.map_append]
      exact (k1.imp fun _ _ z => JbV.tk ((tk_same s2).trans tk) z).app ⟨⟨t1, rfl, b, tk _ _ upd_same, hb.tk ((tk_same (s1.trans s2)).trans tk)⟩, trivial⟩
    · rintro H1 ⟨s1, acc, h1, k1⟩
      rw [hlk, List.take_length] at k1
      have hal := k1.len
      rw [List.length_map] at hal
      refine ⟨D, acc, rfl, .inr (SqL.of h1), _, rfl, a, _, _, _, rfl, rfl, SqT.of (s1 _ _ la), at1, _, rfl, a, _, _, _, rfl, rfl, SqT.of (s1 _ _ la), at2, ap, _, rfl, .inr (SqT.of (s1 _ _ lp)), _, rfl, sz (by show 4 ≤ 100000; decide), fun t2 ht2 => ?_⟩
      rw [hlk]
      have s2 := same_new ht2 (.tup [.str "ask", .str g, .int ((kidsT t).length : Int), .str j])
      refine ⟨sz (by rw [List.length_append, List.length_singleton]; omega), fun r hr2 => ?_⟩
      have s3 := same_new hr2 (.lst (acc ++ [.ref t2]))
      have s12 := s1.trans s2
      refine q r _ _ (s12.free hr2) (s12.trans s3) upd_same ?_
      exact (k1.imp fun _ _ z => JbV.tk (tk_same (s2.trans s3)) z).app ⟨⟨t2, rfl, s3 _ _ upd_same⟩, trivial⟩
  refine ⟨_, rfl, a, _, _, _, rfl, rfl, SqT.of hd, at0, rfl, _, rfl, ?_⟩
  refine ite2 (fun c2 => ?_) (fun c2 => ?_)
  · have hh := hs_iff (V.str.inj (of_decide_eq_true c2))
    rw [hh] at l
    obtain ⟨u1, u2, u3, e3⟩ := three_of (show (kidsT t).length = 3 by rw [← hlk]; exact l.1)
    have eE : endJ t j = [.simple u1, .row, .done u2 j, .row, .done u3 j, .iff] := by
      unfold endJ
      rw [hh, e3]
    rw [eE] at q
    rw [e3] at kx
    obtain ⟨v1, v2, v3, rfl, ⟨b1, rfl, g1⟩, ⟨b2, rfl, g2⟩, ⟨b3, rfl, g3⟩⟩ := all2_three kx
    have la : H a = some (.tup [.str "if", .ref b1, .ref b2, .ref b3]) := l.2
    refine ⟨sz (by show 1 ≤ 100000; decide), fun t1 ht1 => ?_⟩
    have s1 := same_new ht1 (.tup [.str "row"])
    refine ⟨_, rfl, a, _, _, _, rfl, rfl, SqT.of (s1 _ _ la), at2, _, rfl, sz (by show 3 ≤ 100000; decide), fun t2 ht2 => ?_⟩
    have s2 := same_new ht2 (.tup [.str "done", .ref b2, .str j])
    refine ⟨sz (by show 1 ≤ 100000; decide), fun t3 ht3 => ?_⟩
    have s3 := same_new ht3 (.tup [.str "row"])
    refine ⟨_, rfl, a, _, _, _, rfl, rfl, SqT.of ((s1.trans (s2.trans s3)) _ _ la), at3, _, rfl, sz (by show 3 ≤ 100000; decide), fun t4 ht4 => ?_⟩
    have s4 := same_new ht4 (.tup [.str "done", .ref b3, .str j])
    refine ⟨sz (by show 4 ≤ 100000; decide), fun sl hsl => ?_⟩
    have s5 := same_new hsl (.lst [.ref t1, .ref t2, .ref t3, .ref t4])
    have s15 := s1.trans (s2.trans (s3.trans (s4.trans s5)))
    refine ⟨_, rfl, a, _, _, _, rfl, rfl, SqT.of (s15 _ _ la), at1, sz (by show 2 ≤ 100000; decide), fun t5 ht5 => ?_⟩
    have s6 := same_new ht5 (.tup [.str "simple", .ref b1])
    refine ⟨_, rfl, sl, _, rfl, .inr (SqL.of (s6 _ _ upd_same)), sz (by show 1 ≤ 100000; decide), fun t6 ht6 => ?_⟩
    have s7 := same_new ht6 (.tup [.str "if"])
    refine ⟨sz (by show 6 ≤ 100000; decide), fun r hr2 => ?_⟩
    have s8 := same_new hr2 (.lst [.ref t5, .ref t1, .ref t2, .ref t3, .ref t4, .ref t6])
    have s17 := s15.trans (s6.trans s7)
    have s18 := s17.trans s8
    have tkA := tk_same s18
    refine q r _ _ (s17.free hr2) s18 upd_same ⟨⟨t5, rfl, b1, (s7.trans s8) _ _ upd_same, g1.tk tkA⟩, ⟨t1, rfl, (s2.trans (s3.trans (s4.trans (s5.trans (s6.trans (s7.trans s8)))))) _ _ upd_same⟩,
      ⟨t2, rfl, b2, (s3.trans (s4.trans (s5.trans (s6.trans (s7.trans s8))))) _ _ upd_same, g2.tk tkA⟩, ⟨t3, rfl, (s4.trans (s5.trans (s6.trans (s7.trans s8)))) _ _ upd_same⟩, ⟨t4, rfl, b3, (s5.trans (s6.trans (s7.trans s8))) _ _ upd_same, g3.tk tkA⟩, ⟨t6, rfl, s8 _ _ upd_same⟩, trivial⟩
  · have eE : endJ t j = [.simple t, .give j] := endJ_plain (fun z => c (decide_eq_true (congrArg V.str z))) (fun z => c2 (decide_eq_true (congrArg V.str z)))
    rw [eE] at q
    refine ⟨_, rfl, sz (by show 2 ≤ 100000; decide), fun t1 ht1 => ?_⟩
    have s1 := same_new ht1 (.tup [.str "simple", .ref a])
    refine ⟨_, rfl, sz (by show 2 ≤ 100000; decide), fun t2 ht2 => ?_⟩
    have s2 := same_new ht2 (.tup [.str "give", .str j])
    refine ⟨sz (by show 2 ≤ 100000; decide), fun r hr2 => ?_⟩
    have s3 := same_new hr2 (.lst [.ref t1, .ref t2])
    have s13 := s1.trans (s2.trans s3)
    exact q r _ _ ((s1.trans s2).free hr2) s13 upd_same ⟨⟨t1, rfl, a, (s2.trans s3) _ _ upd_same, hA.tk (tk_same s13)⟩, ⟨t2, rfl, s3 _ _ upd_same⟩, trivial⟩
/-! ### put_ahead -/
def spAhead : Sp := fun vs H Q _ => ∃ (la b : Addr) (ls : List V) (r : List Ld) (p : Pt), vs = [.ref la, .ref b] ∧ H la = some (.lst ls) ∧ All2 (LdV H) r ls ∧ PAt H p b ∧ ∀ H' b', Same H H' → PAt H' (putAh r p) b' → Q (.ref b') H'
abbrev sput_ahead : Stmt := top 27
theorem scput_ahead : FnScope ["leads", "part", "lead", "head", "j", "x", "inner"] ["leads", "part"] (defScope sput_ahead) := ⟨rfl, rfl, rfl, by decide +kernel, rfl, by decide +kernel, by decide +kernel⟩
theorem putAh_app (a b : List Ld) (p : Pt) : putAh (a ++ b) p = putAh a (putAh b p) := by
  induction a with
  | nil => rfl
  | cons l r ih => cases l <;> (show _ = _; simp only [List.cons_append, putAh, ih])
theorem ok_ahead (T : Txt K mg) {f : Addr} {fd : FuncData} (F : Fun K "put_ahead" "put_ahead" sput_ahead f fd) : FnOk P w K mg base CX0 1 f fd ["leads", "part"] spAhead := by
  refine F.ok scput_ahead (fun vs H Q E h => ?_) (fun cdv A outer s H vs Q E hr h => ?_)
  · obtain ⟨la, b, ls, r, p, rfl, _⟩ := h
    rfl
  obtain ⟨la, b, ls, r, p, rfl, hl, kl, hb, q⟩ := h
  refine ⟨_, (pss_cons (ps_for PassesOwn.never rfl (RT.pi_revA rfl T.m_reversed (pv 0)) (pg_name (i := 2) scput_ahead.nd rfl (Or.inl rfl)) (pss_one (ps_if (pt_cmpR op_eq (pe_ix ix_tup (pv 2) pe_int (fun _ _ => rfl)) pe_str (nomark _)) (pss_cons (ps_asg (pv 2) (pg_tup rfl (pgs_cons (pg_name (i := 3) scput_ahead.nd rfl (Or.inl rfl)) (pgs_cons (pg_name (i := 4) scput_ahead.nd rfl (Or.inl rfl)) (pgs_cons (pg_name (i := 5) scput_ahead.nd rfl (Or.inl rfl)) (pgs_cons (pg_name (i := 6) scput_ahead.nd rfl (Or.inl rfl)) pgs_nil))))))
    (pss_one (ps_set (i := 1) scput_ahead.nd rfl (Or.inl rfl) (pe_tup (pa_cons (pv 3) (pa_cons (pv 4) (pa_cons (pv 5) (pa_cons (pv 1) (pa_cons (pv 6) pa_nil))))))))) (pss_one (ps_set (i := 1) scput_ahead.nd rfl (Or.inl rfl) (pe_tup (StX.pa_star (pv 2) (pa_cons (pv 1) pa_nil))))))))
    (pss_one (ps_ret (pv 1)))), ?_⟩
  have hlen := kl.len
  refine ⟨_, rfl, la, ls, rfl, .inl ⟨SqL.of hl, ?_⟩⟩
  refine RT.for_Itv (K := K) (a := la) (xs := ls) (fun i σ H' => ∃ b' o2 o3 o4 o5 o6, σ = [some (.ref la), some (.ref b'), o2, o3, o4, o5, o6] ∧ Same H H' ∧ PAt H' (putAh (r.drop (r.length - i)) p) b') ?_ ?_ ?_ ?_
  · refine ⟨b, _, _, _, _, _, rfl, Same.refl _, ?_⟩
    rw [Nat.sub_zero, List.drop_length]
    exact hb
  · rintro i σ H' ⟨b', o2, o3, o4, o5, o6, rfl, s1, _⟩
    exact SqL.of (s1 _ _ hl)
  · rintro i x σ H1 hi hx ⟨b', o2, o3, o4, o5, o6, rfl, s1, h1⟩
    obtain ⟨ld, hld, q1, b1, rfl, g⟩ := kl.get hx
    rw [hlen] at hld hi
    have hj : r.length - 1 - i < r.length := by omega
    have eD : r.drop (r.length - (i + 1)) = ld :: r.drop (r.length - i) := by
      have e1 : r.length - (i + 1) = r.length - 1 - i := by omega
      have e2 : r.length - i = r.length - 1 - i + 1 := by omega
      rw [e1, e2, List.drop_eq_getElem_cons hj]
      congr 1
      rw [List.getElem?_eq_getElem hj] at hld
      exact Option.some.inj hld
    rw [eD]
    cases ld with
    | lett y s =>
      obtain ⟨g1, g2⟩ := g
      refine ⟨_, rfl, q1, _, _, _, rfl, rfl, SqT.of (s1 _ _ g1), at0, rfl, _, rfl, itF rfl ?_⟩
      refine ⟨_, rfl, q1, _, rfl, .inl (SqT.of (s1 _ _ g1)), _, rfl, sz (by show 4 ≤ 100000; decide), fun t1 ht1 => ?_⟩
      have s2 := same_new ht1 (.tup [.str "let", .str y, .ref b1, .ref b'])
      exact ⟨t1, _, _, _, _, _, rfl, s1.trans s2, b1, b', upd_same, g2.tk (tk_same (s1.trans s2)), PAt.tk (tk_same s2) h1⟩
    | tell y s =>
      obtain ⟨g1, g2⟩ := g
      refine ⟨_, rfl, q1, _, _, _, rfl, rfl, SqT.of (s1 _ _ g1), at0, rfl, _, rfl, itF rfl ?_⟩
      refine ⟨_, rfl, q1, _, rfl, .inl (SqT.of (s1 _ _ g1)), _, rfl, sz (by show 4 ≤ 100000; decide), fun t1 ht1 => ?_⟩
      have s2 := same_new ht1 (.tup [.str "tell", .str y, .ref b1, .ref b'])
      exact ⟨t1, _, _, _, _, _, rfl, s1.trans s2, b1, b', upd_same, g2.tk (tk_same (s1.trans s2)), PAt.tk (tk_same s2) h1⟩
    | post j y u =>
      obtain ⟨g1, g2⟩ := g
      refine ⟨_, rfl, q1, _, _, _, rfl, rfl, SqT.of (s1 _ _ g1), at0, rfl, _, rfl, itT rfl ?_⟩
      refine ⟨_, rfl, q1, _, rfl, SqT.of (s1 _ _ g1), rfl, _, _, rfl, _, _, rfl, _, _, rfl, _, _, rfl, rfl, ?_⟩
      refine ⟨_, rfl, _, rfl, _, rfl, _, rfl, _, rfl, sz (by show 5 ≤ 100000; decide), fun t1 ht1 => ?_⟩
      have s2 := same_new ht1 (.tup [.str "post", .str j, .str y, .ref b', .ref b1])
      exact ⟨t1, _, _, _, _, _, rfl, s1.trans s2, b', b1, upd_same, PAt.tk (tk_same s2) h1, PAt.tk (tk_same (s1.trans s2)) g2⟩
  · rintro σ H1 ⟨b', o2, o3, o4, o5, o6, rfl, s1, h1⟩
    rw [hlen, Nat.sub_self, List.drop_zero] at h1
    exact ⟨_, rfl, q H1 b' s1 h1⟩
end
end KB

namespace KB
open PySem L2 HT

/-! ### a turning as it stands -/
structure TuA where
  (p dT nw dN td jl rl gl : Addr)
def RowV (H : Hp) (r : List Ld) (v : V) : Prop := ∃ ra vs, v = .ref ra ∧ H ra = some (.lst vs) ∧ All2 (LdV H) r vs
structure TuAt (CN CT : Addr) (H0 H : Hp) (A : TuA) (tk : List Str) (c : Cg) (ras : List Addr) : Prop where
  ob : H A.p = some (.ins CT A.dT (fsT (.ref A.nw) (.ref A.jl) (.ref A.rl) (.ref A.gl)))
  nw : NWAt CN H A.nw A.dN A.td tk c.m
  js : ∃ js, H A.jl = some (.lst js.reverse) ∧ All2 (JbV H) c.jobs js
  rl : H A.rl = some (.lst (ras.map V.ref).reverse)
  rs : All2 (RowV H) c.rows (ras.map V.ref)
  gs : ∃ gs, H A.gl = some (.lst gs.reverse) ∧ All2 (GtV H) c.got gs
  nd : ras.Nodup
  n1 : A.jl ≠ A.rl
  n2 : A.jl ≠ A.gl
  n3 : A.rl ≠ A.gl
  n4 : A.p ≠ A.nw
  n5 : ∀ x ∈ ras, x ≠ A.jl ∧ x ≠ A.rl ∧ x ≠ A.gl
  sm : Same H0 H
  o1 : H0 A.jl = none
  o2 : H0 A.rl = none
  o3 : H0 A.gl = none
  o4 : H0 A.nw = none
  o5 : ∀ x ∈ ras, H0 x = none
section
variable {CN CT : Addr} {H0 H H' : Hp} {A : TuA} {tk : List Str} {c : Cg} {ras : List Addr}
theorem RowV.mono (e : Same H H') {r : List Ld} {v : V} (h : RowV H r v) : RowV H' r v := by
  obtain ⟨ra, vs, e1, h1, h2⟩ := h
  exact ⟨ra, vs, e1, e _ _ h1, h2.imp fun _ _ z => z.tk (tk_same e)⟩
theorem TuAt.mono (e : Same H H') (h : TuAt CN CT H0 H A tk c ras) : TuAt CN CT H0 H' A tk c ras := by
  obtain ⟨js, j1, j2⟩ := h.js
  obtain ⟨gs, g1, g2⟩ := h.gs
  obtain ⟨kvs, k1, k2⟩ := h.nw.tk
  exact ⟨e _ _ h.ob, ⟨e _ _ h.nw.ob, kvs, e _ _ k1, k2⟩, ⟨js, e _ _ j1, j2.imp fun _ _ z => z.tk (tk_same e)⟩, e _ _ h.rl, h.rs.imp fun _ _ z => z.mono e, ⟨gs, e _ _ g1, g2.imp fun _ _ z => z.tk (tk_same e)⟩, h.nd, h.n1, h.n2, h.n3, h.n4, h.n5, h.sm.trans e, h.o1, h.o2, h.o3, h.o4, h.o5⟩
/-- another address than that of a list -/
theorem TuAt.lst_ne (h : TuAt CN CT H0 H A tk c ras) {x : Addr} {xs : List V} (hx : H x = some (.lst xs)) : A.p ≠ x ∧ A.nw ≠ x ∧ A.td ≠ x := by
  obtain ⟨kvs, k1, k2⟩ := h.nw.tk
  exact ⟨ne_of h.ob hx (by intro z; cases z), ne_of h.nw.ob hx (by intro z; cases z), ne_of k1 hx (by intro z; cases z)⟩
theorem rows_put {x : Addr} {o : HO} {R : List (List Ld)} {ras : List Addr} (tk : TK H (upd H x o)) (n : ∀ y ∈ ras, y ≠ x) (h : All2 (RowV H) R (ras.map V.ref)) : All2 (RowV (upd H x o)) R (ras.map V.ref) := by
  induction ras generalizing R with
  | nil => cases R with
    | nil => trivial
    | cons _ _ => exact h.elim
  | cons a r ih => cases R with
    | nil => exact h.elim
    | cons b R =>
      obtain ⟨⟨ra, vs, e1, h1, h2⟩, h3⟩ := h
      refine ⟨⟨ra, vs, e1, ?_, h2.imp fun _ _ z => z.tk tk⟩, ih (fun y hy => n y (List.mem_cons_of_mem _ hy)) h3⟩
      cases e1
      rw [upd_ne (n a List.mem_cons_self)]
      exact h1
theorem TuAt.setJobs (h : TuAt CN CT H0 H A tk c ras) {J : List Jb} {js' : List V} (k : All2 (JbV H) J js') : TuAt CN CT H0 (upd H A.jl (.lst js'.reverse)) A tk { c with jobs := J } ras := by
  obtain ⟨js, j1, j2⟩ := h.js
  obtain ⟨gs, g1, g2⟩ := h.gs
  obtain ⟨kvs, k1, k2⟩ := h.nw.tk
  obtain ⟨e1, e2, e3⟩ := h.lst_ne j1
  have tkk : TK H (upd H A.jl (.lst js'.reverse)) := tk_put j1
  refine ⟨by rw [upd_ne e1]; exact h.ob, ⟨by rw [upd_ne e2]; exact h.nw.ob, kvs, by rw [upd_ne e3]; exact k1, k2⟩, ⟨js', upd_same, k.imp fun _ _ z => z.tk tkk⟩, by rw [upd_ne h.n1.symm]; exact h.rl, rows_put tkk (fun y hy => (h.n5 y hy).1) h.rs,
    ⟨gs, by rw [upd_ne h.n2.symm]; exact g1, g2.imp fun _ _ z => z.tk tkk⟩, h.nd, h.n1, h.n2, h.n3, h.n4, h.n5, same_mut h.sm h.o1, h.o1, h.o2, h.o3, h.o4, h.o5⟩
theorem TuAt.setGot (h : TuAt CN CT H0 H A tk c ras) {G : List Gt} {gs' : List V} (k : All2 (GtV H) G gs') : TuAt CN CT H0 (upd H A.gl (.lst gs'.reverse)) A tk { c with got := G } ras := by
  obtain ⟨js, j1, j2⟩ := h.js
  obtain ⟨gs, g1, g2⟩ := h.gs
  obtain ⟨kvs, k1, k2⟩ := h.nw.tk
  obtain ⟨e1, e2, e3⟩ := h.lst_ne g1
  have tkk : TK H (upd H A.gl (.lst gs'.reverse)) := tk_put g1
  refine ⟨by rw [upd_ne e1]; exact h.ob, ⟨by rw [upd_ne e2]; exact h.nw.ob, kvs, by rw [upd_ne e3]; exact k1, k2⟩, ⟨js, by rw [upd_ne h.n2]; exact j1, j2.imp fun _ _ z => z.tk tkk⟩, by rw [upd_ne h.n3]; exact h.rl, rows_put tkk (fun y hy => (h.n5 y hy).2.2) h.rs,
    ⟨gs', upd_same, k.imp fun _ _ z => z.tk tkk⟩, h.nd, h.n1, h.n2, h.n3, h.n4, h.n5, same_mut h.sm h.o3, h.o1, h.o2, h.o3, h.o4, h.o5⟩
theorem TuAt.setM (h : TuAt CN CT H0 H A tk c ras) (m' : Nat) : TuAt CN CT H0 (upd H A.nw (.ins CN A.dN (fsN (.ref A.td) (.int (m' : Int))))) A tk { c with m := m' } ras := by
  obtain ⟨js, j1, j2⟩ := h.js
  obtain ⟨gs, g1, g2⟩ := h.gs
  have tkk : TK H (upd H A.nw (.ins CN A.dN (fsN (.ref A.td) (.int (m' : Int))))) := tk_upd h.nw.ob (by intro xs z; cases z)
  have nr : ∀ y ∈ ras, y ≠ A.nw := fun y hy => by
    have : ∀ {R : List (List Ld)} {l : List Addr}, y ∈ l → All2 (RowV H) R (l.map V.ref) → ∃ vs, H y = some (.lst vs) := by
      intro R l
      induction l generalizing R with
      | nil => intro z; cases z
      | cons a r ih =>
        intro z k
        cases R with
        | nil => exact k.elim
        | cons b R =>
          obtain ⟨⟨ra, vs, e1, h1, h2⟩, h3⟩ := k
          cases e1
          rcases List.mem_cons.mp z with z | z
          · subst z; exact ⟨vs, h1⟩
          · exact ih z h3
    obtain ⟨vs, hv⟩ := this hy h.rs
    exact ne_of hv h.nw.ob (by intro z; cases z)
  refine ⟨by rw [upd_ne h.n4]; exact h.ob, h.nw.put m', ⟨js, by rw [upd_ne (h.lst_ne j1).2.1.symm]; exact j1, j2.imp fun _ _ z => z.tk tkk⟩, by rw [upd_ne (h.lst_ne h.rl).2.1.symm]; exact h.rl, rows_put tkk nr h.rs,
    ⟨gs, by rw [upd_ne (h.lst_ne g1).2.1.symm]; exact g1, g2.imp fun _ _ z => z.tk tkk⟩, h.nd, h.n1, h.n2, h.n3, h.n4, h.n5, same_mut h.sm h.o4, h.o1, h.o2, h.o3, h.o4, h.o5⟩
/-- a new row -/
theorem TuAt.pushRow (h : TuAt CN CT H0 H A tk c ras) {ra : Addr} (n : H ra = none) : TuAt CN CT H0 (upd (upd H ra (.lst [])) A.rl (.lst ((ra :: ras).map V.ref).reverse)) A tk { c with rows := [] :: c.rows } (ra :: ras) := by
  have e := same_new n (.lst [])
  have h1 := h.mono e
  obtain ⟨js, j1, j2⟩ := h1.js
  obtain ⟨gs, g1, g2⟩ := h1.gs
  obtain ⟨kvs, k1, k2⟩ := h1.nw.tk
  obtain ⟨e1, e2, e3⟩ := h1.lst_ne h1.rl
  have old : ∀ {x : Addr} {o : HO}, H x = some o → x ≠ ra := fun q => ne_of_none q n
  obtain ⟨js0, j10, _⟩ := h.js
  obtain ⟨gs0, g10, _⟩ := h.gs
  have nr := old h.rl
  have tkk : TK (upd H ra (.lst [])) (upd (upd H ra (.lst [])) A.rl (.lst ((ra :: ras).map V.ref).reverse)) := tk_put h1.rl
  refine ⟨by rw [upd_ne e1]; exact h1.ob, ⟨by rw [upd_ne e2]; exact h1.nw.ob, kvs, by rw [upd_ne e3]; exact k1, k2⟩, ⟨js, by rw [upd_ne h.n1]; exact j1, j2.imp fun _ _ z => z.tk tkk⟩, upd_same,
    ⟨⟨ra, [], rfl, by rw [upd_ne nr.symm]; exact upd_same, trivial⟩, rows_put tkk (fun y hy => (h.n5 y hy).2.1) h1.rs⟩, ⟨gs, by rw [upd_ne h.n3.symm]; exact g1, g2.imp fun _ _ z => z.tk tkk⟩, ?_, h.n1, h.n2, h.n3, h.n4, ?_, same_mut h1.sm h.o2, h.o1, h.o2, h.o3, h.o4, ?_⟩
  · refine List.nodup_cons.mpr ⟨fun z => ?_, h.nd⟩
    have : ∀ {R : List (List Ld)} {l : List Addr}, ra ∈ l → All2 (RowV H) R (l.map V.ref) → False := by
      intro R l
      induction l generalizing R with
      | nil => intro z; cases z
      | cons a r ih =>
        intro z k
        cases R with
        | nil => exact k.elim
        | cons b R =>
          obtain ⟨⟨r2, vs, e1, h1, h2⟩, h3⟩ := k
          cases e1
          rcases List.mem_cons.mp z with z | z
          · subst z
            rw [h1] at n
            cases n
          · exact ih z h3
    exact this z h.rs
  · intro y hy
    rcases List.mem_cons.mp hy with z | z
    · subst z
      exact ⟨(old j10).symm, nr.symm, (old g10).symm⟩
    · exact h.n5 y z
  · intro y hy
    rcases List.mem_cons.mp hy with z | z
    · subst z
      exact h.sm.free n
    · exact h.o5 y z
/-- the last row taken away -/
theorem TuAt.popRow {r : List Ld} {R : List (List Ld)} {ra : Addr} (h : TuAt CN CT H0 H A tk { c with rows := r :: R } (ra :: ras)) : TuAt CN CT H0 (upd H A.rl (.lst (ras.map V.ref).reverse)) A tk { c with rows := R } ras := by
  obtain ⟨js, j1, j2⟩ := h.js
  obtain ⟨gs, g1, g2⟩ := h.gs
  obtain ⟨kvs, k1, k2⟩ := h.nw.tk
  obtain ⟨e1, e2, e3⟩ := h.lst_ne h.rl
  have tkk : TK H (upd H A.rl (.lst (ras.map V.ref).reverse)) := tk_put h.rl
  exact ⟨by rw [upd_ne e1]; exact h.ob, ⟨by rw [upd_ne e2]; exact h.nw.ob, kvs, by rw [upd_ne e3]; exact k1, k2⟩, ⟨js, by rw [upd_ne h.n1]; exact j1, j2.imp fun _ _ z => z.tk tkk⟩, upd_same,
    rows_put tkk (fun y hy => (h.n5 y (List.mem_cons_of_mem _ hy)).2.1) h.rs.2, ⟨gs, by rw [upd_ne h.n3.symm]; exact g1, g2.imp fun _ _ z => z.tk tkk⟩, (List.nodup_cons.mp h.nd).2, h.n1, h.n2, h.n3, h.n4, fun y hy => h.n5 y (List.mem_cons_of_mem _ hy), same_mut h.sm h.o2, h.o1, h.o2, h.o3, h.o4, fun y hy => h.o5 y (List.mem_cons_of_mem _ hy)⟩
/-- a lead put behind the last row's -/
theorem TuAt.addLead {r : List Ld} {R : List (List Ld)} {ra : Addr} {vs : List V} {l : Ld} {v : V} (h : TuAt CN CT H0 H A tk { c with rows := r :: R } (ra :: ras)) (hv : H ra = some (.lst vs)) (kv : All2 (LdV H) r vs) (kl : LdV H l v) :
    TuAt CN CT H0 (upd H ra (.lst (vs ++ [v]))) A tk { c with rows := (r ++ [l]) :: R } (ra :: ras) := by
  obtain ⟨js, j1, j2⟩ := h.js
  obtain ⟨gs, g1, g2⟩ := h.gs
  obtain ⟨kvs, k1, k2⟩ := h.nw.tk
  obtain ⟨e1, e2, e3⟩ := h.lst_ne hv
  obtain ⟨a1, a2, a3⟩ := h.n5 ra List.mem_cons_self
  have tkk : TK H (upd H ra (.lst (vs ++ [v]))) := tk_put hv
  have nd := List.nodup_cons.mp h.nd
  refine ⟨by rw [upd_ne e1]; exact h.ob, ⟨by rw [upd_ne e2]; exact h.nw.ob, kvs, by rw [upd_ne e3]; exact k1, k2⟩, ⟨js, by rw [upd_ne a1.symm]; exact j1, j2.imp fun _ _ z => z.tk tkk⟩, by rw [upd_ne a2.symm]; exact h.rl,
    ⟨⟨ra, vs ++ [v], rfl, upd_same, (kv.imp fun _ _ z => z.tk tkk).app ⟨kl.tk tkk, trivial⟩⟩, rows_put tkk (fun y hy z => nd.1 (z ▸ hy)) h.rs.2⟩, ⟨gs, by rw [upd_ne a3.symm]; exact g1, g2.imp fun _ _ z => z.tk tkk⟩, h.nd, h.n1, h.n2, h.n3, h.n4, h.n5, same_mut h.sm (h.o5 ra List.mem_cons_self), h.o1, h.o2, h.o3, h.o4, h.o5⟩
end
theorem l_new (a b c d : V) : (fsT a b c d).lookup ("new_words" : Str) = some a := by rfl
theorem l_jobs (a b c d : V) : (fsT a b c d).lookup ("jobs" : Str) = some b := by rfl
theorem l_rows (a b c d : V) : (fsT a b c d).lookup ("rows" : Str) = some c := by rfl
theorem l_got (a b c d : V) : (fsT a b c d).lookup ("got" : Str) = some d := by rfl
section
variable {P : Program} {w : World} {K : PySem.W.Frag} {mg : Str → Option Value} {base : Heap} {CN CT : Addr}
/-! ### jobs_done -/
def spJdone : Sp := fun vs H Q _ => ∃ (p a : Addr) (t : Tm) (j : Str), vs = [.ref p, .ref a, .str j] ∧ At H t a ∧ ∀ r H' us, H r = none → Same H H' → H' r = some (.lst us) → All2 (JbV H') (doneJ t j) us → Q (.ref r) H'
abbrev sJdone : Stmt := inClass (top 28) 3
theorem scJdone : FnScope ["self", "term", "j"] ["self", "term", "j"] (defScope sJdone) := ⟨rfl, rfl, rfl, by decide +kernel, rfl, by decide +kernel, by decide +kernel⟩
theorem ok_jdone {f f1 : Addr} {fd d1 : FuncData} (F : Fun K "jobs_done" "Turning.jobs_done" sJdone f fd) (Gjobs_to_end : FnOk P w K mg base CX0 1 f1 d1 ["term", "j"] spJend) (Rjobs_to_end : Ref K mg "jobs_to_end" f1 d1 ["term", "j"]) : FnOk P w K mg base CX0 2 f fd ["self", "term", "j"] spJdone := by
  refine F.ok scJdone (fun vs H Q E h => ?_) (fun cdv A outer s H vs Q E hr h => ?_)
  · obtain ⟨p, a, t, j, rfl, _⟩ := h
    rfl
  obtain ⟨p, a, t, j, rfl, hA, q⟩ := h
  refine ⟨_, (pss_cons (ps_if (pt_cmpR op_eq (pe_ix ix_tup (pv 1) pe_int (fun _ _ => rfl)) pe_str (nomark _)) (pss_one (ps_ret (pe_lst (pa_cons (pe_tup (pa_cons pe_str (pa_cons (pe_ix ix_tup (pv 1) pe_int (fun _ _ => rfl)) (pa_cons (pe_ix ix_tup (pv 1) pe_int (fun _ _ => rfl)) pa_nil)))) (pa_cons (pe_tup (pa_cons pe_str (pa_cons (pe_ix ix_tup (pv 1) pe_int (fun _ _ => rfl)) (pa_cons (pv 2) pa_nil)))) pa_nil))))) pss_nil)
    (pss_one (ps_ret (pe_lst (StX.pa_star (pe_call Gjobs_to_end (hr.mono (by omega)) rfl Rjobs_to_end.m Rjobs_to_end.k Rjobs_to_end.b .nil pass0 (pa_cons (pv 1) (pa_cons (pv 2) pa_nil))) (pa_cons (pe_tup (pa_cons pe_str pa_nil)) pa_nil)))))), ?_⟩
  obtain ⟨xs, l, kx⟩ := hA.kids
  obtain ⟨r0, hd⟩ := l.head
  have hlk := kx.len
  refine ⟨_, rfl, a, _, _, _, rfl, rfl, SqT.of hd, at0, rfl, _, rfl, ?_⟩
  refine ite2 (fun c => ?_) (fun c => ?_)
  · obtain ⟨x, hh⟩ := hs_let (V.str.inj (of_decide_eq_true c))
    rw [hh] at l
    obtain ⟨u1, u2, e2⟩ := two_of (show (kidsT t).length = 2 by rw [← hlk]; exact l.1)
    have eE : doneJ t j = [.put u1 x, .done u2 j] := by
      unfold doneJ
      rw [hh, e2]
    rw [eE] at q
    rw [e2] at kx
    obtain ⟨v1, v2, rfl, ⟨b1, rfl, g1⟩, ⟨b2, rfl, g2⟩⟩ := all2_two kx
    have la : H a = some (.tup [.str "let", .str x, .ref b1, .ref b2]) := l.2
    refine ⟨_, rfl, a, _, _, _, rfl, rfl, SqT.of la, at2, _, rfl, a, _, _, _, rfl, rfl, SqT.of la, at1, sz (by show 3 ≤ 100000; decide), fun t1 ht1 => ?_⟩
    have s1 := same_new ht1 (.tup [.str "put", .ref b1, .str x])
    refine ⟨_, rfl, a, _, _, _, rfl, rfl, SqT.of (s1 _ _ la), at3, _, rfl, sz (by show 3 ≤ 100000; decide), fun t2 ht2 => ?_⟩
    have s2 := same_new ht2 (.tup [.str "done", .ref b2, .str j])
    refine ⟨sz (by show 2 ≤ 100000; decide), fun r hr2 => ?_⟩
    have s3 := same_new hr2 (.lst [.ref t1, .ref t2])
    have s13 := s1.trans (s2.trans s3)
    exact q r _ _ ((s1.trans s2).free hr2) s13 upd_same ⟨⟨t1, rfl, b1, (s2.trans s3) _ _ upd_same, g1.tk (tk_same s13)⟩, ⟨t2, rfl, b2, s3 _ _ upd_same, g2.tk (tk_same s13)⟩, trivial⟩
  · have eE : doneJ t j = endJ t j ++ [.close] := by
      unfold doneJ
      cases hh : hdT t with
      | lett x => rw [hh] at c; exact absurd (decide_eq_true rfl) c
      | _ => rfl
    rw [eE] at q
    refine ⟨_, rfl, _, rfl, a, t, j, rfl, hA, fun r1 H1 us1 hr1 s1 h1 k1 => ?_⟩
    have hl1 := len_wJs (endJ t j)
    have hul := k1.len
    refine ⟨r1, us1, rfl, .inr (SqL.of h1), sz (by show 1 ≤ 100000; decide), fun t1 ht1 => ?_⟩
    have s2 := same_new ht1 (.tup [.str "close"])
    have hcn : (endJ t j).length ≤ 10 := by
      have ha := hA.ar
      unfold arN at ha
      unfold endJ
      cases hh : hdT t with
      | ask g =>
        rw [hh] at ha
        have h4 : (kidsT t).length ≤ 4 := ha
        show ((kidsT t).map Jb.simple ++ [Jb.ask g (kidsT t).length j]).length ≤ 10
        rw [List.length_append, List.length_map, List.length_singleton]
        omega
      | iff =>
        rw [hh] at ha
        obtain ⟨u1, u2, u3, e3⟩ := three_of (show (kidsT t).length = 3 from ha)
        rw [e3]
        show 6 ≤ 10
        decide
      | _ => show 2 ≤ 10; decide
    refine ⟨sz (by rw [List.length_append, List.length_singleton]; omega), fun r hr2 => ?_⟩
    have s3 := same_new hr2 (.lst (us1 ++ [.ref t1]))
    have s12 := s1.trans s2
    exact q r _ _ (s12.free hr2) (s12.trans s3) upd_same ((k1.imp fun _ _ z => JbV.tk (tk_same (s2.trans s3)) z).app ⟨⟨t1, rfl, s3 _ _ upd_same⟩, trivial⟩)
theorem endJ_len {t : Tm} {j : Str} (ha : arN t) : (endJ t j).length ≤ 10 := by
  unfold arN at ha
  unfold endJ
  cases hh : hdT t with
  | ask g =>
    rw [hh] at ha
    have h4 : (kidsT t).length ≤ 4 := ha
    show ((kidsT t).map Jb.simple ++ [Jb.ask g (kidsT t).length j]).length ≤ 10
    rw [List.length_append, List.length_map, List.length_singleton]
    omega
  | iff =>
    rw [hh] at ha
    obtain ⟨u1, u2, u3, e3⟩ := three_of (show (kidsT t).length = 3 from ha)
    rw [e3]
    show 6 ≤ 10
    decide
  | _ => show 2 ≤ 10; decide
/-! ### jobs_put, jobs_simple -/
def spJput (CN CT : Addr) : Sp := fun vs H Q _ => ∃ (H0 : Hp) (A : TuA) (tk : List Str) (c : Cg) (ras : List Addr) (a : Addr) (t : Tm) (x : Str), vs = [.ref A.p, .ref a, .str x] ∧ TuAt CN CT H0 H A tk c ras ∧ At H t a ∧ c.m + tk.length + 2 < 26 ^ 9 ∧
  ∀ r H' us w m', (wordH (hdT t) = true → NwR tk c.m w m') → (wordH (hdT t) = false → m' = c.m) → TK H H' → TuAt CN CT H0 H' A tk { c with m := m' } ras → H' r = some (.lst us) → All2 (JbV H') (putJ t x w) us → Q (.ref r) H'
abbrev sJput : Stmt := inClass (top 28) 4
theorem scJput : FnScope ["self", "term", "x", "j"] ["self", "term", "x"] (defScope sJput) := ⟨rfl, rfl, rfl, by decide +kernel, rfl, by decide +kernel, by decide +kernel⟩
theorem eta_m (c : Cg) : ({ c with m := c.m } : Cg) = c := rfl
theorem ok_jput (X : TxN K mg CN CT) {f f1 fm : Addr} {fd d1 dm : FuncData} (F : Fun K "jobs_put" "Turning.jobs_put" sJput f fd) (Gjobs_to_end : FnOk P w K mg base CX0 1 f1 d1 ["term", "j"] spJend) (Rjobs_to_end : Ref K mg "jobs_to_end" f1 d1 ["term", "j"])
    (GM : FnOk P w K mg base CX0 2 fm dm ["self"] (spMore CN)) (bM : Binds K dm ["self"] []) (mM : Meth K CN "one_more" fm) : FnOk P w K mg base CX0 3 f fd ["self", "term", "x"] (spJput CN CT) := by
  refine F.ok scJput (fun vs H Q E h => ?_) (fun cdv A outer s H vs Q E hr h => ?_)
  · obtain ⟨H0, A, tk, c, ras, a, t, x, rfl, _⟩ := h
    rfl
  obtain ⟨H0, A, tk, c, ras, a, t, x, rfl, hT, hA, hm, q⟩ := h
  refine ⟨_, (pss_cons (ps_if (pt_cmpR op_eq (pe_ix ix_tup (pv 1) pe_int (fun _ _ => rfl)) pe_str (nomark _)) (pss_one (ps_ret (pe_lst (pa_cons (pe_tup (pa_cons pe_str (pa_cons (pe_ix ix_tup (pv 1) pe_int (fun _ _ => rfl)) (pa_cons (pe_ix ix_tup (pv 1) pe_int (fun _ _ => rfl)) pa_nil)))) (pa_cons (pe_tup (pa_cons pe_str (pa_cons (pe_ix ix_tup (pv 1) pe_int (fun _ _ => rfl)) (pa_cons (pv 2) pa_nil)))) pa_nil))))) pss_nil)
    (pss_cons (ps_if (pt_cmpR op_in_seq (pe_ix ix_tup (pv 1) pe_int (fun _ _ => rfl)) (pe_tup (pa_cons pe_str (pa_cons pe_str pa_nil))) rfl) (pss_cons (ps_set (i := 3) scJput.nd rfl (Or.inl rfl) (pe_meth0 (pe_fld (pv 0) rfl) X.clN mM GM (hr.mono (by omega)) bM .nil pass0))
    (pss_one (ps_ret (pe_lst (StX.pa_star (pe_call Gjobs_to_end (hr.mono (by omega)) rfl Rjobs_to_end.m Rjobs_to_end.k Rjobs_to_end.b .nil pass0 (pa_cons (pv 1) (pa_cons (pv 3) pa_nil))) (pa_cons (pe_tup (pa_cons pe_str (pa_cons (pv 3) (pa_cons (pv 2) pa_nil)))) pa_nil)))))) pss_nil)
    (pss_cons (ps_if (pt_cmpR op_eq (pe_ix ix_tup (pv 1) pe_int (fun _ _ => rfl)) pe_str (nomark _)) (pss_one (ps_ret (pe_lst (pa_cons (pe_tup (pa_cons pe_str (pa_cons (pe_ix ix_tup (pv 1) pe_int (fun _ _ => rfl)) pa_nil))) (pa_cons (pe_tup (pa_cons pe_str (pa_cons (pv 2) pa_nil))) pa_nil))))) pss_nil)
    (pss_one (ps_ret (pe_lst (pa_cons (pe_tup (pa_cons pe_str (pa_cons (pv 1) pa_nil))) (pa_cons (pe_tup (pa_cons pe_str (pa_cons (pv 2) pa_nil))) pa_nil)))))))), ?_⟩
  obtain ⟨xs, l, kx⟩ := hA.kids
  obtain ⟨r0, hd⟩ := l.head
  have hlk := kx.len
  refine ⟨_, rfl, a, _, _, _, rfl, rfl, SqT.of hd, at0, rfl, _, rfl, ?_⟩
  refine ite2 (fun c0 => ?_) (fun c0 => ?_)
  · obtain ⟨y, hh⟩ := hs_let (V.str.inj (of_decide_eq_true c0))
    rw [hh] at l
    obtain ⟨u1, u2, e2⟩ := two_of (show (kidsT t).length = 2 by rw [← hlk]; exact l.1)
    have eE : ∀ w, putJ t x w = [.put u1 y, .put u2 x] := fun w => by
      unfold putJ
      rw [hh, e2]
    rw [e2] at kx
    obtain ⟨v1, v2, rfl, ⟨b1, rfl, g1⟩, ⟨b2, rfl, g2⟩⟩ := all2_two kx
    have la : H a = some (.tup [.str "let", .str y, .ref b1, .ref b2]) := l.2
    refine ⟨_, rfl, a, _, _, _, rfl, rfl, SqT.of la, at2, _, rfl, a, _, _, _, rfl, rfl, SqT.of la, at1, sz (by show 3 ≤ 100000; decide), fun t1 ht1 => ?_⟩
    have s1 := same_new ht1 (.tup [.str "put", .ref b1, .str y])
    refine ⟨_, rfl, a, _, _, _, rfl, rfl, SqT.of (s1 _ _ la), at3, _, rfl, sz (by show 3 ≤ 100000; decide), fun t2 ht2 => ?_⟩
    have s2 := same_new ht2 (.tup [.str "put", .ref b2, .str x])
    refine ⟨sz (by show 2 ≤ 100000; decide), fun r hr2 => ?_⟩
    have s3 := same_new hr2 (.lst [.ref t1, .ref t2])
    have s13 := s1.trans (s2.trans s3)
    refine q r _ _ "" c.m (fun z => by rw [hh] at z; cases z) (fun _ => rfl) (tk_same s13) (hT.mono s13) upd_same ?_
    rw [eE]
    exact ⟨⟨t1, rfl, b1, (s2.trans s3) _ _ upd_same, g1.tk (tk_same s13)⟩, ⟨t2, rfl, b2, s3 _ _ upd_same, g2.tk (tk_same s13)⟩, trivial⟩
  refine ⟨_, rfl, a, _, _, _, rfl, rfl, SqT.of hd, at0, sz (by show 2 ≤ 100000; decide), fun t0 ht0 => ?_⟩
  have s0 := same_new ht0 (.tup [.str "ask", .str "if"])
  refine ⟨t0, _, rfl, .inr (SqT.of upd_same), rfl, rfl, _, rfl, ?_⟩
  have hin : inV (.str (hs (hdT t))) [.str "ask", .str "if"] = wordH (hdT t) := by
    cases hdT t <;> rfl
  have hT0 := hT.mono s0
  have hA0 := hA.tk (tk_same s0)
  have hd0 := s0 _ _ hd
  generalize upd H t0 (.tup [.str "ask", .str "if"]) = Ha at s0 hT0 hA0 hd0
  show if inV (.str (hs (hdT t))) [.str "ask", .str "if"] = true then _ else _
  rw [hin]
  cases hw : wordH (hdT t) with
  | true =>
    refine itT rfl ⟨_, rfl, A.p, CT, _, _, _, rfl, hT0.ob, X.clT, X.tNew, l_new _ _ _ _, A.nw, _, _, rfl, hT0.nw.ob, by rfl, A.nw, A.dN, A.td, tk, c.m, rfl, hT0.nw, hm, fun w m' hwm => ?_⟩
    have hT1 := hT0.setM m'
    have tk1 : TK Ha (upd Ha A.nw (.ins CN A.dN (fsN (.ref A.td) (.int (m' : Int))))) := tk_upd hT0.nw.ob (by intro xs z; cases z)
    have hA1 := hA0.tk tk1
    generalize upd Ha A.nw (.ins CN A.dN (fsN (.ref A.td) (.int (m' : Int)))) = H1 at hT1 tk1 hA1
    have eE : putJ t x w = endJ t w ++ [.post w x] := by
      unfold putJ
      cases hh : hdT t with
      | ask g => rfl
      | iff => rfl
      | _ => rw [hh] at hw; cases hw
    refine ⟨_, rfl, _, rfl, a, t, w, rfl, hA1, fun r1 H2 us1 hr1 s2 h2 k2 => ?_⟩
    have hul := k2.len
    have hel := endJ_len (j := w) hA.ar
    refine ⟨r1, us1, rfl, .inr (SqL.of h2), _, rfl, _, rfl, sz (by show 3 ≤ 100000; decide), fun t1 ht1 => ?_⟩
    have s3 := same_new ht1 (.tup [.str "post", .str w, .str x])
    refine ⟨sz (by rw [List.length_append, List.length_singleton]; omega), fun r hr2 => ?_⟩
    have s4 := same_new hr2 (.lst (us1 ++ [.ref t1]))
    refine q r _ _ w m' (fun _ => hwm) (fun z => by rw [hw] at z; cases z) ((tk_same s0).trans (tk1.trans (tk_same (s2.trans (s3.trans s4))))) (hT1.mono (s2.trans (s3.trans s4))) upd_same ?_
    rw [eE]
    exact (k2.imp fun _ _ z => JbV.tk (tk_same (s3.trans s4)) z).app ⟨⟨t1, rfl, s4 _ _ upd_same⟩, trivial⟩
  | false =>
    refine itF rfl ⟨_, rfl, a, _, _, _, rfl, rfl, SqT.of hd0, at0, rfl, _, rfl, ?_⟩
    refine ite2 (fun c2 => ?_) (fun c2 => ?_)
    · have hh := hs_tell (V.str.inj (of_decide_eq_true c2))
      rw [hh] at l
      obtain ⟨u1, e1⟩ := one_of (show (kidsT t).length = 1 by rw [← hlk]; exact l.1)
      have eE : ∀ w, putJ t x w = [.simple u1, .tell x] := fun w => by
        unfold putJ
        rw [hh, e1]
      rw [e1] at kx
      obtain ⟨v1, rfl, b1, rfl, g1⟩ := all2_one kx
      have la : Ha a = some (.tup [.str "tell", .ref b1]) := s0 _ _ l.2
      refine ⟨_, rfl, a, _, _, _, rfl, rfl, SqT.of la, at1, sz (by show 2 ≤ 100000; decide), fun t1 ht1 => ?_⟩
      have s1 := same_new ht1 (.tup [.str "simple", .ref b1])
      refine ⟨_, rfl, sz (by show 2 ≤ 100000; decide), fun t2 ht2 => ?_⟩
      have s2 := same_new ht2 (.tup [.str "tell", .str x])
      refine ⟨sz (by show 2 ≤ 100000; decide), fun r hr2 => ?_⟩
      have s3 := same_new hr2 (.lst [.ref t1, .ref t2])
      have s13 := s1.trans (s2.trans s3)
      refine q r _ _ "" c.m (fun z => by rw [hw] at z; cases z) (fun _ => rfl) (tk_same (s0.trans s13)) (hT0.mono s13) upd_same ?_
      rw [eE]
      exact ⟨⟨t1, rfl, b1, (s2.trans s3) _ _ upd_same, g1.tk (tk_same (s0.trans s13))⟩, ⟨t2, rfl, s3 _ _ upd_same⟩, trivial⟩
    · have eE : ∀ w, putJ t x w = [.simple t, .lett x] := fun w => by
        unfold putJ
        cases hh : hdT t with
        | lett y => rw [hh] at c0; exact absurd (decide_eq_true rfl) c0
        | tell => rw [hh] at c2; exact absurd (decide_eq_true rfl) c2
        | ask g => rw [hh] at hw; cases hw
        | iff => rw [hh] at hw; cases hw
        | _ => rfl
      refine ⟨_, rfl, sz (by show 2 ≤ 100000; decide), fun t1 ht1 => ?_⟩
      have s1 := same_new ht1 (.tup [.str "simple", .ref a])
      refine ⟨_, rfl, sz (by show 2 ≤ 100000; decide), fun t2 ht2 => ?_⟩
      have s2 := same_new ht2 (.tup [.str "let", .str x])
      refine ⟨sz (by show 2 ≤ 100000; decide), fun r hr2 => ?_⟩
      have s3 := same_new hr2 (.lst [.ref t1, .ref t2])
      have s13 := s1.trans (s2.trans s3)
      refine q r _ _ "" c.m (fun z => by rw [hw] at z; cases z) (fun _ => rfl) (tk_same (s0.trans s13)) (hT0.mono s13) upd_same ?_
      rw [eE]
      exact ⟨⟨t1, rfl, a, (s2.trans s3) _ _ upd_same, hA0.tk (tk_same s13)⟩, ⟨t2, rfl, s3 _ _ upd_same⟩, trivial⟩
end
end KB

namespace KB
open PySem L2 HT
section
variable {P : Program} {w : World} {K : PySem.W.Frag} {mg : Str → Option Value} {base : Heap} {CN CT : Addr}
def spJsimp (CN CT : Addr) : Sp := fun vs H Q _ => ∃ (H0 : Hp) (A : TuA) (tk : List Str) (c : Cg) (ras : List Addr) (a : Addr) (t : Tm), vs = [.ref A.p, .ref a] ∧ TuAt CN CT H0 H A tk c ras ∧ At H t a ∧ c.m + tk.length + 2 < 26 ^ 9 ∧
  ∀ r H' us w m', (wordS (hdT t) = true → NwR tk c.m w m') → (wordS (hdT t) = false → m' = c.m) → TK H H' → TuAt CN CT H0 H' A tk { c with m := m' } ras → H' r = some (.lst us) → All2 (JbV H') (simpJ t w) us → Q (.ref r) H'
abbrev sJsimp : Stmt := inClass (top 28) 5
theorem scJsimp : FnScope ["self", "term", "x"] ["self", "term"] (defScope sJsimp) := ⟨rfl, rfl, rfl, by decide +kernel, rfl, by decide +kernel, by decide +kernel⟩
theorem ok_jsimp (X : TxN K mg CN CT) {f fm : Addr} {fd dm : FuncData} (F : Fun K "jobs_simple" "Turning.jobs_simple" sJsimp f fd)
    (GM : FnOk P w K mg base CX0 2 fm dm ["self"] (spMore CN)) (bM : Binds K dm ["self"] []) (mM : Meth K CN "one_more" fm) : FnOk P w K mg base CX0 3 f fd ["self", "term"] (spJsimp CN CT) := by
  refine F.ok scJsimp (fun vs H Q E h => ?_) (fun cdv A outer s H vs Q E hr h => ?_)
  · obtain ⟨H0, A, tk, c, ras, a, t, rfl, _⟩ := h
    rfl
  obtain ⟨H0, A, tk, c, ras, a, t, rfl, hT, hA, hm, q⟩ := h
  refine ⟨_, (pss_cons (ps_if (pt_cmpR op_in_seq (pe_ix ix_tup (pv 1) pe_int (fun _ _ => rfl)) (pe_tup (pa_cons pe_str (pa_cons pe_str pa_nil))) rfl) (pss_one (ps_ret (pe_lst (pa_cons (pe_tup (pa_cons pe_str (pa_cons (pv 1) pa_nil))) pa_nil)))) pss_nil)
    (pss_cons (ps_if (pt_cmpR op_in_seq (pe_ix ix_tup (pv 1) pe_int (fun _ _ => rfl)) (pe_tup (pa_cons pe_str (pa_cons pe_str pa_nil))) rfl) (pss_one (ps_ret (pe_lst (pa_cons (pe_tup (pa_cons pe_str (pa_cons (pe_ix ix_tup (pv 1) pe_int (fun _ _ => rfl)) pa_nil))) (pa_cons (pe_tup (pa_cons pe_str (pa_cons (pe_ix ix_tup (pv 1) pe_int (fun _ _ => rfl)) pa_nil))) (pa_cons (pe_tup (pa_cons (pe_ix ix_tup (pv 1) pe_int (fun _ _ => rfl)) pa_nil)) pa_nil)))))) pss_nil)
    (pss_cons (ps_if (pt_cmpR op_eq (pe_ix ix_tup (pv 1) pe_int (fun _ _ => rfl)) pe_str (nomark _)) (pss_one (ps_ret (pe_lst (pa_cons (pe_tup (pa_cons pe_str (pa_cons (pe_ix ix_tup (pv 1) pe_int (fun _ _ => rfl)) (pa_cons (pe_ix ix_tup (pv 1) pe_int (fun _ _ => rfl)) pa_nil)))) (pa_cons (pe_tup (pa_cons pe_str (pa_cons (pe_ix ix_tup (pv 1) pe_int (fun _ _ => rfl)) pa_nil))) pa_nil))))) pss_nil)
    (pss_cons (ps_set (i := 2) scJsimp.nd rfl (Or.inl rfl) (pe_meth0 (pe_fld (pv 0) rfl) X.clN mM GM (hr.mono (by omega)) bM .nil pass0))
    (pss_one (ps_ret (pe_lst (pa_cons (pe_tup (pa_cons pe_str (pa_cons (pv 1) (pa_cons (pv 2) pa_nil)))) (pa_cons (pe_tup (pa_cons pe_str (pa_cons (pe_tup (pa_cons pe_str (pa_cons (pv 2) pa_nil))) pa_nil))) pa_nil))))))))), ?_⟩
  obtain ⟨xs, l, kx⟩ := hA.kids
  obtain ⟨r0, hd⟩ := l.head
  have hlk := kx.len
  -- ("number", "name")
  refine ⟨_, rfl, a, _, _, _, rfl, rfl, SqT.of hd, at0, sz (by show 2 ≤ 100000; decide), fun t0 ht0 => ?_⟩
  have s0 := same_new ht0 (.tup [.str "number", .str "name"])
  refine ⟨t0, _, rfl, .inr (SqT.of upd_same), rfl, rfl, _, rfl, ?_⟩
  have hT0 := hT.mono s0
  have hA0 := hA.tk (tk_same s0)
  have l0 := l.mono s0
  have kx0 := kx.imp fun _ _ z => RefV.tk (tk_same s0) z
  have hd0 := s0 _ _ hd
  generalize upd H t0 (.tup [.str "number", .str "name"]) = Ha at s0 hT0 hA0 l0 kx0 hd0
  clear hd l kx
  have leaf : (hs (hdT t) = "number" ∨ hs (hdT t) = "name") → ∀ w, simpJ t w = [.known t] := fun z w => by
    unfold simpJ
    cases hh : hdT t <;> rw [hh] at z <;> dsimp only [hs] at z <;> first | rfl | (exfalso; revert z; decide)
  show if inV (.str (hs (hdT t))) [.str "number", .str "name"] = true then _ else _
  by_cases c1 : inV (.str (hs (hdT t))) [.str "number", .str "name"] = true
  · refine itT c1 ⟨_, rfl, sz (by show 2 ≤ 100000; decide), fun t1 ht1 => ?_⟩
    have hz : hs (hdT t) = "number" ∨ hs (hdT t) = "name" := by
      cases hh : hdT t <;> rw [hh] at c1 <;> dsimp only [hs] at c1 <;> first | exact .inl rfl | exact .inr rfl | (exfalso; revert c1; decide)
    have s1 := same_new ht1 (.tup [.str "known", .ref a])
    refine ⟨sz (by show 1 ≤ 100000; decide), fun r hr2 => ?_⟩
    have s2 := same_new hr2 (.lst [.ref t1])
    have s12 := s1.trans s2
    have nw : wordS (hdT t) = false := by
      cases hh : hdT t <;> rw [hh] at hz <;> dsimp only [hs] at hz <;> first | rfl | (exfalso; revert hz; decide)
    refine q r _ _ "" c.m (fun z => by rw [nw] at z; cases z) (fun _ => rfl) (tk_same (s0.trans s12)) (hT0.mono s12) upd_same ?_
    rw [leaf hz]
    exact ⟨⟨t1, rfl, a, s2 _ _ upd_same, hA0.tk (tk_same s12)⟩, trivial⟩
  refine itF (Bool.eq_false_iff.mpr c1) ?_
  -- ("plus", "less")
  refine ⟨_, rfl, a, _, _, _, rfl, rfl, SqT.of hd0, at0, sz (by show 2 ≤ 100000; decide), fun t2 ht2 => ?_⟩
  have s2 := same_new ht2 (.tup [.str "plus", .str "less"])
  refine ⟨t2, _, rfl, .inr (SqT.of upd_same), rfl, rfl, _, rfl, ?_⟩
  have hT2 := hT0.mono s2
  have hA2 := hA0.tk (tk_same s2)
  have l2 := l0.mono s2
  have kx2 := kx0.imp fun _ _ z => RefV.tk (tk_same s2) z
  have hd2 := s2 _ _ hd0
  have s02 := s0.trans s2
  generalize upd Ha t2 (.tup [.str "plus", .str "less"]) = Hb at s2 s02 hT2 hA2 l2 kx2 hd2
  have opW : ∀ (b : Bool), hdT t = (if b then Hd.less else Hd.plus) → ∃ u1 u2 b1 b2, (∀ w, simpJ t w = [.simple u1, .simple u2, .op b]) ∧ Hb a = some (.tup [.str (if b then "less" else "plus"), .ref b1, .ref b2]) ∧ At Hb u1 b1 ∧ At Hb u2 b2 := fun b hh => by
    rw [hh] at l2
    have h2 : (kidsT t).length = 2 := by
      rw [← hlk]
      cases b <;> exact l2.1
    obtain ⟨u1, u2, e2⟩ := two_of h2
    rw [e2] at kx2
    obtain ⟨v1, v2, e3, ⟨b1, e4, g1⟩, ⟨b2, e5, g2⟩⟩ := all2_two kx2
    subst e3 e4 e5
    refine ⟨u1, u2, b1, b2, fun w => ?_, ?_, g1, g2⟩
    · unfold simpJ
      rw [hh, e2]
      cases b <;> rfl
    · cases b <;> exact l2.2
  show if inV (.str (hs (hdT t))) [.str "plus", .str "less"] = true then _ else _
  by_cases c2 : inV (.str (hs (hdT t))) [.str "plus", .str "less"] = true
  · have hz : ∃ b : Bool, hdT t = (if b then Hd.less else Hd.plus) := by
      cases hh : hdT t <;> rw [hh] at c2 <;> dsimp only [hs] at c2 <;> first | exact ⟨false, rfl⟩ | exact ⟨true, rfl⟩ | (exfalso; revert c2; decide)
    obtain ⟨b, hh⟩ := hz
    obtain ⟨u1, u2, b1, b2, eE, la, g1, g2⟩ := opW b hh
    refine itT c2 ⟨_, rfl, a, _, _, _, rfl, rfl, SqT.of la, at1, sz (by show 2 ≤ 100000; decide), fun t3 ht3 => ?_⟩
    have s3 := same_new ht3 (.tup [.str "simple", .ref b1])
    refine ⟨_, rfl, a, _, _, _, rfl, rfl, SqT.of (s3 _ _ la), at2, sz (by show 2 ≤ 100000; decide), fun t4 ht4 => ?_⟩
    have s4 := same_new ht4 (.tup [.str "simple", .ref b2])
    refine ⟨_, rfl, a, _, _, _, rfl, rfl, SqT.of ((s3.trans s4) _ _ la), at0, sz (by show 1 ≤ 100000; decide), fun t5 ht5 => ?_⟩
    have s5 := same_new ht5 (.tup [.str (if b then "less" else "plus")])
    refine ⟨sz (by show 3 ≤ 100000; decide), fun r hr2 => ?_⟩
    have s6 := same_new hr2 (.lst [.ref t3, .ref t4, .ref t5])
    have s36 := s3.trans (s4.trans (s5.trans s6))
    have nw : wordS (hdT t) = false := by
      rw [hh]
      cases b <;> rfl
    refine q r _ _ "" c.m (fun z => by rw [nw] at z; cases z) (fun _ => rfl) (tk_same (s02.trans s36)) (hT2.mono s36) upd_same ?_
    rw [eE]
    exact ⟨⟨t3, rfl, b1, (s4.trans (s5.trans s6)) _ _ upd_same, g1.tk (tk_same s36)⟩, ⟨t4, rfl, b2, (s5.trans s6) _ _ upd_same, g2.tk (tk_same s36)⟩, ⟨t5, rfl, s6 _ _ upd_same⟩, trivial⟩
  refine itF (Bool.eq_false_iff.mpr c2) ?_
  refine ⟨_, rfl, a, _, _, _, rfl, rfl, SqT.of hd2, at0, rfl, _, rfl, ?_⟩
  refine ite2 (fun c3 => ?_) (fun c3 => ?_)
  · obtain ⟨y, hh⟩ := hs_let (V.str.inj (of_decide_eq_true c3))
    rw [hh] at l2
    obtain ⟨u1, u2, e2⟩ := two_of (show (kidsT t).length = 2 by rw [← hlk]; exact l2.1)
    have eE : ∀ w, simpJ t w = [.put u1 y, .simple u2] := fun w => by
      unfold simpJ
      rw [hh, e2]
    rw [e2] at kx2
    obtain ⟨v1, v2, rfl, ⟨b1, rfl, g1⟩, ⟨b2, rfl, g2⟩⟩ := all2_two kx2
    have la : Hb a = some (.tup [.str "let", .str y, .ref b1, .ref b2]) := l2.2
    refine ⟨_, rfl, a, _, _, _, rfl, rfl, SqT.of la, at2, _, rfl, a, _, _, _, rfl, rfl, SqT.of la, at1, sz (by show 3 ≤ 100000; decide), fun t3 ht3 => ?_⟩
    have s3 := same_new ht3 (.tup [.str "put", .ref b1, .str y])
    refine ⟨_, rfl, a, _, _, _, rfl, rfl, SqT.of (s3 _ _ la), at3, sz (by show 2 ≤ 100000; decide), fun t4 ht4 => ?_⟩
    have s4 := same_new ht4 (.tup [.str "simple", .ref b2])
    refine ⟨sz (by show 2 ≤ 100000; decide), fun r hr2 => ?_⟩
    have s5 := same_new hr2 (.lst [.ref t3, .ref t4])
    have s35 := s3.trans (s4.trans s5)
    have nw : wordS (hdT t) = false := by rw [hh]; rfl
    refine q r _ _ "" c.m (fun z => by rw [nw] at z; cases z) (fun _ => rfl) (tk_same (s02.trans s35)) (hT2.mono s35) upd_same ?_
    rw [eE]
    exact ⟨⟨t3, rfl, b1, (s4.trans s5) _ _ upd_same, g1.tk (tk_same s35)⟩, ⟨t4, rfl, b2, s5 _ _ upd_same, g2.tk (tk_same s35)⟩, trivial⟩
  · have nw : wordS (hdT t) = true := by
      cases hh : hdT t with
      | num z => rw [hh] at c1; exact absurd rfl c1
      | nam z => rw [hh] at c1; exact absurd rfl c1
      | plus => rw [hh] at c2; exact absurd rfl c2
      | less => rw [hh] at c2; exact absurd rfl c2
      | lett y => rw [hh] at c3; exact absurd (decide_eq_true rfl) c3
      | _ => rfl
    have eE : ∀ w, simpJ t w = [.put t w, .known (mkL (.nam w) [])] := fun w => by
      unfold simpJ
      cases hh : hdT t <;> rw [hh] at nw <;> first | rfl | cases nw
    refine ⟨_, rfl, A.p, CT, _, _, _, rfl, hT2.ob, X.clT, X.tNew, l_new _ _ _ _, A.nw, _, _, rfl, hT2.nw.ob, by rfl, A.nw, A.dN, A.td, tk, c.m, rfl, hT2.nw, hm, fun w m' hwm => ?_⟩
    have hT3 := hT2.setM m'
    have tk3 : TK Hb (upd Hb A.nw (.ins CN A.dN (fsN (.ref A.td) (.int (m' : Int))))) := tk_upd hT2.nw.ob (by intro xs z; cases z)
    have hA3 := hA2.tk tk3
    generalize upd Hb A.nw (.ins CN A.dN (fsN (.ref A.td) (.int (m' : Int)))) = H1 at hT3 tk3 hA3
    refine ⟨_, rfl, _, rfl, sz (by show 3 ≤ 100000; decide), fun t4 ht4 => ?_⟩
    have s4 := same_new ht4 (.tup [.str "put", .ref a, .str w])
    refine ⟨_, rfl, sz (by show 2 ≤ 100000; decide), fun t5 ht5 => ?_⟩
    have s5 := same_new ht5 (.tup [.str "name", .str w])
    refine ⟨sz (by show 2 ≤ 100000; decide), fun t6 ht6 => ?_⟩
    have s6 := same_new ht6 (.tup [.str "known", .ref t5])
    refine ⟨sz (by show 2 ≤ 100000; decide), fun r hr2 => ?_⟩
    have s7 := same_new hr2 (.lst [.ref t4, .ref t6])
    have s47 := s4.trans (s5.trans (s6.trans s7))
    refine q r _ _ w m' (fun _ => hwm) (fun z => by rw [nw] at z; cases z) ((tk_same s02).trans (tk3.trans (tk_same s47))) (hT3.mono s47) upd_same ?_
    rw [eE]
    exact ⟨⟨t4, rfl, a, (s5.trans (s6.trans s7)) _ _ upd_same, hA3.tk (tk_same s47)⟩, ⟨t6, rfl, t5, s7 _ _ upd_same, at_mkL (vs := []) ⟨rfl, (s6.trans s7) _ _ upd_same⟩ trivial⟩, trivial⟩
/-! ### jobs_of -/
def mkJ (j : Jb) (w : Str) : List Jb := match j with | .done t j => doneJ t j | .put t x => putJ t x w | .simple t => simpJ t w | _ => []
def wordJ : Jb → Bool | .put t _ => wordH (hdT t) | .simple t => wordS (hdT t) | _ => false
def isMk : Jb → Bool | .done _ _ | .put _ _ | .simple _ => true | _ => false
def spJof (CN CT : Addr) : Sp := fun vs H Q _ => ∃ (H0 : Hp) (A : TuA) (tk : List Str) (c : Cg) (ras : List Addr) (b : Addr) (j : Jb), vs = [.ref A.p, .ref b] ∧ TuAt CN CT H0 H A tk c ras ∧ JbA H b j ∧ isMk j = true ∧ c.m + tk.length + 2 < 26 ^ 9 ∧
  ∀ r H' us w m', (wordJ j = true → NwR tk c.m w m') → (wordJ j = false → m' = c.m) → TuAt CN CT H0 H' A tk { c with m := m' } ras → H' r = some (.lst us) → All2 (JbV H') (mkJ j w) us → Q (.ref r) H'
abbrev sJof : Stmt := inClass (top 28) 2
theorem scJof : FnScope ["self", "job"] ["self", "job"] (defScope sJof) := ⟨rfl, rfl, rfl, by decide +kernel, rfl, by decide +kernel, by decide +kernel⟩
theorem l_no (a b c d : V) (x : Str) (h : x ≠ "new_words" ∧ x ≠ "jobs" ∧ x ≠ "rows" ∧ x ≠ "got") : (fsT a b c d).lookup x = none := by
  obtain ⟨h1, h2, h3, h4⟩ := h
  unfold fsT
  simp [List.lookup, beq_eq_false_iff_ne.mpr h1, beq_eq_false_iff_ne.mpr h2, beq_eq_false_iff_ne.mpr h3, beq_eq_false_iff_ne.mpr h4]
theorem ok_jof (X : TxN K mg CN CT) {f g1 g2 g3 : Addr} {fd d1 d2 d3 : FuncData} (F : Fun K "jobs_of" "Turning.jobs_of" sJof f fd) (G1 : FnOk P w K mg base CX0 2 g1 d1 ["self", "term", "j"] spJdone) (b1 : Binds K d1 ["self", "term", "j"] []) (m1 : Meth K CT "jobs_done" g1)
    (G2 : FnOk P w K mg base CX0 3 g2 d2 ["self", "term", "x"] (spJput CN CT)) (b2 : Binds K d2 ["self", "term", "x"] []) (m2 : Meth K CT "jobs_put" g2) (G3 : FnOk P w K mg base CX0 3 g3 d3 ["self", "term"] (spJsimp CN CT)) (b3 : Binds K d3 ["self", "term"] []) (m3 : Meth K CT "jobs_simple" g3) :
    FnOk P w K mg base CX0 4 f fd ["self", "job"] (spJof CN CT) := by
  refine F.ok scJof (fun vs H Q E h => ?_) (fun cdv A outer s H vs Q E hr h => ?_)
  · obtain ⟨H0, A, tk, c, ras, b, j, rfl, _⟩ := h
    rfl
  obtain ⟨H0, A, tk, c, ras, b, j, rfl, hT, hJ, hj, hm, q⟩ := h
  refine ⟨_, (pss_cons (ps_if (pt_cmpR op_eq (pe_ix ix_tup (pv 1) pe_int (fun _ _ => rfl)) pe_str (nomark _)) (pss_one (ps_ret (pe_meth (pv 0) X.clT m1 G1 (hr.mono (by omega)) b1 .nil pass0 (pa_cons (pe_ix ix_tup (pv 1) pe_int (fun _ _ => rfl)) (pa_cons (pe_ix ix_tup (pv 1) pe_int (fun _ _ => rfl)) pa_nil))))) pss_nil)
    (pss_cons (ps_if (pt_cmpR op_eq (pe_ix ix_tup (pv 1) pe_int (fun _ _ => rfl)) pe_str (nomark _)) (pss_one (ps_ret (pe_meth (pv 0) X.clT m2 G2 (hr.mono (by omega)) b2 .nil pass0 (pa_cons (pe_ix ix_tup (pv 1) pe_int (fun _ _ => rfl)) (pa_cons (pe_ix ix_tup (pv 1) pe_int (fun _ _ => rfl)) pa_nil))))) pss_nil)
    (pss_one (ps_ret (pe_meth (pv 0) X.clT m3 G3 (hr.mono (by omega)) b3 .nil pass0 (pa_cons (pe_ix ix_tup (pv 1) pe_int (fun _ _ => rfl)) pa_nil)))))), ?_⟩
  cases j with
  | done t j =>
    obtain ⟨a, h1, h2⟩ := hJ
    refine ⟨_, rfl, b, _, _, _, rfl, rfl, SqT.of h1, at0, rfl, _, rfl, itT rfl ⟨_, rfl, A.p, _, _, rfl, hT.ob, by rfl, _, rfl, b, _, _, _, rfl, rfl, SqT.of h1, at1, _, rfl, b, _, _, _, rfl, rfl, SqT.of h1, at2, A.p, a, t, j, rfl, h2, fun r H' us hr' s1 g1 k1 => ?_⟩⟩
    exact q r H' us "" c.m (fun z => by cases z) (fun _ => rfl) (hT.mono s1) g1 k1
  | put t x =>
    obtain ⟨a, h1, h2⟩ := hJ
    refine ⟨_, rfl, b, _, _, _, rfl, rfl, SqT.of h1, at0, rfl, _, rfl, itF rfl ⟨_, rfl, b, _, _, _, rfl, rfl, SqT.of h1, at0, rfl, _, rfl, itT rfl ⟨_, rfl, A.p, _, _, rfl, hT.ob, by rfl, _, rfl, b, _, _, _, rfl, rfl, SqT.of h1, at1, _, rfl, b, _, _, _, rfl, rfl, SqT.of h1, at2,
      H0, A, tk, c, ras, a, t, x, rfl, hT, h2, hm, fun r H' us w m' g1 g2 tk1 g3 g4 g5 => ?_⟩⟩⟩
    exact q r H' us w m' g1 g2 g3 g4 g5
  | simple t =>
    obtain ⟨a, h1, h2⟩ := hJ
    refine ⟨_, rfl, b, _, _, _, rfl, rfl, SqT.of h1, at0, rfl, _, rfl, itF rfl ⟨_, rfl, b, _, _, _, rfl, rfl, SqT.of h1, at0, rfl, _, rfl, itF rfl ⟨_, rfl, A.p, _, _, rfl, hT.ob, by rfl, _, rfl, b, _, _, _, rfl, rfl, SqT.of h1, at1,
      H0, A, tk, c, ras, a, t, rfl, hT, h2, hm, fun r H' us w m' g1 g2 tk1 g3 g4 g5 => ?_⟩⟩⟩
    exact q r H' us w m' g1 g2 g3 g4 g5
  | _ => cases hj
end
end KB

namespace KB
open PySem L2 HT
theorem popE {v : V} {r : List V} : ((v :: r).reverse).dropLast = r.reverse := by rw [List.reverse_cons, List.dropLast_concat]
theorem taken_split {H : Hp} : ∀ {n : Nat} {got : List Gt} {gs : List V} {g' : List Bool}, All2 (GtV H) got gs → got.map kG = List.replicate n false ++ g' →
    ∃ (ts : List Tm) (G : List Gt) (gs1 gs2 : List V), got = (ts.map Gt.t).reverse ++ G ∧ ts.length = n ∧ gs = gs1.reverse ++ gs2 ∧ All2 (RefV H) ts gs1 ∧ All2 (GtV H) G gs2 ∧ gs1.length = n ∧ G.map kG = g'
  | 0, got, gs, g', h, e => ⟨[], got, [], gs, rfl, rfl, rfl, trivial, h, rfl, e⟩
  | n + 1, [], gs, g', h, e => by
    rw [List.replicate_succ] at e
    cases e
  | n + 1, g :: got, [], g', h, e => h.elim
  | n + 1, g :: got, v :: gs, g', h, e => by
    rw [List.replicate_succ, List.map_cons, List.cons_append] at e
    obtain ⟨e1, e2⟩ := List.cons.inj e
    obtain ⟨ts, G, gs1, gs2, a1, a2, a3, a4, a5, a6, a7⟩ := taken_split h.2 e2
    cases g with
    | p q => cases e1
    | t s =>
      obtain ⟨b, eb, hb⟩ := h.1
      refine ⟨ts ++ [s], G, gs1 ++ [v], gs2, ?_, ?_, ?_, a4.app ⟨⟨b, eb, hb⟩, trivial⟩, a5, ?_, a7⟩
      · rw [a1]
        simp
      · rw [List.length_append, a2]
        rfl
      · rw [a3]
        simp
      · rw [List.length_append, a6]
        rfl
theorem drop_rev {gs1 gs2 : List V} : ((gs1.reverse ++ gs2).reverse).drop (((gs1.reverse ++ gs2).reverse).length - gs1.length) = gs1 ∧ ((gs1.reverse ++ gs2).reverse).take (((gs1.reverse ++ gs2).reverse).length - gs1.length) = gs2.reverse := by
  have e : (gs1.reverse ++ gs2).reverse = gs2.reverse ++ gs1 := by simp
  rw [e]
  have e2 : (gs2.reverse ++ gs1).length - gs1.length = gs2.reverse.length := by
    rw [List.length_append]
    omega
  rw [e2]
  exact ⟨List.drop_left, List.take_left⟩
theorem last_at {l : List V} {x : V} : atI (l ++ [x]) (-1) = some x := by
  unfold atI ixN
  have e : (l ++ [x]).length = l.length + 1 := by rw [List.length_append]; rfl
  rw [if_neg (by decide), if_pos (by rw [e]; omega), e]
  have e2 : ((-1 : Int) + ((l.length + 1 : Nat) : Int)).toNat = l.length := by omega
  rw [e2]
  show (l ++ [x])[l.length]? = some x
  rw [List.getElem?_append_right (Nat.le_refl _), Nat.sub_self]
  rfl
theorem two_at {H : Hp} {l : Bool} {a b c : Addr} {s t : Tm} (h : H a = some (.tup [.str (if l then "less" else "plus"), .ref b, .ref c])) (h1 : At H s b) (h2 : At H t c) : At H (mkOp l s t) a := by
  unfold mkOp
  cases l
  · exact at_mkL (h := .plus) (vs := [.ref b, .ref c]) ⟨rfl, h⟩ ⟨⟨b, rfl, h1⟩, ⟨c, rfl, h2⟩, trivial⟩
  · exact at_mkL (h := .less) (vs := [.ref b, .ref c]) ⟨rfl, h⟩ ⟨⟨b, rfl, h1⟩, ⟨c, rfl, h2⟩, trivial⟩
section
variable {P : Program} {w : World} {K : PySem.W.Frag} {mg : Str → Option Value} {base : Heap} {CN CT : Addr}
/-! ### last_taken -/
def spLast : Sp := fun vs H Q _ => ∃ (gl : Addr) (xs : List V) (n : Nat), vs = [.ref gl, .int (n : Int)] ∧ H gl = some (.lst xs) ∧ n ≤ xs.length ∧
  ∀ H2 v, Same H H2 → H2 v = some (.tup (xs.drop (xs.length - n))) → Q (.ref v) (upd H2 gl (.lst (xs.take (xs.length - n))))
abbrev slast_taken : Stmt := top 6
theorem sclast_taken : FnScope ["got", "many", "first", "taken"] ["got", "many"] (defScope slast_taken) := ⟨rfl, rfl, rfl, by decide +kernel, rfl, by decide +kernel, by decide +kernel⟩
theorem ok_last (T : Txt K mg) {f : Addr} {fd : FuncData} (F : Fun K "last_taken" "last_taken" slast_taken f fd) : FnOk P w K mg base CX0 1 f fd ["got", "many"] spLast := by
  refine F.ok sclast_taken (fun vs H Q E h => ?_) (fun cdv A outer s H vs Q E hr h => ?_)
  · obtain ⟨gl, xs, n, rfl, _⟩ := h
    rfl
  obtain ⟨gl, xs, n, rfl, hg, hn, q⟩ := h
  refine ⟨_, pss_cons (ps_set (i := 2) sclast_taken.nd rfl (Or.inl rfl) (pe_op op_sub (pe_callB call_len_seq (by rfl) T.m_len PySem.boot_len (pa_cons (pv 0) pa_nil)) (pv 1)))
    (pss_cons (ps_set (i := 3) sclast_taken.nd rfl (Or.inl rfl) (pe_callTy call_tuple_of (by rfl) T.m_tuple (by decide +kernel) (pa_cons (pe_slice sl_list (pv 0) (po_some (pv 2)) po_none) pa_nil)))
    (pss_cons (ps_delFrom (pv 0) (pv 2)) (pss_one (ps_ret (pv 3))))), ?_⟩
  refine ⟨_, rfl, gl, _, rfl, .inl (SqL.of hg), _, rfl, _, _, rfl, rfl, ?_⟩
  have efirst : (xs.length : Int) - (n : Int) = ((xs.length - n : Nat) : Int) := by omega
  refine ⟨_, rfl, _, rfl, _, rfl, gl, _, rfl, SqL.of hg, fun u hu => ⟨u, _, rfl, .inl ⟨SqL.of upd_same, fun v hv => ?_⟩⟩⟩
  have ecut : cutV xs (some ((xs.length : Int) - (n : Int))) none = xs.drop (xs.length - n) := by
    rw [efirst, cut_from (by omega) (by omega), Int.toNat_natCast]
  have sA := (same_new hu (.lst (cutV xs (some ((xs.length : Int) - (n : Int))) none))).trans (same_new hv (.tup (cutV xs (some ((xs.length : Int) - (n : Int))) none)))
  have hv2 : upd (upd H u (.lst (cutV xs (some ((xs.length : Int) - (n : Int))) none))) v (.tup (cutV xs (some ((xs.length : Int) - (n : Int))) none)) v = some (.tup (xs.drop (xs.length - n))) := by
    rw [upd_same, ecut]
  exact ⟨_, rfl, _, rfl, _, rfl, gl, xs, xs.length - n, rfl, congrArg some efirst, sA _ _ hg, Nat.sub_le _ _, _, rfl, q _ _ sA hv2⟩
/-! ### finish -/
structure SzC (c : Cg) : Prop where
  r : c.rows.length ≤ 5000
  g : c.got.length ≤ 5000
  l : ∀ r ∈ c.rows, r.length ≤ 5000
def spFin (CN CT : Addr) : Sp := fun vs H Q _ => ∃ (H0 : Hp) (A : TuA) (tk : List Str) (c : Cg) (ras : List Addr) (b : Addr) (j : Jb), vs = [.ref A.p, .ref b] ∧ TuAt CN CT H0 H A tk c ras ∧ JbA H b j ∧ isMk j = false ∧ okJ (j :: c.jobs) c.rows.length (c.got.map kG) ∧ SzC c ∧
  ∀ H' R1 G1 ras', Fin j c.rows c.got R1 G1 → TuAt CN CT H0 H' A tk { c with rows := R1, got := G1 } ras' → Q .non H'
abbrev sFin : Stmt := inClass (top 28) 6
theorem scFin : FnScope ["self", "job", "head"] ["self", "job"] (defScope sFin) := ⟨rfl, rfl, rfl, by decide +kernel, rfl, by decide +kernel, by decide +kernel⟩
theorem TuAt.top {H0 H : Hp} {A : TuA} {tk : List Str} {J : List Jb} {r : List Ld} {R : List (List Ld)} {G : List Gt} {m : Nat} {ras : List Addr} (h : TuAt CN CT H0 H A tk ⟨J, r :: R, G, m⟩ ras) : ∃ ra ras' vs, ras = ra :: ras' ∧ H ra = some (.lst vs) ∧ All2 (LdV H) r vs := by
  have hr := h.rs
  match ras, hr with
  | ra :: ras', ⟨⟨x, vs, e1, h1, h2⟩, _⟩ => cases e1; exact ⟨ra, ras', vs, rfl, h1, h2⟩
theorem ok_fin (T : Txt K mg) (X : TxN K mg CN CT) {f f1 f2 : Addr} {fd d1 d2 : FuncData} (F : Fun K "finish" "Turning.finish" sFin f fd) (Gput_ahead : FnOk P w K mg base CX0 1 f1 d1 ["leads", "part"] spAhead) (Rput_ahead : Ref K mg "put_ahead" f1 d1 ["leads", "part"])
    (Glast_taken : FnOk P w K mg base CX0 1 f2 d2 ["got", "many"] spLast) (Rlast_taken : Ref K mg "last_taken" f2 d2 ["got", "many"]) : FnOk P w K mg base CX0 2 f fd ["self", "job"] (spFin CN CT) := by
  refine F.ok scFin (fun vs H Q E h => ?_) (fun cdv A outer s H vs Q E hr h => ?_)
  · obtain ⟨H0, A, tk, c, ras, b, j, rfl, _⟩ := h
    rfl
  obtain ⟨H0, A, tk, ⟨J, R, G, m⟩, ras, b, j, rfl, hT, hJ, hj, ho, hz, q⟩ := h
  refine ⟨_, (pss_cons (ps_set (i := 2) scFin.nd rfl (Or.inl rfl) (pe_ix ix_tup (pv 1) pe_int (fun _ _ => rfl)))
    (pss_one (ps_if (pt_cmpR op_eq (pv 2) pe_str (nomark _)) (pss_one (ps_expr (pe_bm PySem.F.plainAttrs_list PySem.F.slot_list_append PySem.F.type_list_append mt_append (pe_fld (pv 0) rfl) (pa_cons (pe_lst pa_nil) pa_nil)))) (pss_one (ps_if (pt_cmpR op_eq (pv 2) pe_str (nomark _)) (pss_one (ps_expr (pe_bm PySem.F.plainAttrs_list PySem.F.slot_list_append PySem.F.type_list_append mt_append (pe_fld (pv 0) rfl) (pa_cons (pe_call Gput_ahead (hr.mono (by omega)) rfl Rput_ahead.m Rput_ahead.k Rput_ahead.b .nil pass0 (pa_cons (pe_bm0 PySem.F.plainAttrs_list PySem.F.slot_list_pop PySem.F.type_list_pop mt_pop (pe_fld (pv 0) rfl)) (pa_cons (pe_bm0 PySem.F.plainAttrs_list PySem.F.slot_list_pop PySem.F.type_list_pop mt_pop (pe_fld (pv 0) rfl)) pa_nil))) pa_nil)))) (pss_one (ps_if (pt_cmpR op_in_seq (pv 2) (pe_tup (pa_cons pe_str (pa_cons pe_str (pa_cons pe_str pa_nil)))) rfl) (pss_one (ps_expr (pe_bm PySem.F.plainAttrs_list PySem.F.slot_list_append PySem.F.type_list_append mt_append (pe_ix ix_list (pe_fld (pv 0) rfl) (pe_un un_neg pe_int) (fun _ _ => rfl)) (pa_cons (pe_tup (StX.pa_star (pv 1) (pa_cons (pe_bm0 PySem.F.plainAttrs_list PySem.F.slot_list_pop PySem.F.type_list_pop mt_pop (pe_fld (pv 0) rfl)) pa_nil))) pa_nil)))) (pss_one (ps_if (pt_cmpR op_eq (pv 2) pe_str (nomark _)) (pss_one (ps_expr (pe_bm PySem.F.plainAttrs_list PySem.F.slot_list_append PySem.F.type_list_append mt_append (pe_fld (pv 0) rfl) (pa_cons (pe_ix ix_tup (pv 1) pe_int (fun _ _ => rfl)) pa_nil)))) (pss_one (ps_if (pt_cmpR op_eq (pv 2) pe_str (nomark _)) (pss_one (ps_expr (pe_bm PySem.F.plainAttrs_list PySem.F.slot_list_append PySem.F.type_list_append mt_append (pe_fld (pv 0) rfl) (pa_cons (pe_tup (pa_cons (pv 2) (pa_cons (pe_ix ix_tup (pv 1) pe_int (fun _ _ => rfl)) (pa_cons (pe_call Glast_taken (hr.mono (by omega)) rfl Rlast_taken.m Rlast_taken.k Rlast_taken.b .nil pass0 (pa_cons (pe_fld (pv 0) rfl) (pa_cons (pe_ix ix_tup (pv 1) pe_int (fun _ _ => rfl)) pa_nil))) (pa_cons (pe_ix ix_tup (pv 1) pe_int (fun _ _ => rfl)) pa_nil))))) pa_nil)))) (pss_one (ps_if (pt_cmpR op_eq (pv 2) pe_str (nomark _)) (pss_one (ps_expr (pe_bm PySem.F.plainAttrs_list PySem.F.slot_list_append PySem.F.type_list_append mt_append (pe_fld (pv 0) rfl) (pa_cons (pe_tup (StX.pa_star (pv 1) (pa_cons (pe_bm0 PySem.F.plainAttrs_list PySem.F.slot_list_pop PySem.F.type_list_pop mt_pop (pe_fld (pv 0) rfl)) pa_nil))) pa_nil)))) (pss_one (ps_if (pt_cmpR op_eq (pv 2) pe_str (nomark _)) (pss_one (ps_expr (pe_bm PySem.F.plainAttrs_list PySem.F.slot_list_append PySem.F.type_list_append mt_append (pe_fld (pv 0) rfl) (pa_cons (pe_tup (pa_cons (pv 2) (StX.pa_star (pe_call Glast_taken (hr.mono (by omega)) rfl Rlast_taken.m Rlast_taken.k Rlast_taken.b .nil pass0 (pa_cons (pe_fld (pv 0) rfl) (pa_cons pe_int pa_nil))) pa_nil))) pa_nil)))) (pss_one (ps_expr (pe_bm PySem.F.plainAttrs_list PySem.F.slot_list_append PySem.F.type_list_append mt_append (pe_fld (pv 0) rfl) (pa_cons (pe_tup (pa_cons (pv 2) (StX.pa_star (pe_call Glast_taken (hr.mono (by omega)) rfl Rlast_taken.m Rlast_taken.k Rlast_taken.b .nil pass0 (pa_cons (pe_fld (pv 0) rfl) (pa_cons pe_int pa_nil))) pa_nil))) pa_nil))))))))))))))))))), ?_⟩

  obtain ⟨gs, hg1, hg2⟩ := hT.gs
  have hgl : gs.length = G.length := hg2.len
  have hzg : G.length ≤ 5000 := hz.g
  have hzr : R.length ≤ 5000 := hz.r
  have hrl : ras.length = R.length := by
    have := hT.rs.len
    rw [List.length_map] at this
    exact this
  cases j with
  | done t j => cases hj
  | put t x => cases hj
  | simple t => cases hj
  | row =>
    have h1 : H b = some (.tup [.str "row"]) := hJ
    refine ⟨_, rfl, b, _, _, _, rfl, rfl, SqT.of h1, at0, ?_⟩
    refine ⟨_, rfl, rfl, _, rfl, itT rfl ?_⟩
    refine ⟨_, rfl, A.p, CT, _, _, _, rfl, hT.ob, X.clT, X.tRows, l_rows _ _ _ _, .inl ⟨rfl, _, SqL.of hT.rl⟩, sz (by show 0 ≤ 100000; decide), fun ra hra => ?_⟩
    refine ⟨A.rl, _, _, rfl, rfl, same_new hra _ _ _ hT.rl, Nat.lt_of_le_of_lt (m := 5000) (by rw [List.length_reverse, List.length_map]; omega) (by decide), ?_⟩
    have hP := hT.pushRow hra
    rw [List.map_cons, List.reverse_cons] at hP
    exact q _ _ _ _ .row hP
  | close =>
    have h1 : H b = some (.tup [.str "close"]) := hJ
    obtain ⟨r', g', e1, e2, _⟩ := ho
    match R, G, gs with
    | r :: R, .p p0 :: G, v :: gs =>
      obtain ⟨⟨b1, rfl, hb1⟩, hg3⟩ := hg2
      obtain ⟨ra, ras', vs, rfl, hv, kv⟩ := hT.top
      refine ⟨_, rfl, b, _, _, _, rfl, rfl, SqT.of h1, at0, ?_⟩
      refine ⟨_, rfl, rfl, _, rfl, itF rfl ⟨_, rfl, rfl, _, rfl, itT rfl ?_⟩⟩
      refine ⟨_, rfl, A.p, CT, _, _, _, rfl, hT.ob, X.clT, X.tGot, l_got _ _ _ _, .inl ⟨rfl, _, SqL.of hg1⟩, ?_⟩
      refine ⟨_, rfl, A.p, CT, _, _, _, rfl, hT.ob, X.clT, X.tRows, l_rows _ _ _ _, .inl ⟨rfl, _, SqL.of hT.rl⟩, A.rl, _, .ref ra, rfl, rfl, hT.rl, by simp, ?_⟩
      rw [List.map_cons, popE]
      have hT1 : TuAt CN CT H0 (upd H A.rl (.lst (ras'.map V.ref).reverse)) A tk ⟨J, R, .p p0 :: G, m⟩ ras' := TuAt.popRow (c := ⟨J, [], .p p0 :: G, m⟩) hT
      have hv1 : upd H A.rl (.lst (ras'.map V.ref).reverse) ra = some (.lst vs) := by
        rw [upd_ne (hT.n5 ra List.mem_cons_self).2.1]
        exact hv
      have tk1 : TK H (upd H A.rl (.lst (ras'.map V.ref).reverse)) := tk_put hT.rl
      have hg4 : upd H A.rl (.lst (ras'.map V.ref).reverse) A.gl = some (.lst ((V.ref b1 :: gs).reverse)) := by
        rw [upd_ne hT.n3.symm]
        exact hg1
      have kv1 := kv.imp fun _ _ z => z.tk tk1
      have hb2 := PAt.tk tk1 hb1
      have hg5 := hg3.imp fun _ _ z => z.tk tk1
      have nrg : ra ≠ A.gl := (hT.n5 ra List.mem_cons_self).2.2
      generalize upd H A.rl (.lst (ras'.map V.ref).reverse) = H1 at hT1 hv1 tk1 hg4 kv1 hb2 hg5
      refine ⟨_, rfl, A.p, CT, _, _, _, rfl, hT1.ob, X.clT, X.tGot, l_got _ _ _ _, .inl ⟨rfl, _, SqL.of hg4⟩, A.gl, _, .ref b1, rfl, rfl, hg4, by simp, ?_⟩
      rw [popE]
      have hT2 : TuAt CN CT H0 (upd H1 A.gl (.lst gs.reverse)) A tk ⟨J, R, G, m⟩ ras' := hT1.setGot hg5
      have tk2 : TK H1 (upd H1 A.gl (.lst gs.reverse)) := tk_put hg4
      refine ⟨ra, b1, vs, r, p0, rfl, by rw [upd_ne nrg]; exact hv1, kv1.imp fun _ _ z => z.tk tk2, PAt.tk tk2 hb2, fun H3 b3 s3 h3 => ?_⟩
      have hT3 := hT2.mono s3
      have hgl3 : H3 A.gl = some (.lst gs.reverse) := s3 _ _ upd_same
      have kg3 : All2 (GtV H3) G gs := (hg5.imp fun _ _ z => z.tk tk2).imp fun _ _ z => z.tk (tk_same s3)
      have hl3 := kg3.len
      rw [List.length_cons] at hzg
      refine ⟨A.gl, _, _, rfl, rfl, hgl3, Nat.lt_of_le_of_lt (m := 5000) (by rw [List.length_reverse]; omega) (by decide), ?_⟩
      have hT4 := hT3.setGot (G := .p (putAh r p0) :: G) (gs' := .ref b3 :: gs) ⟨⟨b3, rfl, h3⟩, kg3⟩
      rw [List.reverse_cons] at hT4
      exact q _ _ _ _ .close hT4
    | [], _, _ => cases e1
    | _ :: _, [], _ => cases e2
    | _ :: _, .t _ :: _, _ => cases e2
    | _ :: _, .p _ :: _, [] => exact hg2.elim
  | known t =>
    obtain ⟨b1, h1, h2⟩ := hJ
    refine ⟨_, rfl, b, _, _, _, rfl, rfl, SqT.of h1, at0, ?_⟩
    refine ⟨_, rfl, rfl, _, rfl, itF rfl ⟨_, rfl, rfl, _, rfl, itF rfl ⟨_, rfl, sz (by show 3 ≤ 100000; decide), fun t0 ht0 => ⟨t0, _, rfl, .inr (SqT.of upd_same), rfl, rfl, _, rfl, itF rfl ⟨_, rfl, rfl, _, rfl, itT rfl ?_⟩⟩⟩⟩⟩
    have s0 := same_new ht0 (.tup [.str "let", .str "tell", .str "post"])
    have hT0 := hT.mono s0
    have hg0 := s0 _ _ hg1
    have h10 := s0 _ _ h1
    have kg0 := hg2.imp fun _ _ z => z.tk (tk_same s0)
    refine ⟨_, rfl, A.p, CT, _, _, _, rfl, hT0.ob, X.clT, X.tGot, l_got _ _ _ _, .inl ⟨rfl, _, SqL.of hg0⟩, _, rfl, b, _, _, _, rfl, rfl, SqT.of h10, at1, A.gl, _, _, rfl, rfl, hg0, Nat.lt_of_le_of_lt (m := 5000) (by rw [List.length_reverse]; omega) (by decide), ?_⟩
    have hT4 := hT0.setGot (G := .t t :: G) (gs' := .ref b1 :: gs) ⟨⟨b1, rfl, h2.tk (tk_same s0)⟩, kg0⟩
    rw [List.reverse_cons] at hT4
    exact q _ _ _ _ .known hT4
  | lett x =>
    have h1 : H b = some (.tup [.str "let", .str x]) := hJ
    obtain ⟨g', e1, e2, _⟩ := ho
    match R, G, gs with
    | r :: R, .t s :: G, v :: gs =>
      obtain ⟨⟨b1, rfl, hb1⟩, hg3⟩ := hg2
      obtain ⟨ra, ras', vs, rfl, hv, kv⟩ := hT.top
      refine ⟨_, rfl, b, _, _, _, rfl, rfl, SqT.of h1, at0, ?_⟩
      refine ⟨_, rfl, rfl, _, rfl, itF rfl ⟨_, rfl, rfl, _, rfl, itF rfl ⟨_, rfl, sz (by show 3 ≤ 100000; decide), fun t0 ht0 => ⟨t0, _, rfl, .inr (SqT.of upd_same), rfl, rfl, _, rfl, itT rfl ?_⟩⟩⟩⟩
      have s0 := same_new ht0 (.tup [.str "let", .str "tell", .str "post"])
      have hT0 := hT.mono s0
      have hg0 := s0 _ _ hg1
      have h10 := s0 _ _ h1
      have hv0 := s0 _ _ hv
      have kv0 := kv.imp fun _ _ z => LdV.tk (tk_same s0) z
      have kg0 := hg3.imp fun _ _ z => GtV.tk (tk_same s0) z
      have hb0 := hb1.tk (tk_same s0)
      have hrl0 := hT0.rl
      rw [List.map_cons, List.reverse_cons] at hrl0
      generalize upd H t0 (.tup [.str "let", .str "tell", .str "post"]) = Ha at s0 hT0 hg0 h10 hv0 kv0 kg0 hb0 hrl0
      refine ⟨_, rfl, A.p, CT, _, _, _, rfl, hT0.ob, X.clT, X.tRows, l_rows _ _ _ _, 1, rfl, A.rl, _, _, _, rfl, rfl, SqL.of hrl0, last_at, .inl ⟨rfl, _, SqL.of hv0⟩, ?_⟩
      refine ⟨_, rfl, b, _, rfl, .inl (SqT.of h10), ?_⟩
      refine ⟨_, rfl, A.p, CT, _, _, _, rfl, hT0.ob, X.clT, X.tGot, l_got _ _ _ _, .inl ⟨rfl, _, SqL.of hg0⟩, A.gl, _, .ref b1, rfl, rfl, hg0, by simp, ?_⟩
      rw [popE]
      have hT1 : TuAt CN CT H0 (upd Ha A.gl (.lst gs.reverse)) A tk ⟨J, r :: R, G, m⟩ (ra :: ras') := hT0.setGot kg0
      have tk1 : TK Ha (upd Ha A.gl (.lst gs.reverse)) := tk_put hg0
      have hv1 : upd Ha A.gl (.lst gs.reverse) ra = some (.lst vs) := by
        rw [upd_ne (hT.n5 ra List.mem_cons_self).2.2]
        exact hv0
      have kv1 := kv0.imp fun _ _ z => z.tk tk1
      have hb2 := hb0.tk tk1
      generalize upd Ha A.gl (.lst gs.reverse) = Hb at hT1 tk1 hv1 kv1 hb2
      refine ⟨sz (by show 3 ≤ 100000; decide), fun t2 ht2 => ?_⟩
      have s2 := same_new ht2 (.tup [.str "let", .str x, .ref b1])
      have hT2 := hT1.mono s2
      have hv2 := s2 _ _ hv1
      have kv2 := kv1.imp fun _ _ z => LdV.tk (tk_same s2) z
      have hlv := kv2.len
      have hz1 := hz.l r List.mem_cons_self
      refine ⟨ra, _, _, rfl, rfl, hv2, Nat.lt_of_le_of_lt (m := 5000) (by omega) (by decide), ?_⟩
      have hT3 := TuAt.addLead (c := ⟨J, [], G, m⟩) (l := .lett x s) (v := .ref t2) hT2 hv2 kv2 ⟨t2, b1, rfl, upd_same, hb2.tk (tk_same s2)⟩
      exact q _ _ _ _ .lett hT3
    | [], _, _ => cases e1
    | _ :: _, [], _ => cases e2
    | _ :: _, .p _ :: _, _ => cases e2
    | _ :: _, .t _ :: _, [] => exact hg2.elim
  | tell x =>
    have h1 : H b = some (.tup [.str "tell", .str x]) := hJ
    obtain ⟨g', e1, e2, _⟩ := ho
    match R, G, gs with
    | r :: R, .t s :: G, v :: gs =>
      obtain ⟨⟨b1, rfl, hb1⟩, hg3⟩ := hg2
      obtain ⟨ra, ras', vs, rfl, hv, kv⟩ := hT.top
      refine ⟨_, rfl, b, _, _, _, rfl, rfl, SqT.of h1, at0, ?_⟩
      refine ⟨_, rfl, rfl, _, rfl, itF rfl ⟨_, rfl, rfl, _, rfl, itF rfl ⟨_, rfl, sz (by show 3 ≤ 100000; decide), fun t0 ht0 => ⟨t0, _, rfl, .inr (SqT.of upd_same), rfl, rfl, _, rfl, itT rfl ?_⟩⟩⟩⟩
      have s0 := same_new ht0 (.tup [.str "let", .str "tell", .str "post"])
      have hT0 := hT.mono s0
      have hg0 := s0 _ _ hg1
      have h10 := s0 _ _ h1
      have hv0 := s0 _ _ hv
      have kv0 := kv.imp fun _ _ z => LdV.tk (tk_same s0) z
      have kg0 := hg3.imp fun _ _ z => GtV.tk (tk_same s0) z
      have hb0 := hb1.tk (tk_same s0)
      have hrl0 := hT0.rl
      rw [List.map_cons, List.reverse_cons] at hrl0
      generalize upd H t0 (.tup [.str "let", .str "tell", .str "post"]) = Ha at s0 hT0 hg0 h10 hv0 kv0 kg0 hb0 hrl0
      refine ⟨_, rfl, A.p, CT, _, _, _, rfl, hT0.ob, X.clT, X.tRows, l_rows _ _ _ _, 1, rfl, A.rl, _, _, _, rfl, rfl, SqL.of hrl0, last_at, .inl ⟨rfl, _, SqL.of hv0⟩, ?_⟩
      refine ⟨_, rfl, b, _, rfl, .inl (SqT.of h10), ?_⟩
      refine ⟨_, rfl, A.p, CT, _, _, _, rfl, hT0.ob, X.clT, X.tGot, l_got _ _ _ _, .inl ⟨rfl, _, SqL.of hg0⟩, A.gl, _, .ref b1, rfl, rfl, hg0, by simp, ?_⟩
      rw [popE]
      have hT1 : TuAt CN CT H0 (upd Ha A.gl (.lst gs.reverse)) A tk ⟨J, r :: R, G, m⟩ (ra :: ras') := hT0.setGot kg0
      have tk1 : TK Ha (upd Ha A.gl (.lst gs.reverse)) := tk_put hg0
      have hv1 : upd Ha A.gl (.lst gs.reverse) ra = some (.lst vs) := by
        rw [upd_ne (hT.n5 ra List.mem_cons_self).2.2]
        exact hv0
      have kv1 := kv0.imp fun _ _ z => z.tk tk1
      have hb2 := hb0.tk tk1
      generalize upd Ha A.gl (.lst gs.reverse) = Hb at hT1 tk1 hv1 kv1 hb2
      refine ⟨sz (by show 3 ≤ 100000; decide), fun t2 ht2 => ?_⟩
      have s2 := same_new ht2 (.tup [.str "tell", .str x, .ref b1])
      have hT2 := hT1.mono s2
      have hv2 := s2 _ _ hv1
      have kv2 := kv1.imp fun _ _ z => LdV.tk (tk_same s2) z
      have hlv := kv2.len
      have hz1 := hz.l r List.mem_cons_self
      refine ⟨ra, _, _, rfl, rfl, hv2, Nat.lt_of_le_of_lt (m := 5000) (by omega) (by decide), ?_⟩
      have hT3 := TuAt.addLead (c := ⟨J, [], G, m⟩) (l := .tell x s) (v := .ref t2) hT2 hv2 kv2 ⟨t2, b1, rfl, upd_same, hb2.tk (tk_same s2)⟩
      exact q _ _ _ _ .tell hT3
    | [], _, _ => cases e1
    | _ :: _, [], _ => cases e2
    | _ :: _, .p _ :: _, _ => cases e2
    | _ :: _, .t _ :: _, [] => exact hg2.elim
  | post j x =>
    have h1 : H b = some (.tup [.str "post", .str j, .str x]) := hJ
    obtain ⟨g', e1, e2, _⟩ := ho
    match R, G, gs with
    | r :: R, .p s :: G, v :: gs =>
      obtain ⟨⟨b1, rfl, hb1⟩, hg3⟩ := hg2
      obtain ⟨ra, ras', vs, rfl, hv, kv⟩ := hT.top
      refine ⟨_, rfl, b, _, _, _, rfl, rfl, SqT.of h1, at0, ?_⟩
      refine ⟨_, rfl, rfl, _, rfl, itF rfl ⟨_, rfl, rfl, _, rfl, itF rfl ⟨_, rfl, sz (by show 3 ≤ 100000; decide), fun t0 ht0 => ⟨t0, _, rfl, .inr (SqT.of upd_same), rfl, rfl, _, rfl, itT rfl ?_⟩⟩⟩⟩
      have s0 := same_new ht0 (.tup [.str "let", .str "tell", .str "post"])
      have hT0 := hT.mono s0
      have hg0 := s0 _ _ hg1
      have h10 := s0 _ _ h1
      have hv0 := s0 _ _ hv
      have kv0 := kv.imp fun _ _ z => LdV.tk (tk_same s0) z
      have kg0 := hg3.imp fun _ _ z => GtV.tk (tk_same s0) z
      have hb0 := PAt.tk (tk_same s0) hb1
      have hrl0 := hT0.rl
      rw [List.map_cons, List.reverse_cons] at hrl0
      generalize upd H t0 (.tup [.str "let", .str "tell", .str "post"]) = Ha at s0 hT0 hg0 h10 hv0 kv0 kg0 hb0 hrl0
      refine ⟨_, rfl, A.p, CT, _, _, _, rfl, hT0.ob, X.clT, X.tRows, l_rows _ _ _ _, 1, rfl, A.rl, _, _, _, rfl, rfl, SqL.of hrl0, last_at, .inl ⟨rfl, _, SqL.of hv0⟩, ?_⟩
      refine ⟨_, rfl, b, _, rfl, .inl (SqT.of h10), ?_⟩
      refine ⟨_, rfl, A.p, CT, _, _, _, rfl, hT0.ob, X.clT, X.tGot, l_got _ _ _ _, .inl ⟨rfl, _, SqL.of hg0⟩, A.gl, _, .ref b1, rfl, rfl, hg0, by simp, ?_⟩
      rw [popE]
      have hT1 : TuAt CN CT H0 (upd Ha A.gl (.lst gs.reverse)) A tk ⟨J, r :: R, G, m⟩ (ra :: ras') := hT0.setGot kg0
      have tk1 : TK Ha (upd Ha A.gl (.lst gs.reverse)) := tk_put hg0
      have hv1 : upd Ha A.gl (.lst gs.reverse) ra = some (.lst vs) := by
        rw [upd_ne (hT.n5 ra List.mem_cons_self).2.2]
        exact hv0
      have kv1 := kv0.imp fun _ _ z => z.tk tk1
      have hb2 := PAt.tk tk1 hb0
      generalize upd Ha A.gl (.lst gs.reverse) = Hb at hT1 tk1 hv1 kv1 hb2
      refine ⟨sz (by show 4 ≤ 100000; decide), fun t2 ht2 => ?_⟩
      have s2 := same_new ht2 (.tup [.str "post", .str j, .str x, .ref b1])
      have hT2 := hT1.mono s2
      have hv2 := s2 _ _ hv1
      have kv2 := kv1.imp fun _ _ z => LdV.tk (tk_same s2) z
      have hlv := kv2.len
      have hz1 := hz.l r List.mem_cons_self
      refine ⟨ra, _, _, rfl, rfl, hv2, Nat.lt_of_le_of_lt (m := 5000) (by omega) (by decide), ?_⟩
      have hT3 := TuAt.addLead (c := ⟨J, [], G, m⟩) (l := .post j x s) (v := .ref t2) hT2 hv2 kv2 ⟨t2, b1, rfl, upd_same, PAt.tk (tk_same s2) hb2⟩
      exact q _ _ _ _ .post hT3
    | [], _, _ => cases e1
    | _ :: _, [], _ => cases e2
    | _ :: _, .t _ :: _, _ => cases e2
    | _ :: _, .p _ :: _, [] => exact hg2.elim
  | ask f n j =>
    have h1 : H b = some (.tup [.str "ask", .str f, .int (n : Int), .str j]) := hJ
    obtain ⟨g', e1, _⟩ := ho
    refine ⟨_, rfl, b, _, _, _, rfl, rfl, SqT.of h1, at0, ?_⟩
    refine ⟨_, rfl, rfl, _, rfl, itF rfl ⟨_, rfl, rfl, _, rfl, itF rfl ⟨_, rfl, sz (by show 3 ≤ 100000; decide), fun t0 ht0 => ⟨t0, _, rfl, .inr (SqT.of upd_same), rfl, rfl, _, rfl, itF rfl ⟨_, rfl, rfl, _, rfl, itF rfl ⟨_, rfl, rfl, _, rfl, itT rfl ?_⟩⟩⟩⟩⟩⟩
    have s0 := same_new ht0 (.tup [.str "let", .str "tell", .str "post"])
    have hT0 := hT.mono s0
    have hg0 := s0 _ _ hg1
    have h10 := s0 _ _ h1
    generalize hHa : upd H t0 (.tup [.str "let", .str "tell", .str "post"]) = Ha at s0 hT0 hg0 h10
    obtain ⟨ts, G2, gs1, gs2, a1, a2, a3, a4, a5, a6, _⟩ := taken_split (hg2.imp fun _ _ z => GtV.tk (tk_same s0) z) e1
    subst a1 a2 a3
    have hd := drop_rev (gs1 := gs1) (gs2 := gs2)
    rw [a6] at hd
    refine ⟨_, rfl, A.p, CT, _, _, _, rfl, hT0.ob, X.clT, X.tGot, l_got _ _ _ _, .inl ⟨rfl, _, SqL.of hg0⟩, ?_⟩
    refine ⟨_, rfl, _, rfl, b, _, _, _, rfl, rfl, SqT.of h10, at1, ?_⟩
    refine ⟨_, rfl, A.p, CT, _, _, _, rfl, hT0.ob, X.clT, X.tGot, l_got _ _ _ _, _, rfl, b, _, _, _, rfl, rfl, SqT.of h10, at2, A.gl, _, ts.length, rfl, hg0, by simp; omega, fun H2 v s2 hv => ?_⟩
    rw [hd.1] at hv
    rw [hd.2]
    have hT2 := hT0.mono s2
    have a5' : All2 (GtV H2) G2 gs2 := a5.imp fun _ _ z => GtV.tk (tk_same s2) z
    have hT3 : TuAt CN CT H0 (upd H2 A.gl (.lst gs2.reverse)) A tk ⟨J, R, G2, m⟩ ras := hT2.setGot a5'
    have hgl2 := s2 _ _ hg0
    have tk3 : TK H2 (upd H2 A.gl (.lst gs2.reverse)) := tk_put hgl2
    have h13 := tk3 _ _ (s2 _ _ h10)
    have hv3 := tk3 _ _ hv
    have a43 : All2 (RefV (upd H2 A.gl (.lst gs2.reverse))) ts gs1 := a4.imp fun _ _ z => (RefV.tk (tk_same s2) z).tk tk3
    have hgl3 : upd H2 A.gl (.lst gs2.reverse) A.gl = some (.lst gs2.reverse) := upd_same
    have a53 : All2 (GtV (upd H2 A.gl (.lst gs2.reverse))) G2 gs2 := a5'.imp fun _ _ z => GtV.tk tk3 z
    generalize upd H2 A.gl (.lst gs2.reverse) = H3 at hT3 h13 hv3 a43 hgl3 a53 tk3
    refine ⟨_, rfl, b, _, _, _, rfl, rfl, SqT.of h13, at3, sz (by show 4 ≤ 100000; decide), fun t3 ht3 => ?_⟩
    have s4 := same_new ht3 (.tup [.str "ask", .str f, .ref v, .str j])
    have hT4 := hT3.mono s4
    have hl2 := a5.len
    rw [List.length_append] at hzg
    refine ⟨A.gl, _, _, rfl, rfl, s4 _ _ hgl3, Nat.lt_of_le_of_lt (m := 5000) (by rw [List.length_reverse]; omega) (by decide), ?_⟩
    have hT5 := hT4.setGot (G := .p (.ask f ts j) :: G2) (gs' := .ref t3 :: gs2) ⟨⟨t3, rfl, v, gs1, upd_same, s4 _ _ hv3, a43.imp fun _ _ z => RefV.tk (tk_same s4) z⟩, a53.imp fun _ _ z => GtV.tk (tk_same s4) z⟩
    rw [List.reverse_cons] at hT5
    exact q _ _ _ _ .ask hT5
  | give j =>
    have h1 : H b = some (.tup [.str "give", .str j]) := hJ
    obtain ⟨g', e2, _⟩ := ho
    match G, gs with
    | .t s :: G, v :: gs =>
      obtain ⟨⟨b1, rfl, hb1⟩, hg3⟩ := hg2
      refine ⟨_, rfl, b, _, _, _, rfl, rfl, SqT.of h1, at0, ?_⟩
      refine ⟨_, rfl, rfl, _, rfl, itF rfl ⟨_, rfl, rfl, _, rfl, itF rfl ⟨_, rfl, sz (by show 3 ≤ 100000; decide), fun t0 ht0 => ⟨t0, _, rfl, .inr (SqT.of upd_same), rfl, rfl, _, rfl, itF rfl ⟨_, rfl, rfl, _, rfl, itF rfl ⟨_, rfl, rfl, _, rfl, itF rfl ⟨_, rfl, rfl, _, rfl, itT rfl ?_⟩⟩⟩⟩⟩⟩⟩
      have s0 := same_new ht0 (.tup [.str "let", .str "tell", .str "post"])
      have hT0 := hT.mono s0
      have hg0 := s0 _ _ hg1
      have h10 := s0 _ _ h1
      generalize hHa : upd H t0 (.tup [.str "let", .str "tell", .str "post"]) = Ha at s0 hT0 hg0 h10
      have kg0 := hg3.imp fun _ _ z => GtV.tk (tk_same s0) z
      have hb0 := hb1.tk (tk_same s0)
      refine ⟨_, rfl, A.p, CT, _, _, _, rfl, hT0.ob, X.clT, X.tGot, l_got _ _ _ _, .inl ⟨rfl, _, SqL.of hg0⟩, ?_⟩
      refine ⟨_, rfl, b, _, rfl, .inl (SqT.of h10), ?_⟩
      refine ⟨_, rfl, A.p, CT, _, _, _, rfl, hT0.ob, X.clT, X.tGot, l_got _ _ _ _, .inl ⟨rfl, _, SqL.of hg0⟩, A.gl, _, .ref b1, rfl, rfl, hg0, by simp, ?_⟩
      rw [popE]
      have hT1 : TuAt CN CT H0 (upd Ha A.gl (.lst gs.reverse)) A tk ⟨J, R, G, m⟩ ras := hT0.setGot kg0
      have tk1 : TK Ha (upd Ha A.gl (.lst gs.reverse)) := tk_put hg0
      have kg1 := kg0.imp fun _ _ z => z.tk tk1
      have hb2 := hb0.tk tk1
      have hgl1 : upd Ha A.gl (.lst gs.reverse) A.gl = some (.lst gs.reverse) := upd_same
      generalize upd Ha A.gl (.lst gs.reverse) = Hb at hT1 tk1 kg1 hb2 hgl1
      refine ⟨sz (by show 3 ≤ 100000; decide), fun t2 ht2 => ?_⟩
      have s2 := same_new ht2 (.tup [.str "give", .str j, .ref b1])
      have hT2 := hT1.mono s2
      have hlg := kg1.len
      rw [List.length_cons] at hzg
      refine ⟨A.gl, _, _, rfl, rfl, s2 _ _ hgl1, Nat.lt_of_le_of_lt (m := 5000) (by rw [List.length_reverse]; omega) (by decide), ?_⟩
      have hT3 := hT2.setGot (G := .p (.give j s) :: G) (gs' := .ref t2 :: gs) ⟨⟨t2, rfl, b1, upd_same, hb2.tk (tk_same s2)⟩, kg1.imp fun _ _ z => GtV.tk (tk_same s2) z⟩
      rw [List.reverse_cons] at hT3
      exact q _ _ _ _ .give hT3
    | [], _ => cases e2
    | .p _ :: _, _ => cases e2
    | .t _ :: _, [] => exact hg2.elim
  | iff =>
    have h1 : H b = some (.tup [.str "if"]) := hJ
    obtain ⟨g', e2, _⟩ := ho
    match G, gs with
    | .p c0 :: .p c1 :: .t c2 :: G, v0 :: v1 :: v2 :: gs =>
      obtain ⟨⟨b0, rfl, hb0⟩, ⟨b1, rfl, hb1⟩, ⟨b2, rfl, hb2⟩, hg3⟩ := hg2
      refine ⟨_, rfl, b, _, _, _, rfl, rfl, SqT.of h1, at0, ?_⟩
      refine ⟨_, rfl, rfl, _, rfl, itF rfl ⟨_, rfl, rfl, _, rfl, itF rfl ⟨_, rfl, sz (by show 3 ≤ 100000; decide), fun t0 ht0 => ⟨t0, _, rfl, .inr (SqT.of upd_same), rfl, rfl, _, rfl, itF rfl ⟨_, rfl, rfl, _, rfl, itF rfl ⟨_, rfl, rfl, _, rfl, itF rfl ⟨_, rfl, rfl, _, rfl, itF rfl ⟨_, rfl, rfl, _, rfl, itT rfl ?_⟩⟩⟩⟩⟩⟩⟩⟩
      have s0 := same_new ht0 (.tup [.str "let", .str "tell", .str "post"])
      have hT0 := hT.mono s0
      have hg0 := s0 _ _ hg1
      have h10 := s0 _ _ h1
      generalize hHa : upd H t0 (.tup [.str "let", .str "tell", .str "post"]) = Ha at s0 hT0 hg0 h10
      have kg0 := hg3.imp fun _ _ z => GtV.tk (tk_same s0) z
      have hc0 := PAt.tk (tk_same s0) hb0
      have hc1 := PAt.tk (tk_same s0) hb1
      have hc2 := At.tk (tk_same s0) hb2
      refine ⟨_, rfl, A.p, CT, _, _, _, rfl, hT0.ob, X.clT, X.tGot, l_got _ _ _ _, .inl ⟨rfl, _, SqL.of hg0⟩, ?_⟩
      have hd := drop_rev (gs1 := [V.ref b2, V.ref b1, V.ref b0]) (gs2 := gs)
      have e9 : (V.ref b0 :: V.ref b1 :: V.ref b2 :: gs : List V) = [V.ref b2, V.ref b1, V.ref b0].reverse ++ gs := rfl
      rw [e9] at hg0
      refine ⟨_, rfl, _, rfl, A.p, CT, _, _, _, rfl, hT0.ob, X.clT, X.tGot, l_got _ _ _ _, A.gl, _, 3, rfl, hg0, by simp, fun H2 v s2 hv => ?_⟩
      have hv' : H2 v = some (.tup [V.ref b2, V.ref b1, V.ref b0]) := hv.trans (congrArg (fun z => some (HO.tup z)) hd.1)
      have hd2 : ([V.ref b2, V.ref b1, V.ref b0].reverse ++ gs).reverse.take (([V.ref b2, V.ref b1, V.ref b0].reverse ++ gs).reverse.length - 3) = gs.reverse := hd.2
      rw [hd2]
      have hT2 := hT0.mono s2
      have kg2 : All2 (GtV H2) G gs := kg0.imp fun _ _ z => GtV.tk (tk_same s2) z
      have hT3 : TuAt CN CT H0 (upd H2 A.gl (.lst gs.reverse)) A tk ⟨J, R, G, m⟩ ras := hT2.setGot kg2
      have tk3 : TK H2 (upd H2 A.gl (.lst gs.reverse)) := tk_put (s2 _ _ hg0)
      have hv3 := tk3 _ _ hv'
      have kg3 := kg2.imp fun _ _ z => GtV.tk tk3 z
      have tk03 := (tk_same s2).trans tk3
      have hd0 := PAt.tk tk03 hc0
      have hd1 := PAt.tk tk03 hc1
      have hd2x := At.tk tk03 hc2
      have hgl3 : upd H2 A.gl (.lst gs.reverse) A.gl = some (.lst gs.reverse) := upd_same
      generalize upd H2 A.gl (.lst gs.reverse) = H3 at hT3 hv3 kg3 tk3 tk03 hgl3 hd0 hd1 hd2x
      refine ⟨v, _, rfl, .inl (SqT.of hv3), sz (by show 4 ≤ 100000; decide), fun t3 ht3 => ?_⟩
      have s4 := same_new ht3 (.tup (.str "if" :: [V.ref b2, V.ref b1, V.ref b0]))
      have hT4 := hT3.mono s4
      have hlg := kg3.len
      simp only [List.length_cons] at hzg
      refine ⟨A.gl, _, _, rfl, rfl, s4 _ _ hgl3, Nat.lt_of_le_of_lt (m := 5000) (by rw [List.length_reverse]; omega) (by decide), ?_⟩
      have hT5 := hT4.setGot (G := .p (.iff c2 c1 c0) :: G) (gs' := .ref t3 :: gs) ⟨⟨t3, rfl, b2, b1, b0, upd_same, hd2x.tk (tk_same s4), PAt.tk (tk_same s4) hd1, PAt.tk (tk_same s4) hd0⟩, kg3.imp fun _ _ z => GtV.tk (tk_same s4) z⟩
      rw [List.reverse_cons] at hT5
      exact q _ _ _ _ .iff hT5
    | [], _ => cases e2
    | .t _ :: _, _ => cases e2
    | .p _ :: [], _ => cases e2
    | .p _ :: .t _ :: _, _ => cases e2
    | .p _ :: .p _ :: [], _ => cases e2
    | .p _ :: .p _ :: .p _ :: _, _ => cases e2
    | .p _ :: .p _ :: .t _ :: _, [] => exact hg2.elim
    | .p _ :: .p _ :: .t _ :: _, [_] => exact hg2.2.elim
    | .p _ :: .p _ :: .t _ :: _, [_, _] => exact hg2.2.2.elim
  | op l =>
    cases l with
    | false =>
      have h1 : H b = some (.tup [.str "plus"]) := hJ
      obtain ⟨g', e2, _⟩ := ho
      match G, gs with
      | .t c0 :: .t c1 :: G, v0 :: v1 :: gs =>
        obtain ⟨⟨b0, rfl, hb0⟩, ⟨b1, rfl, hb1⟩, hg3⟩ := hg2
        refine ⟨_, rfl, b, _, _, _, rfl, rfl, SqT.of h1, at0, ?_⟩
        refine ⟨_, rfl, rfl, _, rfl, itF rfl ⟨_, rfl, rfl, _, rfl, itF rfl ⟨_, rfl, sz (by show 3 ≤ 100000; decide), fun t0 ht0 => ⟨t0, _, rfl, .inr (SqT.of upd_same), rfl, rfl, _, rfl, itF rfl ⟨_, rfl, rfl, _, rfl, itF rfl ⟨_, rfl, rfl, _, rfl, itF rfl ⟨_, rfl, rfl, _, rfl, itF rfl ⟨_, rfl, rfl, _, rfl, itF rfl ?_⟩⟩⟩⟩⟩⟩⟩⟩
        have s0 := same_new ht0 (.tup [.str "let", .str "tell", .str "post"])
        have hT0 := hT.mono s0
        have hg0 := s0 _ _ hg1
        have h10 := s0 _ _ h1
        generalize hHa : upd H t0 (.tup [.str "let", .str "tell", .str "post"]) = Ha at s0 hT0 hg0 h10
        have kg0 := hg3.imp fun _ _ z => GtV.tk (tk_same s0) z
        have hc0 := At.tk (tk_same s0) hb0
        have hc1 := At.tk (tk_same s0) hb1
        refine ⟨_, rfl, A.p, CT, _, _, _, rfl, hT0.ob, X.clT, X.tGot, l_got _ _ _ _, .inl ⟨rfl, _, SqL.of hg0⟩, ?_⟩
        have hd := drop_rev (gs1 := [V.ref b1, V.ref b0]) (gs2 := gs)
        have e9 : (V.ref b0 :: V.ref b1 :: gs : List V) = [V.ref b1, V.ref b0].reverse ++ gs := rfl
        rw [e9] at hg0
        refine ⟨_, rfl, _, rfl, A.p, CT, _, _, _, rfl, hT0.ob, X.clT, X.tGot, l_got _ _ _ _, A.gl, _, 2, rfl, hg0, by simp, fun H2 v s2 hv => ?_⟩
        have hv' : H2 v = some (.tup [V.ref b1, V.ref b0]) := hv.trans (congrArg (fun z => some (HO.tup z)) hd.1)
        have hd2 : ([V.ref b1, V.ref b0].reverse ++ gs).reverse.take (([V.ref b1, V.ref b0].reverse ++ gs).reverse.length - 2) = gs.reverse := hd.2
        rw [hd2]
        have hT2 := hT0.mono s2
        have kg2 : All2 (GtV H2) G gs := kg0.imp fun _ _ z => GtV.tk (tk_same s2) z
        have hT3 : TuAt CN CT H0 (upd H2 A.gl (.lst gs.reverse)) A tk ⟨J, R, G, m⟩ ras := hT2.setGot kg2
        have tk3 : TK H2 (upd H2 A.gl (.lst gs.reverse)) := tk_put (s2 _ _ hg0)
        have hv3 := tk3 _ _ hv'
        have kg3 := kg2.imp fun _ _ z => GtV.tk tk3 z
        have tk03 := (tk_same s2).trans tk3
        have hd0 := At.tk tk03 hc0
        have hd1 := At.tk tk03 hc1
        have hgl3 : upd H2 A.gl (.lst gs.reverse) A.gl = some (.lst gs.reverse) := upd_same
        generalize upd H2 A.gl (.lst gs.reverse) = H3 at hT3 hv3 kg3 tk3 tk03 hgl3 hd0 hd1
        refine ⟨v, _, rfl, .inl (SqT.of hv3), sz (by show 3 ≤ 100000; decide), fun t3 ht3 => ?_⟩
        have s4 := same_new ht3 (.tup (.str "plus" :: [V.ref b1, V.ref b0]))
        have hT4 := hT3.mono s4
        have hlg := kg3.len
        simp only [List.length_cons] at hzg
        refine ⟨A.gl, _, _, rfl, rfl, s4 _ _ hgl3, Nat.lt_of_le_of_lt (m := 5000) (by rw [List.length_reverse]; omega) (by decide), ?_⟩
        have hT5 := hT4.setGot (G := .t (mkOp false c1 c0) :: G) (gs' := .ref t3 :: gs) ⟨⟨t3, rfl, two_at (l := false) upd_same (hd1.tk (tk_same s4)) (hd0.tk (tk_same s4))⟩, kg3.imp fun _ _ z => GtV.tk (tk_same s4) z⟩
        rw [List.reverse_cons] at hT5
        exact q _ _ _ _ .op hT5
      | [], _ => cases e2
      | .p _ :: _, _ => cases e2
      | .t _ :: [], _ => cases e2
      | .t _ :: .p _ :: _, _ => cases e2
      | .t _ :: .t _ :: _, [] => exact hg2.elim
      | .t _ :: .t _ :: _, [_] => exact hg2.2.elim
    | true =>
      have h1 : H b = some (.tup [.str "less"]) := hJ
      obtain ⟨g', e2, _⟩ := ho
      match G, gs with
      | .t c0 :: .t c1 :: G, v0 :: v1 :: gs =>
        obtain ⟨⟨b0, rfl, hb0⟩, ⟨b1, rfl, hb1⟩, hg3⟩ := hg2
        refine ⟨_, rfl, b, _, _, _, rfl, rfl, SqT.of h1, at0, ?_⟩
        refine ⟨_, rfl, rfl, _, rfl, itF rfl ⟨_, rfl, rfl, _, rfl, itF rfl ⟨_, rfl, sz (by show 3 ≤ 100000; decide), fun t0 ht0 => ⟨t0, _, rfl, .inr (SqT.of upd_same), rfl, rfl, _, rfl, itF rfl ⟨_, rfl, rfl, _, rfl, itF rfl ⟨_, rfl, rfl, _, rfl, itF rfl ⟨_, rfl, rfl, _, rfl, itF rfl ⟨_, rfl, rfl, _, rfl, itF rfl ?_⟩⟩⟩⟩⟩⟩⟩⟩
        have s0 := same_new ht0 (.tup [.str "let", .str "tell", .str "post"])
        have hT0 := hT.mono s0
        have hg0 := s0 _ _ hg1
        have h10 := s0 _ _ h1
        generalize hHa : upd H t0 (.tup [.str "let", .str "tell", .str "post"]) = Ha at s0 hT0 hg0 h10
        have kg0 := hg3.imp fun _ _ z => GtV.tk (tk_same s0) z
        have hc0 := At.tk (tk_same s0) hb0
        have hc1 := At.tk (tk_same s0) hb1
        refine ⟨_, rfl, A.p, CT, _, _, _, rfl, hT0.ob, X.clT, X.tGot, l_got _ _ _ _, .inl ⟨rfl, _, SqL.of hg0⟩, ?_⟩
        have hd := drop_rev (gs1 := [V.ref b1, V.ref b0]) (gs2 := gs)
        have e9 : (V.ref b0 :: V.ref b1 :: gs : List V) = [V.ref b1, V.ref b0].reverse ++ gs := rfl
        rw [e9] at hg0
        refine ⟨_, rfl, _, rfl, A.p, CT, _, _, _, rfl, hT0.ob, X.clT, X.tGot, l_got _ _ _ _, A.gl, _, 2, rfl, hg0, by simp, fun H2 v s2 hv => ?_⟩
        have hv' : H2 v = some (.tup [V.ref b1, V.ref b0]) := hv.trans (congrArg (fun z => some (HO.tup z)) hd.1)
        have hd2 : ([V.ref b1, V.ref b0].reverse ++ gs).reverse.take (([V.ref b1, V.ref b0].reverse ++ gs).reverse.length - 2) = gs.reverse := hd.2
        rw [hd2]
        have hT2 := hT0.mono s2
        have kg2 : All2 (GtV H2) G gs := kg0.imp fun _ _ z => GtV.tk (tk_same s2) z
        have hT3 : TuAt CN CT H0 (upd H2 A.gl (.lst gs.reverse)) A tk ⟨J, R, G, m⟩ ras := hT2.setGot kg2
        have tk3 : TK H2 (upd H2 A.gl (.lst gs.reverse)) := tk_put (s2 _ _ hg0)
        have hv3 := tk3 _ _ hv'
        have kg3 := kg2.imp fun _ _ z => GtV.tk tk3 z
        have tk03 := (tk_same s2).trans tk3
        have hd0 := At.tk tk03 hc0
        have hd1 := At.tk tk03 hc1
        have hgl3 : upd H2 A.gl (.lst gs.reverse) A.gl = some (.lst gs.reverse) := upd_same
        generalize upd H2 A.gl (.lst gs.reverse) = H3 at hT3 hv3 kg3 tk3 tk03 hgl3 hd0 hd1
        refine ⟨v, _, rfl, .inl (SqT.of hv3), sz (by show 3 ≤ 100000; decide), fun t3 ht3 => ?_⟩
        have s4 := same_new ht3 (.tup (.str "less" :: [V.ref b1, V.ref b0]))
        have hT4 := hT3.mono s4
        have hlg := kg3.len
        simp only [List.length_cons] at hzg
        refine ⟨A.gl, _, _, rfl, rfl, s4 _ _ hgl3, Nat.lt_of_le_of_lt (m := 5000) (by rw [List.length_reverse]; omega) (by decide), ?_⟩
        have hT5 := hT4.setGot (G := .t (mkOp true c1 c0) :: G) (gs' := .ref t3 :: gs) ⟨⟨t3, rfl, two_at (l := true) upd_same (hd1.tk (tk_same s4)) (hd0.tk (tk_same s4))⟩, kg3.imp fun _ _ z => GtV.tk (tk_same s4) z⟩
        rw [List.reverse_cons] at hT5
        exact q _ _ _ _ .op hT5
      | [], _ => cases e2
      | .p _ :: _, _ => cases e2
      | .t _ :: [], _ => cases e2
      | .t _ :: .p _ :: _, _ => cases e2
      | .t _ :: .t _ :: _, [] => exact hg2.elim
      | .t _ :: .t _ :: _, [_] => exact hg2.2.elim
end
end KB

namespace KB
open PySem L2 HT

theorem All2.take {α : Type} {S : α → V → Prop} : ∀ {as : List α} {vs : List V} (n : Nat), All2 S as vs → All2 S (as.take n) (vs.take n)
  | _, _, 0, _ => trivial
  | [], [], _ + 1, _ => trivial
  | a :: as, v :: vs, n + 1, h => ⟨h.1, All2.take n h.2⟩
  | [], _ :: _, _ + 1, h => h.elim
  | _ :: _, [], _ + 1, h => h.elim
theorem All2.drop {α : Type} {S : α → V → Prop} : ∀ {as : List α} {vs : List V} (n : Nat), All2 S as vs → All2 S (as.drop n) (vs.drop n)
  | _, _, 0, h => h
  | [], [], _ + 1, _ => trivial
  | a :: as, v :: vs, n + 1, h => All2.drop n h.2
  | [], _ :: _, _ + 1, h => h.elim
  | _ :: _, [], _ + 1, h => h.elim
/-! ### remade as a machine of data -/
section
variable {N B : Type} (R : Tre N) (g : N → List B → B) (F : N → B)
def rmX : List (N × Bool) → List B → List B
  | [], G => G
  | (n, false) :: r, G => rmX r (G ++ [F n])
  | (n, true) :: r, G => rmX r (G.take (G.length - (R.kids n).length) ++ [g n (G.drop (G.length - (R.kids n).length))])
def rmV : List (N × Bool) → Nat → Prop
  | [], m => m = 1
  | (n, false) :: r, m => rmV r (m + 1)
  | (n, true) :: r, m => (R.kids n).length ≤ m ∧ rmV r (m - (R.kids n).length + 1)
def rmW : List (N × Bool) → Nat
  | [] => 0
  | (n, false) :: r => 2 * R.sz n + rmW r
  | (n, true) :: r => 1 + rmW r
def kidsF (ks : List N) : List (N × Bool) := ks.map fun n => (n, false)
theorem rmX_kids (r : List (N × Bool)) : ∀ (ks : List N) (G : List B), rmX R g F (kidsF ks ++ r) G = rmX R g F r (G ++ ks.map F)
  | [], G => by
    show rmX R g F r G = rmX R g F r (G ++ [])
    rw [List.append_nil]
  | k :: ks, G => by
    show rmX R g F (kidsF ks ++ r) (G ++ [F k]) = _
    rw [rmX_kids r ks, List.append_assoc]
    rfl
theorem rmV_kids (r : List (N × Bool)) : ∀ (ks : List N) (m : Nat), rmV R r (m + ks.length) → rmV R (kidsF ks ++ r) m
  | [], m, h => h
  | k :: ks, m, h => by
    show rmV R (kidsF ks ++ r) (m + 1)
    refine rmV_kids r ks (m + 1) ?_
    have e : m + 1 + ks.length = m + (k :: ks).length := by rw [List.length_cons]; omega
    rw [e]
    exact h
theorem rmW_kids (r : List (N × Bool)) : ∀ ks : List N, rmW R (kidsF ks ++ r) = 2 * R.szs ks + rmW R r
  | [] => (Nat.zero_add _).symm
  | k :: ks => by
    show 2 * R.sz k + rmW R (kidsF ks ++ r) = _
    rw [rmW_kids r ks, R.szs_cons]
    omega
theorem rmW_len : ∀ r : List (N × Bool), r.length ≤ rmW R r
  | [] => Nat.le_refl _
  | (n, false) :: r => by
    have := rmW_len r
    have := R.pos n
    show r.length + 1 ≤ 2 * R.sz n + rmW R r
    omega
  | (n, true) :: r => by
    have := rmW_len r
    show r.length + 1 ≤ 1 + rmW R r
    omega
theorem rmX_open (hF : ∀ n, F n = g n ((R.kids n).map F)) (n : N) (r : List (N × Bool)) (G : List B) : rmX R g F (kidsF (R.kids n) ++ (n, true) :: r) G = rmX R g F ((n, false) :: r) G := by
  rw [rmX_kids]
  show rmX R g F r ((G ++ (R.kids n).map F).take ((G ++ (R.kids n).map F).length - (R.kids n).length) ++ [g n ((G ++ (R.kids n).map F).drop ((G ++ (R.kids n).map F).length - (R.kids n).length))]) = rmX R g F r (G ++ [F n])
  have e : (G ++ (R.kids n).map F).length - (R.kids n).length = G.length := by
    rw [List.length_append, List.length_map]
    omega
  rw [e, List.take_left, List.drop_left, ← hF]
theorem rmV_open {n : N} {r : List (N × Bool)} {m : Nat} (h : rmV R ((n, false) :: r) m) : rmV R (kidsF (R.kids n) ++ (n, true) :: r) m := by
  refine rmV_kids R _ _ _ ⟨Nat.le_add_left _ _, ?_⟩
  rw [Nat.add_sub_cancel]
  exact h
end
section
variable {P : Program} {w : World} {K : PySem.W.Frag} {mg : Str → Option Value} {base : Heap} {N B : Type}
/-- what a function promises that makes one thing of a part and what its parts came to -/
def spMade (R : Tre N) (S : Hp → B → V → Prop) (g : N → List B → B) : Sp := fun vs H Q _ => ∃ (n : N) (a q : Addr) (bs : List B) (us : List V), vs = [.ref a, .ref q] ∧ R.A H n a ∧ H q = some (.tup us) ∧ All2 (S H) bs us ∧ bs.length = (R.kids n).length ∧
  ∀ v H', Same H H' → S H' (g n bs) v → Q v H'
def WtV (R : Tre N) (H : Hp) (e : N × Bool) (v : V) : Prop := ∃ q a, v = .ref q ∧ H q = some (.tup [.ref a, .bl e.2]) ∧ R.A H e.1 a
theorem WtV.tk {R : Tre N} {H H' : Hp} (k : TK H H') {e : N × Bool} {v : V} (h : WtV R H e v) : WtV R H' e v := let ⟨q, a, e1, h1, h2⟩ := h; ⟨q, a, e1, k _ _ h1, R.tk k h2⟩
def spRem (R : Tre N) (S : Hp → B → V → Prop) (F : N → B) (gp gm : Addr) : Sp := fun vs H Q _ => ∃ (n : N) (a : Addr), vs = [.ref a, .ref gp, .ref gm] ∧ R.A H n a ∧ R.sz n ≤ 5000 ∧ ∀ v H', Same H H' → S H' (F n) v → Q v H'
abbrev sremade : Stmt := top 5
theorem scremade : FnScope ["body", "parts", "made", "got", "waiting", "part", "are_parts_done", "own", "one"] ["body", "parts", "made"] (defScope sremade) := ⟨rfl, rfl, rfl, by decide +kernel, rfl, by decide +kernel, by decide +kernel⟩
def RemW (R : Tre N) (S : Hp → B → V → Prop) (g : N → List B → B) (F : N → B) (H : Hp) (a gp gm fl wl : Addr) (n : N) (m : Nat) (σ : St) (H' : Hp) : Prop :=
  ∃ o5 o6 o7 o8 rs gs es bs, σ = [some (.ref a), some (.ref gp), some (.ref gm), some (.ref fl), some (.ref wl), o5, o6, o7, o8] ∧ Same H H' ∧ H' fl = some (.lst gs) ∧ All2 (S H') bs gs ∧ H' wl = some (.lst (List.reverse rs)) ∧ All2 (WtV R H') es rs ∧
  m = rmW R es ∧ bs.length + rmW R es ≤ 2 * R.sz n ∧ rmV R es bs.length ∧ rmX R g F es bs = [F n]
theorem ok_remade (R : Tre N) (S : Hp → B → V → Prop) (g : N → List B → B) (Fv : N → B) (hF : ∀ n, Fv n = g n ((R.kids n).map Fv)) (tS : ∀ {H H' : Hp} {b : B} {v : V}, TK H H' → S H b v → S H' b v) (T : Txt K mg) {k1 k2 : Nat} {f gp gm f3 : Addr} {fd gd md d3 : FuncData} {x y z : Str}
    (F : Fun K "remade" "remade" sremade f fd) (GKIDS : FnOk P w K mg base CX0 k1 gp gd [x] (spKids R)) (kk : PySem.W.keepIn K (.ref gp) = true) (bb : Binds K gd [x] []) (GMADE : FnOk P w K mg base CX0 k2 gm md [y, z] (spMade R S g)) (kk2 : PySem.W.keepIn K (.ref gm) = true) (bb2 : Binds K md [y, z] [])
    (Glast_taken : FnOk P w K mg base CX0 1 f3 d3 ["got", "many"] spLast) (Rlast_taken : Ref K mg "last_taken" f3 d3 ["got", "many"]) : FnOk P w K mg base CX0 (k1 + k2 + 2) f fd ["body", "parts", "made"] (spRem R S Fv gp gm) := by
  refine F.ok scremade (fun vs H Q E h => ?_) (fun cdv A outer s H vs Q E hr h => ?_)
  · obtain ⟨n, a, rfl, _⟩ := h
    rfl
  obtain ⟨n, a, rfl, hA, hz, q⟩ := h
  refine ⟨_, (pss_cons (ps_set (i := 3) scremade.nd rfl (Or.inl rfl) (pe_lst pa_nil))
    (pss_cons (ps_set (i := 4) scremade.nd rfl (Or.inl rfl) (pe_lst (pa_cons (pe_tup (pa_cons (pv 0) (pa_cons pe_bl pa_nil))) pa_nil)))
    (pss_cons (ps_while PassesOwn.never (pt_truth (pv 4) (by intro _; rfl)) (pss_cons (ps_asg (pe_bm0 PySem.F.plainAttrs_list PySem.F.slot_list_pop PySem.F.type_list_pop mt_pop (pv 4)) (pg_tup rfl (pgs_cons (pg_name (i := 5) scremade.nd rfl (Or.inl rfl)) (pgs_cons (pg_name (i := 6) scremade.nd rfl (Or.inl rfl)) pgs_nil))))
    (pss_cons (ps_set (i := 7) scremade.nd rfl (Or.inl rfl) (pe_callL (i := 1) GKIDS (hr.mono (by omega)) rfl (.inl rfl) kk bb .nil pass0 (pa_cons (pv 5) pa_nil)))
    (pss_one (ps_if (pt_val (pv 6)) (pss_one (ps_expr (pe_bm PySem.F.plainAttrs_list PySem.F.slot_list_append PySem.F.type_list_append mt_append (pv 3) (pa_cons (pe_callL (i := 2) GMADE (hr.mono (by omega)) rfl (.inl rfl) kk2 bb2 .nil pass0 (pa_cons (pv 5) (pa_cons (pe_call Glast_taken (hr.mono (by omega)) rfl Rlast_taken.m Rlast_taken.k Rlast_taken.b .nil pass0 (pa_cons (pv 3) (pa_cons (pe_callB call_len_seq (by rfl) T.m_len PySem.boot_len (pa_cons (pv 7) pa_nil)) pa_nil))) pa_nil))) pa_nil)))) (pss_cons (ps_expr (pe_bm PySem.F.plainAttrs_list PySem.F.slot_list_append PySem.F.type_list_append mt_append (pv 4) (pa_cons (pe_tup (pa_cons (pv 5) (pa_cons pe_bl pa_nil))) pa_nil)))
    (pss_one (ps_expr (pe_bm PySem.F.plainAttrs_list PySem.F.slot_list_extend PySem.F.type_list_extend mt_extend (pv 4) (pa_cons (pe_lc (own := [("one", 8)]) (g := gName 8) (by rfl) scremade.nd (pi_tup (pe_revT (pv 7) (po_some (pe_un un_neg pe_int)))) (blkOk_by (own := [("one", 8)]) (N := ["body", "parts", "made", "got", "waiting", "part", "are_parts_done", "own", "one"]) (sc := defScope sremade) (by decide +kernel)) (fun _ _ _ _ _ => (pg_name (i := 8) scremade.nd rfl (Or.inl rfl))) (fun _ _ _ _ _ => pts_nil) (fun _ _ _ _ _ => (pe_tup (pa_cons (pv 8) (pa_cons pe_bl pa_nil))))) pa_nil))))))))))
    (pss_one (ps_ret (pe_bm0 PySem.F.plainAttrs_list PySem.F.slot_list_pop PySem.F.type_list_pop mt_pop (pv 3))))))), ?_⟩
  refine ⟨sz (by show 0 ≤ 100000; decide), fun fl hfl => ?_⟩
  have s0 := same_new hfl (.lst [])
  have f0 : upd H fl (.lst []) fl = some (.lst []) := upd_same
  refine ⟨_, rfl, sz (by show 2 ≤ 100000; decide), fun p0 hp0 => ?_⟩
  have s1 := same_new hp0 (.tup [.ref a, .bl false])
  refine ⟨sz (by show 1 ≤ 100000; decide), fun wl hwl => ?_⟩
  have s2 := same_new hwl (.lst [.ref p0])
  have s12 := s1.trans s2
  have hwf : fl ≠ wl := ne_of_none (s1 _ _ f0) hwl
  have sA := s0.trans s12
  have hpos := R.pos n
  refine ⟨RemW R S g Fv H a gp gm fl wl n, ⟨_, none, none, none, none, [.ref p0], [], [(n, false)], [], rfl, sA, s12 _ _ f0, trivial, upd_same, ⟨⟨p0, a, rfl, s2 _ _ upd_same, R.tk (tk_same sA) hA⟩, trivial⟩, rfl, ?_, rfl, rfl⟩, ?_⟩
  · show 0 + (2 * R.sz n + 0) ≤ 2 * R.sz n
    omega
  have hw0 : H wl = none := (s0.trans s1).free hwl
  clear s0 f0 s1 hp0 hwl s2 s12 sA
  rintro m σ H1 ⟨o5, o6, o7, o8, rs, gs, es, bs, rfl, s1, h1, k1, h2, k2, rfl, hm, hv, hx⟩
  refine ⟨_, rfl, _, .inl ⟨_, SqL.of h2, rfl⟩, ?_⟩
  cases rs with
  | nil =>
    cases es with
    | cons _ _ => exact k2.elim
    | nil =>
      have e : bs = [Fv n] := hx
      subst e
      match gs, k1 with
      | [v], ⟨hv1, _⟩ =>
        refine itF rfl ⟨_, rfl, .inl ⟨rfl, _, SqL.of h1⟩, fl, _, v, rfl, rfl, h1, rfl, ?_⟩
        exact q _ _ (same_mut s1 hfl) (tS (tk_put h1) hv1)
  | cons r rs =>
    cases es with
    | nil => exact k2.elim
    | cons e1 es =>
      obtain ⟨n1, b1⟩ := e1
      obtain ⟨⟨qa, b, rfl, g1, g2⟩, k3⟩ := k2
      refine itT (by simp) ⟨fun σ' H' => ∃ m', m' < rmW R ((n1, b1) :: es) ∧ RemW R S g Fv H a gp gm fl wl n m' σ' H', fun _ _ z => z, ?_⟩
      refine ⟨_, rfl, .inl ⟨rfl, _, SqL.of h2⟩, wl, _, .ref qa, rfl, rfl, h2, by simp, ?_⟩
      have eD : ((V.ref qa :: rs).reverse).dropLast = rs.reverse := by rw [List.reverse_cons, List.dropLast_concat]
      rw [eD]
      have tk2 : TK H1 (upd H1 wl (.lst rs.reverse)) := tk_put h2
      have s2 : Same H (upd H1 wl (.lst rs.reverse)) := same_mut s1 hw0
      have w2 : upd H1 wl (.lst rs.reverse) wl = some (.lst rs.reverse) := upd_same
      have f2 : upd H1 wl (.lst rs.reverse) fl = some (.lst gs) := by
        rw [upd_ne hwf]
        exact h1
      have k4 := k1.imp fun _ _ z => tS tk2 z
      have k5 := k3.imp fun _ _ z => WtV.tk tk2 z
      have g4 := tk2 _ _ g1
      have g6 := R.tk tk2 g2
      clear tk2
      generalize upd H1 wl (.lst rs.reverse) = H2 at s2 w2 f2 k4 k5 g4 g6
      refine ⟨qa, _, rfl, SqT.of g4, rfl, _, _, rfl, _, _, rfl, rfl, ?_⟩
      refine ⟨rfl, _, rfl, n1, b, rfl, g6, fun pp H3 us s3 h3 k6 => ?_⟩
      have hus := k6.len
      have sH3 := s2.trans s3
      have w3 := s3 _ _ w2
      have f3 := s3 _ _ f2
      have A3 := R.tk (tk_same s3) g6
      have k7 := k4.imp fun _ _ z => tS (tk_same s3) z
      have k8 := k5.imp fun _ _ z => WtV.tk (tk_same s3) z
      have hgs := k7.len
      have hrs := k8.len
      have hel := rmW_len R es
      have hnk := R.len_szs (R.kids n1)
      have hsz : R.sz n1 = 1 + R.szs (R.kids n1) := R.szk n1
      refine ⟨_, rfl, _, rfl, ?_⟩
      cases b1 with
      | true =>
        obtain ⟨hv1, hv2⟩ : (R.kids n1).length ≤ bs.length ∧ rmV R es (bs.length - (R.kids n1).length + 1) := hv
        have hW : rmW R ((n1, true) :: es) = 1 + rmW R es := rfl
        refine itT rfl ⟨_, rfl, .inl ⟨rfl, _, SqL.of f3⟩, rfl, _, rfl, _, rfl, _, rfl, pp, _, rfl, .inr (SqT.of h3), fl, gs, us.length, rfl, f3, by omega, fun H4 v4 s4 h4 => ?_⟩
        have f4 := s4 _ _ f3
        have tk4 : TK H4 (upd H4 fl (.lst (gs.take (gs.length - us.length)))) := tk_put f4
        have k9 := ((k7.drop (gs.length - us.length)).imp fun _ _ z => tS (tk_same s4) z).imp fun _ _ z => tS tk4 z
        refine ⟨n1, b, v4, bs.drop (gs.length - us.length), gs.drop (gs.length - us.length), rfl, R.tk ((tk_same s4).trans tk4) A3, tk4 _ _ h4, k9, ?_, fun v5 H5 s5 hv5 => ?_⟩
        · rw [List.length_drop]
          omega
        have f5 := s5 _ _ (upd_same (H := H4) (a := fl) (o := .lst (gs.take (gs.length - us.length))))
        refine ⟨fl, _, _, rfl, rfl, f5, Nat.lt_of_le_of_lt (m := 20000) (by rw [List.length_take]; omega) (by decide), ?_⟩
        have tk6 : TK H5 (upd H5 fl (.lst (gs.take (gs.length - us.length) ++ [v5]))) := tk_put f5
        have tkA : TK H3 (upd H5 fl (.lst (gs.take (gs.length - us.length) ++ [v5]))) := (tk_same s4).trans (tk4.trans ((tk_same s5).trans tk6))
        refine ⟨rmW R es, by rw [hW]; omega, _, _, _, _, rs, gs.take (gs.length - us.length) ++ [v5], es, bs.take (gs.length - us.length) ++ [g n1 (bs.drop (gs.length - us.length))], rfl, ?_, upd_same, ?_, ?_, k8.imp fun _ _ z => WtV.tk tkA z, rfl, ?_, ?_, ?_⟩
        · exact same_mut ((same_mut (sH3.trans s4) hfl).trans s5) hfl
        · exact ((k7.take _).imp fun _ _ z => tS tkA z).app ⟨tS tk6 hv5, trivial⟩
        · rw [upd_ne (Ne.symm hwf)]
          refine s5 _ _ ?_
          rw [upd_ne (Ne.symm hwf)]
          exact s4 _ _ w3
        · rw [List.length_append, List.length_take, List.length_singleton]
          rw [hW] at hm
          omega
        · rw [List.length_append, List.length_take, List.length_singleton]
          have e : min (gs.length - us.length) bs.length + 1 = bs.length - (R.kids n1).length + 1 := by omega
          rw [e]
          exact hv2
        · have e : gs.length - us.length = bs.length - (R.kids n1).length := by omega
          rw [e]
          exact hx
      | false =>
        have hW : rmW R ((n1, false) :: es) = 2 * R.sz n1 + rmW R es := rfl
        refine itF rfl ⟨_, rfl, .inl ⟨rfl, _, SqL.of w3⟩, _, rfl, sz (by show 2 ≤ 100000; decide), fun p3 hp3 => ?_⟩
        have t3 := same_new hp3 (.tup [.ref b, .bl true])
        have w4 := t3 _ _ w3
        refine ⟨wl, _, _, rfl, rfl, w4, Nat.lt_of_le_of_lt (m := 20000) (by rw [List.length_reverse]; omega) (by decide), ?_⟩
        have tk4 := (tk_same t3).trans (tk_put (o := .lst (rs.reverse ++ [.ref p3])) w4)
        have s4 : Same H (upd (upd H3 p3 (.tup [.ref b, .bl true])) wl (.lst (rs.reverse ++ [.ref p3]))) := same_mut (sH3.trans t3) hw0
        have w5 : upd (upd H3 p3 (.tup [.ref b, .bl true])) wl (.lst (rs.reverse ++ [.ref p3])) wl = some (.lst (rs.reverse ++ [.ref p3])) := upd_same
        have f5 : upd (upd H3 p3 (.tup [.ref b, .bl true])) wl (.lst (rs.reverse ++ [.ref p3])) fl = some (.lst gs) := by
          rw [upd_ne hwf]
          exact t3 _ _ f3
        have g5 : upd (upd H3 p3 (.tup [.ref b, .bl true])) wl (.lst (rs.reverse ++ [.ref p3])) p3 = some (.tup [.ref b, .bl true]) := tk_put w4 _ _ upd_same
        have A5 := R.tk tk4 A3
        have k9 := k7.imp fun _ _ z => tS tk4 z
        have k10 := k8.imp fun _ _ z => WtV.tk tk4 z
        have k11 := k6.imp fun _ _ z => Tre.V.tk tk4 z
        have h5 := tk4 _ _ h3
        clear tk4
        generalize upd (upd H3 p3 (.tup [.ref b, .bl true])) wl (.lst (rs.reverse ++ [.ref p3])) = H4 at s4 w5 f5 g5 A5 k9 k10 k11 h5
        refine ⟨_, rfl, .inl ⟨rfl, _, SqL.of w5⟩, _, rfl, 1, rfl, -1, rfl, rfl, pp, _, rfl, SqT.of h5, fun p6 hp6 => ?_⟩
        have s6 := same_new hp6 (.tup us.reverse)
        have h6 : upd H4 p6 (.tup us.reverse) p6 = some (.tup us.reverse) := upd_same
        have k12 := (k11.imp fun _ _ z => Tre.V.tk (tk_same s6) z).rev
        generalize upd H4 p6 (.tup us.reverse) = H5 at s6 h6 k12
        refine ⟨p6, rfl, ⟨_, SqT.of h6⟩, fun D hD => lc_tup (K := K) (a := p6) (xs := us.reverse) (fun i H' => Same H5 H' ∧ ∃ acc, H' D = some (.lst acc) ∧ All2 (WtV R H') (kidsF ((R.kids n1).reverse.take i)) acc) ⟨same_new hD _, [], upd_same, by rw [List.take_zero]; trivial⟩ ?_ ?_ ?_⟩
        · rintro i H' _ ⟨z, _⟩
          exact SqT.of (z _ _ h6)
        · rintro i x H6 hx6 ⟨s7, acc, h7, k13⟩
          obtain ⟨nk, hnk6, bk, rfl, hbk⟩ := k12.get hx6
          obtain ⟨hj, hj2⟩ := List.getElem?_eq_some_iff.mp hnk6
          have hle := k13.len
          unfold kidsF at hle
          rw [List.length_map, List.length_take] at hle
          rw [List.length_reverse] at hj
          refine ⟨rfl, ?_⟩
          dsimp only [tYes]
          refine iteT ⟨_, rfl, sz (by show 2 ≤ 100000; decide), fun p8 hp8 => ?_⟩
          have s8 := same_new hp8 (.tup [.ref bk, .bl false])
          have h8 := s8 _ _ h7
          have tk8 := (tk_same s8).trans (tk_put (o := .lst (acc ++ [.ref p8])) h8)
          refine ⟨acc, h8, Nat.lt_of_le_of_lt (m := 20000) (by omega) (by decide), same_mut (s7.trans s8) hD, _, upd_same, ?_⟩
          have eT : kidsF ((R.kids n1).reverse.take (i + 1)) = kidsF ((R.kids n1).reverse.take i) ++ [(nk, false)] := by
            unfold kidsF
            rw [List.take_succ_eq_append_getElem (by rw [List.length_reverse]; exact hj), List.map_append, hj2]
            rfl
          rw [eT]
          exact (k13.imp fun _ _ z => WtV.tk tk8 z).app ⟨⟨p8, bk, rfl, tk_put (o := .lst (acc ++ [.ref p8])) h8 _ _ upd_same, R.tk tk8 (R.tk (tk_same s7) hbk)⟩, trivial⟩
        · rintro H6 ⟨s7, acc, h7, k13⟩
          have eR : us.reverse.length = (R.kids n1).reverse.length := by rw [List.length_reverse, List.length_reverse]; exact hus
          rw [eR, List.take_length] at k13
          have hac := k13.len
          unfold kidsF at hac
          rw [List.length_map, List.length_reverse] at hac
          have s67 := s6.trans s7
          have w7 := s67 _ _ w5
          refine ⟨wl, D, _, _, rfl, rfl, w7, h7, sz (by rw [List.length_append, List.length_reverse, List.length_singleton]; omega), ?_⟩
          have tk9 := tk_put (o := .lst (rs.reverse ++ [.ref p3] ++ acc)) w7
          have tkB := (tk_same s67).trans tk9
          refine ⟨rmW R (kidsF (R.kids n1) ++ (n1, true) :: es), ?_, _, _, _, _, acc.reverse ++ .ref p3 :: rs, gs, kidsF (R.kids n1) ++ (n1, true) :: es, bs, rfl, same_mut (s4.trans s67) hw0, ?_, k9.imp fun _ _ z => tS tkB z, ?_, ?_, rfl, ?_, rmV_open R hv, ?_⟩
          · rw [rmW_kids, hW]
            show 2 * R.szs (R.kids n1) + (1 + rmW R es) < _
            omega
          · rw [upd_ne hwf]
            exact s67 _ _ f5
          · rw [upd_same, List.reverse_append, List.reverse_cons, List.reverse_reverse]
          · refine All2.app ?_ ⟨⟨p3, b, rfl, tkB _ _ g5, R.tk tkB A5⟩, k10.imp fun _ _ z => WtV.tk tkB z⟩
            have z := k13.rev
            unfold kidsF at z ⊢
            rw [← List.map_reverse, List.reverse_reverse] at z
            exact z.imp fun _ _ y => WtV.tk tk9 y
          · rw [rmW_kids]
            rw [hW] at hm
            show bs.length + (2 * R.szs (R.kids n1) + (1 + rmW R es)) ≤ _
            omega
          · rw [rmX_open R g Fv hF]
            exact hx
end
end KB

namespace KB
open PySem L2 HT

/-! ### go -/
def SzB (n : Nat) (R : List (List Ld)) (G : List Gt) : Prop := R.length ≤ n ∧ G.length ≤ n ∧ ∀ r ∈ R, r.length ≤ n
theorem Fin.sz {j : Jb} {R R1 : List (List Ld)} {G G1 : List Gt} {n : Nat} (f : Fin j R G R1 G1) (h : SzB n R G) : SzB (n + 1) R1 G1 := by
  obtain ⟨h1, h2, h3⟩ := h
  cases f with
  | row => exact ⟨by rw [List.length_cons]; omega, by omega, fun r hr => by
      rcases List.mem_cons.mp hr with z | z
      · subst z; exact Nat.zero_le _
      · exact Nat.le_succ_of_le (h3 r z)⟩
  | close =>
    rw [List.length_cons] at h1 h2
    exact ⟨by omega, by rw [List.length_cons]; omega, fun r hr => Nat.le_succ_of_le (h3 r (List.mem_cons_of_mem _ hr))⟩
  | lett =>
    rw [List.length_cons] at h1 h2
    refine ⟨by rw [List.length_cons]; omega, by omega, fun r hr => ?_⟩
    rcases List.mem_cons.mp hr with z | z
    · subst z
      have := h3 _ List.mem_cons_self
      rw [List.length_append, List.length_singleton]
      omega
    · exact Nat.le_succ_of_le (h3 r (List.mem_cons_of_mem _ z))
  | tell =>
    rw [List.length_cons] at h1 h2
    refine ⟨by rw [List.length_cons]; omega, by omega, fun r hr => ?_⟩
    rcases List.mem_cons.mp hr with z | z
    · subst z
      have := h3 _ List.mem_cons_self
      rw [List.length_append, List.length_singleton]
      omega
    · exact Nat.le_succ_of_le (h3 r (List.mem_cons_of_mem _ z))
  | post =>
    rw [List.length_cons] at h1 h2
    refine ⟨by rw [List.length_cons]; omega, by omega, fun r hr => ?_⟩
    rcases List.mem_cons.mp hr with z | z
    · subst z
      have := h3 _ List.mem_cons_self
      rw [List.length_append, List.length_singleton]
      omega
    · exact Nat.le_succ_of_le (h3 r (List.mem_cons_of_mem _ z))
  | known => exact ⟨by omega, by rw [List.length_cons]; omega, fun r hr => Nat.le_succ_of_le (h3 r hr)⟩
  | ask =>
    rw [List.length_append] at h2
    exact ⟨by omega, by rw [List.length_cons]; omega, fun r hr => Nat.le_succ_of_le (h3 r hr)⟩
  | give => exact ⟨by omega, by simp only [List.length_cons] at h2 ⊢; omega, fun r hr => Nat.le_succ_of_le (h3 r hr)⟩
  | iff => exact ⟨by omega, by simp only [List.length_cons] at h2 ⊢; omega, fun r hr => Nat.le_succ_of_le (h3 r hr)⟩
  | op => exact ⟨by omega, by simp only [List.length_cons] at h2 ⊢; omega, fun r hr => Nat.le_succ_of_le (h3 r hr)⟩
theorem kG_ts (ts : List Tm) : (ts.map Gt.t).reverse.map kG = List.replicate ts.length false := by
  rw [List.map_reverse, List.map_map]
  have : (kG ∘ Gt.t) = fun _ => false := rfl
  rw [this, List.map_const', List.reverse_replicate]
theorem Fin.ok {j : Jb} {J : List Jb} {R R1 : List (List Ld)} {G G1 : List Gt} (f : Fin j R G R1 G1) (o : okJ (j :: J) R.length (G.map kG)) : okJ J R1.length (G1.map kG) := by
  cases f with
  | row => exact o
  | close =>
    obtain ⟨r', g', e1, e2, o⟩ := o
    rw [List.length_cons] at e1
    cases Nat.succ.inj e1
    cases (List.cons.inj e2).2
    exact o
  | lett =>
    obtain ⟨g', _, e2, o⟩ := o
    cases (List.cons.inj e2).2
    exact o
  | tell =>
    obtain ⟨g', _, e2, o⟩ := o
    cases (List.cons.inj e2).2
    exact o
  | post =>
    obtain ⟨g', _, e2, o⟩ := o
    cases (List.cons.inj e2).2
    exact o
  | known => exact o
  | ask =>
    obtain ⟨g', e2, o⟩ := o
    rw [List.map_append, kG_ts] at e2
    cases List.append_cancel_left e2
    exact o
  | give =>
    obtain ⟨g', e2, o⟩ := o
    cases (List.cons.inj e2).2
    exact o
  | iff =>
    obtain ⟨g', e2, o⟩ := o
    cases (List.cons.inj (List.cons.inj (List.cons.inj e2).2).2).2
    exact o
  | op =>
    obtain ⟨g', e2, o⟩ := o
    cases (List.cons.inj (List.cons.inj e2).2).2
    exact o
def jn : Jb → Str
  | .row => "row"
  | .done _ _ => "done"
  | .put _ _ => "put"
  | .simple _ => "simple"
  | .known _ => "known"
  | .close => "close"
  | .lett _ => "let"
  | .tell _ => "tell"
  | .post _ _ => "post"
  | .ask _ _ _ => "ask"
  | .give _ => "give"
  | .iff => "if"
  | .op l => if l then "less" else "plus"
theorem JbA.head {H : Hp} {q : Addr} {j : Jb} (h : JbA H q j) : ∃ r, H q = some (.tup (.str (jn j) :: r)) := by
  cases j with
  | done t j => obtain ⟨b, h1, h2⟩ := h; exact ⟨_, h1⟩
  | put t x => obtain ⟨b, h1, h2⟩ := h; exact ⟨_, h1⟩
  | simple t => obtain ⟨b, h1, h2⟩ := h; exact ⟨_, h1⟩
  | known t => obtain ⟨b, h1, h2⟩ := h; exact ⟨_, h1⟩
  | _ => exact ⟨_, h⟩
theorem jn_mk (j : Jb) : inV (.str (jn j)) [.str "done", .str "put", .str "simple"] = isMk j := by
  cases j with
  | op l => cases l <;> rfl
  | _ => rfl
theorem JbA.okm {H : Hp} {q : Addr} {j : Jb} (h : JbA H q j) (hm : isMk j = true) (w : Str) : wJs (mkJ j w) < wJ j ∧ ∀ {J : List Jb} {r : Nat} {g : List Bool}, okJ (j :: J) r g → okJ (mkJ j w ++ J) r g := by
  cases j with
  | done t j => obtain ⟨b, h1, h2⟩ := h; exact ⟨w_done t j h2.ar, fun o => ok_done h2.ar o⟩
  | put t x => obtain ⟨b, h1, h2⟩ := h; exact ⟨w_put t x w h2.ar, fun o => ok_put h2.ar o⟩
  | simple t => obtain ⟨b, h1, h2⟩ := h; exact ⟨w_simple t w h2.ar, fun o => ok_simp h2.ar o⟩
  | _ => cases hm
theorem run_mk {tk : List Str} {j : Jb} {w : Str} {J : List Jb} {R G m m' R2 G2 m2} (hm : isMk j = true) (h1 : wordJ j = true → NwR tk m w m') (h2 : wordJ j = false → m' = m) (h : Run tk (mkJ j w ++ J) R G m' R2 G2 m2) : Run tk (j :: J) R G m R2 G2 m2 := by
  cases j with
  | done t j => cases h2 rfl; exact .done h
  | put t x => exact .put h1 h2 h
  | simple t => exact .simple h1 h2 h
  | _ => cases hm
theorem nw_le {tk : List Str} {m : Nat} {w : Str} {m' : Nat} {b : Bool} (h1 : b = true → NwR tk m w m') (h2 : b = false → m' = m) (ht : tk.length ≤ 200) : m' ≤ m + 201 := by
  cases b with
  | true =>
    obtain ⟨k, k1, k2, _, _, k3, _⟩ := h1 rfl
    omega
  | false =>
    have := h2 rfl
    omega
section
variable {P : Program} {w : World} {K : PySem.W.Frag} {mg : Str → Option Value} {base : Heap} {CN CT : Addr}
def spGo (CN CT : Addr) : Sp := fun vs H Q _ => ∃ (H0 : Hp) (A : TuA) (tk : List Str) (m0 : Nat) (l : Addr) (J : List Jb) (us : List V), vs = [.ref A.p, .ref l] ∧ TuAt CN CT H0 H A tk ⟨[], [], [], m0⟩ [] ∧ H l = some (.lst us) ∧ All2 (JbV H) J us ∧ okJ J 0 [] ∧
  wJs J ≤ 2000 ∧ tk.length ≤ 200 ∧ m0 ≤ 1000 ∧ ∀ H' q m', Run tk J [] [] m0 [] [.p q] m' → TuAt CN CT H0 H' A tk ⟨[], [], [.p q], m'⟩ [] → Q .non H'
abbrev sGo : Stmt := inClass (top 28) 1
theorem scGo : FnScope ["self", "jobs", "job"] ["self", "jobs"] (defScope sGo) := ⟨rfl, rfl, rfl, by decide +kernel, rfl, by decide +kernel, by decide +kernel⟩
def GoW (CN CT : Addr) (H0 : Hp) (A : TuA) (tk : List Str) (J : List Jb) (m0 : Nat) (l : Addr) (μ : Nat) (σ : St) (H' : Hp) : Prop := ∃ (c : Cg) (ras : List Addr) (o : Option V) (n : Nat), σ = [some (.ref A.p), some (.ref l), o] ∧ TuAt CN CT H0 H' A tk c ras ∧ μ = wJs c.jobs ∧ okJ c.jobs c.rows.length (c.got.map kG) ∧
  SzB n c.rows c.got ∧ n + wJs c.jobs ≤ 2000 ∧ c.m + 300 * wJs c.jobs ≤ 700000 ∧ ∀ R2 G2 m2, Run tk c.jobs c.rows c.got c.m R2 G2 m2 → Run tk J [] [] m0 R2 G2 m2
theorem ok_go (X : TxN K mg CN CT) {f g1 g2 : Addr} {fd d1 d2 : FuncData} (F : Fun K "go" "Turning.go" sGo f fd) (G1 : FnOk P w K mg base CX0 4 g1 d1 ["self", "job"] (spJof CN CT)) (b1 : Binds K d1 ["self", "job"] []) (m1 : Meth K CT "jobs_of" g1)
    (G2 : FnOk P w K mg base CX0 2 g2 d2 ["self", "job"] (spFin CN CT)) (b2 : Binds K d2 ["self", "job"] []) (m2 : Meth K CT "finish" g2) : FnOk P w K mg base CX0 5 f fd ["self", "jobs"] (spGo CN CT) := by
  refine F.ok scGo (fun vs H Q E h => ?_) (fun cdv A outer s H vs Q E hr h => ?_)
  · obtain ⟨H0, A, tk, m0, l, J, us, rfl, _⟩ := h
    rfl
  obtain ⟨H0, A, tk, m0, l, J, us, rfl, hT, hl, kJ, hok, hw, htk, hm0, q⟩ := h
  refine ⟨_, (pss_cons (ps_expr (pe_bm PySem.F.plainAttrs_list PySem.F.slot_list_extend PySem.F.type_list_extend mt_extend (pe_fld (pv 0) rfl) (pa_cons (pe_revL (pv 1)) pa_nil)))
    (pss_one (ps_while PassesOwn.never (pt_truth (pe_fld (pv 0) rfl) (by intro _; rfl)) (pss_cons (ps_set (i := 2) scGo.nd rfl (Or.inl rfl) (pe_bm0 PySem.F.plainAttrs_list PySem.F.slot_list_pop PySem.F.type_list_pop mt_pop (pe_fld (pv 0) rfl)))
    (pss_one (ps_if (pt_cmpR op_in_seq (pe_ix ix_tup (pv 2) pe_int (fun _ _ => rfl)) (pe_tup (pa_cons pe_str (pa_cons pe_str (pa_cons pe_str pa_nil)))) rfl) (pss_one (ps_expr (pe_bm PySem.F.plainAttrs_list PySem.F.slot_list_extend PySem.F.type_list_extend mt_extend (pe_fld (pv 0) rfl) (pa_cons (pe_revL (pe_meth (pv 0) X.clT m1 G1 (hr.mono (by omega)) b1 .nil pass0 (pa_cons (pv 2) pa_nil))) pa_nil)))) (pss_one (ps_expr (pe_meth (pv 0) X.clT m2 G2 (hr.mono (by omega)) b2 .nil pass0 (pa_cons (pv 2) pa_nil)))))))))), ?_⟩
  obtain ⟨js, j1, j2⟩ := hT.js
  have ej : js = [] := by
    cases js with
    | nil => rfl
    | cons _ _ => exact j2.elim
  subst ej
  have hlu := kJ.len
  have hlw := len_wJs J
  refine ⟨_, rfl, A.p, CT, _, _, _, rfl, hT.ob, X.clT, X.tJobs, l_jobs _ _ _ _, .inl ⟨rfl, _, SqL.of j1⟩, ?_⟩
  refine ⟨_, rfl, l, us, rfl, SqL.of hl, fun p hp => ?_⟩
  have s1 := same_new hp (.lst us.reverse)
  refine ⟨A.jl, p, _, us.reverse, rfl, rfl, s1 _ _ j1, upd_same, sz (by rw [List.length_reverse, List.length_reverse]; show 0 + us.length ≤ 100000; omega), ?_⟩
  have hT1 := (hT.mono s1).setJobs (J := J) (js' := us) (kJ.imp fun _ _ z => JbV.tk (tk_same s1) z)
  refine ⟨GoW CN CT H0 A tk J m0 l, ⟨_, _, [], none, 0, rfl, hT1, rfl, hok, ⟨Nat.le_refl _, Nat.le_refl _, fun r hr => by cases hr⟩, by show 0 + wJs J ≤ 2000; omega, by show m0 + 300 * wJs J ≤ 700000; omega, fun _ _ _ z => z⟩, ?_⟩
  clear s1 hT1 hp j1 j2 hT hl kJ hok hlu hlw
  rintro μ σ H1 ⟨⟨J1, R, G, m⟩, ras, o, n, rfl, hT, rfl, hok, hz, hn, hm, hrun⟩
  dsimp only at hok hz hn hm hrun
  obtain ⟨js, j1, j2⟩ := hT.js
  refine ⟨_, rfl, A.p, CT, _, _, _, rfl, hT.ob, X.clT, X.tJobs, l_jobs _ _ _ _, _, .inl ⟨_, SqL.of j1, rfl⟩, ?_⟩
  cases js with
  | nil =>
    cases J1 with
    | cons _ _ => exact j2.elim
    | nil =>
      refine itF rfl ?_
      obtain ⟨e1, e2⟩ := hok
      cases R with
      | cons _ _ => cases e1
      | nil =>
        match G, e2 with
        | [.p q1], _ =>
          have er := hT.rs
          cases ras with
          | cons _ _ => exact er.elim
          | nil => exact q H1 q1 m (hrun _ _ _ .nil) hT
  | cons v js =>
    cases J1 with
    | nil => exact j2.elim
    | cons j J1 =>
      obtain ⟨⟨b, rfl, hb⟩, k2⟩ := j2
      refine itT (by simp) ⟨fun σ' H' => ∃ m', m' < wJs (j :: J1) ∧ GoW CN CT H0 A tk J m0 l m' σ' H', fun _ _ z => z, ?_⟩
      refine ⟨_, rfl, A.p, CT, _, _, _, rfl, hT.ob, X.clT, X.tJobs, l_jobs _ _ _ _, .inl ⟨rfl, _, SqL.of j1⟩, A.jl, _, .ref b, rfl, rfl, j1, by simp, ?_⟩
      rw [popE]
      have hT2 := hT.setJobs (J := J1) (js' := js) k2
      have tk2 : TK H1 (upd H1 A.jl (.lst js.reverse)) := tk_put j1
      have hb2 := hb.tk tk2
      dsimp only at hT2
      generalize upd H1 A.jl (.lst js.reverse) = H2 at hT2 tk2 hb2
      obtain ⟨r0, hd⟩ := hb2.head
      refine ⟨_, rfl, b, _, _, _, rfl, rfl, SqT.of hd, at0, sz (by show 3 ≤ 100000; decide), fun t0 ht0 => ?_⟩
      refine ⟨t0, _, rfl, .inr (SqT.of upd_same), rfl, rfl, _, rfl, ?_⟩
      have s0 := same_new ht0 (.tup [.str "done", .str "put", .str "simple"])
      have hT3 := hT2.mono s0
      have hb3 := hb2.tk (tk_same s0)
      generalize upd H2 t0 (.tup [.str "done", .str "put", .str "simple"]) = H3 at s0 hT3 hb3
      rw [wJs_cons] at hn hm
      have hwp := wJ_pos j
      show if inV (.str (jn j)) [.str "done", .str "put", .str "simple"] = true then _ else _
      rw [jn_mk]
      by_cases cm : isMk j = true
      · refine itT cm ?_
        obtain ⟨js3, j3, k3⟩ := hT3.js
        refine ⟨_, rfl, A.p, CT, _, _, _, rfl, hT3.ob, X.clT, X.tJobs, l_jobs _ _ _ _, .inl ⟨rfl, _, SqL.of j3⟩, ?_⟩
        refine ⟨_, rfl, A.p, _, _, rfl, hT3.ob, by rfl, _, rfl, H0, A, tk, ⟨J1, R, G, m⟩, ras, b, j, rfl, hT3, hb3, cm, ?_, fun r H4 us w m' g1 g2 hT4 g4 g5 => ?_⟩
        · refine Nat.lt_of_le_of_lt (m := 1000000) ?_ (by decide)
          show m + tk.length + 2 ≤ 1000000
          omega
        refine ⟨r, us, rfl, SqL.of g4, fun p hp => ?_⟩
        have s5 := same_new hp (.lst us.reverse)
        obtain ⟨js4, j4, k4⟩ := hT4.js
        obtain ⟨h7, h8⟩ := hb3.okm cm w
        have lu := g5.len
        have lw := len_wJs (mkJ j w)
        have l4 := k4.len
        have lw4 := len_wJs J1
        dsimp only at l4
        refine ⟨A.jl, p, _, us.reverse, rfl, rfl, s5 _ _ j4, upd_same, sz (by rw [List.length_reverse, List.length_reverse]; omega), ?_⟩
        rw [← List.reverse_append]
        have k5 : All2 (JbV (upd H4 p (.lst us.reverse))) (mkJ j w ++ J1) (us ++ js4) := (g5.imp fun _ _ z => JbV.tk (tk_same s5) z).app (k4.imp fun _ _ z => JbV.tk (tk_same s5) z)
        have hT5 := (hT4.mono s5).setJobs k5
        have hmm := nw_le g1 g2 htk
        dsimp only at hmm
        refine ⟨wJs (mkJ j w ++ J1), by rw [wJs_app, wJs_cons]; omega, _, ras, _, n, rfl, hT5, rfl, h8 hok, hz, by rw [wJs_app]; omega, ?_, fun R2 G2 m2 z => hrun _ _ _ (run_mk cm g1 g2 z)⟩
        show m' + 300 * wJs (mkJ j w ++ J1) ≤ 700000
        rw [wJs_app]
        omega
      · refine itF (Bool.eq_false_iff.mpr cm) ?_
        refine ⟨_, rfl, A.p, _, _, rfl, hT3.ob, by rfl, _, rfl, H0, A, tk, ⟨J1, R, G, m⟩, ras, b, j, rfl, hT3, hb3, Bool.eq_false_iff.mpr cm, hok, ⟨Nat.le_trans hz.1 (by omega), Nat.le_trans hz.2.1 (by omega), fun r hr => Nat.le_trans (hz.2.2 r hr) (by omega)⟩, fun H4 R1 G1 ras' f hT4 => ?_⟩
        dsimp only at f hT4
        exact ⟨wJs J1, by rw [wJs_cons]; omega, _, ras', _, n + 1, rfl, hT4, rfl, f.ok hok, f.sz hz, by show n + 1 + wJs J1 ≤ 2000; omega, by show m + 300 * wJs J1 ≤ 700000; omega, fun R2 G2 m2 z => hrun _ _ _ (.fin f z)⟩
end
end KB

namespace KB
open PySem L2 HT

/-! ### terms as trees -/
def plT : Tm → List (List Int × Tm)
  | .mk h n k => ([], .mk h n k) :: (List.ofFn fun i : _root_.Fin n => (plT (k i)).map (fun e => ((i.val : Int) :: e.1, e.2))).flatten
theorem plT_fn : ∀ {n : Nat} {k : _root_.Fin n → Tm} {j : Nat}, (List.ofFn fun i : _root_.Fin n => (plT (k i)).map (fun e => (((j + i.val : Nat) : Int) :: e.1, e.2))).flatten = plL plT j (List.ofFn k)
  | 0, _, _ => rfl
  | n + 1, k, j => by
    rw [List.ofFn_succ, List.ofFn_succ, List.flatten_cons]
    show _ = (plT (k 0)).map (fun e => ((j : Int) :: e.1, e.2)) ++ plL plT (j + 1) _
    rw [← plT_fn (k := fun i => k i.succ) (j := j + 1)]
    congr 3
    · funext i
      have e : j + (i.succ).val = j + 1 + i.val := by
        rw [_root_.Fin.val_succ]
        omega
      rw [e]
theorem plT_eq (t : Tm) : plT t = ([], t) :: plL plT 0 (kidsT t) := by
  cases t with
  | mk h n k =>
    show _ = ([], Tm.mk h n k) :: plL plT 0 (List.ofFn k)
    rw [← plT_fn]
    show _ :: _ = _
    congr 4
    funext i
    rw [Nat.zero_add]
def TrT : Tre Tm where
  kids := kidsT
  sz := cnt
  pl := plT
  A H t a := At H t a
  tk e h := h.tk e
  szk n := cnt_kids n
  plk n := plT_eq n
def letW (t : Tm) : Option Str := match hdT t with | .lett x => some x | _ => none
def wordsIn (xs : List Str) (t : Tm) : List Str := xs ++ (TrT.pre t).filterMap letW
theorem wordsIn_len (xs : List Str) (t : Tm) : (wordsIn xs t).length ≤ xs.length + cnt t := by
  unfold wordsIn
  rw [List.length_append]
  have h1 := List.length_filterMap_le letW (TrT.pre t)
  have h2 : (TrT.pre t).length = cnt t := by
    show (List.map _ (TrT.pl t)).length = _
    rw [List.length_map]
    exact TrT.pl_len _ t (Nat.le_refl _)
  omega
section
variable {P : Program} {w : World} {K : PySem.W.Frag} {mg : Str → Option Value} {base : Heap} {CN CT : Addr}
theorem parts_kids {f : Addr} {fd : FuncData} (F : FnOk P w K mg base CX0 1 f fd ["term"] spParts) : FnOk P w K mg base CX0 1 f fd ["term"] (spKids TrT) := by
  refine F.imp fun vs H Q E h => ?_
  obtain ⟨n, a, rfl, hA, q⟩ := h
  obtain ⟨xs, l, k⟩ := At.kids hA
  exact ⟨a, hdT n, xs, rfl, l, fun p H' s hp => q p H' xs s hp (k.imp fun _ _ z => RefV.tk (tk_same s) z)⟩
def spWordsIn : Sp := fun vs H Q _ => ∃ (np a : Addr) (xs : List Str) (t : Tm), vs = [.ref np, .ref a] ∧ H np = some (.tup (xs.map V.str)) ∧ At H t a ∧ cnt t ≤ 1000 ∧ xs.length ≤ 100 ∧ ∀ H' p, H p = none → Same H H' → H' p = some (.lst ((wordsIn xs t).map V.str)) → Q (.ref p) H'
abbrev swords_in : Stmt := top 10
theorem scwords_in : FnScope ["names", "body", "term"] ["names", "body"] (defScope swords_in) := ⟨rfl, rfl, rfl, by decide +kernel, rfl, by decide +kernel, by decide +kernel⟩
theorem ok_wordsIn {f f1 f2 : Addr} {fd d1 d2 : FuncData} (F : Fun K "words_in" "words_in" swords_in f fd) (Gmet : FnOk P w K mg base CX0 2 f1 d1 ["body", "parts"] (spMet TrT f2)) (Rmet : Ref K mg "met" f1 d1 ["body", "parts"]) (Rparts_of : Ref K mg "parts_of" f2 d2 ["term"]) : FnOk P w K mg base CX0 3 f fd ["names", "body"] spWordsIn := by
  refine F.ok scwords_in (fun vs H Q E h => ?_) (fun cdv A outer s H vs Q E hr h => ?_)
  · obtain ⟨np, a, xs, t, rfl, _⟩ := h
    rfl
  obtain ⟨np, a, xs, t, rfl, hn, hA, hc, hx, q⟩ := h
  refine ⟨_, (pss_one (ps_ret (pe_lst (StX.pa_star (pv 0) (StX.pa_star (pe_lc (own := [("term", 2)]) (g := gName 2) (tt := tTest (tOp rEq (tOp (rIxT K) (tVar 2) (tC (.int 0))) (tC (.str "let")))) (te := tOp (rIxT K) (tVar 2) (tC (.int 1))) (by rfl) scwords_in.nd (pi_list (pe_call Gmet (hr.mono (by omega)) rfl Rmet.m Rmet.k Rmet.b .nil pass0 (pa_cons (pv 1) (pa_cons (pe_glob (v := .ref f2) rfl Rparts_of.m rfl) pa_nil)))) (blkOk_by (own := [("term", 2)]) (N := ["names", "body", "term"]) (sc := defScope swords_in) (by decide +kernel)) (fun _ _ _ _ _ => (pg_name (i := 2) scwords_in.nd rfl (Or.inl rfl))) (fun _ _ _ _ _ => (pts_one (pt_cmpR op_eq (pe_ix ix_tup (pv 2) pe_int (fun _ _ => rfl)) pe_str (nomark _)))) (fun _ _ _ _ _ => (pe_ix ix_tup (pv 2) pe_int (fun _ _ => rfl)))) pa_nil))))), ?_⟩
  refine ⟨_, rfl, np, _, rfl, .inl (SqT.of hn), _, rfl, t, a, rfl, hA, hc, fun pm H1 its hpm s1 h1 k1 => ?_⟩
  have hlp : its.length = cnt t := by
    rw [k1.len]
    show (List.map _ (TrT.pl t)).length = _
    rw [List.length_map]
    exact TrT.pl_len _ t (Nat.le_refl _)
  refine ⟨pm, rfl, ⟨_, SqL.of h1⟩, fun D hD => lc_list (K := K) (a := pm) (xs := its) (fun i H' => Same H1 H' ∧ H' D = some (.lst ((((TrT.pre t).take i).filterMap letW).map V.str))) ⟨same_new hD _, upd_same⟩ ?_ ?_ ?_⟩
  · rintro i H' _ ⟨s2, _⟩
    exact SqL.of (s2 _ _ h1)
  · rintro i x H2 hx2 ⟨s2, h2⟩
    obtain ⟨u, hu, b, rfl, hb⟩ := k1.get hx2
    obtain ⟨hj, hj2⟩ := List.getElem?_eq_some_iff.mp hu
    have hb2 := At.tk (tk_same s2) hb
    obtain ⟨ys, l, _⟩ := hb2.kids
    obtain ⟨r0, hd⟩ := l.head
    have hle := List.length_filterMap_le letW ((TrT.pre t).take i)
    rw [List.length_take] at hle
    have hpl : (TrT.pre t).length = cnt t := by rw [← k1.len]; exact hlp
    refine ⟨rfl, ?_⟩
    refine ⟨_, rfl, b, _, _, _, rfl, rfl, SqT.of hd, at0, rfl, _, rfl, ?_⟩
    rw [List.take_succ_eq_append_getElem hj, hj2, List.filterMap_append, List.map_append]
    refine ite2 (fun c => ?_) (fun c => ?_)
    · obtain ⟨y, hh⟩ := hs_let (V.str.inj (of_decide_eq_true c))
      rw [hh] at l
      refine ⟨_, rfl, b, _, _, _, rfl, rfl, SqT.of l.2, at1, ?_⟩
      refine ⟨_, h2, Nat.lt_of_le_of_lt (m := 1000) (by rw [List.length_map]; omega) (by decide), same_mut s2 hD, ?_⟩
      have e : [u].filterMap letW = [y] := by
        simp [letW, hh]
      rw [e]
      exact upd_same
    · have e : [u].filterMap letW = [] := by
        have : letW u = none := by
          unfold letW
          cases hh : hdT u with
          | lett x => rw [hh] at c; exact absurd (decide_eq_true rfl) c
          | _ => rfl
        simp [this]
      rw [e, List.map_nil, List.append_nil]
      exact ⟨s2, h2⟩
  · rintro H2 ⟨s2, h2⟩
    rw [show its.length = (TrT.pre t).length from k1.len, List.take_length] at h2
    have hwl := wordsIn_len xs t
    have e : (wordsIn xs t).map V.str = xs.map V.str ++ ((TrT.pre t).filterMap letW).map V.str := by
      unfold wordsIn
      rw [List.map_append]
    refine ⟨D, _, rfl, .inr (SqL.of h2), ?_⟩
    show (xs.map V.str ++ (((TrT.pre t).filterMap letW).map V.str ++ [])).length ≤ sizeLine ∧ _
    rw [List.append_nil, ← e]
    refine ⟨sz (by rw [List.length_map]; omega), fun p hp => ?_⟩
    have s3 := same_new hp (.lst ((wordsIn xs t).map V.str))
    exact q _ p ((s1.trans s2).free hp) ((s1.trans s2).trans s3) upd_same
end
end KB

namespace KB
open PySem L2 HT

section
variable {P : Program} {w : World} {K : PySem.W.Frag} {mg : Str → Option Value} {base : Heap} {CN CT : Addr}
/-! ### a new turning -/
def spT0 (CT : Addr) : Sp := fun vs H Q _ => ∃ (p dx nw : Addr), vs = [.ref p, .ref nw] ∧ H p = some (.ins CT dx []) ∧
  ∀ H' jl rl gl, (∀ b o, b ≠ p → H b = some o → H' b = some o) → H jl = none → H rl = none → H gl = none → jl ≠ rl → jl ≠ gl → rl ≠ gl → H' p = some (.ins CT dx (fsT (.ref nw) (.ref jl) (.ref rl) (.ref gl))) → H' jl = some (.lst []) → H' rl = some (.lst []) → H' gl = some (.lst []) → Q .non H'
abbrev sT0 : Stmt := inClass (top 28) 0
theorem scT0 : FnScope ["self", "new_words"] ["self", "new_words"] (defScope sT0) := ⟨rfl, rfl, rfl, by decide +kernel, rfl, by decide +kernel, by decide +kernel⟩
theorem ok_t0 (X : TxN K mg CN CT) {f : Addr} {fd : FuncData} (F : Fun K "__init__" "Turning.__init__" sT0 f fd) : FnOk P w K mg base CX0 1 f fd ["self", "new_words"] (spT0 CT) := by
  refine F.ok scT0 (fun vs H Q E h => ?_) (fun cdv A outer s H vs Q E hr h => ?_)
  · obtain ⟨p, dx, nw, rfl, _⟩ := h
    rfl
  obtain ⟨p, dx, nw, rfl, hp, q⟩ := h
  refine ⟨_, (pss_cons (ps_fld (pv 0) (pv 1) rfl)
    (pss_cons (ps_fld (pv 0) (pe_lst pa_nil) rfl)
    (pss_cons (ps_fld (pv 0) (pe_lst pa_nil) rfl)
    (pss_one (ps_fld (pv 0) (pe_lst pa_nil) rfl))))), ?_⟩
  refine ⟨_, rfl, _, rfl, p, CT, dx, _, rfl, hp, X.clT, X.tNew, (by show 0 < 1000; decide), ?_⟩
  have a1 : upd H p (.ins CT dx [("new_words", .ref nw)]) p = some (.ins CT dx [("new_words", .ref nw)]) := upd_same
  have b1 : ∀ b o, b ≠ p → H b = some o → upd H p (.ins CT dx [("new_words", .ref nw)]) b = some o := fun b o n hb => by rw [upd_ne n]; exact hb
  have f1 : ∀ {b}, upd H p (.ins CT dx [("new_words", .ref nw)]) b = none → H b = none ∧ b ≠ p := fun {b} hb => by
    by_cases e : b = p
    · subst e; rw [a1] at hb; cases hb
    · rw [upd_ne e] at hb; exact ⟨hb, e⟩
  rw [show putF "new_words" (.ref nw) [] = ([("new_words", .ref nw)] : List (Str × V)) from rfl]
  generalize upd H p (.ins CT dx [("new_words", .ref nw)]) = H1 at a1 b1 f1
  refine ⟨sz (by decide), fun jl hjl => ?_⟩
  have s2 := same_new hjl (.lst [])
  have njp := (f1 hjl).2
  refine ⟨_, rfl, p, CT, dx, _, rfl, s2 _ _ a1, X.clT, X.tJobs, (by show 1 < 1000; decide), ?_⟩
  have a2 : upd (upd H1 jl (.lst [])) p (.ins CT dx [("new_words", .ref nw), ("jobs", .ref jl)]) p = some (.ins CT dx [("new_words", .ref nw), ("jobs", .ref jl)]) := upd_same
  have j2 : upd (upd H1 jl (.lst [])) p (.ins CT dx [("new_words", .ref nw), ("jobs", .ref jl)]) jl = some (.lst []) := by rw [upd_ne njp]; exact upd_same
  have b2 : ∀ b o, b ≠ p → H1 b = some o → upd (upd H1 jl (.lst [])) p (.ins CT dx [("new_words", .ref nw), ("jobs", .ref jl)]) b = some o := fun b o n hb => by rw [upd_ne n]; exact s2 _ _ hb
  have f2 : ∀ {b}, upd (upd H1 jl (.lst [])) p (.ins CT dx [("new_words", .ref nw), ("jobs", .ref jl)]) b = none → H1 b = none ∧ b ≠ p ∧ b ≠ jl := fun {b} hb => by
    by_cases e : b = p
    · subst e; rw [a2] at hb; cases hb
    · by_cases e2 : b = jl
      · subst e2; rw [j2] at hb; cases hb
      · rw [upd_ne e, upd_ne e2] at hb; exact ⟨hb, e, e2⟩
  rw [show putF "jobs" (.ref jl) [("new_words", .ref nw)] = ([("new_words", .ref nw), ("jobs", .ref jl)] : List (Str × V)) from rfl]
  generalize upd (upd H1 jl (.lst [])) p (.ins CT dx [("new_words", .ref nw), ("jobs", .ref jl)]) = H2 at a2 j2 b2 f2
  refine ⟨sz (by decide), fun rl hrl => ?_⟩
  have s3 := same_new hrl (.lst [])
  obtain ⟨hr1, nrp, nrj⟩ := f2 hrl
  refine ⟨_, rfl, p, CT, dx, _, rfl, s3 _ _ a2, X.clT, X.tRows, (by show 2 < 1000; decide), ?_⟩
  have a3 : upd (upd H2 rl (.lst [])) p (.ins CT dx [("new_words", .ref nw), ("jobs", .ref jl), ("rows", .ref rl)]) p = some (.ins CT dx [("new_words", .ref nw), ("jobs", .ref jl), ("rows", .ref rl)]) := upd_same
  have r3 : upd (upd H2 rl (.lst [])) p (.ins CT dx [("new_words", .ref nw), ("jobs", .ref jl), ("rows", .ref rl)]) rl = some (.lst []) := by rw [upd_ne nrp]; exact upd_same
  have b3 : ∀ b o, b ≠ p → H2 b = some o → upd (upd H2 rl (.lst [])) p (.ins CT dx [("new_words", .ref nw), ("jobs", .ref jl), ("rows", .ref rl)]) b = some o := fun b o n hb => by rw [upd_ne n]; exact s3 _ _ hb
  have f3 : ∀ {b}, upd (upd H2 rl (.lst [])) p (.ins CT dx [("new_words", .ref nw), ("jobs", .ref jl), ("rows", .ref rl)]) b = none → H2 b = none ∧ b ≠ p ∧ b ≠ rl := fun {b} hb => by
    by_cases e : b = p
    · subst e; rw [a3] at hb; cases hb
    · by_cases e2 : b = rl
      · subst e2; rw [r3] at hb; cases hb
      · rw [upd_ne e, upd_ne e2] at hb; exact ⟨hb, e, e2⟩
  rw [show putF "rows" (.ref rl) [("new_words", .ref nw), ("jobs", .ref jl)] = ([("new_words", .ref nw), ("jobs", .ref jl), ("rows", .ref rl)] : List (Str × V)) from rfl]
  generalize upd (upd H2 rl (.lst [])) p (.ins CT dx [("new_words", .ref nw), ("jobs", .ref jl), ("rows", .ref rl)]) = H3 at a3 r3 b3 f3
  refine ⟨sz (by decide), fun gl hgl => ?_⟩
  have s4 := same_new hgl (.lst [])
  obtain ⟨hg2, ngp, ngr⟩ := f3 hgl
  obtain ⟨hg1, _, ngj⟩ := f2 hg2
  refine ⟨_, rfl, p, CT, dx, _, rfl, s4 _ _ a3, X.clT, X.tGot, (by show 3 < 1000; decide), ?_⟩
  refine q _ jl rl gl (fun b o n hb => ?_) (f1 hjl).1 (f1 hr1).1 (f1 hg1).1 nrj.symm ngj.symm ngr.symm upd_same ?_ ?_ ?_
  · rw [upd_ne n]
    exact s4 _ _ (b3 _ _ n (b2 _ _ n (b1 _ _ n hb)))
  · rw [upd_ne njp]
    exact s4 _ _ (b3 _ _ njp j2)
  · rw [upd_ne nrp]
    exact s4 _ _ r3
  · rw [upd_ne ngp]
    exact upd_same
/-! ### turned_body -/
def RunB (xs : List Str) (t : Tm) (p : Pt) : Prop := ∃ m', Run (wordsIn xs t) [.row, .done t "home"] [] [] 0 [] [.p p] m'
def spTBody : Sp := fun vs H Q _ => ∃ (np a : Addr) (xs : List Str) (t : Tm), vs = [.ref np, .ref a] ∧ H np = some (.tup (xs.map V.str)) ∧ At H t a ∧ cnt t ≤ 90 ∧ xs.length ≤ 10 ∧ ∀ H' b p, Same H H' → RunB xs t p → PAt H' p b → Q (.ref b) H'
abbrev sturned_body : Stmt := top 25
theorem scturned_body : FnScope ["names", "body", "turning"] ["names", "body"] (defScope sturned_body) := ⟨rfl, rfl, rfl, by decide +kernel, rfl, by decide +kernel, by decide +kernel⟩
theorem ok_tbody (X : TxN K mg CN CT) (S : TxS K mg) {f f1 fN fT fg : Addr} {fd d1 dN dT dg : FuncData} (F : Fun K "turned_body" "turned_body" sturned_body f fd) (Gwords_in : FnOk P w K mg base CX0 3 f1 d1 ["names", "body"] spWordsIn) (Rwords_in : Ref K mg "words_in" f1 d1 ["names", "body"])
    (GN : FnOk P w K mg base CX0 1 fN dN ["self", "taken"] (spNew0 CN)) (BN : Binds K dN ["self", "taken"] []) (MN : Mk K CN fN) (GT : FnOk P w K mg base CX0 1 fT dT ["self", "new_words"] (spT0 CT)) (BT : Binds K dT ["self", "new_words"] []) (MT : Mk K CT fT)
    (Ggo : FnOk P w K mg base CX0 5 fg dg ["self", "jobs"] (spGo CN CT)) (bgo : Binds K dg ["self", "jobs"] []) (mgo : Meth K CT "go" fg) : FnOk P w K mg base CX0 6 f fd ["names", "body"] spTBody := by
  refine F.ok scturned_body (fun vs H Q E h => ?_) (fun cdv A outer s H vs Q E hr h => ?_)
  · obtain ⟨np, a, xs, t, rfl, _⟩ := h
    rfl
  obtain ⟨np, a, xs, t, rfl, hn, hA, hc, hx, q⟩ := h
  obtain ⟨th, eh⟩ := S.home
  refine ⟨_, (pss_cons (ps_set (i := 2) scturned_body.nd rfl (Or.inl rfl) (pe_make MT GT (hr.mono (by omega)) rfl X.mgT BT .nil pass0 (pa_cons (pe_make MN GN (hr.mono (by omega)) rfl X.mgN BN .nil pass0 (pa_cons (pe_call Gwords_in (hr.mono (by omega)) rfl Rwords_in.m Rwords_in.k Rwords_in.b .nil pass0 (pa_cons (pv 0) (pa_cons (pv 1) pa_nil))) pa_nil)) pa_nil)))
    (pss_cons (ps_expr (pe_meth (pv 2) X.clT mgo Ggo hr bgo .nil pass0 (pa_cons (pe_lst (pa_cons (pe_tup (pa_cons pe_str pa_nil)) (pa_cons (pe_tup (pa_cons pe_str (pa_cons (pv 1) (pa_cons (pe_glob (v := .str "home") rfl eh ⟨_, rfl⟩) pa_nil)))) pa_nil))) pa_nil)))
    (pss_one (ps_ret (pe_bm0 PySem.F.plainAttrs_list PySem.F.slot_list_pop PySem.F.type_list_pop mt_pop (pe_fld (pv 2) rfl)))))), ?_⟩
  refine ⟨_, rfl, _, rfl, np, a, xs, t, rfl, hn, hA, by omega, by omega, fun H1 tl htl s1 h1 => ?_⟩
  have hwl := wordsIn_len xs t
  intro x1 dx1 hx1 hdx1 nx1
  have sA : Same H1 (upd (upd H1 dx1 (.own x1)) x1 (.ins CN dx1 [])) := fun b u z => by
    rw [upd_ne (ne_of_none z hx1), upd_ne (ne_of_none z hdx1)]
    exact z
  refine ⟨x1, dx1, tl, wordsIn xs t, rfl, upd_same, sA _ _ h1, by omega, fun H2 td k2 htd n2 => ⟨rfl, ?_⟩⟩
  have s2 : Same H1 H2 := fun b u z => k2 b u (ne_of_none z hx1) (sA b u z)
  intro x2 dx2 hx2 hdx2 nx2
  have sB : Same H2 (upd (upd H2 dx2 (.own x2)) x2 (.ins CT dx2 [])) := fun b u z => by
    rw [upd_ne (ne_of_none z hx2), upd_ne (ne_of_none z hdx2)]
    exact z
  refine ⟨x2, dx2, x1, rfl, upd_same, fun H3 jl rl gl k3 hj hr3 hg n1 n2' n3 p3 j3 r3 g3 => ⟨rfl, ?_⟩⟩
  have s3 : Same H2 H3 := fun b u z => k3 b u (ne_of_none z hx2) (sB b u z)
  have s13 := s1.trans (s2.trans s3)
  have fr : ∀ {b}, upd (upd H2 dx2 (.own x2)) x2 (.ins CT dx2 []) b = none → H b = none := fun {b} z => s1.free (s2.free (sB.free z))
  have nw3 : NWAt CN H3 x1 dx1 td (wordsIn xs t) 0 := by
    obtain ⟨kvs, q1, q2⟩ := n2.tk
    exact ⟨s3 _ _ n2.ob, kvs, s3 _ _ q1, q2⟩
  have n4 : x2 ≠ x1 := fun z => by
    rw [z, n2.ob] at hx2
    cases hx2
  have hT : TuAt CN CT H H3 ⟨x2, dx2, x1, dx1, td, jl, rl, gl⟩ (wordsIn xs t) ⟨[], [], [], 0⟩ [] :=
    ⟨p3, nw3, ⟨[], j3, trivial⟩, r3, trivial, ⟨[], g3, trivial⟩, List.nodup_nil, n1, n2', n3, n4, (fun y hy => absurd hy (List.not_mem_nil)), s13, fr hj, fr hr3, fr hg, s1.free hx1, (fun y hy => absurd hy (List.not_mem_nil))⟩
  have hA3 := hA.tk (tk_same s13)
  clear k2 k3 sA sB nw3 p3 j3 r3 g3 hx1 hdx1 hx2 hdx2 n2
  refine ⟨_, rfl, x2, _, _, rfl, hT.ob, by rfl, sz (by show 1 ≤ 100000; decide), fun t1 ht1 => ?_⟩
  have s4 := same_new ht1 (.tup [.str "row"])
  refine ⟨_, rfl, sz (by show 3 ≤ 100000; decide), fun t2 ht2 => ?_⟩
  have s5 := same_new ht2 (.tup [.str "done", .ref a, .str "home"])
  refine ⟨sz (by show 2 ≤ 100000; decide), fun l hl => ?_⟩
  have s6 := same_new hl (.lst [.ref t1, .ref t2])
  refine ⟨H, ⟨x2, dx2, x1, dx1, td, jl, rl, gl⟩, wordsIn xs t, 0, l, [.row, .done t "home"], [.ref t1, .ref t2], rfl, hT.mono (s4.trans (s5.trans s6)), upd_same, ⟨⟨t1, rfl, (s5.trans s6) _ _ upd_same⟩, ⟨t2, rfl, a, s6 _ _ upd_same, hA3.tk (tk_same (s4.trans (s5.trans s6)))⟩, trivial⟩, ⟨0, rfl, rfl, rfl⟩, ?_, by omega, by decide, fun H4 p m' hrun hT4 => ?_⟩
  · show 1 + (20 * cnt t + 5 + 0) ≤ 2000
    omega
  obtain ⟨gs, g1, g2⟩ := hT4.gs
  match gs, g2 with
  | [v], ⟨⟨b, e, hb⟩, _⟩ =>
    subst e
    refine ⟨_, rfl, x2, CT, _, _, _, rfl, hT4.ob, X.clT, X.tGot, l_got _ _ _ _, .inl ⟨rfl, _, SqL.of g1⟩, gl, _, .ref b, rfl, rfl, g1, by simp, ?_⟩
    have tk : TK H4 (upd H4 gl (.lst (List.reverse [V.ref b]).dropLast)) := tk_put g1
    refine q _ b p (same_mut hT4.sm hT4.o3) ⟨m', hrun⟩ (PAt.tk tk hb)
/-! ### turn_book -/
def TurV (H : Hp) (e : Er) (v : V) : Prop := ∃ q r b p, v = .ref q ∧ H q = some (.tup [.str e.1, .ref r, .ref b]) ∧ H r = some (.tup (e.2.1.map V.str)) ∧ RunB e.2.1 e.2.2 p ∧ PAt H p b
theorem TurV.tk {H H' : Hp} (t : TK H H') {e : Er} {v : V} (h : TurV H e v) : TurV H' e v :=
  let ⟨q, r, b, p, e1, h1, h2, h3, h4⟩ := h; ⟨q, r, b, p, e1, t _ _ h1, t _ _ h2, h3, PAt.tk t h4⟩
def spTBook : Sp := fun vs H Q _ => ∃ (p : Addr) (es : List Er) (us : List V), vs = [.ref p] ∧ BkAt H es us p ∧ es.length ≤ 6 ∧ (∀ e ∈ es, cnt e.2.2 ≤ 90 ∧ e.2.1.length ≤ 10) ∧ ∀ H' p' vs, Same H H' → H' p' = some (.tup vs) → All2 (TurV H') es vs → Q (.ref p') H'
abbrev sturn_book : Stmt := top 24
theorem scturn_book : FnScope ["book", "name", "names", "body"] ["book"] (defScope sturn_book) := ⟨rfl, rfl, rfl, by decide +kernel, rfl, by decide +kernel, by decide +kernel⟩
theorem ok_tbook (T : Txt K mg) {f f1 : Addr} {fd d1 : FuncData} (F : Fun K "turn_book" "turn_book" sturn_book f fd) (Gturned_body : FnOk P w K mg base CX0 6 f1 d1 ["names", "body"] spTBody) (Rturned_body : Ref K mg "turned_body" f1 d1 ["names", "body"]) : FnOk P w K mg base CX0 7 f fd ["book"] spTBook := by
  refine F.ok scturn_book (fun vs H Q E h => ?_) (fun cdv A outer s H vs Q E hr h => ?_)
  · obtain ⟨p, es, us, rfl, _⟩ := h
    rfl
  obtain ⟨p, es, us, rfl, hB, hl6, hc, q⟩ := h
  refine ⟨_, (pss_one (ps_ret (pe_callTy call_tuple_of (by rfl) T.m_tuple (by decide +kernel) (pa_cons (pe_lc (own := [("name", 1), ("names", 2), ("body", 3)]) (g := gTup K 3 (gCons (gName 1) (gCons (gName 2) (gCons (gName 3) gNil)))) (by rfl) scturn_book.nd (pi_tup (pv 0)) (blkOk_by (own := [("name", 1), ("names", 2), ("body", 3)]) (N := ["book", "name", "names", "body"]) (sc := defScope sturn_book) (by decide +kernel)) (fun _ _ _ _ _ => (pg_tup rfl (pgs_cons (pg_name (i := 1) scturn_book.nd rfl (Or.inl rfl)) (pgs_cons (pg_name (i := 2) scturn_book.nd rfl (Or.inl rfl)) (pgs_cons (pg_name (i := 3) scturn_book.nd rfl (Or.inl rfl)) pgs_nil))))) (fun _ _ _ _ _ => pts_nil) (fun _ _ _ _ _ => (pe_tup (pa_cons (pv 1) (pa_cons (pv 2) (pa_cons (pe_call Gturned_body hr rfl Rturned_body.m Rturned_body.k Rturned_body.b .nil pass0 (pa_cons (pv 2) (pa_cons (pv 3) pa_nil))) pa_nil)))))) pa_nil)))), ?_⟩
  refine ⟨_, rfl, p, rfl, ⟨_, SqT.of hB.1⟩, fun D hD => lc_tup (K := K) (a := p) (xs := us) (fun i H' => Same H H' ∧ ∃ acc, H' D = some (.lst acc) ∧ All2 (TurV H') (es.take i) acc) ⟨same_new hD _, [], upd_same, by rw [List.take_zero]; trivial⟩ ?_ ?_ ?_⟩
  · rintro i H' _ ⟨s2, _⟩
    exact SqT.of (s2 _ _ hB.1)
  · rintro i x H2 hx2 ⟨s2, acc, h2, k2⟩
    obtain ⟨e, he, qa, r, b, rfl, g1, g2, g3⟩ := hB.2.get hx2
    have hee := mem_of_get he
    obtain ⟨hc1, hc2⟩ := hc e hee
    obtain ⟨hj, hj2⟩ := List.getElem?_eq_some_iff.mp he
    have hle := k2.len
    rw [List.length_take] at hle
    refine ⟨qa, _, rfl, SqT.of (s2 _ _ g1), rfl, _, _, rfl, _, _, rfl, _, _, rfl, rfl, rfl, ?_⟩
    dsimp only [tYes]
    refine iteT ⟨_, rfl, _, rfl, _, rfl, _, rfl, r, b, e.2.1, e.2.2, rfl, s2 _ _ g2, At.tk (tk_same s2) g3, hc1, hc2, fun H3 b3 p3 s3 hrun hp3 => ?_⟩
    refine ⟨sz (by show 3 ≤ 100000; decide), fun t3 ht3 => ?_⟩
    have s4 := same_new ht3 (.tup [.str e.1, .ref r, .ref b3])
    have s34 := s3.trans s4
    have h4 := s34 _ _ h2
    have tk := tk_put (o := .lst (acc ++ [.ref t3])) h4
    refine ⟨acc, h4, Nat.lt_of_le_of_lt (m := 100) (by omega) (by decide), same_mut (s2.trans s34) hD, _, upd_same, ?_⟩
    rw [List.take_succ_eq_append_getElem hj, hj2]
    exact ((k2.imp fun _ _ z => TurV.tk (tk_same s34) z).imp fun _ _ z => z.tk tk).app ⟨⟨t3, r, b3, p3, rfl, tk _ _ upd_same, tk _ _ ((s2.trans s34) _ _ g2), hrun, PAt.tk ((tk_same s4).trans tk) hp3⟩, trivial⟩
  · rintro H2 ⟨s2, acc, h2, k2⟩
    rw [hB.2.len, List.take_length] at k2
    refine ⟨D, acc, rfl, .inl ⟨SqL.of h2, fun p' hp' => ?_⟩⟩
    have s3 := same_new hp' (.tup acc)
    exact q _ p' acc (s2.trans s3) upd_same (k2.imp fun _ _ z => TurV.tk (tk_same s3) z)
end
end KB

namespace KB
open PySem L2

/-- a simple term within words -/
structure SmT (hd : Str → Option Nat) (xs : List Str) (t : Tm) : Prop where
  ok : okT t
  si : simple t = true
  sc : okS hd t xs
  cn : cnt t ≤ 3
  ht : HtLe 2 t
def okP (hd : Str → Option Nat) : Pt → List Str → List Str → Prop
  | .give j t, xs, hs => j ∈ hs ∧ SmT hd xs t
  | .ask f ts j, xs, hs => j ∈ hs ∧ isW f = true ∧ hd f = some ts.length ∧ ts.length ≤ 4 ∧ ∀ t ∈ ts, SmT hd xs t
  | .tell x t p, xs, hs => isW x = true ∧ SmT hd xs t ∧ okP hd p (xs ++ [x]) hs
  | .lett x t p, xs, hs => isW x = true ∧ SmT hd xs t ∧ okP hd p (xs ++ [x]) hs
  | .iff t p q, xs, hs => SmT hd xs t ∧ okP hd p xs hs ∧ okP hd q xs hs
  | .post j x p q, xs, hs => isW j = true ∧ isW x = true ∧ okP hd p (xs ++ [x]) hs ∧ okP hd q xs (hs ++ [j])
/-- the words and the posts' words that a part binds, as they are met -/
def wdP : Pt → List Str
  | .give _ _ => []
  | .ask _ _ _ => []
  | .tell x _ p => x :: wdP p
  | .lett x _ p => x :: wdP p
  | .iff _ p q => wdP p ++ wdP q
  | .post _ x p q => x :: (wdP p ++ wdP q)
def jP : Pt → List Str
  | .give _ _ => []
  | .ask _ _ _ => []
  | .tell _ _ p => jP p
  | .lett _ _ p => jP p
  | .iff _ p q => jP p ++ jP q
  | .post j _ p q => j :: (jP p ++ jP q)

/-! ### what the generator of parts has at hand -/
def But3 (tp wl pl : Addr) (H H' : Hp) : Prop := ∀ b o, b ≠ tp → b ≠ wl → b ≠ pl → H b = some o → H' b = some o
theorem But3.refl (tp wl pl : Addr) (H : Hp) : But3 tp wl pl H H := fun _ _ _ _ _ h => h
theorem But3.trans {tp wl pl : Addr} {H H1 H2 : Hp} (a : But3 tp wl pl H H1) (b : But3 tp wl pl H1 H2) : But3 tp wl pl H H2 := fun x o n m l h => b x o n m l (a x o n m l h)
theorem But1.three {tp wl pl : Addr} {H H' : Hp} (a : But1 tp H H') : But3 tp wl pl H H' := fun x o n _ _ h => a x o n h
theorem but3_same {tp wl pl : Addr} {H H' : Hp} (e : Same H H') : But3 tp wl pl H H' := fun b o _ _ _ h => e b o h
abbrev kgE : Key := Sum.inr "errands"
abbrev kgH : Key := Sum.inr "heads"
abbrev kgW : Key := Sum.inr "words"
abbrev kgR : Key := Sum.inr "room"
abbrev kgP : Key := Sum.inr "posts"
abbrev kgS : Key := Sum.inr "straight"
def knT (el hd wl pl : Addr) (room : Int) (st : Bool) : List (Key × V) := [(kgE, .ref el), (kgH, .ref hd), (kgW, .ref wl), (kgR, .int room), (kgP, .ref pl), (kgS, .bl st)]
structure GT (H : Hp) (tp kd wl pl : Addr) (hF : Str → Option Nat) (ws js : List Str) : Prop where
  t : Tp H tp
  w : Wls H wl ws
  p : Wls H pl js
  wn : ws.length ≤ 100
  pn : js.length ≤ 100
  wp : wl ≠ pl
  k : ∃ el hd fs kvs room st, H kd = some (.dK (knT el hd wl pl room st)) ∧ 1 ≤ room ∧ room ≤ 9 ∧ el ≠ wl ∧ el ≠ pl ∧ Wls H el fs ∧ 0 < fs.length ∧ fs.length ≤ 100 ∧ H hd = some (.dK kvs) ∧ ∀ f ∈ fs, ∃ n : Int, valV kvs (Sum.inr f) = some (.int n) ∧ 0 ≤ n ∧ n ≤ 4 ∧ hF f = some n.toNat
section
variable {H H' : Hp} {tp kd wl pl : Addr} {hF : Str → Option Nat} {ws js ws' js' : List Str}
theorem GT.ntk (g : GT H tp kd wl pl hF ws js) {a : Addr} {o : HO} (h : H a = some o) (hn : ∀ xs, o ≠ .lst xs) : a ≠ tp ∧ a ≠ wl ∧ a ≠ pl := by
  obtain ⟨z, hz⟩ := g.t
  exact ⟨ne_of h hz (hn _), ne_of h g.w.1 (hn _), ne_of h g.p.1 (hn _)⟩
theorem GT.tk (g : GT H tp kd wl pl hF ws js) (b : But3 tp wl pl H H') : TK H H' := fun a _ h => by
  obtain ⟨n1, n2, n3⟩ := g.ntk h (fun _ z => nomatch z)
  exact b a _ n1 n2 n3 h
theorem GT.step (g : GT H tp kd wl pl hF ws js) (b : But3 tp wl pl H H') (t : Tp H' tp) (w : Wls H' wl ws') (p : Wls H' pl js') (wn : ws'.length ≤ 100) (pn : js'.length ≤ 100) : GT H' tp kd wl pl hF ws' js' := by
  obtain ⟨el, hd, fs, kvs, room, st, k1, r1, r2, k2, k2', k3, k4, k5, k6, k7⟩ := g.k
  refine ⟨t, w, p, wn, pn, g.wp, el, hd, fs, kvs, room, st, ?_, r1, r2, k2, k2', ⟨b _ _ (wls_tp k3.1 g.t) k2 k2' k3.1, k3.2⟩, k4, k5, ?_, k7⟩
  · obtain ⟨n1, n2, n3⟩ := g.ntk k1 (fun _ z => nomatch z)
    exact b _ _ n1 n2 n3 k1
  · obtain ⟨n1, n2, n3⟩ := g.ntk k6 (fun _ z => nomatch z)
    exact b _ _ n1 n2 n3 k6
theorem GT.one (g : GT H tp kd wl pl hF ws js) (b : But1 tp H H') (t : Tp H' tp) : GT H' tp kd wl pl hF ws js := g.step b.three t (g.w.but b g.t) (g.p.but b g.t) g.wn g.pn
theorem GT.same (g : GT H tp kd wl pl hF ws js) (e : Same H H') : GT H' tp kd wl pl hF ws js := g.one (but_same e) (g.t.same e)
theorem Wls.three {a : Addr} {xs : List Str} (e : But3 tp wl pl H H') (g : GT H tp kd wl pl hF ws js) (n : a ≠ wl) (m : a ≠ pl) (h : Wls H a xs) : Wls H' a xs := ⟨e _ _ (wls_tp h.1 g.t) n m h.1, h.2⟩
theorem GT.new (g : GT H tp kd wl pl hF ws js) {p : Addr} (h : H p = none) : p ≠ tp ∧ p ≠ wl ∧ p ≠ pl := by
  obtain ⟨z, hz⟩ := g.t
  exact ⟨(ne_of_none hz h).symm, (ne_of_none g.w.1 h).symm, (ne_of_none g.p.1 h).symm⟩
variable {el hd : Addr} {room : Int} {st : Bool}
theorem gt_errands (h : H kd = some (.dK (knT el hd wl pl room st))) : DGet H kd (.str "errands") (some (.ref el)) := DGet.k (k := kgE) h
theorem gt_heads (h : H kd = some (.dK (knT el hd wl pl room st))) : DGet H kd (.str "heads") (some (.ref hd)) := DGet.k (k := kgH) h
theorem gt_words (h : H kd = some (.dK (knT el hd wl pl room st))) : DGet H kd (.str "words") (some (.ref wl)) := DGet.k (k := kgW) h
theorem gt_room (h : H kd = some (.dK (knT el hd wl pl room st))) : DGet H kd (.str "room") (some (.int room)) := DGet.k (k := kgR) h
theorem gt_posts (h : H kd = some (.dK (knT el hd wl pl room st))) : DGet H kd (.str "posts") (some (.ref pl)) := DGet.k (k := kgP) h
theorem gt_straight (h : H kd = some (.dK (knT el hd wl pl room st))) : DGet H kd (.str "straight") (some (.bl st)) := DGet.k (k := kgS) h
end
/-- the hand-ons around -/
def Hls (H : Hp) (a : Addr) (hs : List Str) : Prop := H a = some (.lst (hs.map V.str))
end KB

namespace KB
open PySem L2

section
variable {P : Program} {w : World} {K : PySem.W.Frag} {mg : Str → Option Value} {base : Heap}
/-! ### _law_simple -/
/-- a simple term at a, of at most n terms, within d -/
structure GdS (H : Hp) (a : Addr) (n d : Nat) (hd : Str → Option Nat) (xs : List Str) (t : Tm) : Prop where
  g : Gd H a n d hd xs [] t
  s : simple t = true
def spSimple (n : Nat) : Sp := fun vs H Q _ => ∃ (tp ar : Addr) (xs : List Str), vs = [.ref tp, .ref ar, .int n] ∧ Tp H tp ∧ Wls H ar xs ∧ xs.length ≤ 1000 ∧ n ≤ 1 ∧ ∀ a t H', But1 tp H H' → Tp H' tp → (∀ hd, GdS H' a (2 * n + 1) (n + 1) hd xs t) → Q (.ref a) H'
abbrev s_law_simple : Stmt := top 50
theorem scLsimple : FnScope ["tape", "around", "deep", "one"] ["tape", "around", "deep"] (defScope s_law_simple) := ⟨rfl, rfl, rfl, by decide +kernel, rfl, by decide +kernel, by decide +kernel⟩
theorem leaf_simple {H : Hp} {a : Addr} {xs : List Str} {t : Tm} (g : ∀ hd, Gd H a 1 1 hd xs [] t) : simple t = true := by
  have g0 := g fun _ => none
  cases t with
  | mk h n k =>
    have hc := g0.cn
    rw [cnt_mk] at hc
    have hn : n = 0 := by
      cases n with
      | zero => rfl
      | succ m =>
        exfalso
        rw [List.ofFn_succ, cnts_cons] at hc
        have := cnt_pos (k 0)
        omega
    subst hn
    obtain ⟨ys, l, _⟩ := g0.at_
    have hl : (Rfs ys).length = 0 := by
      unfold Rfs
      rw [List.length_ofFn]
    have hs := g0.sc.1
    cases h with
    | num z => rfl
    | nam x => rfl
    | plus => rfl
    | less => rfl
    | tell =>
      have := l.1
      omega
    | lett x =>
      have := l.1
      omega
    | iff =>
      have := l.1
      omega
    | ask f => cases hs
def spPrev : Nat → Sp
  | 0 => fun _ _ _ _ => False
  | n + 1 => spSimple n
theorem two_simple {H : Hp} {p a b : Addr} {hd : Str → Option Nat} {xs : List Str} {h : Hd} {t u : Tm} (hh : h = .plus ∨ h = .less) (g1 : GdS H a 1 1 hd xs t) (g2 : GdS H b 1 1 hd xs u) (hp : H p = some (.tup [.str (hs h), .ref a, .ref b])) : GdS H p 3 2 hd xs (mkL h [t, u]) := by
  have both : ∀ (Pr : Tm → Prop), Pr t → Pr u → ∀ x ∈ [t, u], Pr x := fun Pr h1 h2 x hx => by
    rcases List.mem_cons.mp hx with z | z
    · rw [z]
      exact h1
    · rw [List.mem_singleton.mp z]
      exact h2
  have lay : Lay H p h [.ref a, .ref b] := by
    rcases hh with rfl | rfl
    · exact ⟨rfl, hp⟩
    · exact ⟨rfl, hp⟩
  have c1 := g1.g.cn
  have c2 := g2.g.cn
  refine ⟨⟨at_mkL lay ⟨⟨a, rfl, g1.g.at_⟩, ⟨b, rfl, g2.g.at_⟩, trivial⟩, ok_mkL (by rcases hh with rfl | rfl <;> trivial) (both _ g1.g.ok g2.g.ok), ?_, ht_mkL (both _ g1.g.dp g2.g.dp), ?_, ?_⟩, simple_mkL (by rcases hh with rfl | rfl <;> rfl) (both _ g1.s g2.s)⟩
  · rw [cnt_mkL, cnts_cons, cnts_cons]
    show 1 + (_ + (_ + 0)) ≤ 3
    omega
  · refine sc_mkL (by rcases hh with rfl | rfl <;> trivial) fun i x hi => ?_
    have hin : inn h i xs = xs := by rcases hh with rfl | rfl <;> rfl
    rw [hin]
    exact both (fun y => okS hd y xs) g1.g.sc g2.g.sc x (List.mem_of_getElem? hi)
  · have e1 := g1.g.lt
    have e2 := g2.g.lt
    have : letsOf (mkL h [t, u]) = hdLets h ++ letsL [t, u] := by
      unfold mkL
      rw [lets_mk, ofFn_get]
    rw [this]
    show hdLets h ++ (letsOf t ++ (letsOf u ++ [])) = []
    rw [e1, e2]
    rcases hh with rfl | rfl <;> rfl
theorem GdS.tk {H H' : Hp} {a : Addr} {n d : Nat} {hd : Str → Option Nat} {xs : List Str} {t : Tm} (k : TK H H') (g : GdS H a n d hd xs t) : GdS H' a n d hd xs t := ⟨g.g.tk k, g.s⟩
theorem tp_tk {tp : Addr} {H H' : Hp} (t : Tp H tp) (b : But1 tp H H') : TK H H' := b.tk t
theorem ok_simple (T : Txt K mg) (n : Nat) {f fg fh : Addr} {fd gd hd : FuncData} (F : Fun K "_law_simple" "_law_simple" s_law_simple f fd) (G_law_digit : FnOk P w K mg base CX0 1 fg gd ["tape", "many"] spDig) (R_law_digit : Ref K mg "_law_digit" fg gd ["tape", "many"])
    (G_law_leaf : FnOk P w K mg base CX0 3 fh hd ["tape", "known", "around"] spLeaf) (R_law_leaf : Ref K mg "_law_leaf" fh hd ["tape", "known", "around"])
    (G_law_simple : FnOk P w K mg base CX0 (n + 3) f fd ["tape", "around", "deep"] (spPrev n)) (R_law_simple : Ref K mg "_law_simple" f fd ["tape", "around", "deep"]) : FnOk P w K mg base CX0 (n + 4) f fd ["tape", "around", "deep"] (spSimple n) := by
  refine F.ok scLsimple (fun vs H Q E h => ?_) (fun cdv A outer s H vs Q E hr h => ?_)
  · obtain ⟨tp, ar, xs, rfl, _⟩ := h
    rfl
  obtain ⟨tp, ar, xs, rfl, ht, hw, hx, hn1, q⟩ := h
  refine ⟨_, (pss_cons (ps_if (PW.pt (pw_or (pt_cmpR op_eq (pv 2) pe_int (nomark _)) (pw_or1 (pt_cmpR op_gt (pe_call G_law_digit (hr.mono (by omega)) rfl R_law_digit.m R_law_digit.k R_law_digit.b .nil pass0 (pa_cons (pv 0) (pa_cons pe_int pa_nil))) pe_int (nomark _))))) (pss_one (ps_ret (pe_call G_law_leaf (hr.mono (by omega)) rfl R_law_leaf.m R_law_leaf.k R_law_leaf.b .nil pass0 (pa_cons (pv 0) (pa_cons pe_dnewK (pa_cons (pv 1) pa_nil)))))) pss_nil)
    (pss_cons (ps_set (i := 3) scLsimple.nd rfl (Or.inl rfl) (pe_call G_law_simple (hr.mono (by omega)) rfl R_law_simple.m R_law_simple.k R_law_simple.b .nil pass0 (pa_cons (pv 0) (pa_cons (pv 1) (pa_cons (pe_op op_sub (pv 2) pe_int) pa_nil)))))
    (pss_one (ps_ret (pe_tup (pa_cons (pe_ix ix_list (pe_lst (pa_cons pe_str (pa_cons pe_str pa_nil))) (pe_call G_law_digit (hr.mono (by omega)) rfl R_law_digit.m R_law_digit.k R_law_digit.b .nil pass0 (pa_cons (pv 0) (pa_cons pe_int pa_nil))) (fun _ _ => rfl)) (pa_cons (pv 3) (pa_cons (pe_call G_law_simple (hr.mono (by omega)) rfl R_law_simple.m R_law_simple.k R_law_simple.b .nil pass0 (pa_cons (pv 0) (pa_cons (pv 1) (pa_cons (pe_op op_sub (pv 2) pe_int) pa_nil)))) pa_nil)))))))), ?_⟩
  have leafW : ∀ H1, But1 tp H H1 → Tp H1 tp → (tRet (tCall spLeaf [] E0 (tCons (tVar 0) (tCons tDNewK (tCons (tVar 1) tNil))))) { nx := fun x H' => Q V.non H', rt := Q } [some (.ref tp), some (.ref ar), some (.int n), none] H1 := by
    intro H1 b1 t1
    have w1 := hw.but b1 ht
    refine ⟨_, rfl, fun kv hkv => ⟨_, rfl, ?_⟩⟩
    have s2 := same_new hkv (.dK [])
    refine ⟨tp, .ref kv, ar, xs, rfl, t1.same s2, w1.but (but_same s2) t1, hx, fun a t H3 b3 t3 gd => ?_⟩
    exact q a t H3 ((b1.trans (but_same s2)).trans b3) t3 fun hd => ⟨(gd hd).le (by omega) (by omega), leaf_simple gd⟩
  refine ⟨_, rfl, rfl, _, rfl, ?_⟩
  cases n with
  | zero => exact itT rfl (iteT (leafW H (But1.refl _ _) ht))
  | succ n =>
    have hn0 : n = 0 := by omega
    subst hn0
    refine itF rfl ⟨_, rfl, tp, 3, rfl, ht, by decide, by decide, fun r H1 r0 r1 b1 t1 => ?_⟩
    refine ⟨_, _, rfl, rfl, _, rfl, ?_⟩
    refine ite2 (fun c => leafW H1 b1 t1) (fun c => ?_)
    have w1 := hw.but b1 ht
    refine ⟨_, rfl, _, rfl, _, rfl, _, _, rfl, rfl, tp, ar, xs, rfl, t1, w1, hx, Nat.zero_le _, fun a1 u1 H2 b2 t2 g1 => ?_⟩
    have w2 := w1.but b2 t1
    refine ⟨sz (by show 2 ≤ 100000; decide), fun p3 hp3 => ?_⟩
    have s3 := same_new hp3 (.lst [V.str "plus", .str "less"])
    have np : p3 ≠ tp := by
      obtain ⟨z, hz⟩ := t2
      exact (ne_of_none hz hp3).symm
    have h3 : upd H2 p3 (.lst [V.str "plus", .str "less"]) p3 = some (.lst [V.str "plus", .str "less"]) := upd_same
    have t3 := t2.same s3
    have w3 := w2.but (but_same s3) t2
    refine ⟨_, rfl, tp, 2, rfl, t3, by decide, by decide, fun r4 H4 r40 r41 b4 t4 => ?_⟩
    obtain ⟨v, hv, hm⟩ := at_some (xs := [V.str "plus", .str "less"]) r40 r41
    obtain ⟨h, hh, rfl⟩ : ∃ h : Hd, (h = .plus ∨ h = .less) ∧ v = .str (hs h) := by
      rcases List.mem_cons.mp hm with z | z
      · exact ⟨.plus, .inl rfl, z⟩
      · exact ⟨.less, .inr rfl, List.mem_singleton.mp z⟩
    have w4 := w3.but b4 t3
    refine ⟨p3, _, _, _, rfl, rfl, SqL.of (b4 _ _ np h3), hv, _, rfl, _, rfl, _, rfl, _, rfl, _, _, rfl, rfl, tp, ar, xs, rfl, t4, w4, hx, Nat.zero_le _, fun a2 u2 H5 b5 t5 g2 => ?_⟩
    refine ⟨sz (by show 3 ≤ 100000; decide), fun p6 hp6 => ?_⟩
    have s6 := same_new hp6 (.tup [V.str (hs h), .ref a1, .ref a2])
    have k25 : TK H2 H5 := (tp_tk t2 (but_same s3)).trans ((tp_tk t3 b4).trans (tp_tk t4 b5))
    refine q p6 (mkL h [u1, u2]) _ (((((b1.trans b2).trans (but_same s3)).trans b4).trans b5).trans (but_same s6)) (t5.same s6) fun hd => ?_
    exact two_simple hh ((g1 hd).tk (k25.trans (tk_same s6))) ((g2 hd).tk (tk_same s6)) upd_same
theorem no_sp {k : Nat} {f : Addr} {fd : FuncData} {ps : List Str} : FnOk P w K mg base CX0 k f fd ps (fun _ _ _ _ => False) := ⟨fun _ _ _ _ z => z.elim, fun _ _ _ _ _ _ _ _ _ _ _ _ _ z => z.elim⟩
theorem all_simple (T : Txt K mg) {f fg fh : Addr} {fd gd hd : FuncData} (F : Fun K "_law_simple" "_law_simple" s_law_simple f fd) (G_law_digit : FnOk P w K mg base CX0 1 fg gd ["tape", "many"] spDig) (R_law_digit : Ref K mg "_law_digit" fg gd ["tape", "many"])
    (G_law_leaf : FnOk P w K mg base CX0 3 fh hd ["tape", "known", "around"] spLeaf) (R_law_leaf : Ref K mg "_law_leaf" fh hd ["tape", "known", "around"]) (R_law_simple : Ref K mg "_law_simple" f fd ["tape", "around", "deep"]) : FnOk P w K mg base CX0 5 f fd ["tape", "around", "deep"] (spSimple 1) :=
  ok_simple T 1 F G_law_digit R_law_digit G_law_leaf R_law_leaf (ok_simple T 0 F G_law_digit R_law_digit G_law_leaf R_law_leaf no_sp R_law_simple) R_law_simple
end
end KB

namespace KB
open PySem L2

section
variable {P : Program} {w : World} {K : PySem.W.Frag} {mg : Str → Option Value} {base : Heap}
/-! ### _law_some_hand -/
def spHand : Sp := fun vs H Q _ => ∃ (tp kd wl pl hl : Addr) (hF : Str → Option Nat) (ws js hs : List Str), vs = [.ref tp, .ref kd, .ref hl] ∧ GT H tp kd wl pl hF ws js ∧ Hls H hl hs ∧ hs ≠ [] ∧ hs.length ≤ 1000 ∧ hl ≠ tp ∧
  ∀ j H', But1 tp H H' → Tp H' tp → j ∈ hs → Q (.str j) H'
abbrev s_law_some_hand : Stmt := top 51
theorem scLsome_hand : FnScope ["tape", "known", "hands"] ["tape", "known", "hands"] (defScope s_law_some_hand) := ⟨rfl, rfl, rfl, by decide +kernel, rfl, by decide +kernel, by decide +kernel⟩
theorem ok_hand (T : Txt K mg) {f fg : Addr} {fd gd : FuncData} (F : Fun K "_law_some_hand" "_law_some_hand" s_law_some_hand f fd) (G_law_digit : FnOk P w K mg base CX0 1 fg gd ["tape", "many"] spDig) (R_law_digit : Ref K mg "_law_digit" fg gd ["tape", "many"]) :
    FnOk P w K mg base CX0 2 f fd ["tape", "known", "hands"] spHand := by
  refine F.ok scLsome_hand (fun vs H Q E h => ?_) (fun cdv A outer s H vs Q E hr h => ?_)
  · obtain ⟨tp, kd, wl, pl, hl, hF, ws, js, hs, rfl, _⟩ := h
    rfl
  obtain ⟨tp, kd, wl, pl, hl, hF, ws, js, hs, rfl, g, hh, hne, hlen, hn, q⟩ := h
  refine ⟨_, (pss_cons (ps_if (PW.pt (pw_or (pt_truth (pe_dget (hu_of hr) (pv 1) pe_str (fun _ _ => rfl)) (by intro _; rfl)) (pw_or1 (pt_cmpR op_gt (pe_call G_law_digit (hr.mono (by omega)) rfl R_law_digit.m R_law_digit.k R_law_digit.b .nil pass0 (pa_cons (pv 0) (pa_cons pe_int pa_nil))) pe_int (nomark _))))) (pss_one (ps_ret (pe_ix ix_list (pv 2) (pe_un un_neg pe_int) (fun _ _ => rfl)))) pss_nil)
    (pss_one (ps_ret (pe_ix ix_list (pv 2) (pe_call G_law_digit (hr.mono (by omega)) rfl R_law_digit.m R_law_digit.k R_law_digit.b .nil pass0 (pa_cons (pv 0) (pa_cons (pe_callB call_len_seq (by rfl) T.m_len PySem.boot_len (pa_cons (pv 2) pa_nil)) pa_nil))) (fun _ _ => rfl))))), ?_⟩
  obtain ⟨el, hd, fs, kvs, room, st, k1, _⟩ := g.k
  obtain ⟨r, j, rfl⟩ : ∃ r j, hs = r ++ [j] := ⟨hs.dropLast, hs.getLast hne, (List.dropLast_concat_getLast hne).symm⟩
  have em : (r ++ [j]).map V.str = r.map V.str ++ [V.str j] := by
    rw [List.map_append]
    rfl
  have lastW : ∀ H1, But1 tp H H1 → Tp H1 tp → (tRet (tOp (rIxL K) (tVar 2) (tUn (rU fun i => .int (-i)) (tC (.int 1))))) { nx := fun x H' => Q V.non H', rt := Q } [some (.ref tp), some (.ref kd), some (.ref hl)] H1 := by
    intro H1 b1 t1
    have h1 : H1 hl = some (.lst (r.map V.str ++ [V.str j])) := by
      rw [← em]
      exact b1 _ _ hn hh
    exact ⟨_, rfl, _, rfl, hl, _, _, _, rfl, rfl, SqL.of h1, atI_last _ _, q j H1 b1 t1 (List.mem_append_right _ List.mem_cons_self)⟩
  refine ⟨_, rfl, kd, _, rfl, gt_straight k1, st, rfl, ?_⟩
  cases st with
  | true => exact itT rfl (iteT (lastW H (But1.refl _ _) g.t))
  | false =>
    refine itF rfl ⟨_, rfl, tp, 3, rfl, g.t, by decide, by decide, fun r1 H1 r10 r11 b1 t1 => ?_⟩
    refine ⟨_, _, rfl, rfl, _, rfl, ?_⟩
    refine ite2 (fun c => lastW H1 b1 t1) (fun c => ?_)
    have h1 : H1 hl = some (.lst ((r ++ [j]).map V.str)) := b1 _ _ hn hh
    have el1 : (((r ++ [j]).map V.str).length : Int) = ((r ++ [j]).length : Int) := by rw [List.length_map]
    have pos : 0 < (r ++ [j]).length := by simp
    refine ⟨_, rfl, _, rfl, _, rfl, hl, _, rfl, .inl (SqL.of h1), tp, _, rfl, t1, by rw [el1]; omega, by rw [el1]; omega, fun r2 H2 r20 r21 b2 t2 => ?_⟩
    obtain ⟨v, hv, hm⟩ := at_some r20 r21
    obtain ⟨z, hz, rfl⟩ := List.mem_map.mp hm
    exact ⟨hl, _, _, _, rfl, rfl, SqL.of (b2 _ _ hn h1), hv, q z H2 (b1.trans b2) t2 hz⟩
end
end KB

namespace KB
open PySem L2

theorem GdS.sm {H : Hp} {a : Addr} {hd : Str → Option Nat} {xs : List Str} {t : Tm} (g : GdS H a 3 2 hd xs t) : SmT hd xs t := ⟨g.g.ok, g.s, g.g.sc, g.g.cn, g.g.dp⟩
section
variable {P : Program} {w : World} {K : PySem.W.Frag} {mg : Str → Option Value} {base : Heap}
/-! ### _law_end -/
def spEnd : Sp := fun vs H Q _ => ∃ (tp kd wl pl ar hl : Addr) (hF : Str → Option Nat) (ws js xs hs : List Str), vs = [.ref tp, .ref kd, .ref ar, .ref hl] ∧ GT H tp kd wl pl hF ws js ∧ Wls H ar xs ∧ xs.length ≤ 1000 ∧ Hls H hl hs ∧ hs ≠ [] ∧ hs.length ≤ 1000 ∧ hl ≠ tp ∧
  ∀ a p H', But1 tp H H' → Tp H' tp → PAt H' p a → okP hF p xs hs → pcnt p = 1 → wdP p = [] → jP p = [] → Q (.ref a) H'
abbrev s_law_end : Stmt := top 52
theorem scLend : FnScope ["tape", "known", "around", "hands", "f", "hand", "some", "k"] ["tape", "known", "around", "hands"] (defScope s_law_end) := ⟨rfl, rfl, rfl, by decide +kernel, rfl, by decide +kernel, by decide +kernel⟩
theorem ok_gend (T : Txt K mg) {f fg fh fl fs : Addr} {fd gd hd ld sd : FuncData} (F : Fun K "_law_end" "_law_end" s_law_end f fd) (G_law_digit : FnOk P w K mg base CX0 1 fg gd ["tape", "many"] spDig) (R_law_digit : Ref K mg "_law_digit" fg gd ["tape", "many"])
    (G_law_some_hand : FnOk P w K mg base CX0 2 fh hd ["tape", "known", "hands"] spHand) (R_law_some_hand : Ref K mg "_law_some_hand" fh hd ["tape", "known", "hands"]) (G_law_less_one : FnOk P w K mg base CX0 1 fl ld ["around"] spLess) (R_law_less_one : Ref K mg "_law_less_one" fl ld ["around"])
    (G_law_simple : FnOk P w K mg base CX0 5 fs sd ["tape", "around", "deep"] (spSimple 1)) (R_law_simple : Ref K mg "_law_simple" fs sd ["tape", "around", "deep"]) : FnOk P w K mg base CX0 6 f fd ["tape", "known", "around", "hands"] spEnd := by
  refine F.ok scLend (fun vs H Q E h => ?_) (fun cdv A outer s H vs Q E hr h => ?_)
  · obtain ⟨tp, kd, wl, pl, ar, hl, hF, ws, js, xs, hs, rfl, _⟩ := h
    rfl
  obtain ⟨tp, kd, wl, pl, ar, hl, hF, ws, js, xs, hs, rfl, g, hw, hx, hh, hne, hhl, hnt, q⟩ := h
  refine ⟨_, (pss_cons (ps_set (i := 4) scLend.nd rfl (Or.inl rfl) (pe_ix ix_list (pe_dget (hu_of hr) (pv 1) pe_str (fun _ _ => rfl)) (pe_call G_law_digit (hr.mono (by omega)) rfl R_law_digit.m R_law_digit.k R_law_digit.b .nil pass0 (pa_cons (pv 0) (pa_cons (pe_callB call_len_seq (by rfl) T.m_len PySem.boot_len (pa_cons (pe_dget (hu_of hr) (pv 1) pe_str (fun _ _ => rfl)) pa_nil)) pa_nil))) (fun _ _ => rfl)))
    (pss_cons (ps_set (i := 5) scLend.nd rfl (Or.inl rfl) (pe_call G_law_some_hand (hr.mono (by omega)) rfl R_law_some_hand.m R_law_some_hand.k R_law_some_hand.b .nil pass0 (pa_cons (pv 0) (pa_cons (pv 1) (pa_cons (pv 3) pa_nil)))))
    (pss_cons (ps_if (pt_cmpR op_eq (pe_call G_law_digit (hr.mono (by omega)) rfl R_law_digit.m R_law_digit.k R_law_digit.b .nil pass0 (pa_cons (pv 0) (pa_cons pe_int pa_nil))) pe_int (nomark _)) (pss_one (ps_ret (pe_tup (pa_cons pe_str (pa_cons (pv 5) (pa_cons (pe_call G_law_simple (hr.mono (by omega)) rfl R_law_simple.m R_law_simple.k R_law_simple.b .nil pass0 (pa_cons (pv 0) (pa_cons (pv 2) (pa_cons pe_int pa_nil)))) pa_nil)))))) pss_nil)
    (pss_cons (ps_set (i := 6) scLend.nd rfl (Or.inl rfl) (pe_lst pa_nil))
    (pss_cons (ps_for PassesOwn.never rfl (pi_range1 rfl T.m_range (pa_cons (pe_dget (hu_of hr) (pe_dget (hu_of hr) (pv 1) pe_str (fun _ _ => rfl)) (pv 4) (fun _ _ => rfl)) pa_nil)) (pg_name (i := 7) scLend.nd rfl (Or.inl rfl)) (pss_one (ps_if (PW.pt (pw_and (pt_cmpR op_eq (pv 7) pe_int (nomark _)) (pw_and1 (pt_cmpR op_gt (pe_call G_law_digit (hr.mono (by omega)) rfl R_law_digit.m R_law_digit.k R_law_digit.b .nil pass0 (pa_cons (pv 0) (pa_cons pe_int pa_nil))) pe_int (nomark _))))) (pss_one (ps_expr (pe_bm PySem.F.plainAttrs_list PySem.F.slot_list_append PySem.F.type_list_append mt_append (pv 6) (pa_cons (pe_call G_law_less_one (hr.mono (by omega)) rfl R_law_less_one.m R_law_less_one.k R_law_less_one.b .nil pass0 (pa_cons (pv 2) pa_nil)) pa_nil)))) (pss_one (ps_expr (pe_bm PySem.F.plainAttrs_list PySem.F.slot_list_append PySem.F.type_list_append mt_append (pv 6) (pa_cons (pe_call G_law_simple (hr.mono (by omega)) rfl R_law_simple.m R_law_simple.k R_law_simple.b .nil pass0 (pa_cons (pv 0) (pa_cons (pv 2) (pa_cons pe_int pa_nil)))) pa_nil)))))))
    (pss_one (ps_ret (pe_tup (pa_cons pe_str (pa_cons (pv 4) (pa_cons (pe_callTy call_tuple_of (by rfl) T.m_tuple (by decide +kernel) (pa_cons (pv 6) pa_nil)) (pa_cons (pv 5) pa_nil)))))))))))), ?_⟩
  obtain ⟨el, hd', fs, kvs, room, st, k1, _, _, _, _, k3, k4, k5, k6, k7⟩ := g.k
  refine ⟨_, rfl, kd, _, rfl, gt_errands k1, _, rfl, _, rfl, kd, _, rfl, gt_errands k1, el, _, rfl, .inl (SqL.of k3.1), tp, _, rfl, g.t, ?_, ?_, fun r H1 r0 r1 b1 t1 => ?_⟩
  · rw [List.length_map]
    omega
  · rw [List.length_map]
    omega
  have g1 := g.one b1 t1
  have k3' := k3.but b1 g.t
  have nkt := (g.ntk k1 (fun _ z => nomatch z)).1
  have nht := (g.ntk k6 (fun _ z => nomatch z)).1
  obtain ⟨v, hv, hm⟩ := at_some r0 r1
  obtain ⟨fn, hfn, rfl⟩ := List.mem_map.mp hm
  obtain ⟨many, hmany, m0, m4, mF⟩ := k7 fn hfn
  have hwfn := k3.2 fn hfn
  refine ⟨el, _, _, _, rfl, rfl, SqL.of k3'.1, hv, ?_⟩
  -- the hand
  refine ⟨_, rfl, _, rfl, _, rfl, tp, kd, wl, pl, hl, hF, ws, js, hs, rfl, g1, b1 _ _ hnt hh, hne, hhl, hnt, fun j H2 b2 t2 hj => ?_⟩
  have b12 := b1.trans b2
  refine ⟨_, rfl, tp, 2, rfl, t2, by decide, by decide, fun r3 H3 r30 r31 b3 t3 => ⟨rfl, _, rfl, ?_⟩⟩
  have b13 := b12.trans b3
  have w3 := hw.but b13 g.t
  refine ite2 (fun c => ?_) (fun c => ?_)
  · -- a give
    refine ⟨_, rfl, _, rfl, _, rfl, tp, ar, xs, rfl, t3, w3, hx, Nat.le_refl _, fun a t H4 b4 t4 gs => ⟨sz (by show 3 ≤ 100000; decide), fun p5 hp5 => ?_⟩⟩
    have s5 := same_new hp5 (.tup [V.str "give", .str j, .ref a])
    exact q p5 (.give j t) _ ((b13.trans b4).trans (but_same s5)) (t4.same s5) ⟨a, upd_same, (gs hF).g.at_.mono s5⟩ ⟨hj, (gs hF).sm⟩ rfl rfl rfl
  · -- an ask
    refine ⟨sz (by show 0 ≤ 100000; decide), fun sl hsl => ?_⟩
    have s4 := same_new hsl (.lst [])
    have nst : sl ≠ tp := by
      obtain ⟨z, hz⟩ := t3
      exact (ne_of_none hz hsl).symm
    have b14 := b13.trans (but_same s4)
    have t4 := t3.same s4
    have h4 : upd H3 sl (.lst []) sl = some (.lst []) := upd_same
    have frS : H3 sl = none := hsl
    have w4 := w3.but (but_same s4) t3
    have sH4 : Same H3 (upd H3 sl (.lst [])) := s4
    generalize upd H3 sl (.lst []) = H4 at b14 t4 h4 w4 sH4 ⊢
    have nsar : ar ≠ sl := ne_of_none w3.1 frS
    refine ⟨_, rfl, kd, _, rfl, gt_heads (b14 _ _ nkt k1), _, rfl, hd', _, rfl, get_of (b14 _ _ nht k6) hmany, _, rfl, by omega, by omega, ?_⟩
    refine for_range (lo := 0) (n := many.toNat) (fun i σ H' => ∃ o7 vs ts, σ = [some (.ref tp), some (.ref kd), some (.ref ar), some (.ref hl), some (.str fn), some (.str j), some (.ref sl), o7] ∧ (∀ b o, b ≠ tp → b ≠ sl → H4 b = some o → H' b = some o) ∧ Tp H' tp ∧
      H' sl = some (.lst vs) ∧ All2 (RefV H') ts vs ∧ ts.length = i ∧ ∀ t ∈ ts, SmT hF xs t) ⟨_, [], [], rfl, fun _ _ _ _ z => z, t4, h4, trivial, rfl, fun _ z => nomatch z⟩ ?_ ?_
    · rintro i σ H5 hi ⟨o7, vs, ts, rfl, b5, t5, h5, k5s, hlen, hts⟩
      have w5 : Wls H5 ar xs := ⟨b5 _ _ (wls_tp w4.1 t4) nsar w4.1, w4.2⟩
      have hvl := k5s.len
      have put : ∀ (a : Addr) (t : Tm) (H6 : Hp), But1 tp H5 H6 → Tp H6 tp → At H6 t a → SmT hF xs t →
          ∃ l zs y, V.ref sl = .ref l ∧ [V.ref a] = [y] ∧ H6 l = some (.lst zs) ∧ zs.length < sizeLine ∧ ∃ o7 vs ts, ([some (.ref tp), some (.ref kd), some (.ref ar), some (.ref hl), some (.str fn), some (.str j), some (.ref sl), some (.int (0 + (i : Nat)))] : St) = [some (.ref tp), some (.ref kd), some (.ref ar), some (.ref hl), some (.str fn), some (.str j), some (.ref sl), o7] ∧
            (∀ b o, b ≠ tp → b ≠ sl → H4 b = some o → upd H6 l (.lst (zs ++ [y])) b = some o) ∧ Tp (upd H6 l (.lst (zs ++ [y]))) tp ∧ upd H6 l (.lst (zs ++ [y])) sl = some (.lst vs) ∧ All2 (RefV (upd H6 l (.lst (zs ++ [y])))) ts vs ∧ ts.length = i + 1 ∧ ∀ t ∈ ts, SmT hF xs t := by
        intro a t H6 b6 t6 at6 sm
        have h6 := b6 _ _ nst h5
        have tk6 := b6.tk t5
        have tkp : TK H6 (upd H6 sl (.lst (vs ++ [V.ref a]))) := tk_put h6
        refine ⟨sl, vs, .ref a, rfl, rfl, h6, Nat.lt_of_le_of_lt (m := 1000) (by omega) (by decide), _, vs ++ [.ref a], ts ++ [t], rfl, fun b o n1 n2 hb => ?_, ?_, upd_same, ?_, ?_, fun u hu => ?_⟩
        · rw [upd_ne n2]
          exact b6 _ _ n1 (b5 _ _ n1 n2 hb)
        · obtain ⟨z, hz⟩ := t6
          exact ⟨z, by rw [upd_ne nst.symm]; exact hz⟩
        · exact All2.app (k5s.imp fun _ _ z => (z.tk tk6).tk tkp) ⟨⟨a, rfl, at6.tk tkp⟩, trivial⟩
        · rw [List.length_append, hlen]
          rfl
        · rcases List.mem_append.mp hu with z | z
          · exact hts u z
          · rw [List.mem_singleton.mp z]
            exact sm
      refine ⟨_, rfl, rfl, _, rfl, ?_⟩
      by_cases c0 : V.int (0 + (i : Nat)) = V.int 0
      · refine itT (decide_eq_true c0) ⟨_, rfl, tp, 4, rfl, t5, by decide, by decide, fun r6 H6 r60 r61 b6 t6 => ?_⟩
        have h6 := b6 _ _ nst h5
        have w6 := w5.but b6 t5
        refine ⟨_, _, rfl, rfl, _, rfl, ?_⟩
        refine ite2 (fun c2 => ?_) (fun c2 => ?_)
        · refine ⟨_, rfl, .inl ⟨rfl, _, SqL.of h6⟩, _, rfl, ar, xs, rfl, w6, fun a t H7 s7 gd smp => ?_⟩
          exact put a t H7 (b6.trans (but_same s7)) (t6.same s7) (gd hF).at_ ⟨(gd hF).ok, smp, (gd hF).sc, (gd hF).cn, (gd hF).dp⟩
        · exact ⟨_, rfl, .inl ⟨rfl, _, SqL.of h6⟩, _, rfl, _, rfl, tp, ar, xs, rfl, t6, w6, hx, Nat.le_refl _, fun a t H7 b7 t7 gs => put a t H7 (b6.trans b7) t7 (gs hF).g.at_ (gs hF).sm⟩
      · refine itF (decide_eq_false c0) (iteF ?_)
        exact ⟨_, rfl, .inl ⟨rfl, _, SqL.of h5⟩, _, rfl, _, rfl, tp, ar, xs, rfl, t5, w5, hx, Nat.le_refl _, fun a t H7 b7 t7 gs => put a t H7 b7 t7 (gs hF).g.at_ (gs hF).sm⟩
    · rintro σ H5 ⟨o7, vs, ts, rfl, b5, t5, h5, k5s, hlen, hts⟩
      refine ⟨_, rfl, _, rfl, sl, _, rfl, .inl ⟨SqL.of h5, fun p6 hp6 => ⟨_, rfl, sz (by show 4 ≤ 100000; decide), fun p7 hp7 => ?_⟩⟩⟩
      have s6 := same_new hp6 (.tup vs)
      have s7 := same_new hp7 (.tup [V.str "ask", .str fn, .ref p6, .str j])
      have bE : But1 tp H (upd (upd H5 p6 (.tup vs)) p7 (.tup [V.str "ask", .str fn, .ref p6, .str j])) := fun b o nb hb => by
        have h3 := b13 b o nb hb
        exact s7 _ _ (s6 _ _ (b5 b o nb (ne_of_none h3 frS) (sH4 _ _ h3)))
      have hF4 : hF fn = some ts.length := by rw [mF, hlen]
      refine q p7 (.ask fn ts j) _ bE ((t5.same s6).same s7) ⟨p6, vs, upd_same, s7 _ _ upd_same, k5s.imp fun _ _ z => z.tk (tk_same (s6.trans s7))⟩ ⟨hj, hwfn, hF4, by omega, hts⟩ rfl rfl rfl
end
end KB

namespace KB
open PySem L2

theorem lastV {xs : List V} {y : V} : (xs ++ [y])[(xs ++ [y]).length - 1]? = some y := by
  rw [List.length_append, List.length_singleton, Nat.add_sub_cancel, List.getElem?_append_right (Nat.le_refl _), Nat.sub_self]
  rfl
theorem dropV {xs : List V} {y : V} : (xs ++ [y]).dropLast = xs := List.dropLast_concat
theorem GT.popW {H : Hp} {tp kd wl pl : Addr} {hF : Str → Option Nat} {ws js : List Str} {x : Str} (g : GT H tp kd wl pl hF (ws ++ [x]) js) : GT (upd H wl (.lst (ws.map V.str))) tp kd wl pl hF ws js ∧ But3 tp wl pl H (upd H wl (.lst (ws.map V.str))) := by
  have b : But3 tp wl pl H (upd H wl (.lst (ws.map V.str))) := fun b o _ n _ h => by rw [upd_ne n]; exact h
  have hn := wls_tp g.w.1 g.t
  obtain ⟨z, hz⟩ := g.t
  have wn := g.wn
  rw [List.length_append] at wn
  exact ⟨g.step b ⟨z, by rw [upd_ne hn.symm]; exact hz⟩ ⟨upd_same, fun y hy => g.w.2 y (List.mem_append_left _ hy)⟩ ⟨by rw [upd_ne g.wp.symm]; exact g.p.1, g.p.2⟩ (by omega) g.pn, b⟩
theorem GT.popP {H : Hp} {tp kd wl pl : Addr} {hF : Str → Option Nat} {ws js : List Str} {x : Str} (g : GT H tp kd wl pl hF ws (js ++ [x])) : GT (upd H pl (.lst (js.map V.str))) tp kd wl pl hF ws js ∧ But3 tp wl pl H (upd H pl (.lst (js.map V.str))) := by
  have b : But3 tp wl pl H (upd H pl (.lst (js.map V.str))) := fun b o _ _ n h => by rw [upd_ne n]; exact h
  have hn := wls_tp g.p.1 g.t
  obtain ⟨z, hz⟩ := g.t
  have pn := g.pn
  rw [List.length_append] at pn
  exact ⟨g.step b ⟨z, by rw [upd_ne hn.symm]; exact hz⟩ ⟨by rw [upd_ne g.wp]; exact g.w.1, g.w.2⟩ ⟨upd_same, fun y hy => g.p.2 y (List.mem_append_left _ hy)⟩ g.wn (by omega), b⟩
theorem snoc_of {ws : List Str} (h : ws ≠ []) : ∃ r x, ws = r ++ [x] := ⟨ws.dropLast, ws.getLast h, (List.dropLast_concat_getLast h).symm⟩
theorem mapS {ws : List Str} {x : Str} : (ws ++ [x]).map V.str = ws.map V.str ++ [V.str x] := by
  rw [List.map_append]
  rfl
section
variable {P : Program} {w : World} {K : PySem.W.Frag} {mg : Str → Option Value} {base : Heap}
/-! ### _law_part -/
/-- what stands around a part that is to be drawn -/
structure PtIn (H : Hp) (tp kd wl pl ar hl : Addr) (hF : Str → Option Nat) (ws js xs hs : List Str) : Prop where
  g : GT H tp kd wl pl hF ws js
  w : Wls H ar xs
  a1 : ar ≠ wl
  a2 : ar ≠ pl
  h : Hls H hl hs
  h0 : hl ≠ tp
  h1 : hl ≠ wl
  h2 : hl ≠ pl
  ne : hs ≠ []
  wj : ws.length ≤ js.length
  l1 : xs.length + ws.length ≤ 200
  l2 : hs.length + js.length ≤ 200
/-- what is told of a part that was drawn -/
structure PtOut (H H' : Hp) (tp kd wl pl : Addr) (hF : Str → Option Nat) (ws js xs hs : List Str) (n : Nat) (a : Addr) (p : Pt) (ws' js' ls ms : List Str) : Prop where
  b : But3 tp wl pl H H'
  g : GT H' tp kd wl pl hF ws' js'
  wj : ws'.length ≤ js'.length
  e1 : ws = ws' ++ ls.reverse
  e2 : js = js' ++ ms.reverse
  at_ : PAt H' p a
  ok : okP hF p xs hs
  cn : pcnt p ≤ n
  s1 : (wdP p).Sublist ls
  s2 : (jP p).Sublist ms
def spPart (n : Nat) : Sp := fun vs H Q _ => ∃ (tp kd wl pl ar hl : Addr) (hF : Str → Option Nat) (ws js xs hs : List Str) (room deep : Int), vs = [.ref tp, .ref kd, .ref ar, .ref hl, .int room, .int deep] ∧ PtIn H tp kd wl pl ar hl hF ws js xs hs ∧ 1 ≤ room ∧ room ≤ 1000 ∧ 0 ≤ deep ∧ deep ≤ n ∧
  ∀ a p H' ws' js' ls ms, PtOut H H' tp kd wl pl hF ws js xs hs room.toNat a p ws' js' ls ms → Q (.ref a) H'
def spPtPrev : Nat → Sp
  | 0 => fun _ _ _ _ => False
  | n + 1 => spPart n
theorem PtIn.step {H H' : Hp} {tp kd wl pl ar hl : Addr} {hF : Str → Option Nat} {ws js ws' js' xs hs : List Str} (I : PtIn H tp kd wl pl ar hl hF ws js xs hs) (b : But3 tp wl pl H H') (g : GT H' tp kd wl pl hF ws' js') (wj : ws'.length ≤ js'.length) (l1 : ws'.length ≤ ws.length) (l2 : js'.length ≤ js.length) : PtIn H' tp kd wl pl ar hl hF ws' js' xs hs := by
  have h1 := I.l1
  have h2 := I.l2
  exact ⟨g, I.w.three b I.g I.a1 I.a2, I.a1, I.a2, b _ _ I.h0 I.h1 I.h2 I.h, I.h0, I.h1, I.h2, I.ne, wj, by omega, by omega⟩
theorem PtIn.one {H H' : Hp} {tp kd wl pl ar hl : Addr} {hF : Str → Option Nat} {ws js xs hs : List Str} (I : PtIn H tp kd wl pl ar hl hF ws js xs hs) (b : But1 tp H H') (t : Tp H' tp) : PtIn H' tp kd wl pl ar hl hF ws js xs hs := I.step b.three (I.g.one b t) I.wj (Nat.le_refl _) (Nat.le_refl _)
theorem PtIn.same {H H' : Hp} {tp kd wl pl ar hl : Addr} {hF : Str → Option Nat} {ws js xs hs : List Str} (I : PtIn H tp kd wl pl ar hl hF ws js xs hs) (s : Same H H') : PtIn H' tp kd wl pl ar hl hF ws js xs hs := I.one (but_same s) (I.g.t.same s)
abbrev s_law_part : Stmt := top 53
theorem scLpart : FnScope ["tape", "known", "around", "hands", "room", "deep", "word", "choice", "shares", "one", "x", "j", "term"] ["tape", "known", "around", "hands", "room", "deep"] (defScope s_law_part) := ⟨rfl, rfl, rfl, by decide +kernel, rfl, by decide +kernel, by decide +kernel⟩
theorem ok_part (T : Txt K mg) (n : Nat) {f fg fh fe fs fq : Addr} {fd gd hd ed sd qd : FuncData} (F : Fun K "_law_part" "_law_part" s_law_part f fd) (G_law_digit : FnOk P w K mg base CX0 1 fg gd ["tape", "many"] spDig) (R_law_digit : Ref K mg "_law_digit" fg gd ["tape", "many"])
    (G_law_some_hand : FnOk P w K mg base CX0 2 fh hd ["tape", "known", "hands"] spHand) (R_law_some_hand : Ref K mg "_law_some_hand" fh hd ["tape", "known", "hands"]) (G_law_end : FnOk P w K mg base CX0 6 fe ed ["tape", "known", "around", "hands"] spEnd) (R_law_end : Ref K mg "_law_end" fe ed ["tape", "known", "around", "hands"])
    (G_law_simple : FnOk P w K mg base CX0 5 fs sd ["tape", "around", "deep"] (spSimple 1)) (R_law_simple : Ref K mg "_law_simple" fs sd ["tape", "around", "deep"]) (G_law_shares : FnOk P w K mg base CX0 2 fq qd ["tape", "room", "many"] spShr) (R_law_shares : Ref K mg "_law_shares" fq qd ["tape", "room", "many"])
    (G_law_part : FnOk P w K mg base CX0 (n + 6) f fd ["tape", "known", "around", "hands", "room", "deep"] (spPtPrev n)) (R_law_part : Ref K mg "_law_part" f fd ["tape", "known", "around", "hands", "room", "deep"]) : FnOk P w K mg base CX0 (n + 7) f fd ["tape", "known", "around", "hands", "room", "deep"] (spPart n) := by
  refine F.ok scLpart (fun vs H Q E h => ?_) (fun cdv A outer s H vs Q E hr h => ?_)
  · obtain ⟨tp, kd, wl, pl, ar, hl, hF, ws, js, xs, hs, room, deep, rfl, _⟩ := h
    rfl
  obtain ⟨tp, kd, wl, pl, ar, hl, hF, ws, js, xs, hs, room, deep, rfl, I, hr1, hr2, hd1, hd2, q⟩ := h
  refine ⟨_, (pss_cons (ps_if (PW.pt (pw_or (pt_cmpR op_lt (pv 4) pe_int (nomark _)) (pw_or1 (pt_cmpR op_eq (pv 5) pe_int (nomark _))))) (pss_one (ps_ret (pe_call G_law_end (hr.mono (by omega)) rfl R_law_end.m R_law_end.k R_law_end.b .nil pass0 (pa_cons (pv 0) (pa_cons (pv 1) (pa_cons (pv 2) (pa_cons (pv 3) pa_nil))))))) pss_nil)
    (pss_cons (ps_set (i := 6) scLpart.nd rfl (Or.inl rfl) (pe_ix ix_list (pe_lst (pa_cons pe_str (pa_cons pe_str (pa_cons pe_str (pa_cons pe_str (pa_cons pe_str (pa_cons pe_str (pa_cons pe_str (pa_cons pe_str pa_nil))))))))) (pe_call G_law_digit (hr.mono (by omega)) rfl R_law_digit.m R_law_digit.k R_law_digit.b .nil pass0 (pa_cons (pv 0) (pa_cons pe_int pa_nil))) (fun _ _ => rfl)))
    (pss_cons (ps_if (pt_cmpR op_eq (pv 6) pe_str (nomark _)) (pss_cons (ps_set (i := 7) scLpart.nd rfl (Or.inl rfl) (pe_call G_law_simple (hr.mono (by omega)) rfl R_law_simple.m R_law_simple.k R_law_simple.b .nil pass0 (pa_cons (pv 0) (pa_cons (pv 2) (pa_cons pe_int pa_nil)))))
    (pss_cons (ps_set (i := 8) scLpart.nd rfl (Or.inl rfl) (pe_call G_law_shares (hr.mono (by omega)) rfl R_law_shares.m R_law_shares.k R_law_shares.b .nil pass0 (pa_cons (pv 0) (pa_cons (pe_op op_sub (pv 4) pe_int) (pa_cons pe_int pa_nil)))))
    (pss_cons (ps_set (i := 9) scLpart.nd rfl (Or.inl rfl) (pe_call G_law_part (hr.mono (by omega)) rfl R_law_part.m R_law_part.k R_law_part.b .nil pass0 (pa_cons (pv 0) (pa_cons (pv 1) (pa_cons (pv 2) (pa_cons (pv 3) (pa_cons (pe_ix ix_list (pv 8) pe_int (fun _ _ => rfl)) (pa_cons (pe_op op_sub (pv 5) pe_int) pa_nil))))))))
    (pss_one (ps_ret (pe_tup (pa_cons pe_str (pa_cons (pv 7) (pa_cons (pv 9) (pa_cons (pe_call G_law_part (hr.mono (by omega)) rfl R_law_part.m R_law_part.k R_law_part.b .nil pass0 (pa_cons (pv 0) (pa_cons (pv 1) (pa_cons (pv 2) (pa_cons (pv 3) (pa_cons (pe_ix ix_list (pv 8) pe_int (fun _ _ => rfl)) (pa_cons (pe_op op_sub (pv 5) pe_int) pa_nil))))))) pa_nil)))))))))) pss_nil)
    (pss_cons (ps_if (pt_cmpR (op_eqD hr.units) (pe_dget (hu_of hr) (pv 1) pe_str (fun _ _ => rfl)) (pe_lst pa_nil) (nomark _)) (pss_one (ps_ret (pe_call G_law_end (hr.mono (by omega)) rfl R_law_end.m R_law_end.k R_law_end.b .nil pass0 (pa_cons (pv 0) (pa_cons (pv 1) (pa_cons (pv 2) (pa_cons (pv 3) pa_nil))))))) pss_nil)
    (pss_cons (ps_set (i := 10) scLpart.nd rfl (Or.inl rfl) (pe_bm0 PySem.F.plainAttrs_list PySem.F.slot_list_pop PySem.F.type_list_pop mt_pop (pe_dget (hu_of hr) (pv 1) pe_str (fun _ _ => rfl))))
    (pss_cons (ps_if (pt_cmpR op_eq (pv 6) pe_str (nomark _)) (pss_cons (ps_set (i := 11) scLpart.nd rfl (Or.inl rfl) (pe_bm0 PySem.F.plainAttrs_list PySem.F.slot_list_pop PySem.F.type_list_pop mt_pop (pe_dget (hu_of hr) (pv 1) pe_str (fun _ _ => rfl))))
    (pss_cons (ps_set (i := 8) scLpart.nd rfl (Or.inl rfl) (pe_call G_law_shares (hr.mono (by omega)) rfl R_law_shares.m R_law_shares.k R_law_shares.b .nil pass0 (pa_cons (pv 0) (pa_cons (pe_op op_sub (pv 4) pe_int) (pa_cons pe_int pa_nil)))))
    (pss_cons (ps_set (i := 9) scLpart.nd rfl (Or.inl rfl) (pe_call G_law_part (hr.mono (by omega)) rfl R_law_part.m R_law_part.k R_law_part.b .nil pass0 (pa_cons (pv 0) (pa_cons (pv 1) (pa_cons (pe_op op_cat (pv 2) (pe_lst (pa_cons (pv 10) pa_nil))) (pa_cons (pv 3) (pa_cons (pe_ix ix_list (pv 8) pe_int (fun _ _ => rfl)) (pa_cons (pe_op op_sub (pv 5) pe_int) pa_nil))))))))
    (Evl.pss_cut (ps_if (pt_cmpR op_eq (pe_call G_law_digit (hr.mono (by omega)) rfl R_law_digit.m R_law_digit.k R_law_digit.b .nil pass0 (pa_cons (pv 0) (pa_cons pe_int pa_nil))) pe_int (nomark _)) (pss_one (ps_set (i := 9) scLpart.nd rfl (Or.inl rfl) (pe_tup (pa_cons pe_str (pa_cons (pe_call G_law_some_hand (hr.mono (by omega)) rfl R_law_some_hand.m R_law_some_hand.k R_law_some_hand.b .nil pass0 (pa_cons (pv 0) (pa_cons (pv 1) (pa_cons (pv 3) pa_nil)))) (pa_cons (pe_tup (pa_cons pe_str (pa_cons (pv 10) pa_nil))) pa_nil)))))) pss_nil)
    (pss_one (ps_ret (pe_tup (pa_cons pe_str (pa_cons (pv 11) (pa_cons (pv 10) (pa_cons (pv 9) (pa_cons (pe_call G_law_part (hr.mono (by omega)) rfl R_law_part.m R_law_part.k R_law_part.b .nil pass0 (pa_cons (pv 0) (pa_cons (pv 1) (pa_cons (pv 2) (pa_cons (pe_op op_cat (pv 3) (pe_lst (pa_cons (pv 11) pa_nil))) (pa_cons (pe_ix ix_list (pv 8) pe_int (fun _ _ => rfl)) (pa_cons (pe_op op_sub (pv 5) pe_int) pa_nil))))))) pa_nil)))))))))))) pss_nil)
    (pss_cons (ps_set (i := 12) scLpart.nd rfl (Or.inl rfl) (pe_call G_law_simple (hr.mono (by omega)) rfl R_law_simple.m R_law_simple.k R_law_simple.b .nil pass0 (pa_cons (pv 0) (pa_cons (pv 2) (pa_cons pe_int pa_nil)))))
    (pss_one (ps_ret (pe_tup (pa_cons (pv 6) (pa_cons (pv 10) (pa_cons (pv 12) (pa_cons (pe_call G_law_part (hr.mono (by omega)) rfl R_law_part.m R_law_part.k R_law_part.b .nil pass0 (pa_cons (pv 0) (pa_cons (pv 1) (pa_cons (pe_op op_cat (pv 2) (pe_lst (pa_cons (pv 10) pa_nil))) (pa_cons (pv 3) (pa_cons (pe_op op_sub (pv 4) pe_int) (pa_cons (pe_op op_sub (pv 5) pe_int) pa_nil))))))) pa_nil)))))))))))))), ?_⟩
  have l1 := I.l1
  have l2 := I.l2
  have endW : ∀ (H1 : Hp) (s6 : Option V), But3 tp wl pl H H1 → PtIn H1 tp kd wl pl ar hl hF ws js xs hs → (tRet (tCall spEnd [] E0 (tCons (tVar 0) (tCons (tVar 1) (tCons (tVar 2) (tCons (tVar 3) tNil)))))) { nx := fun x H' => Q V.non H', rt := Q }
      [some (.ref tp), some (.ref kd), some (.ref ar), some (.ref hl), some (.int room), some (.int deep), s6, none, none, none, none, none, none] H1 := by
    intro H1 s6 b1 I1
    refine ⟨_, rfl, _, rfl, _, rfl, _, rfl, tp, kd, wl, pl, ar, hl, hF, ws, js, xs, hs, rfl, I1.g, I1.w, by omega, I1.h, I1.ne, by omega, I1.h0, fun a p H2 b2 t2 pa ok c1 c2 c3 => ?_⟩
    exact q a p H2 ws js [] [] ⟨b1.trans b2.three, I1.g.one b2 t2, I1.wj, (List.append_nil ws).symm, (List.append_nil js).symm, pa, ok, by omega, by rw [c2]; exact .slnil, by rw [c3]; exact .slnil⟩
  refine ⟨_, rfl, _, _, rfl, rfl, _, rfl, ?_⟩
  refine ite2 (fun c => iteT (endW H none (But3.refl _ _ _ _) I)) (fun c => ?_)
  have hroom : 3 ≤ room := by
    have : ¬ room < 3 := fun z => c (decide_eq_true z)
    omega
  refine ⟨_, rfl, rfl, _, rfl, ?_⟩
  refine ite2 (fun c2 => endW H none (But3.refl _ _ _ _) I) (fun c2 => ?_)
  have hdeep : deep ≠ 0 := fun z => c2 (decide_eq_true (by rw [z]))
  cases n with
  | zero => exact absurd (by omega : deep = 0) hdeep
  | succ n =>
  refine ⟨sz (by show 8 ≤ 100000; decide), fun p1 hp1 => ?_⟩
  have s1 := same_new hp1 (.lst [V.str "tell", .str "let", .str "if", .str "if", .str "post", .str "post", .str "post", .str "post"])
  have I1 := I.same s1
  have n1 := (I.g.new hp1).1
  refine ⟨_, rfl, tp, 8, rfl, I1.g.t, by decide, by decide, fun r H2 r0 r1 b2 t2 => ?_⟩
  obtain ⟨v, hv, hm⟩ := at_some (xs := [V.str "tell", .str "let", .str "if", .str "if", .str "post", .str "post", .str "post", .str "post"]) r0 r1
  have I2 := I1.one b2 t2
  have B2 : But3 tp wl pl H H2 := (but3_same s1).trans b2.three
  refine ⟨p1, _, _, _, rfl, rfl, SqL.of (b2 _ _ n1 upd_same), hv, ?_⟩
  have hcase : v = .str "if" ∨ v = .str "post" ∨ v = .str "tell" ∨ v = .str "let" := by
    simp only [List.mem_cons, List.not_mem_nil, or_false] at hm
    rcases hm with z | z | z | z | z | z | z | z
    · exact .inr (.inr (.inl z))
    · exact .inr (.inr (.inr z))
    · exact .inl z
    · exact .inl z
    · exact .inr (.inl z)
    · exact .inr (.inl z)
    · exact .inr (.inl z)
    · exact .inr (.inl z)
  rcases hcase with rfl | rest
  · -- if
    refine ⟨_, rfl, rfl, _, rfl, itT rfl ?_⟩
    refine ⟨_, rfl, _, rfl, tp, ar, xs, rfl, I2.g.t, I2.w, by omega, Nat.le_refl _, fun a3 u3 H3 b3 t3 gs => ?_⟩
    have I3 := I2.one b3 t3
    refine ⟨_, rfl, _, rfl, _, _, rfl, rfl, tp, room - 1, 2, rfl, t3, by decide, by omega, by omega, fun sp ss H4 b4 t4 fr4 h4 hl4 pos4 sum4 => ?_⟩
    have I4 := I3.one b4 t4
    obtain ⟨y0, y1, rfl⟩ : ∃ y0 y1, ss = [y0, y1] := by
      match ss, hl4 with
      | [y0, y1], _ => exact ⟨y0, y1, rfl⟩
      | [], z => cases z
      | [_], z => cases z
      | _ :: _ :: _ :: _, z => simp at z; omega
    have py0 := pos4 y0 List.mem_cons_self
    have py1 := pos4 y1 (List.mem_cons_of_mem _ List.mem_cons_self)
    have sy : y0 + y1 ≤ room - 1 := by
      have : y0 + (y1 + 0) ≤ room - 1 := sum4
      omega
    have ns := I3.g.new fr4
    refine ⟨_, rfl, _, rfl, _, rfl, _, rfl, _, rfl, sp, _, _, _, rfl, rfl, SqL.of h4, at0, _, rfl, _, _, rfl, rfl, tp, kd, wl, pl, ar, hl, hF, ws, js, xs, hs, y0, deep - 1, rfl, I4, py0, by omega, by omega, by omega, fun a5 q5 H5 ws5 js5 ls5 ms5 O5 => ?_⟩
    have le1 : ws5.length ≤ ws.length := by
      rw [O5.e1, List.length_append]
      omega
    have le2 : js5.length ≤ js.length := by
      rw [O5.e2, List.length_append]
      omega
    have I5 := I4.step O5.b O5.g O5.wj le1 le2
    have h5 := O5.b _ _ ns.1 ns.2.1 ns.2.2 h4
    refine ⟨_, rfl, _, rfl, _, rfl, _, rfl, _, rfl, _, rfl, _, rfl, sp, _, _, _, rfl, rfl, SqL.of h5, at1, _, rfl, _, _, rfl, rfl, tp, kd, wl, pl, ar, hl, hF, ws5, js5, xs, hs, y1, deep - 1, rfl, I5, py1, by omega, by omega, by omega, fun a6 q6 H6 ws6 js6 ls6 ms6 O6 => ?_⟩
    refine ⟨sz (by show 4 ≤ 100000; decide), fun p7 hp7 => ?_⟩
    have s7 := same_new hp7 (.tup [V.str "if", .ref a3, .ref a5, .ref a6])
    have b34 : But3 tp wl pl H3 H6 := (b4.three.trans O5.b).trans O6.b
    have k36 : TK H3 H6 := I3.g.tk b34
    have k56 : TK H5 H6 := I5.g.tk O6.b
    have B6 : But3 tp wl pl H H6 := (B2.trans b3.three).trans b34
    refine q p7 (.iff u3 q5 q6) _ ws6 js6 (ls5 ++ ls6) (ms5 ++ ms6) ⟨B6.trans (but3_same s7), O6.g.same s7, O6.wj, ?_, ?_, ⟨a3, a5, a6, upd_same, ((gs hF).g.at_.tk k36).mono s7, (O5.at_.tk k56).tk (tk_same s7), O6.at_.tk (tk_same s7)⟩, ⟨(gs hF).sm, O5.ok, O6.ok⟩, ?_, O5.s1.append O6.s1, O5.s2.append O6.s2⟩
    · rw [List.reverse_append, ← List.append_assoc, ← O6.e1]
      exact O5.e1
    · rw [List.reverse_append, ← List.append_assoc, ← O6.e2]
      exact O5.e2
    · have c5 := O5.cn
      have c6 := O6.cn
      show 1 + pcnt q5 + pcnt q6 ≤ room.toNat
      omega
  obtain ⟨wd, rfl, hwd⟩ : ∃ wd : Str, v = .str wd ∧ (wd = "post" ∨ wd = "tell" ∨ wd = "let") := by
    rcases rest with z | z | z
    · exact ⟨_, z, .inl rfl⟩
    · exact ⟨_, z, .inr (.inl rfl)⟩
    · exact ⟨_, z, .inr (.inr rfl)⟩
  have hnif : decide (V.str wd = V.str (Str.ofString "if")) = false := by
    rcases hwd with rfl | rfl | rfl <;> rfl
  refine ⟨_, rfl, rfl, _, rfl, itF hnif ?_⟩
  clear rest hv hm
  obtain ⟨el, hd', fs', kvs, rm, st, k2, _⟩ := I2.g.k
  refine ⟨_, rfl, kd, _, rfl, gt_words k2, sz (by show 0 ≤ 100000; decide), fun p0 hp0 => ?_⟩
  have s3 := same_new hp0 (.lst [])
  refine ⟨.list (ws.map PyData.str), .list [], .lst (SqL.of (s3 _ _ I2.g.w.1)) (dp_strs ws), .lst (SqL.of upd_same) .nil, shaped_strs I2.g.w.2, rfl, _, rfl, ?_⟩
  rw [eqv_nil]
  have I3 := I2.same s3
  have B3 := B2.trans (but3_same (tp := tp) (wl := wl) (pl := pl) s3)
  have k3 := s3 _ _ k2
  generalize upd H2 p0 (.lst []) = H3 at I3 B3 k3 ⊢
  by_cases hws : ws = []
  · exact itT (by rw [hws]; rfl) (endW H3 _ B3 I3)
  refine itF (by cases ws with | nil => exact absurd rfl hws | cons _ _ => rfl) ?_
  obtain ⟨wsx, x, rfl⟩ := snoc_of hws
  have hxW : isW x = true := I.g.w.2 x (List.mem_append_right _ List.mem_cons_self)
  have gw := I3.g.w.1
  rw [mapS] at gw
  refine ⟨_, rfl, kd, _, rfl, gt_words k3, .inl ⟨rfl, _, SqL.of gw⟩, wl, _, _, rfl, rfl, gw, lastV, ?_⟩
  rw [dropV]
  obtain ⟨g4, b4⟩ := I3.g.popW
  have wj := I.wj
  rw [List.length_append] at wj
  have wj : wsx.length + 1 ≤ js.length := wj
  have lx : (wsx ++ [x]).length = wsx.length + 1 := by rw [List.length_append]; rfl
  have I4 := I3.step b4 g4 (by omega) (by omega) (Nat.le_refl _)
  have B4 := B3.trans b4
  have k4 : (upd H3 wl (.lst (wsx.map V.str))) kd = some (.dK (knT el hd' wl pl rm st)) := by
    obtain ⟨n1, n2, n3⟩ := I3.g.ntk k3 (fun _ z => nomatch z)
    exact b4 _ _ n1 n2 n3 k3
  generalize upd H3 wl (.lst (wsx.map V.str)) = H4 at g4 b4 I4 B4 k4 ⊢
  -- what is around with one word more
  have moreW : ∀ {H5 : Hp} {ws5 js5 : List Str} (I5 : PtIn H5 tp kd wl pl ar hl hF ws5 js5 xs hs) (hw5 : ws5.length ≤ wsx.length) {p6 p7 : Addr} (hp6 : H5 p6 = none) (hp7 : upd H5 p6 (.lst [V.str x]) p7 = none),
      PtIn (upd (upd H5 p6 (.lst [V.str x])) p7 (.lst (xs.map V.str ++ [V.str x]))) tp kd wl pl p7 hl hF ws5 js5 (xs ++ [x]) hs := by
    intro H5 ws5 js5 I5 hw5 p6 p7 hp6 hp7
    have s6 := same_new hp6 (.lst [V.str x])
    have s7 := same_new hp7 (.lst (xs.map V.str ++ [V.str x]))
    have I7 := I5.same (s6.trans s7)
    have nn := (I5.same s6).g.new hp7
    have e7 := I7.l2
    refine ⟨I7.g, ⟨by rw [upd_same, mapS], fun y hy => ?_⟩, nn.2.1, nn.2.2, I7.h, I7.h0, I7.h1, I7.h2, I7.ne, I7.wj, ?_, e7⟩
    · rcases List.mem_append.mp hy with z | z
      · exact I.w.2 y z
      · rw [List.mem_singleton.mp z]
        exact hxW
    · rw [List.length_append, List.length_singleton]
      omega
  by_cases hpost : wd = "post"
  · subst hpost
    refine ⟨_, rfl, rfl, _, rfl, itT rfl ?_⟩
    obtain ⟨jsx, j, rfl⟩ := snoc_of (ws := js) (fun z => by rw [z] at wj; cases wj)
    have hjW : isW j = true := I.g.p.2 j (List.mem_append_right _ List.mem_cons_self)
    have lj : (jsx ++ [j]).length = jsx.length + 1 := by rw [List.length_append]; rfl
    have gp := I4.g.p.1
    rw [mapS] at gp
    refine ⟨_, rfl, kd, _, rfl, gt_posts k4, .inl ⟨rfl, _, SqL.of gp⟩, pl, _, _, rfl, rfl, gp, lastV, ?_⟩
    rw [dropV]
    obtain ⟨g5, b5⟩ := I4.g.popP
    have I5 := I4.step b5 g5 (by omega) (Nat.le_refl _) (by omega)
    have B5 := B4.trans b5
    generalize upd H4 pl (.lst (jsx.map V.str)) = H5 at g5 b5 I5 B5 ⊢
    refine ⟨_, rfl, _, rfl, _, _, rfl, rfl, tp, room - 1, 2, rfl, I5.g.t, by decide, by omega, by omega, fun sp ss H6 b6 t6 fr6 h6 hl6 pos6 sum6 => ?_⟩
    have I6 := I5.one b6 t6
    obtain ⟨y0, y1, rfl⟩ : ∃ y0 y1, ss = [y0, y1] := by
      match ss, hl6 with
      | [y0, y1], _ => exact ⟨y0, y1, rfl⟩
      | [], z => cases z
      | [_], z => cases z
      | _ :: _ :: _ :: _, z => simp at z; omega
    have py0 := pos6 y0 List.mem_cons_self
    have py1 := pos6 y1 (List.mem_cons_of_mem _ List.mem_cons_self)
    have sy : y0 + y1 ≤ room - 1 := by
      have : y0 + (y1 + 0) ≤ room - 1 := sum6
      omega
    have ns := I5.g.new fr6
    -- T
    refine ⟨_, rfl, _, rfl, _, rfl, _, rfl, sz (by show 1 ≤ 100000; decide), fun p7 hp7 => ?_⟩
    have s7 := same_new hp7 (.lst [V.str x])
    refine ⟨ar, p7, _, _, rfl, rfl, s7 _ _ I6.w.1, upd_same, sz (by rw [List.length_map]; show xs.length + 1 ≤ 100000; omega), fun p8 hp8 => ?_⟩
    have s8 := same_new hp8 (.lst (xs.map V.str ++ [V.str x]))
    have I8 := moreW I6 (Nat.le_refl _) hp7 hp8
    have h8 := s8 _ _ (s7 _ _ h6)
    have s68 := s7.trans s8
    generalize upd (upd H6 p7 (.lst [V.str x])) p8 (.lst (xs.map V.str ++ [V.str x])) = H8 at I8 h8 s68 ⊢
    refine ⟨_, rfl, _, rfl, sp, _, _, _, rfl, rfl, SqL.of h8, at0, _, rfl, _, _, rfl, rfl, tp, kd, wl, pl, p8, hl, hF, wsx, jsx, xs ++ [x], hs, y0, deep - 1, rfl, I8, py0, by omega, by omega, by omega, fun a9 q9 H9 ws9 js9 ls9 ms9 O9 => ?_⟩
    have le1 : ws9.length ≤ wsx.length := by
      rw [O9.e1, List.length_append]
      omega
    have le2 : js9.length ≤ jsx.length := by
      rw [O9.e2, List.length_append]
      omega
    have b69 : But3 tp wl pl H6 H9 := (but3_same s68).trans O9.b
    have I9 := I6.step b69 O9.g O9.wj le1 le2
    have h9 := O9.b _ _ ns.1 ns.2.1 ns.2.2 h8
    refine ⟨fun σ' H' => ∃ a q, σ' = [some (.ref tp), some (.ref kd), some (.ref ar), some (.ref hl), some (.int room), some (.int deep), some (.str "post"), none, some (.ref sp), some (.ref a), some (.str x), some (.str j), none] ∧ But3 tp wl pl H9 H' ∧ PtIn H' tp kd wl pl ar hl hF ws9 js9 xs hs ∧
      H' sp = some (.lst ([y0, y1].map V.int)) ∧ PAt H' q a ∧ okP hF q (xs ++ [x]) hs ∧ pcnt q ≤ y0.toNat ∧ (wdP q).Sublist ls9 ∧ (jP q).Sublist ms9, ?_, ?_⟩
    · refine ⟨_, rfl, tp, 8, rfl, I9.g.t, by decide, by decide, fun r10 H10 r100 r101 b10 t10 => ⟨rfl, _, rfl, ?_⟩⟩
      have I10 := I9.one b10 t10
      have h10 := b10 _ _ ns.1 h9
      refine ite2 (fun c => ?_) (fun c => ?_)
      · refine ⟨_, rfl, _, rfl, _, rfl, tp, kd, wl, pl, hl, hF, ws9, js9, hs, rfl, I10.g, I10.h, I10.ne, by have := I10.l2; omega, I10.h0, fun jj H11 b11 t11 hjj => ?_⟩
        have I11 := I10.one b11 t11
        refine ⟨_, rfl, sz (by show 2 ≤ 100000; decide), fun p12 hp12 => ⟨sz (by show 3 ≤ 100000; decide), fun p13 hp13 => ?_⟩⟩
        have s12 := same_new hp12 (.tup [V.str "name", .str x])
        have s13 := same_new hp13 (.tup [V.str "give", .str jj, .ref p12])
        have gn : Gd (upd (upd H11 p12 (.tup [V.str "name", .str x])) p13 (.tup [V.str "give", .str jj, .ref p12])) p12 1 1 hF (xs ++ [x]) [] (mkL (.nam x) []) := gd_nam ⟨rfl, s13 _ _ upd_same⟩ hxW (List.mem_append_right _ List.mem_cons_self)
        refine ⟨p13, .give jj (mkL (.nam x) []), rfl, ((b10.three.trans b11.three).trans (but3_same s12)).trans (but3_same s13), (I11.same s12).same s13, s13 _ _ (s12 _ _ (b11 _ _ ns.1 h10)), ⟨p12, upd_same, gn.at_⟩, ⟨hjj, gn.ok, simple_mkL rfl (fun _ z => nomatch z), gn.sc, Nat.le_trans gn.cn (by decide), gn.dp.le (by decide)⟩, by show 1 ≤ y0.toNat; omega, List.nil_sublist _, List.nil_sublist _⟩
      · exact ⟨a9, q9, rfl, b10.three, I10, h10, O9.at_.tk (b10.tk I9.g.t), O9.ok, O9.cn, O9.s1, O9.s2⟩
    rintro σ10 H10 ⟨a10, q10, rfl, b10, I10, h10, pa10, ok10, cn10, su10, sj10⟩
    -- U
    refine ⟨_, rfl, _, rfl, _, rfl, _, rfl, _, rfl, _, rfl, _, rfl, _, rfl, sz (by show 1 ≤ 100000; decide), fun p11 hp11 => ?_⟩
    have s11 := same_new hp11 (.lst [V.str j])
    refine ⟨hl, p11, _, _, rfl, rfl, s11 _ _ I10.h, upd_same, sz (by rw [List.length_map]; show hs.length + 1 ≤ 100000; omega), fun p12 hp12 => ?_⟩
    have s12 := same_new hp12 (.lst (hs.map V.str ++ [V.str j]))
    have I12 := I10.same (s11.trans s12)
    have nn := (I10.same s11).g.new hp12
    have hH : (upd (upd H10 p11 (.lst [V.str j])) p12 (.lst (hs.map V.str ++ [V.str j]))) p12 = some (.lst ((hs ++ [j]).map V.str)) := by
      rw [upd_same, mapS]
    have h12 := s12 _ _ (s11 _ _ h10)
    have s1012 := s11.trans s12
    generalize upd (upd H10 p11 (.lst [V.str j])) p12 (.lst (hs.map V.str ++ [V.str j])) = H12 at I12 hH h12 s1012 ⊢
    have J12 : PtIn H12 tp kd wl pl ar p12 hF ws9 js9 xs (hs ++ [j]) := ⟨I12.g, I12.w, I12.a1, I12.a2, hH, nn.1, nn.2.1, nn.2.2, by simp, I12.wj, I12.l1, by rw [List.length_append, List.length_singleton]; omega⟩
    refine ⟨_, rfl, sp, _, _, _, rfl, rfl, SqL.of h12, at1, _, rfl, _, _, rfl, rfl, tp, kd, wl, pl, ar, p12, hF, ws9, js9, xs, hs ++ [j], y1, deep - 1, rfl, J12, py1, by omega, by omega, by omega, fun a13 q13 H13 ws13 js13 ls13 ms13 O13 => ?_⟩
    refine ⟨sz (by show 5 ≤ 100000; decide), fun p14 hp14 => ?_⟩
    have s14 := same_new hp14 (.tup [V.str "post", .str j, .str x, .ref a10, .ref a13])
    have k1013 : TK H10 H13 := (tk_same s1012).trans (I12.g.tk O13.b)
    have BE : But3 tp wl pl H H13 := (((B5.trans b6.three).trans b69).trans b10).trans ((but3_same s1012).trans O13.b)
    refine q p14 (.post j x q10 q13) _ ws13 js13 (x :: (ls9 ++ ls13)) (j :: (ms9 ++ ms13)) ⟨BE.trans (but3_same s14), O13.g.same s14, O13.wj, ?_, ?_, ⟨a10, a13, upd_same, (pa10.tk k1013).tk (tk_same s14), O13.at_.tk (tk_same s14)⟩, ⟨hjW, hxW, ok10, O13.ok⟩, ?_, (su10.append O13.s1).cons_cons x, (sj10.append O13.s2).cons_cons j⟩
    · rw [O9.e1, O13.e1]
      simp
    · rw [O9.e2, O13.e2]
      simp
    · have c13 := O13.cn
      show 1 + pcnt q10 + pcnt q13 ≤ room.toNat
      omega
  · have hnp : decide (V.str wd = V.str (Str.ofString "post")) = false := decide_eq_false fun z => hpost (V.str.inj z)
    refine ⟨_, rfl, rfl, _, rfl, itF hnp ?_⟩
    have hwd2 : wd = "tell" ∨ wd = "let" := hwd.resolve_left hpost
    refine ⟨_, rfl, _, rfl, tp, ar, xs, rfl, I4.g.t, I4.w, by omega, Nat.le_refl _, fun a5 u5 H5 b5 t5 gs => ?_⟩
    have I5 := I4.one b5 t5
    refine ⟨_, rfl, _, rfl, _, rfl, _, rfl, _, rfl, _, rfl, _, rfl, sz (by show 1 ≤ 100000; decide), fun p7 hp7 => ?_⟩
    have s7 := same_new hp7 (.lst [V.str x])
    refine ⟨ar, p7, _, _, rfl, rfl, s7 _ _ I5.w.1, upd_same, sz (by rw [List.length_map]; show xs.length + 1 ≤ 100000; omega), fun p8 hp8 => ?_⟩
    have s8 := same_new hp8 (.lst (xs.map V.str ++ [V.str x]))
    have I8 := moreW I5 (Nat.le_refl _) hp7 hp8
    have s58 := s7.trans s8
    generalize upd (upd H5 p7 (.lst [V.str x])) p8 (.lst (xs.map V.str ++ [V.str x])) = H8 at I8 s58 ⊢
    refine ⟨_, rfl, _, rfl, _, _, rfl, rfl, _, rfl, _, _, rfl, rfl, tp, kd, wl, pl, p8, hl, hF, wsx, js, xs ++ [x], hs, room - 1, deep - 1, rfl, I8, by omega, by omega, by omega, by omega, fun a9 q9 H9 ws9 js9 ls9 ms9 O9 => ?_⟩
    refine ⟨sz (by show 4 ≤ 100000; decide), fun p14 hp14 => ?_⟩
    have s14 := same_new hp14 (.tup [V.str wd, .str x, .ref a5, .ref a9])
    have k59 : TK H5 H9 := (tk_same s58).trans (I8.g.tk O9.b)
    have BE : But3 tp wl pl H H9 := ((B4.trans b5.three).trans (but3_same s58)).trans O9.b
    have hatT := ((gs hF).g.at_.tk k59).tk (tk_same s14)
    have hatP := O9.at_.tk (tk_same s14)
    have e1 : wsx ++ [x] = ws9 ++ (x :: ls9).reverse := by
      rw [O9.e1]
      simp
    have hc : 1 + pcnt q9 ≤ room.toNat := by
      have := O9.cn
      omega
    rcases hwd2 with rfl | rfl
    · exact q p14 (.tell x u5 q9) _ ws9 js9 (x :: ls9) ms9 ⟨BE.trans (but3_same s14), O9.g.same s14, O9.wj, e1, O9.e2, ⟨a5, a9, upd_same, hatT, hatP⟩, ⟨hxW, (gs hF).sm, O9.ok⟩, hc, O9.s1.cons_cons x, O9.s2⟩
    · exact q p14 (.lett x u5 q9) _ ws9 js9 (x :: ls9) ms9 ⟨BE.trans (but3_same s14), O9.g.same s14, O9.wj, e1, O9.e2, ⟨a5, a9, upd_same, hatT, hatP⟩, ⟨hxW, (gs hF).sm, O9.ok⟩, hc, O9.s1.cons_cons x, O9.s2⟩
end
end KB

namespace KB
open PySem L2

section
variable {P : Program} {w : World} {K : PySem.W.Frag} {mg : Str → Option Value} {base : Heap}
theorem all_part (T : Txt K mg) {f fg fh fe fs fq : Addr} {fd gd hd ed sd qd : FuncData} (F : Fun K "_law_part" "_law_part" s_law_part f fd) (G_law_digit : FnOk P w K mg base CX0 1 fg gd ["tape", "many"] spDig) (R_law_digit : Ref K mg "_law_digit" fg gd ["tape", "many"])
    (G_law_some_hand : FnOk P w K mg base CX0 2 fh hd ["tape", "known", "hands"] spHand) (R_law_some_hand : Ref K mg "_law_some_hand" fh hd ["tape", "known", "hands"]) (G_law_end : FnOk P w K mg base CX0 6 fe ed ["tape", "known", "around", "hands"] spEnd) (R_law_end : Ref K mg "_law_end" fe ed ["tape", "known", "around", "hands"])
    (G_law_simple : FnOk P w K mg base CX0 5 fs sd ["tape", "around", "deep"] (spSimple 1)) (R_law_simple : Ref K mg "_law_simple" fs sd ["tape", "around", "deep"]) (G_law_shares : FnOk P w K mg base CX0 2 fq qd ["tape", "room", "many"] spShr) (R_law_shares : Ref K mg "_law_shares" fq qd ["tape", "room", "many"])
    (R_law_part : Ref K mg "_law_part" f fd ["tape", "known", "around", "hands", "room", "deep"]) : ∀ n : Nat, FnOk P w K mg base CX0 (n + 7) f fd ["tape", "known", "around", "hands", "room", "deep"] (spPart n)
  | 0 => ok_part T 0 F G_law_digit R_law_digit G_law_some_hand R_law_some_hand G_law_end R_law_end G_law_simple R_law_simple G_law_shares R_law_shares no_sp R_law_part
  | n + 1 => ok_part T (n + 1) F G_law_digit R_law_digit G_law_some_hand R_law_some_hand G_law_end R_law_end G_law_simple R_law_simple G_law_shares R_law_shares (all_part T F G_law_digit R_law_digit G_law_some_hand R_law_some_hand G_law_end R_law_end G_law_simple R_law_simple G_law_shares R_law_shares R_law_part n) R_law_part
/-! ### _law_turned_body -/
def spLTBody : Sp := fun vs H Q _ => ∃ (tp kd wl pl nl : Addr) (hF : Str → Option Nat) (ws js xs : List Str), vs = [.ref tp, .ref kd, .ref nl] ∧ GT H tp kd wl pl hF ws js ∧ Wls H nl xs ∧ nl ≠ wl ∧ nl ≠ pl ∧ ws.length ≤ js.length ∧ xs.length + ws.length ≤ 100 ∧ js.length ≤ 100 ∧
  ∀ a p H' ws' js' ls ms, PtOut H H' tp kd wl pl hF ws js xs ["home"] 13 a p ws' js' ls ms → Q (.ref a) H'
theorem PtOut.le {H H' : Hp} {tp kd wl pl : Addr} {hF : Str → Option Nat} {ws js xs hs : List Str} {n m : Nat} {a : Addr} {p : Pt} {ws' js' ls ms : List Str} (h : n ≤ m) (O : PtOut H H' tp kd wl pl hF ws js xs hs n a p ws' js' ls ms) : PtOut H H' tp kd wl pl hF ws js xs hs m a p ws' js' ls ms :=
  ⟨O.b, O.g, O.wj, O.e1, O.e2, O.at_, O.ok, Nat.le_trans O.cn h, O.s1, O.s2⟩
theorem PtOut.pre {H0 H H' : Hp} {tp kd wl pl : Addr} {hF : Str → Option Nat} {ws js xs hs : List Str} {n : Nat} {a : Addr} {p : Pt} {ws' js' ls ms : List Str} (b : But3 tp wl pl H0 H) (O : PtOut H H' tp kd wl pl hF ws js xs hs n a p ws' js' ls ms) : PtOut H0 H' tp kd wl pl hF ws js xs hs n a p ws' js' ls ms :=
  ⟨b.trans O.b, O.g, O.wj, O.e1, O.e2, O.at_, O.ok, O.cn, O.s1, O.s2⟩
abbrev s_law_turned_body : Stmt := top 54
theorem scLturned_body : FnScope ["tape", "known", "names", "one", "two"] ["tape", "known", "names"] (defScope s_law_turned_body) := ⟨rfl, rfl, rfl, by decide +kernel, rfl, by decide +kernel, by decide +kernel⟩
theorem ok_ltbody (T : Txt K mg) {f fg fp : Addr} {fd gd pd_ : FuncData} (F : Fun K "_law_turned_body" "_law_turned_body" s_law_turned_body f fd) (G_law_digit : FnOk P w K mg base CX0 1 fg gd ["tape", "many"] spDig) (R_law_digit : Ref K mg "_law_digit" fg gd ["tape", "many"])
    (G_law_part : FnOk P w K mg base CX0 15 fp pd_ ["tape", "known", "around", "hands", "room", "deep"] (spPart 8)) (R_law_part : Ref K mg "_law_part" fp pd_ ["tape", "known", "around", "hands", "room", "deep"]) : FnOk P w K mg base CX0 16 f fd ["tape", "known", "names"] spLTBody := by
  refine F.ok scLturned_body (fun vs H Q E h => ?_) (fun cdv A outer s H vs Q E hr h => ?_)
  · obtain ⟨tp, kd, wl, pl, nl, hF, ws, js, xs, rfl, _⟩ := h
    rfl
  obtain ⟨tp, kd, wl, pl, nl, hF, ws, js, xs, rfl, g, hw, n1, n2, wj, l1, l2, q⟩ := h
  refine ⟨_, (pss_cons (ps_if (PW.pt (pw_and (pt_cmpR (op_neD hr.units) (pv 2) (pe_lst pa_nil) (nomark _)) (pw_and1 (pt_cmpR op_gt (pe_call G_law_digit (hr.mono (by omega)) rfl R_law_digit.m R_law_digit.k R_law_digit.b .nil pass0 (pa_cons (pv 0) (pa_cons pe_int pa_nil))) pe_int (nomark _))))) (pss_cons (ps_set (i := 3) scLturned_body.nd rfl (Or.inl rfl) (pe_call G_law_part (hr.mono (by omega)) rfl R_law_part.m R_law_part.k R_law_part.b .nil pass0 (pa_cons (pv 0) (pa_cons (pv 1) (pa_cons (pv 2) (pa_cons (pe_lst (pa_cons pe_str pa_nil)) (pa_cons (pe_dget (hu_of hr) (pv 1) pe_str (fun _ _ => rfl)) (pa_cons pe_int pa_nil))))))))
    (pss_cons (ps_set (i := 4) scLturned_body.nd rfl (Or.inl rfl) (pe_call G_law_part (hr.mono (by omega)) rfl R_law_part.m R_law_part.k R_law_part.b .nil pass0 (pa_cons (pv 0) (pa_cons (pv 1) (pa_cons (pv 2) (pa_cons (pe_lst (pa_cons pe_str pa_nil)) (pa_cons pe_int (pa_cons pe_int pa_nil))))))))
    (pss_one (ps_ret (pe_tup (pa_cons pe_str (pa_cons (pe_tup (pa_cons pe_str (pa_cons (pe_ix ix_list (pv 2) pe_int (fun _ _ => rfl)) pa_nil))) (pa_cons (pv 3) (pa_cons (pv 4) pa_nil))))))))) pss_nil)
    (pss_one (ps_ret (pe_call G_law_part (hr.mono (by omega)) rfl R_law_part.m R_law_part.k R_law_part.b .nil pass0 (pa_cons (pv 0) (pa_cons (pv 1) (pa_cons (pv 2) (pa_cons (pe_lst (pa_cons pe_str pa_nil)) (pa_cons (pe_dget (hu_of hr) (pv 1) pe_str (fun _ _ => rfl)) (pa_cons pe_int pa_nil)))))))))), ?_⟩
  -- home around
  have inH : ∀ {H1 : Hp} {ws1 js1 : List Str} {ph : Addr}, GT H1 tp kd wl pl hF ws1 js1 → Wls H1 nl xs → H1 ph = none → ws1.length ≤ js1.length → ws1.length ≤ ws.length → js1.length ≤ js.length → PtIn (upd H1 ph (.lst [V.str "home"])) tp kd wl pl nl ph hF ws1 js1 xs ["home"] := by
    intro H1 ws1 js1 ph g1 w1 hph a1 a2 a3
    have sp := same_new hph (.lst [V.str "home"])
    have nn := g1.new hph
    exact ⟨g1.same sp, w1.but (but_same sp) g1.t, n1, n2, upd_same, nn.1, nn.2.1, nn.2.2, by simp, a1, by omega, by show 1 + js1.length ≤ 200; omega⟩
  obtain ⟨el, hd', fs', kvs, rm, st, k1, rm1, rm9, _⟩ := g.k
  have nk := g.ntk k1 (fun _ z => nomatch z)
  have finalW : ∀ H1, But1 tp H H1 → Tp H1 tp → _ := fun (H1 : Hp) (b1 : But1 tp H H1) (t1 : Tp H1 tp) =>
    (show (tRet (tCall (spPart 8) [] E0 (tCons (tVar 0) (tCons (tVar 1) (tCons (tVar 2) (tCons (tLst (tCons (tC (.str "home")) tNil)) (tCons (tDGet (tVar 1) (tC (.str "room"))) (tCons (tC (.int 8)) tNil)))))))) { nx := fun x H' => Q V.non H', rt := Q } [some (.ref tp), some (.ref kd), some (.ref nl), none, none] H1 from by
      refine ⟨_, rfl, _, rfl, _, rfl, sz (by show 1 ≤ 100000; decide), fun ph hph => ?_⟩
      have s2 := same_new hph (.lst [V.str "home"])
      have g1 := g.one b1 t1
      refine ⟨_, rfl, kd, _, rfl, gt_room (s2 _ _ (b1 _ _ nk.1 k1)), tp, kd, wl, pl, nl, ph, hF, ws, js, xs, ["home"], rm, 8, rfl, inH g1 (hw.but b1 g.t) hph wj (Nat.le_refl _) (Nat.le_refl _), rm1, by omega, by decide, by decide, fun a p H' ws' js' ls ms O => ?_⟩
      exact q a p H' ws' js' ls ms ((O.pre (b1.three.trans (but3_same s2))).le (by omega)))
  refine ⟨_, rfl, sz (by show 0 ≤ 100000; decide), fun p0 hp0 => ?_⟩
  have s0 := same_new hp0 (.lst [])
  refine ⟨.list (xs.map PyData.str), .list [], .lst (SqL.of (s0 _ _ hw.1)) (dp_strs xs), .lst (SqL.of upd_same) .nil, shaped_strs hw.2, rfl, _, rfl, ?_⟩
  rw [eqv_nil]
  have g0 := g.same s0
  have w0 := hw.but (but_same s0) g.t
  have b0 : But1 tp H (upd H p0 (.lst [])) := but_same s0
  generalize upd H p0 (.lst []) = H0 at g0 w0 b0 ⊢
  cases xs with
  | nil => exact itF rfl (iteF (finalW H0 b0 g0.t))
  | cons x xr =>
    refine itT rfl ⟨_, rfl, tp, 4, rfl, g0.t, by decide, by decide, fun r H1 r0 r1 b1 t1 => ?_⟩
    have b01 := b0.trans b1
    refine ⟨_, _, rfl, rfl, _, rfl, ?_⟩
    refine ite2 (fun c => ?_) (fun c => finalW H1 b01 t1)
    have g1 := g0.one b1 t1
    have w1 := w0.but b1 g0.t
    have k11 := b01 _ _ nk.1 k1
    -- one
    refine ⟨_, rfl, _, rfl, _, rfl, sz (by show 1 ≤ 100000; decide), fun ph hph => ?_⟩
    have s2 := same_new hph (.lst [V.str "home"])
    refine ⟨_, rfl, kd, _, rfl, gt_room (s2 _ _ k11), tp, kd, wl, pl, nl, ph, hF, ws, js, x :: xr, ["home"], rm, 7, rfl, inH g1 w1 hph wj (Nat.le_refl _) (Nat.le_refl _), rm1, by omega, by decide, by decide, fun a3 q3 H3 ws3 js3 ls3 ms3 O3 => ?_⟩
    have le1 : ws3.length ≤ ws.length := by
      rw [O3.e1, List.length_append]
      omega
    have le2 : js3.length ≤ js.length := by
      rw [O3.e2, List.length_append]
      omega
    have B3 : But3 tp wl pl H1 H3 := (but3_same s2).trans O3.b
    have w3 := w1.three B3 g1 n1 n2
    -- two
    refine ⟨_, rfl, _, rfl, _, rfl, sz (by show 1 ≤ 100000; decide), fun ph4 hph4 => ?_⟩
    have s4 := same_new hph4 (.lst [V.str "home"])
    refine ⟨tp, kd, wl, pl, nl, ph4, hF, ws3, js3, x :: xr, ["home"], 3, 2, rfl, inH O3.g w3 hph4 O3.wj le1 le2, by decide, by decide, by decide, by decide, fun a5 q5 H5 ws5 js5 ls5 ms5 O5 => ?_⟩
    have B5 : But3 tp wl pl H3 H5 := (but3_same s4).trans O5.b
    have w5 := w3.three B5 O3.g n1 n2
    refine ⟨_, rfl, nl, _, _, _, rfl, rfl, SqL.of w5.1, at0, sz (by show 2 ≤ 100000; decide), fun p6 hp6 => ⟨_, rfl, _, rfl, sz (by show 4 ≤ 100000; decide), fun p7 hp7 => ?_⟩⟩
    have s6 := same_new hp6 (.tup [V.str "name", .str x])
    have s7 := same_new hp7 (.tup [V.str "if", .ref p6, .ref a3, .ref a5])
    have s67 := s6.trans s7
    have gn := gd_nam (hd := hF) (xs := x :: xr) (H := upd (upd H5 p6 (.tup [V.str "name", .str x])) p7 (.tup [V.str "if", .ref p6, .ref a3, .ref a5])) (a := p6) (x := x) ⟨rfl, s7 _ _ upd_same⟩ (hw.2 x List.mem_cons_self) List.mem_cons_self
    have k35 : TK H3 H5 := O3.g.tk B5
    refine q p7 (.iff (mkL (.nam x) []) q3 q5) _ ws5 js5 (ls3 ++ ls5) (ms3 ++ ms5) ⟨((b01.three.trans B3).trans B5).trans (but3_same s67), O5.g.same s67, O5.wj, ?_, ?_, ⟨p6, a3, a5, upd_same, gn.at_, (O3.at_.tk k35).tk (tk_same s67), O5.at_.tk (tk_same s67)⟩, ⟨⟨gn.ok, simple_mkL rfl (fun _ z => nomatch z), gn.sc, Nat.le_trans gn.cn (by decide), gn.dp.le (by decide)⟩, O3.ok, O5.ok⟩, ?_, O3.s1.append O5.s1, O3.s2.append O5.s2⟩
    · rw [O3.e1, O5.e1]
      simp
    · rw [O3.e2, O5.e2]
      simp
    · have c3 := O3.cn
      have c5 : pcnt q5 ≤ 3 := O5.cn
      show 1 + pcnt q3 + pcnt q5 ≤ 13
      omega
end
end KB

namespace KB
open PySem L2

/-! ### turned books -/
abbrev TEr := Str × List Str × Pt
def TErV (H : Hp) (e : TEr) (v : V) : Prop := ∃ q r b, v = .ref q ∧ H q = some (.tup [.str e.1, .ref r, .ref b]) ∧ H r = some (.tup (e.2.1.map V.str)) ∧ PAt H e.2.2 b
theorem TErV.tk {H H' : Hp} (t : TK H H') {e : TEr} {v : V} (h : TErV H e v) : TErV H' e v :=
  let ⟨q, r, b, e1, h1, h2, h3⟩ := h; ⟨q, r, b, e1, t _ _ h1, t _ _ h2, h3.tk t⟩
def TBkAt (H : Hp) (es : List TEr) (vs : List V) (p : Addr) : Prop := H p = some (.tup vs) ∧ All2 (TErV H) es vs
structure GdTE (hF : Str → Option Nat) (e : TEr) : Prop where
  w : isW e.1 = true
  ws : ∀ x ∈ e.2.1, isW x = true
  n4 : e.2.1.length ≤ 4
  ok : okP hF e.2.2 e.2.1 ["home"]
  cn : pcnt e.2.2 ≤ 13
  hf : hF e.1 = some e.2.1.length
  un : (e.2.1 ++ wdP e.2.2).Nodup
  uj : (jP e.2.2).Nodup
structure GdTB (es : List TEr) : Prop where
  len : 1 ≤ es.length ∧ es.length ≤ 6
  nd : (es.map (·.1)).Nodup
  er : ∃ hF : Str → Option Nat, (∀ e ∈ es, GdTE hF e) ∧ ∀ f n, hF f = some n → f ∈ es.map (·.1)
def knT4 (el hd wl : Addr) (room : Int) : List (Key × V) := [(kgE, .ref el), (kgH, .ref hd), (kgW, .ref wl), (kgR, .int room)]
theorem merge_kn4 (el hd wl : Addr) (room : Int) : mergeK [] (knT4 el hd wl room) = knT4 el hd wl room := rfl
section
variable {P : Program} {w : World} {K : PySem.W.Frag} {mg : Str → Option Value} {base : Heap}
/-! ### _law_turned_book -/
def spLTBook (K : PySem.W.Frag) : Sp := fun vs H Q _ => ∃ (sc : Addr) (ns : List Int) (start : Int) (st : Bool), vs = [.ref sc, .int start, .bl st] ∧ SqL K H sc (ns.map V.int) ∧ 0 ≤ start ∧ start ≤ 100 ∧ ∀ p es us H', Same H H' → TBkAt H' es us p → GdTB es → Q (.ref p) H'
abbrev s_law_turned_book : Stmt := top 55
theorem scLturned_book : FnScope ["script", "start", "straight", "head", "errands", "heads", "f", "room", "found", "k", "tape", "words", "names", "known"] ["script", "start", "straight"] (defScope s_law_turned_book) := ⟨rfl, rfl, rfl, by decide +kernel, rfl, by decide +kernel, by decide +kernel⟩
theorem ok_ltbook (T : Txt K mg) {f fg ft fw fb : Addr} {fd gd td wd bd : FuncData} (F : Fun K "_law_turned_book" "_law_turned_book" s_law_turned_book f fd) (G_law_digit : FnOk P w K mg base CX0 1 fg gd ["tape", "many"] spDig) (R_law_digit : Ref K mg "_law_digit" fg gd ["tape", "many"])
    (G_law_tape : FnOk P w K mg base CX0 2 ft td ["script", "k"] (spTape K)) (R_law_tape : Ref K mg "_law_tape" ft td ["script", "k"]) (G_law_words : FnOk P w K mg base CX0 2 fw wd ["tape", "many"] spWords) (R_law_words : Ref K mg "_law_words" fw wd ["tape", "many"])
    (G_law_turned_body : FnOk P w K mg base CX0 16 fb bd ["tape", "known", "names"] spLTBody) (R_law_turned_body : Ref K mg "_law_turned_body" fb bd ["tape", "known", "names"]) : FnOk P w K mg base CX0 17 f fd ["script", "start", "straight"] (spLTBook K) := by
  refine F.ok scLturned_book (fun vs H Q E h => ?_) (fun cdv A outer s H vs Q E hr h => ?_)
  · obtain ⟨sc, ns, start, st, rfl, _⟩ := h
    rfl
  obtain ⟨sc, ns, start, st, rfl, hS, hst0, hst1, q⟩ := h
  refine ⟨_, (pss_cons (ps_set (i := 3) scLturned_book.nd rfl (Or.inl rfl) (pe_call G_law_tape (hr.mono (by omega)) rfl R_law_tape.m R_law_tape.k R_law_tape.b .nil pass0 (pa_cons (pv 0) (pa_cons (pv 1) pa_nil))))
    (pss_cons (ps_set (i := 4) scLturned_book.nd rfl (Or.inl rfl) (pe_call G_law_words (hr.mono (by omega)) rfl R_law_words.m R_law_words.k R_law_words.b .nil pass0 (pa_cons (pv 3) (pa_cons (pe_ix ix_list (pe_lst (pa_cons pe_int (pa_cons pe_int (pa_cons pe_int (pa_cons pe_int (pa_cons pe_int (pa_cons pe_int pa_nil))))))) (pe_call G_law_digit (hr.mono (by omega)) rfl R_law_digit.m R_law_digit.k R_law_digit.b .nil pass0 (pa_cons (pv 3) (pa_cons pe_int pa_nil))) (fun _ _ => rfl)) pa_nil))))
    (pss_cons (ps_set (i := 5) scLturned_book.nd rfl (Or.inl rfl) pe_dnewK)
    (pss_cons (ps_for PassesOwn.never rfl (pi_list (pv 4)) (pg_name (i := 6) scLturned_book.nd rfl (Or.inl rfl)) (pss_one (ps_dput (hu_of hr) (pv 5) (pv 6) (pe_ix ix_list (pe_lst (pa_cons pe_int (pa_cons pe_int (pa_cons pe_int (pa_cons pe_int (pa_cons pe_int (pa_cons pe_int pa_nil))))))) (pe_call G_law_digit (hr.mono (by omega)) rfl R_law_digit.m R_law_digit.k R_law_digit.b .nil pass0 (pa_cons (pv 3) (pa_cons pe_int pa_nil))) (fun _ _ => rfl)) rfl)))
    (pss_cons (ps_set (i := 7) scLturned_book.nd rfl (Or.inl rfl) (pe_ix ix_list (pe_lst (pa_cons pe_int (pa_cons pe_int (pa_cons pe_int (pa_cons pe_int pa_nil))))) (pe_call G_law_digit (hr.mono (by omega)) rfl R_law_digit.m R_law_digit.k R_law_digit.b .nil pass0 (pa_cons (pv 3) (pa_cons pe_int pa_nil))) (fun _ _ => rfl)))
    (pss_cons (ps_set (i := 8) scLturned_book.nd rfl (Or.inl rfl) (pe_lst pa_nil))
    (pss_cons (ps_for PassesOwn.never rfl (pi_range1 rfl T.m_range (pa_cons (pe_callB call_len_seq (by rfl) T.m_len PySem.boot_len (pa_cons (pv 4) pa_nil)) pa_nil)) (pg_name (i := 9) scLturned_book.nd rfl (Or.inl rfl)) (pss_cons (ps_set (i := 10) scLturned_book.nd rfl (Or.inl rfl) (pe_call G_law_tape (hr.mono (by omega)) rfl R_law_tape.m R_law_tape.k R_law_tape.b .nil pass0 (pa_cons (pv 0) (pa_cons (pe_op op_add (pe_op op_add (pv 1) pe_int) (pv 9)) pa_nil))))
    (pss_cons (ps_set (i := 11) scLturned_book.nd rfl (Or.inl rfl) (pe_call G_law_words (hr.mono (by omega)) rfl R_law_words.m R_law_words.k R_law_words.b .nil pass0 (pa_cons (pv 10) (pa_cons pe_int pa_nil))))
    (pss_cons (ps_set (i := 12) scLturned_book.nd rfl (Or.inl rfl) (pe_slice sl_list (pv 11) po_none (po_some (pe_dget (hu_of hr) (pv 5) (pe_ix ix_list (pv 4) (pv 9) (fun _ _ => rfl)) (fun _ _ => rfl)))))
    (pss_cons (ps_set (i := 13) scLturned_book.nd rfl (Or.inl rfl) (pe_disp (pps_cons pe_str (pv 4) (pps_cons pe_str (pv 5) (pps_cons pe_str (pe_slice sl_list (pv 11) (po_some (pe_callB call_len_seq (by rfl) T.m_len PySem.boot_len (pa_cons (pv 12) pa_nil))) po_none) (pps_cons pe_str (pv 7) pps_nil)))) (by rfl) (by rfl) (fun z => by cases z) (by decide)))
    (pss_cons (ps_dput (hu_of hr) (pv 13) pe_str (pe_call G_law_words (hr.mono (by omega)) rfl R_law_words.m R_law_words.k R_law_words.b .nil pass0 (pa_cons (pv 10) (pa_cons pe_int pa_nil))) rfl)
    (pss_cons (ps_dput (hu_of hr) (pv 13) pe_str (pv 2) rfl)
    (pss_one (ps_expr (pe_bm PySem.F.plainAttrs_list PySem.F.slot_list_append PySem.F.type_list_append mt_append (pv 8) (pa_cons (pe_tup (pa_cons (pe_ix ix_list (pv 4) (pv 9) (fun _ _ => rfl)) (pa_cons (pe_callTy call_tuple_of (by rfl) T.m_tuple (by decide +kernel) (pa_cons (pv 12) pa_nil)) (pa_cons (pe_call G_law_turned_body hr rfl R_law_turned_body.m R_law_turned_body.k R_law_turned_body.b .nil pass0 (pa_cons (pv 10) (pa_cons (pv 13) (pa_cons (pv 12) pa_nil)))) pa_nil)))) pa_nil)))))))))))
    (pss_one (ps_ret (pe_callTy call_tuple_of (by rfl) T.m_tuple (by decide +kernel) (pa_cons (pv 8) pa_nil))))))))))), ?_⟩
  refine ⟨_, rfl, _, rfl, sc, ns, start, rfl, hS, hst0, by omega, fun hp z0 hhp => ?_⟩
  have s1 := same_new hhp (.lst [.int z0])
  have t1 : Tp (upd H hp (.lst [.int z0])) hp := ⟨z0, upd_same⟩
  -- errands
  refine ⟨_, rfl, sz (by show 6 ≤ 100000; decide), fun p2 hp2 => ?_⟩
  have s2 := same_new hp2 (.lst [.int 1, .int 2, .int 2, .int 3, .int 4, .int 6])
  have t2 := t1.same s2
  have n2 : p2 ≠ hp := (ne_of_none upd_same hp2).symm
  refine ⟨_, rfl, hp, 6, rfl, t2, by decide, by decide, fun r H3 r0 r1 b3 t3 => ?_⟩
  have hme : ∃ m : Int, atI [V.int 1, .int 2, .int 2, .int 3, .int 4, .int 6] r = some (.int m) ∧ 1 ≤ m ∧ m ≤ 6 := by
    obtain ⟨v, hv, hm⟩ := at_some (xs := [V.int 1, .int 2, .int 2, .int 3, .int 4, .int 6]) r0 r1
    simp only [List.mem_cons, List.not_mem_nil, or_false] at hm
    rcases hm with z | z | z | z | z | z <;> subst z <;> exact ⟨_, hv, by decide, by decide⟩
  obtain ⟨m, hma, hm1, hm6⟩ := hme
  refine ⟨p2, _, _, _, rfl, rfl, SqL.of (b3 _ _ n2 upd_same), hma, ?_⟩
  refine ⟨hp, m, rfl, t3, by omega, by omega, fun el fs H4 b4 t4 hel w4 hfl hnd => ?_⟩
  have sH3 : Same H H3 := fun b o h => b3 _ _ (ne_of_none h hhp) (s2 _ _ (s1 _ _ h))
  have sH4 : Same H H4 := fun b o h => b4 _ _ (ne_of_none h hhp) (sH3 _ _ h)
  -- heads
  intro hd hhd
  have s5 := same_new hhd (.dK [])
  have t5 := t4.same s5
  have w5 := w4.but (but_same s5) t4
  have hhd0 : H hd = none := by
    cases e : H hd with
    | none => rfl
    | some o =>
      rw [sH4 _ _ e] at hhd
      cases hhd
  have nhd : hd ≠ hp := by
    obtain ⟨z, hz⟩ := t4
    exact (ne_of_none hz hhd).symm
  have neh : el ≠ hd := ne_of_none w4.1 hhd
  have hlen6 : fs.length ≤ 6 := by omega
  have sH5 : Same H (upd H4 hd (.dK [])) := sH4.trans s5
  have h5d : upd H4 hd (.dK []) hd = some (.dK []) := upd_same
  generalize upd H4 hd (.dK []) = H5 at s5 t5 w5 sH5 h5d
  refine ⟨_, rfl, el, rfl, ⟨_, SqL.of w5.1⟩, for_list (K := K) (a := el) (xs := fs.map V.str) (fun i σ H' => ∃ o kvs, σ = [some (.ref sc), some (.int start), some (.bl st), some (.ref hp), some (.ref el), some (.ref hd), o, none, none, none, none, none, none, none] ∧
    But2 hp hd H5 H' ∧ Tp H' hp ∧ H' hd = some (.dK kvs) ∧ kvs.length ≤ i ∧ ∀ f ∈ fs.take i, ∃ n : Int, valV kvs (Sum.inr f) = some (.int n) ∧ 0 ≤ n ∧ n ≤ 4) ?_ ?_ ?_ ?_⟩
  · refine ⟨none, [], rfl, But2.refl _ _ _, t5, h5d, Nat.le_refl _, fun f hf => ?_⟩
    rw [List.take_zero] at hf
    cases hf
  · rintro i σ H' _ ⟨o, kvs, rfl, b6, _⟩
    exact SqL.of (b6 _ _ (wls_tp w5.1 t5) neh w5.1)
  · rintro i x σ H6 hx ⟨o, kvs, rfl, b6, t6, h6, hkl, hkv⟩
    rw [List.getElem?_map] at hx
    obtain ⟨fn, hfn, rfl⟩ : ∃ fn, fs[i]? = some fn ∧ V.str fn = x := by
      cases e : fs[i]? with
      | none =>
        rw [e] at hx
        cases hx
      | some fn =>
        rw [e] at hx
        exact ⟨fn, rfl, Option.some.inj hx⟩
    obtain ⟨hi, hi2⟩ := List.getElem?_eq_some_iff.mp hfn
    refine ⟨sz (by show 6 ≤ 100000; decide), fun p7 hp7 => ?_⟩
    have s7 := same_new hp7 (.lst [.int 1, .int 2, .int 1, .int 0, .int 3, .int 4])
    have n7 : p7 ≠ hp := by
      obtain ⟨z, hz⟩ := t6
      exact (ne_of_none hz hp7).symm
    refine ⟨_, rfl, hp, 6, rfl, t6.same s7, by decide, by decide, fun r2 H8 r3 r4 b8 t8 => ?_⟩
    have hne : ∃ m : Int, atI [V.int 1, .int 2, .int 1, .int 0, .int 3, .int 4] r2 = some (.int m) ∧ 0 ≤ m ∧ m ≤ 4 := by
      obtain ⟨v, hv, hm⟩ := at_some (xs := [V.int 1, .int 2, .int 1, .int 0, .int 3, .int 4]) r3 r4
      simp only [List.mem_cons, List.not_mem_nil, or_false] at hm
      rcases hm with z | z | z | z | z | z <;> subst z <;> exact ⟨_, hv, by decide, by decide⟩
    obtain ⟨m2, hma2, hm20, hm24⟩ := hne
    have h8 : H8 hd = some (.dK kvs) := b8 _ _ nhd (s7 _ _ h6)
    refine ⟨p7, _, _, _, rfl, rfl, SqL.of (b8 _ _ n7 upd_same), hma2, _, rfl, _, rfl, hd, _, rfl, DPut.k (k := Sum.inr fn) h8 (Nat.lt_of_le_of_lt (m := 1000) (by omega) (by decide)), ?_⟩
    refine ⟨_, _, rfl, fun b o n1 n2 hb => ?_, ?_, upd_same, ?_, ?_⟩
    · rw [upd_ne n2]
      exact b8 _ _ n1 (s7 _ _ (b6 _ _ n1 n2 hb))
    · obtain ⟨z, hz⟩ := t8
      exact ⟨z, by rw [upd_ne nhd.symm]; exact hz⟩
    · have := length_putK kvs (Sum.inr fn) (V.int m2)
      omega
    · intro f' hf'
      rw [List.take_succ_eq_append_getElem hi, hi2] at hf'
      by_cases e : f' = fn
      · subst e
        exact ⟨m2, by rw [valV_put, if_pos rfl], hm20, hm24⟩
      · rcases List.mem_append.mp hf' with z | z
        · obtain ⟨n3, q1, q2, q3⟩ := hkv f' z
          refine ⟨n3, ?_, q2, q3⟩
          rw [valV_put, if_neg (fun y => e (Sum.inr.inj y))]
          exact q1
        · exact absurd (List.mem_singleton.mp z) e
  rintro σ H6 ⟨o5, kvs, rfl, b6, t6, h6, _, hkv⟩
  rw [List.length_map, List.take_length] at hkv
  have w6 : Wls H6 el fs := ⟨b6 _ _ (wls_tp w5.1 t5) neh w5.1, w5.2⟩
  have sH6 : Same H H6 := fun b o hb => b6 _ _ (ne_of_none hb hhp) (ne_of_none hb hhd0) (sH5 _ _ hb)
  -- room
  refine ⟨sz (by show 4 ≤ 100000; decide), fun p7 hp7 => ?_⟩
  have s7 := same_new hp7 (.lst [.int 3, .int 5, .int 7, .int 9])
  have n7 : p7 ≠ hp := by
    obtain ⟨z, hz⟩ := t6
    exact (ne_of_none hz hp7).symm
  refine ⟨_, rfl, hp, 4, rfl, t6.same s7, by decide, by decide, fun r2 H8 r3 r4 b8 t8 => ?_⟩
  have hre : ∃ m : Int, atI [V.int 3, .int 5, .int 7, .int 9] r2 = some (.int m) ∧ 3 ≤ m ∧ m ≤ 9 := by
    obtain ⟨v, hv, hm⟩ := at_some (xs := [V.int 3, .int 5, .int 7, .int 9]) r3 r4
    simp only [List.mem_cons, List.not_mem_nil, or_false] at hm
    rcases hm with z | z | z | z <;> subst z <;> exact ⟨_, hv, by decide, by decide⟩
  obtain ⟨room, hra, hr8, hr40⟩ := hre
  refine ⟨p7, _, _, _, rfl, rfl, SqL.of (b8 _ _ n7 upd_same), hra, ?_⟩
  have sH8 : Same H H8 := fun b o hb => b8 _ _ (ne_of_none hb hhp) (s7 _ _ (sH6 _ _ hb))
  have w8 : Wls H8 el fs := ⟨b8 _ _ (wls_tp w6.1 t6) (s7 _ _ w6.1), w6.2⟩
  have h8 : H8 hd = some (.dK kvs) := b8 _ _ nhd (s7 _ _ h6)
  have hS8 : SqL K H8 sc (ns.map V.int) := sH8.seq hS
  clear h6 w6 sH6 s7 b8 t8 hp7 b6 t6
  -- found
  refine ⟨sz (by show 0 ≤ 100000; decide), fun fl hflN => ?_⟩
  have s9 := same_new hflN (.lst [])
  refine ⟨_, rfl, el, _, rfl, .inl (SqL.of (s9 _ _ w8.1)), _, rfl, by omega, by rw [List.length_map]; omega, ?_⟩
  have hnl : (((fs.map V.str).length : Nat) : Int).toNat = fs.length := by
    rw [Int.toNat_natCast, List.length_map]
  refine for_range (lo := 0) (n := (((fs.map V.str).length : Nat) : Int).toNat) (fun i σ H' => ∃ o8 o9 o10 o11 o12 vs es, σ = [some (.ref sc), some (.int start), some (.bl st), some (.ref hp), some (.ref el), some (.ref hd), o5, some (.int room), some (.ref fl), o8, o9, o10, o11, o12] ∧
    Same H8 H' ∧ H' fl = some (.lst vs) ∧ All2 (TErV H') es vs ∧ es.length = i ∧ es.map (·.1) = fs.take i ∧ ∀ e ∈ es, GdTE (hFof fs kvs) e) ?_ ?_ ?_
  · exact ⟨_, _, _, _, _, [], [], rfl, s9, upd_same, trivial, rfl, rfl, fun _ z => nomatch z⟩
  · rintro i σ H' hi ⟨o8, o9, o10, o11, o12, vs, es, rfl, sA, hfA, kA, hel2, hnm, hgd⟩
    rw [hnl] at hi
    have hfi : fs[i]? = some fs[i] := List.getElem?_eq_getElem hi
    have hfm := List.getElem_mem hi
    generalize fs[i] = fn at hfi hfm
    have ei : (0 : Int) + (i : Nat) = ((i : Nat) : Int) := by omega
    have hat : atI (fs.map V.str) ((0 : Int) + (i : Nat)) = some (V.str fn) := by
      rw [ei]
      exact atI_nat (by rw [List.getElem?_map, hfi]; rfl)
    obtain ⟨nn, hnn, hn0, hn4⟩ := hkv fn hfm
    -- tape
    refine ⟨_, rfl, _, rfl, _, _, rfl, rfl, _, rfl, _, _, rfl, rfl, sc, ns, _, rfl, sA.seq hS8, by omega, by omega, fun tp z htp => ?_⟩
    have sB := same_new htp (.lst [.int z])
    have tB : Tp (upd H' tp (.lst [.int z])) tp := ⟨z, upd_same⟩
    refine ⟨_, rfl, tp, 16, rfl, tB, by decide, by decide, fun wp ws HC bC tC hwp wC hwl hwnd => ?_⟩
    have hwl16 : ws.length = 16 := by omega
    have sC : Same H' HC := fun b o hb => bC _ _ (ne_of_none hb htp) (sB _ _ hb)
    have wCe : Wls HC el fs := ⟨sC _ _ (sA _ _ w8.1), w8.2⟩
    have hCd : HC hd = some (.dK kvs) := sC _ _ (sA _ _ h8)
    -- names
    refine ⟨_, rfl, _, rfl, _, rfl, _, rfl, el, _, _, _, rfl, rfl, SqL.of wCe.1, hat, hd, _, rfl, get_of hCd hnn, _, rfl, wp, _, rfl, SqL.of wC.1, fun np hnp => ?_⟩
    have eN : cutV (ws.map V.str) none (some nn) = (ws.take nn.toNat).map V.str := by
      rw [cut_to hn0 (by rw [List.length_map]; omega), List.map_take]
    rw [eN]
    have sD := same_new hnp (.lst ((ws.take nn.toNat).map V.str))
    have hD : upd HC np (.lst ((ws.take nn.toNat).map V.str)) np = some (.lst ((ws.take nn.toNat).map V.str)) := upd_same
    have tD := tC.same sD
    generalize upd HC np (.lst ((ws.take nn.toNat).map V.str)) = HD at sD hD tD
    -- known
    intro kd hkd
    have sE := same_new hkd (.dK [])
    refine ⟨_, rfl, _, rfl, _, rfl, _, rfl, np, _, rfl, .inl (SqL.of (sE _ _ hD)), _, rfl, wp, _, rfl, SqL.of (sE _ _ (sD _ _ wC.1)), fun wl hwlN => ?_⟩
    have eW : cutV (ws.map V.str) (some ((((ws.take nn.toNat).map V.str).length : Nat) : Int)) none = (ws.drop nn.toNat).map V.str := by
      have e1 : ((ws.take nn.toNat).map V.str).length = nn.toNat := by
        rw [List.length_map, List.length_take]
        omega
      rw [e1, cut_from (by omega) (by rw [List.length_map]; omega), List.map_drop, Int.toNat_natCast]
    rw [eW]
    have sF := same_new hwlN (.lst ((ws.drop nn.toNat).map V.str))
    have hkF : upd (upd HD kd (.dK [])) wl (.lst ((ws.drop nn.toNat).map V.str)) kd = some (.dK []) := sF _ _ upd_same
    have hwF : upd (upd HD kd (.dK [])) wl (.lst ((ws.drop nn.toNat).map V.str)) wl = some (.lst ((ws.drop nn.toNat).map V.str)) := upd_same
    have nwk : wl ≠ kd := (ne_of_none upd_same hwlN).symm
    have nwn : np ≠ wl := ne_of_none (sE _ _ hD) hwlN
    have sDF := sE.trans sF
    have nwe : el ≠ wl := ne_of_none (sE _ _ (sD _ _ wCe.1)) hwlN
    have hwl0 : H' wl = none := by
      cases e : H' wl with
      | none => rfl
      | some o =>
        rw [sE _ _ (sD _ _ (sC _ _ e))] at hwlN
        cases hwlN
    generalize upd (upd HD kd (.dK [])) wl (.lst ((ws.drop nn.toNat).map V.str)) = HF at sDF hkF hwF
    refine ⟨_, rfl, hkF, knT4 el hd wl room, rfl, by show 4 ≤ 15; decide, ?_⟩
    rw [merge_kn4]
    have sG4 : Same HD (upd HF kd (.dK (knT4 el hd wl room))) := fun b o hb => by
      have nb : b ≠ kd := ne_of_none hb hkd
      rw [upd_ne nb]
      exact sDF _ _ hb
    have hkG4 : upd HF kd (.dK (knT4 el hd wl room)) kd = some (.dK (knT4 el hd wl room)) := upd_same
    have hwG4 : upd HF kd (.dK (knT4 el hd wl room)) wl = some (.lst ((ws.drop nn.toNat).map V.str)) := by
      rw [upd_ne nwk]
      exact hwF
    generalize upd HF kd (.dK (knT4 el hd wl room)) = HG4 at sG4 hkG4 hwG4 ⊢
    -- posts, straight
    have tG4 : Tp HG4 tp := (tC.same sD).same sG4
    have nkt : kd ≠ tp := by
      obtain ⟨z, hz⟩ := tC.same sD
      exact (ne_of_none hz hkd).symm
    have big4 : (knT4 el hd wl room).length < sizeLine := Nat.lt_of_lt_of_le (by show 4 < 1000; decide : _ < 1000) (by decide)
    have big5 : ∀ pl : Addr, (putK (knT4 el hd wl room) kgP (.ref pl)).length < sizeLine := fun pl => Nat.lt_of_lt_of_le (by show 5 < 1000; decide : _ < 1000) (by decide)
    refine ⟨_, rfl, tp, 16, rfl, tG4, by decide, by decide, fun pl js HP bP tP hplN wPl hjl hjnd => ?_⟩
    have hjl16 : js.length = 16 := by omega
    have hkP := bP _ _ nkt hkG4
    have npk : pl ≠ kd := fun z => by
      rw [z] at hplN
      rw [hkG4] at hplN
      cases hplN
    refine ⟨_, rfl, kd, _, rfl, DPut.k (k := kgP) hkP big4, ?_⟩
    refine ⟨_, rfl, _, rfl, kd, _, rfl, DPut.k (k := kgS) upd_same (big5 pl), ?_⟩
    have hkG : (upd (upd HP kd (.dK (putK (knT4 el hd wl room) kgP (.ref pl)))) kd (.dK (putK (putK (knT4 el hd wl room) kgP (.ref pl)) kgS (.bl st)))) kd = some (.dK (knT el hd wl pl room st)) := upd_same
    have oth : ∀ b o, b ≠ kd → HP b = some o → (upd (upd HP kd (.dK (putK (knT4 el hd wl room) kgP (.ref pl)))) kd (.dK (putK (putK (knT4 el hd wl room) kgP (.ref pl)) kgS (.bl st)))) b = some o := fun b o n h => by
      rw [upd_ne n, upd_ne n]
      exact h
    generalize (upd (upd HP kd (.dK (putK (knT4 el hd wl room) kgP (.ref pl)))) kd (.dK (putK (putK (knT4 el hd wl room) kgP (.ref pl)) kgS (.bl st)))) = HG at hkG oth ⊢
    have bDG : ∀ b o, b ≠ tp → HD b = some o → HG b = some o := fun b o nb hb => oth b o (ne_of_none hb hkd) (bP b o nb (sG4 b o hb))
    have tG : Tp HG tp := by
      obtain ⟨z, hz⟩ := tP
      exact ⟨z, oth _ _ nkt.symm hz⟩
    have nwt : wl ≠ tp := wls_tp hwG4 tG4
    have hwG : HG wl = some (.lst ((ws.drop nn.toNat).map V.str)) := oth _ _ nwk (bP _ _ nwt hwG4)
    have nwp : wl ≠ pl := ne_of_none hwG4 hplN
    have wPG : Wls HG pl js := ⟨oth _ _ npk wPl.1, wPl.2⟩
    have net : el ≠ tp := wls_tp wCe.1 tC
    have ndt : hd ≠ tp := by
      obtain ⟨z, hz⟩ := tC
      exact ne_of hCd hz (fun y => by cases y)
    have nep : el ≠ pl := ne_of_none (sG4 _ _ (sD _ _ wCe.1)) hplN
    have nnp : np ≠ pl := ne_of_none (sG4 _ _ hD) hplN
    have nnt : np ≠ tp := wls_tp hD (tC.same sD)
    have hpl0 : H' pl = none := by
      cases e : H' pl with
      | none => rfl
      | some o =>
        rw [sG4 _ _ (sD _ _ (sC _ _ e))] at hplN
        cases hplN
    have gG : GT HG tp kd wl pl (hFof fs kvs) (ws.drop nn.toNat) js := ⟨tG, ⟨hwG, fun x hx => wC.2 x (List.mem_of_mem_drop hx)⟩, wPG, by rw [List.length_drop]; omega, by omega, nwp,
      el, hd, fs, kvs, room, st, hkG, by omega, hr40, nwe, nep, ⟨bDG _ _ net (sD _ _ wCe.1), wCe.2⟩, by omega, by omega, bDG _ _ ndt (sD _ _ hCd), fun f hf => let ⟨n, e1, e2, e3⟩ := hkv f hf; ⟨n, e1, e2, e3, hFof_at hf e1⟩⟩
    have sXG : Same H' HG := fun b o hb => bDG b o (ne_of_none hb htp) (sD _ _ (sC b o hb))
    have wG : Wls HG np (ws.take nn.toNat) := ⟨bDG _ _ nnt hD, fun x hx => wC.2 x (List.mem_of_mem_take hx)⟩
    -- the errand
    refine ⟨_, rfl, .inl ⟨rfl, _, SqL.of (sXG _ _ hfA)⟩, _, rfl, _, rfl, el, _, _, _, rfl, rfl, SqL.of (bDG _ _ net (sD _ _ wCe.1)), hat, _, rfl, np, _, rfl, .inl ⟨SqL.of wG.1, fun tl htl => ?_⟩⟩
    have sH := same_new htl (.tup ((ws.take nn.toNat).map V.str))
    refine ⟨_, rfl, _, rfl, _, rfl, tp, kd, wl, pl, np, hFof fs kvs, ws.drop nn.toNat, js, ws.take nn.toNat, rfl, gG.same sH, wG.but (but_same sH) gG.t, nwn, nnp, by rw [List.length_drop]; omega, by rw [List.length_take, List.length_drop]; omega, by omega, fun a t HI wsI jsI ls ms O => ?_⟩
    refine ⟨sz (by show 3 ≤ 100000; decide), fun ep hep => ?_⟩
    have sJ := same_new hep (.tup [.str fn, .ref tl, .ref a])
    have tkI : TK (upd HG tl (.tup ((ws.take nn.toNat).map V.str))) HI := (gG.same sH).tk O.b
    have sX : Same H' HI := fun b o hb => O.b _ _ (ne_of_none hb htp) (ne_of_none hb hwl0) (ne_of_none hb hpl0) (sH _ _ (sXG _ _ hb))
    have sXJ := sX.trans sJ
    have hfJ := sXJ _ _ hfA
    have hvl := kA.len
    refine ⟨fl, _, _, rfl, rfl, hfJ, Nat.lt_of_le_of_lt (m := 1000) (by omega) (by decide), ?_⟩
    have tkJ := (tk_same sXJ).trans (tk_put (o := .lst (vs ++ [.ref ep])) hfJ)
    have tkP := tk_put (o := .lst (vs ++ [.ref ep])) hfJ
    refine ⟨_, _, _, _, _, vs ++ [.ref ep], es ++ [(fn, ws.take nn.toNat, t)], rfl, same_mut (sA.trans sXJ) hflN, upd_same, ?_, ?_, ?_, ?_⟩
    · refine (kA.imp fun _ _ z => z.tk tkJ).app ⟨⟨ep, tl, a, rfl, tkP _ _ upd_same, tkP _ _ (sJ _ _ (tkI _ _ upd_same)), (O.at_.tk (tk_same sJ)).tk tkP⟩, trivial⟩
    · rw [List.length_append, hel2]
      rfl
    · rw [List.map_append, hnm, List.take_succ_eq_append_getElem hi]
      have e : fs[i] = fn := by
        rw [List.getElem?_eq_getElem hi] at hfi
        exact Option.some.inj hfi
      rw [e]
      rfl
    · intro e he
      rcases List.mem_append.mp he with z | z
      · exact hgd e z
      · rw [List.mem_singleton.mp z]
        have etk : (ws.take nn.toNat).length = nn.toNat := by
          rw [List.length_take]
          omega
        refine ⟨w8.2 fn hfm, fun x hx => wC.2 x (List.mem_of_mem_take hx), by show (ws.take nn.toNat).length ≤ 4; omega, O.ok, O.cn, ?_, ?_, ?_⟩
        · show hFof fs kvs fn = some (ws.take nn.toNat).length
          rw [etk]
          exact hFof_at hfm hnn
        · show (ws.take nn.toNat ++ wdP t).Nodup
          have e9 : ws = ws.take nn.toNat ++ (wsI ++ ls.reverse) := by rw [← O.e1, List.take_append_drop]
          rw [e9] at hwnd
          rw [List.nodup_append] at hwnd ⊢
          obtain ⟨n1, n2, n3⟩ := hwnd
          have n4 := (List.nodup_append.mp n2).2.1
          have n5 : ls.Nodup := (List.reverse_perm ls).nodup_iff.mp n4
          exact ⟨n1, n5.sublist O.s1, fun a ha b hb => n3 a ha b (List.mem_append_right _ (List.mem_reverse.mpr (O.s1.subset hb)))⟩
        · show (jP t).Nodup
          have n2 := hjnd
          rw [O.e2] at n2
          have n4 := (List.nodup_append.mp n2).2.1
          have n5 : ms.Nodup := (List.reverse_perm ms).nodup_iff.mp n4
          exact n5.sublist O.s2
  · rintro σ H' ⟨o8, o9, o10, o11, o12, vs, es, rfl, sA, hfA, kA, hel2, hnm, hgd⟩
    rw [hnl] at hel2 hnm
    rw [List.take_length] at hnm
    refine ⟨_, rfl, fl, _, rfl, .inl ⟨SqL.of hfA, fun p hp9 => ?_⟩⟩
    have sK := same_new hp9 (.tup vs)
    refine q p es vs _ ((sH8.trans sA).trans sK) ⟨upd_same, kA.imp fun _ _ z => z.tk (tk_same sK)⟩ ⟨by omega, by rw [hnm]; exact hnd, _, hgd, fun f n hf => by rw [hnm]; exact hFof_in hf⟩
end
end KB

namespace KB
open PySem L2 PyProof.Rows
open PySem.AutoSeq1 (wpAny_loadPart')

/-! ### enumerate(tuple): the layer has it over lists alone -/
theorem new_enumT (l : Addr) (us : Array Value) (n : Nat) (dd : Option Addr) (sl : Array (Option Value)) :
    Meets (Builtin.«enumerate.__new__» ⟨[.type "enumerate", .ref l], []⟩) (fun _ R s =>
      s.heap.get? l = some { cls := .type "tuple", dict := dd, data := .seq us n, slots := sl } ∧
      R (.ok (.ret (.ref (s.heap.push { cls := .type "tuple_iterator", data := .fields #[.ref l, .int 0 0] }).objs.size)))
        { s with heap := (s.heap.push { cls := .type "tuple_iterator", data := .fields #[.ref l, .int 0 0] }).push { cls := .type "enumerate", data := .fields #[.none, .bool false, .ref s.heap.objs.size, rawInt 0, .none, .none] } }) := by
  refine .of_wp fun prog w A R s h => ?_
  obtain ⟨hp, g, d, tk, os⟩ := s
  obtain ⟨hl, h⟩ := h
  have hsub := sub_enumerate
  have hL : Heap.IsTuple (Shared.heap ⟨hp, g, d, tk, os⟩) l us := ⟨_, hl, rfl, n, rfl⟩
  wp_walk using wpAny_loadPart' hl
  refine wpAny_stack_any fun st => wpAny_pure ?_
  split
  · rename_i c _ _ _ _ _
    cases (c == Value.type "enumerate")
    all_goals
      wp_walk using wpAny_loadPart' hl, wpAny_pyIter_tuple hL
      exact ⟨_, rfl, h⟩
  · wp_walk using wpAny_loadPart' hl, wpAny_pyIter_tuple hL
    exact ⟨_, rfl, h⟩
section
variable {prog : Program} {w : World} {A : Around} {E : Value → Shared → Prop} {s : Shared}
theorem call_enumT {l : Addr} {us : Array Value} {Q : Value → Shared → Prop} (hL : s.heap.IsTuple l us)
    (h : ∀ h', IsEnum h' (s.heap.objs.size + 1) s.heap.objs.size 0 .none → h'.IsTupleIter s.heap.objs.size l 0 →
      (∀ b o, s.heap.get? b = some o → h'.get? b = some o) → Q (.ref (s.heap.objs.size + 1)) { s with heap := h' }) :
    wpAny (model prog w) A (call (.type "enumerate") [.ref l]) Q E s := by
  obtain ⟨⟨c, dct, dt, sl⟩, hl, hc, n, hd⟩ := hL
  cases (show c = .type "tuple" from hc)
  cases (show dt = .seq us n from hd)
  refine callType_new F.called_enumerate (by decide) (F.typeCall_enumerate_1 _) (F.newCall_enumerate_1 _) (fun obj => F.args_object_init_2 obj _) F.entry_enumerate_new
    (new_enumT l us n dct sl) ⟨hl, ?_⟩
  have hz : (s.heap.push { cls := .type "tuple_iterator", data := .fields #[.ref l, .int 0 0] }).objs.size = s.heap.objs.size + 1 := Heap.size_push ..
  show _ ∧ _
  rw [hz]
  have g0 := Heap.get?_push_size (s.heap.push { cls := .type "tuple_iterator", data := .fields #[.ref l, .int 0 0] })
    (o := { cls := .type "enumerate", data := .fields #[.none, .bool false, .ref s.heap.objs.size, rawInt 0, .none, .none] }) rfl
  rw [hz] at g0
  refine ⟨⟨_, g0, rfl⟩, h _ g0 ⟨_, Heap.get?_push_of_some _ (Heap.get?_push_size _ rfl), rfl, rfl⟩ fun b o x => ?_⟩
  exact Heap.get?_push_of_some _ (Heap.get?_push_of_some _ x)
end
theorem drawsT {prog : Program} {w : World} {A : Around} (hh : A.handled = none) (it l : Addr) (hne : l ≠ it) (us : Array Value) :
    Draws prog w A it [it, l] us.size (fun i v => us[i]? = some v) (fun i h => h.IsTupleIter it l i ∧ h.IsTuple l us) where
  live := fun _ _ st => let ⟨o, ho, _⟩ := st.1; ⟨o, ho⟩
  frame := fun _ _ _ st hk => ⟨st.1.at fun o e => hk it (by simp) o e, let ⟨o, ho, r⟩ := st.2; ⟨o, hk l (by simp) o ho, r⟩⟩
  item := fun i s Q E hi st hQ => by
    refine RZ.nextOf_tuple_item st.1 st.2 (x := us[i]) (by simp [hi]) fun h' hit' hs' => ?_
    exact hQ _ h' s.toks (by simp [hi]) ⟨hit', st.2.extBut hs'.extBut hne⟩ hs'
  done := fun s Q E st hE => RZ.nextOf_tuple_end hh st.1 st.2 (by simp) hE
/-- the tuple at a, each item in a new pair -/
def IteT (K : PySem.W.Frag) (a : Addr) : It where
  go := fun i H => ∃ (xs : List V) (x : V), SqT K H a xs ∧ xs[i]? = some x
  yld := fun i H v H' => ∃ T x, v = .ref T ∧ H T = none ∧ H' = upd H T (.tup [.int (i : Nat), x]) ∧ ∀ xs, SqT K H a xs → xs[i]? = some x
  stop := fun i H => ∃ xs : List V, SqT K H a xs ∧ xs.length = i
theorem turn_enumT {P : Program} {w : World} {K : PySem.W.Frag} {elts : List Expr} {kk : Nat} {tpos : Pos} (a e it : Addr) :
    Turn P w K (.Tuple elts kk tpos) (IteT K a) [e, it] e (fun i h => (∃ old, IsEnum h e it ((i : Nat) : Int) old) ∧ h.IsTupleIter it a i ∧ e ≠ it ∧ a ≠ it ∧ a ≠ e) where
  mem := by simp
  obj := fun i h st b hb => by
    obtain ⟨⟨old, he⟩, ⟨o, ho, hc, hd⟩, _⟩ := st
    have e' : b = e ∨ b = it := by simpa using hb
    rcases e' with z | z
    · rw [z]; exact ⟨_, he, fun v q => nomatch q⟩
    · rw [z]; exact ⟨o, ho, fun v q => by rw [hd] at q; cases q⟩
  keep := fun i h h' st k => let ⟨⟨old, he⟩, hi, hne⟩ := st; ⟨⟨old, k e (by simp) _ he⟩, hi.at fun o q => k it (by simp) o q, hne⟩
  item := by
    intro X hP hw hK hc i pins s σ H E I hf st hg
    subst hP hw hK
    obtain ⟨⟨old, he⟩, hit, hne, hai, hae⟩ := st
    obtain ⟨xs, x, hq, hx⟩ := hg
    obtain ⟨its, rv, p, hz⟩ := I.tuple hq
    obtain ⟨u, hu, ru⟩ := rv.get hx
    have hel : e < s.heap.objs.size := Heap.lt_size he
    have hil : it < s.heap.objs.size := by obtain ⟨_, q, _⟩ := hit; exact Heap.lt_size q
    have hiz : i < its.toArray.size := by
      have := (List.getElem?_eq_some_iff.mp hu).1
      simpa using this
    refine wpAny_pyNext_enum_itemD (drawsT (A := X.A.in1) (show X.A.in1.handled = none from I.ok.hd hc) it a hai its.toArray) he ⟨hit, p⟩ hiz hne (by simp [hne, Ne.symm hae]) fun y h' tk hy ho hst hT hsz hk => ?_
    have ey : y = u := by
      have h2 : its.toArray[i]? = some u := by simpa using hu
      rw [hy] at h2
      exact Option.some.inj h2
    subst ey
    refine ⟨_, rfl, wpAny_letOwnedTupleGo_enum (s := { s with heap := h', toks := tk + 1 }) ho fun h'' he' sb => ?_⟩
    have hT2 : h''.get? s.heap.objs.size = some { cls := .type "tuple", data := .seq #[.int i tk, y] } := (sb.2 _ (Nat.ne_of_gt hel)).trans hT
    have new : ObjOk X.prog X.w (upd H s.heap.objs.size (.tup [.int (i : Nat), x])) h'' s.heap.objs.size (.tup [.int (i : Nat), x]) :=
      ⟨by show 2 ≤ sizeLine; decide, [.int i tk, y], .cons ⟨_, rfl⟩ (.cons ru .nil), ⟨_, hT2, rfl, _, rfl⟩⟩
    have I1 : Inv X pins σ (upd H s.heap.objs.size (.tup [.int (i : Nat), x])) { s with heap := h'', toks := tk + 1 } :=
      I.turnedNew (ch := [e, it]) (fun b ob hb q => (sb.2 b (fun z => hb (by simp [z]))).trans (hk b ob (fun z => hb (by simp [z])) (fun z => hb (by simp [z])) q)) hf (Nat.le_refl _) new
    refine ⟨.ref s.heap.objs.size, _, I1, rfl, ⟨_, x, rfl, I.hok.fresh (Nat.le_refl _), rfl, fun ys hy => by rw [I.tuple_inj hy hq]; exact hx⟩, ⟨⟨y, ?_⟩, hst.1.at fun o q => (sb.2 it (Ne.symm hne)).trans q, hne, hai, hae⟩, fun b hb => ?_⟩
    · have e1 : ((i + 1 : Nat) : Int) = (i : Int) + 1 := by omega
      rw [e1]
      exact he'
    · have hb' : b < s.heap.objs.size := by
        have e' : b = e ∨ b = it := by simpa using hb
        rcases e' with z | z
        · rw [z]; exact hel
        · rw [z]; exact hil
      rw [upd_ne (Nat.ne_of_lt hb')]
      exact (hf b hb).1
  done := by
    intro X hP hw hK hc i pins s σ H E I hf st hg
    subst hP hw hK
    obtain ⟨⟨old, he⟩, hit, hne, hai, hae⟩ := st
    obtain ⟨xs, hq, hx⟩ := hg
    obtain ⟨its, rv, p, hz⟩ := I.tuple hq
    obtain ⟨f0, f1, f2, f3, f4, f5⟩ := hf it (by simp)
    have hl := rv.length
    have hge : i = its.toArray.size := by
      rw [List.size_toArray]
      omega
    subst hge
    exact wpAny_pyNext_enum_endD (drawsT (A := X.A.in1) (show X.A.in1.handled = none from I.ok.hd hc) it a hai its.toArray) he ⟨hit, p⟩ fun h' eb => ⟨rfl, I.turned (t' := s.toks) (fun b o hb e => eb b o hb e) f0 f1 f3 f4 f5⟩
  self := fun A i s Q E st h => let ⟨⟨_, he⟩, _⟩ := st; wpAny_pyIter_enum he h
def iEnumT (K : PySem.W.Frag) (ta : TA) : TI := fun σ H R => ta σ H fun vs H1 => ∃ a xs, vs = [.ref a] ∧ SqT K H1 a xs ∧ R (IteT K a) H1
theorem pi_enumT {X : Cx} {e : Expr} {ta : TA} {p pos tpos : Pos} {elts : List Expr} {kk : Nat} (hg : Gl X "enumerate") (hm : X.mg "enumerate" = none) (ha : PA X [e] ta) (hs : starEach [e] X.env = [(false, eval e X.env)] := by rfl) :
    PI X (.Tuple elts kk tpos) (.Call (.Name "enumerate" p) [e] [] pos) (iEnumT X.K ta) := by
  refine ⟨fun pins s σ H R I h => ?_⟩
  refine Call_ (ld_blt I hg hm boot_enumerate (PyProof.Rows.callWith_type1 (thn (ha.run pos pins s σ H _ I h) fun us s1 ⟨vs, H1, I1, r1, q1⟩ => ?_) hs rfl))
  obtain ⟨a, xs, ex, hq, q⟩ := q1
  subst ex
  cases r1 with
  | cons r rr =>
    cases rr
    cases r
    obtain ⟨its, rv, p', hz⟩ := I1.tuple hq
    have hal : a < s1.heap.objs.size := by obtain ⟨_, z, _⟩ := p'; exact Heap.lt_size z
    refine call_enumT p' fun h' he hit hk => wpAny_pyIter_enum he ?_
    have I2 : Inv X pins σ H1 { s1 with heap := h' } := I1.kept (t' := s1.toks) hk
    refine ⟨s1.heap.objs.size + 1, [s1.heap.objs.size + 1, s1.heap.objs.size], _, _, H1, rfl, I2, turn_enumT a (s1.heap.objs.size + 1) s1.heap.objs.size, ⟨⟨.none, he⟩, hit, Nat.succ_ne_self _, Nat.ne_of_lt hal, Nat.ne_of_lt (Nat.lt_succ_of_lt hal)⟩, fun b hb => ?_, q⟩
    have hle : s1.heap.objs.size ≤ b := by
      have e' : b = s1.heap.objs.size + 1 ∨ b = s1.heap.objs.size := by simpa using hb
      rcases e' with z | z
      · rw [z]
        exact Nat.le_add_right _ _
      · rw [z]
        exact Nat.le_refl _
    exact I1.fpOk hle (I1.hok.fresh hle)
end KB
namespace KB
open PySem L2
theorem for_enT {K : PySem.W.Frag} {a : Addr} {xs : List V} {g : TG} {tb : TS} {D : Ends} {σ : St} {H : Hp} (Pv : Nat → St → Hp → Prop) (h0 : Pv 0 σ H) (hl : ∀ i σ H, i ≤ xs.length → Pv i σ H → SqT K H a xs)
    (hs : ∀ i x T σ H, xs[i]? = some x → H T = none → Pv i σ H → g (.ref T) σ (upd H T (.tup [.int (i : Nat), x])) fun σ2 H2 => tb { D with nx := Pv (i + 1), ct := Pv (i + 1), bk := D.nx } σ2 H2) (hd : ∀ σ H, Pv xs.length σ H → D.nx σ H) :
    ∃ W : Nat → Nat → St → Hp → Prop, (∃ m, W 0 m σ H) ∧ ∀ i m σ H, W i m σ H →
      ((IteT K a).stop i H ∧ D.nx σ H) ∨ ((IteT K a).go i H ∧ ∃ N : St → Hp → Prop, (∀ σ' H', N σ' H' → ∃ m', m' < m ∧ W (i + 1) m' σ' H') ∧ ∀ x H', (IteT K a).yld i H x H' → g x σ H' fun σ2 H2 => tb { D with nx := N, ct := N, bk := D.nx } σ2 H2) := by
  refine ⟨fun i m σ H => m = xs.length - i ∧ i ≤ xs.length ∧ Pv i σ H, ⟨xs.length, by simp, Nat.zero_le _, h0⟩, ?_⟩
  rintro i m σ H ⟨rfl, hi, p⟩
  have q := hl i σ H hi p
  by_cases hlt : i < xs.length
  · refine .inr ⟨⟨xs, xs[i], q, by simp [hlt]⟩, Pv (i + 1), fun σ' H' p' => ⟨xs.length - (i + 1), by omega, rfl, hlt, p'⟩, fun x H' y => ?_⟩
    obtain ⟨T, z, rfl, hT, rfl, hz⟩ := y
    exact hs i z T σ H (hz xs q) hT p
  · have e : i = xs.length := by omega
    subst e
    exact .inl ⟨⟨xs, q, rfl⟩, hd σ H p⟩

end KB

namespace KB
open PySem L2 HT

def innP : Pt → List Pt
  | .give _ _ => []
  | .ask _ _ _ => []
  | .tell _ _ q => [q]
  | .lett _ _ q => [q]
  | .iff _ q u => [q, u]
  | .post _ _ q u => [q, u]
theorem pcnt_inn (p : Pt) : pcnt p = 1 + ((innP p).map pcnt).sum := by
  cases p <;> simp only [pcnt, innP, List.map, List.sum_cons, List.sum_nil] <;> omega
theorem mem_sum {ps : List Pt} {p : Pt} (h : p ∈ ps) : pcnt p ≤ (ps.map pcnt).sum := by
  induction ps with
  | nil => cases h
  | cons a r ih =>
    rw [List.map_cons, List.sum_cons]
    rcases List.mem_cons.mp h with z | z
    · subst z
      omega
    · have := ih z
      omega
theorem take_sum (ps : List Pt) (i : Nat) : ((ps.take i).map pcnt).sum ≤ (ps.map pcnt).sum := by
  have e : (ps.map pcnt).sum = ((ps.take i).map pcnt).sum + ((ps.drop i).map pcnt).sum := by
    rw [← List.sum_append, ← List.map_append, List.take_append_drop]
  omega
def PVr (H : Hp) (p : Pt) (v : V) : Prop := ∃ b, v = .ref b ∧ PAt H p b
def hdPt : Pt → Str
  | .give _ _ => "give" | .ask _ _ _ => "ask" | .tell _ _ _ => "tell" | .lett _ _ _ => "let" | .iff _ _ _ => "if" | .post _ _ _ _ => "post"
def smpN : Pt → Nat
  | .ask _ ts _ => ts.length
  | .post _ _ _ _ => 0
  | _ => 1
/-! ### all parts of a part, with their places, terms counted -/
def prL : Pt → List (List Int × Pt)
  | .give j s => [([], .give j s)]
  | .ask f ts j => [([], .ask f ts j)]
  | .tell x s q => ([], .tell x s q) :: ((prL q).map (fun e => ((1 : Int) :: e.1, e.2)) ++ [])
  | .lett x s q => ([], .lett x s q) :: ((prL q).map (fun e => ((1 : Int) :: e.1, e.2)) ++ [])
  | .iff s q u => ([], .iff s q u) :: ((prL q).map (fun e => ((1 : Int) :: e.1, e.2)) ++ ((prL u).map (fun e => ((2 : Int) :: e.1, e.2)) ++ []))
  | .post j x q u => ([], .post j x q u) :: ((prL q).map (fun e => ((0 : Int) :: e.1, e.2)) ++ ((prL u).map (fun e => ((1 : Int) :: e.1, e.2)) ++ []))
def prK (s : Nat) : Nat → List Pt → List (List Int × Pt)
  | _, [] => []
  | i, p :: r => (prL p).map (fun e => ((((s : Nat) : Int) + ((i : Nat) : Int)) :: e.1, e.2)) ++ prK s (i + 1) r
theorem prL_eq (p : Pt) : prL p = ([], p) :: prK (smpN p) 0 (innP p) := by cases p <;> rfl
theorem prL_len : ∀ p : Pt, (prL p).length = pcnt p
  | .give j s => rfl
  | .ask f ts j => rfl
  | .tell x s q => by simp [prL, pcnt, prL_len q]; omega
  | .lett x s q => by simp [prL, pcnt, prL_len q]; omega
  | .iff s q u => by simp [prL, pcnt, prL_len q, prL_len u]; omega
  | .post j x q u => by simp [prL, pcnt, prL_len q, prL_len u]; omega
theorem prK_len (s : Nat) : ∀ (ps : List Pt) (i : Nat), (prK s i ps).length = (ps.map pcnt).sum
  | [], _ => rfl
  | p :: r, i => by
    show ((prL p).map _ ++ prK s (i + 1) r).length = pcnt p + (r.map pcnt).sum
    rw [List.length_append, List.length_map, prL_len, prK_len s r]
theorem prK_take {s : Nat} {p : Pt} : ∀ {ps : List Pt} {i j : Nat}, ps[i]? = some p → prK s j (ps.take (i + 1)) = prK s j (ps.take i) ++ (prL p).map (fun e => ((((s : Nat) : Int) + (((j + i : Nat) : Nat) : Int)) :: e.1, e.2))
  | [], i, j, h => by simp at h
  | a :: r, 0, j, h => by
    have e : a = p := Option.some.inj h
    subst e
    show (prL a).map _ ++ [] = [] ++ _
    rw [List.append_nil, List.nil_append]
    rfl
  | a :: r, i + 1, j, h => by
    have ih := prK_take (s := s) (ps := r) (i := i) (j := j + 1) (by simpa using h)
    show (prL a).map _ ++ prK s (j + 1) (r.take (i + 1)) = ((prL a).map _ ++ prK s (j + 1) (r.take i)) ++ _
    rw [ih, List.append_assoc]
    have e : j + 1 + i = j + (i + 1) := by omega
    rw [e]
/-- a pair of a place and what stands there -/
def EnP (H : Hp) (pre : List V) (e : List Int × Pt) (v : V) : Prop := ∃ q r b, v = .ref q ∧ H q = some (.tup [.ref r, .ref b]) ∧ H r = some (.tup (pre ++ e.1.map V.int)) ∧ PAt H e.2 b
theorem EnP.tk {H H' : Hp} (k : TK H H') {pre : List V} {e : List Int × Pt} {v : V} (h : EnP H pre e v) : EnP H' pre e v := let ⟨q, r, b, h1, h2, h3, h4⟩ := h; ⟨q, r, b, h1, k _ _ h2, k _ _ h3, PAt.tk k h4⟩
theorem EnP.deep {H : Hp} {pre : List V} {i : Int} {e : List Int × Pt} {v : V} (h : EnP H (pre ++ [.int i]) e v) : EnP H pre (i :: e.1, e.2) v := by
  obtain ⟨q, r, b, e1, h1, h2, h3⟩ := h
  refine ⟨q, r, b, e1, h1, ?_, h3⟩
  rw [h2, List.append_assoc]
  rfl
theorem len3 {α : Type} {x y z : α} {r : List α} : 3 ≤ (x :: y :: z :: r).length := Nat.succ_le_succ len2
theorem cut3 {x y z : V} {r : List V} : cutV (x :: y :: z :: r) (some 3) none = r := cut_from (i := 3) (by decide) len3
section
variable {P : Program} {w : World} {K : PySem.W.Frag} {mg : Str → Option Value} {base : Heap}
/-! ### _law_inner -/
def spInn : Sp := fun vs H Q _ => ∃ (a : Addr) (p : Pt), vs = [.ref a] ∧ PAt H p a ∧ ∀ r H' us, Same H H' → H' r = some (.tup us) → All2 (PVr H') (innP p) us → Q (.ref r) H'
abbrev s_law_inner : Stmt := top 57
theorem scLinner : FnScope ["part"] ["part"] (defScope s_law_inner) := ⟨rfl, rfl, rfl, by decide +kernel, rfl, by decide +kernel, by decide +kernel⟩
theorem ok_inn (T : Txt K mg) {f : Addr} {fd : FuncData} (F : Fun K "_law_inner" "_law_inner" s_law_inner f fd) : FnOk P w K mg base CX0 1 f fd ["part"] spInn := by
  refine F.ok scLinner (fun vs H Q E h => ?_) (fun cdv A outer s H vs Q E hr h => ?_)
  · obtain ⟨a, p, rfl, _⟩ := h
    rfl
  obtain ⟨a, p, rfl, hA, q⟩ := h
  refine ⟨_, (pss_cons (ps_if (pt_cmpR op_in_seq (pe_ix ix_tup (pv 0) pe_int (fun _ _ => rfl)) (pe_tup (pa_cons pe_str (pa_cons pe_str pa_nil))) rfl) (pss_one (ps_ret (pe_tup pa_nil))) pss_nil)
    (pss_one (ps_ret (pe_slice sl_tupA (pv 0) (po_some (pe_op op_add pe_int (pe_callTy call_int1 (by rfl) T.m_int (by decide +kernel) (pa_cons (pe_cmpR op_ne (pe_ix ix_tup (pv 0) pe_int (fun _ _ => rfl)) pe_str (nomark _)) pa_nil)))) po_none)))), ?_⟩
  cases p with
  | give j s =>
    obtain ⟨b, h1, h2⟩ := hA
    refine ⟨_, rfl, a, _, _, _, rfl, rfl, SqT.of h1, at0, sz (by show 2 ≤ 100000; decide), fun t ht => ?_⟩
    have s1 := same_new ht (.tup [.str "give", .str "ask"])
    exact ⟨t, _, rfl, .inr (SqT.of upd_same), rfl, rfl, _, rfl, itT rfl ⟨sz (by decide), fun p hp => q p _ [] (s1.trans (same_new hp _)) upd_same trivial⟩⟩
  | ask g ts j =>
    obtain ⟨b, vs, h1, h2, h3⟩ := hA
    refine ⟨_, rfl, a, _, _, _, rfl, rfl, SqT.of h1, at0, sz (by show 2 ≤ 100000; decide), fun t ht => ?_⟩
    have s1 := same_new ht (.tup [.str "give", .str "ask"])
    exact ⟨t, _, rfl, .inr (SqT.of upd_same), rfl, rfl, _, rfl, itT rfl ⟨sz (by decide), fun p hp => q p _ [] (s1.trans (same_new hp _)) upd_same trivial⟩⟩
  | tell x s p =>
    obtain ⟨b, c, h1, h2, h3⟩ := hA
    refine ⟨_, rfl, a, _, _, _, rfl, rfl, SqT.of h1, at0, sz (by show 2 ≤ 100000; decide), fun t ht => ?_⟩
    have s1 := same_new ht (.tup [.str "give", .str "ask"])
    refine ⟨t, _, rfl, .inr (SqT.of upd_same), rfl, rfl, _, rfl, itF rfl ⟨_, rfl, _, rfl, a, _, _, _, rfl, rfl, SqT.of (s1 _ _ h1), at0, rfl, .inr ⟨_, rfl, _, _, rfl, rfl, _, rfl, a, _, rfl, SqT.of (s1 _ _ h1), ?_, ?_⟩⟩⟩
    · exact fun z => absurd z (not_whole (i := 3) (by decide) len3)
    · intro _ p hp
      have s2 := s1.trans (same_new hp (.tup (cutV [V.str "tell", .str x, .ref b, .ref c] (some 3) none)))
      refine q p _ [.ref c] s2 ?_ ⟨⟨c, rfl, PAt.tk (tk_same s2) h3⟩, trivial⟩
      rw [upd_same]
      exact congrArg (fun z => some (HO.tup z)) cut3
  | lett x s p =>
    obtain ⟨b, c, h1, h2, h3⟩ := hA
    refine ⟨_, rfl, a, _, _, _, rfl, rfl, SqT.of h1, at0, sz (by show 2 ≤ 100000; decide), fun t ht => ?_⟩
    have s1 := same_new ht (.tup [.str "give", .str "ask"])
    refine ⟨t, _, rfl, .inr (SqT.of upd_same), rfl, rfl, _, rfl, itF rfl ⟨_, rfl, _, rfl, a, _, _, _, rfl, rfl, SqT.of (s1 _ _ h1), at0, rfl, .inr ⟨_, rfl, _, _, rfl, rfl, _, rfl, a, _, rfl, SqT.of (s1 _ _ h1), ?_, ?_⟩⟩⟩
    · exact fun z => absurd z (not_whole (i := 3) (by decide) len3)
    · intro _ p hp
      have s2 := s1.trans (same_new hp (.tup (cutV [V.str "let", .str x, .ref b, .ref c] (some 3) none)))
      refine q p _ [.ref c] s2 ?_ ⟨⟨c, rfl, PAt.tk (tk_same s2) h3⟩, trivial⟩
      rw [upd_same]
      exact congrArg (fun z => some (HO.tup z)) cut3
  | post j x p p2 =>
    obtain ⟨c, d, h1, h2, h3⟩ := hA
    refine ⟨_, rfl, a, _, _, _, rfl, rfl, SqT.of h1, at0, sz (by show 2 ≤ 100000; decide), fun t ht => ?_⟩
    have s1 := same_new ht (.tup [.str "give", .str "ask"])
    refine ⟨t, _, rfl, .inr (SqT.of upd_same), rfl, rfl, _, rfl, itF rfl ⟨_, rfl, _, rfl, a, _, _, _, rfl, rfl, SqT.of (s1 _ _ h1), at0, rfl, .inr ⟨_, rfl, _, _, rfl, rfl, _, rfl, a, _, rfl, SqT.of (s1 _ _ h1), ?_, ?_⟩⟩⟩
    · exact fun z => absurd z (not_whole (i := 3) (by decide) len3)
    · intro _ p hp
      have s2 := s1.trans (same_new hp (.tup (cutV [V.str "post", .str j, .str x, .ref c, .ref d] (some 3) none)))
      refine q p _ [.ref c, .ref d] s2 ?_ ⟨⟨c, rfl, PAt.tk (tk_same s2) h2⟩, ⟨d, rfl, PAt.tk (tk_same s2) h3⟩, trivial⟩
      rw [upd_same]
      exact congrArg (fun z => some (HO.tup z)) cut3
  | iff s p p2 =>
    obtain ⟨b, c, d, h1, h2, h3, h4⟩ := hA
    refine ⟨_, rfl, a, _, _, _, rfl, rfl, SqT.of h1, at0, sz (by show 2 ≤ 100000; decide), fun t ht => ?_⟩
    have s1 := same_new ht (.tup [.str "give", .str "ask"])
    refine ⟨t, _, rfl, .inr (SqT.of upd_same), rfl, rfl, _, rfl, itF rfl ⟨_, rfl, _, rfl, a, _, _, _, rfl, rfl, SqT.of (s1 _ _ h1), at0, rfl, .inr ⟨_, rfl, _, _, rfl, rfl, _, rfl, a, _, rfl, SqT.of (s1 _ _ h1), ?_, ?_⟩⟩⟩
    · exact fun z => absurd z (not_whole (i := 2) (by decide) len2)
    · intro _ p hp
      have s2 := s1.trans (same_new hp (.tup (cutV [V.str "if", .ref b, .ref c, .ref d] (some 2) none)))
      refine q p _ [.ref c, .ref d] s2 ?_ ⟨⟨c, rfl, PAt.tk (tk_same s2) h3⟩, ⟨d, rfl, PAt.tk (tk_same s2) h4⟩, trivial⟩
      rw [upd_same]
      exact congrArg (fun z => some (HO.tup z)) cut2
/-! ### _law_simples -/
def spSmp : Sp := fun vs H Q _ => ∃ (a : Addr) (p : Pt), vs = [.ref a] ∧ PAt H p a ∧ ∀ r H' us, Same H H' → H' r = some (.tup us) → us.length = smpN p → Q (.ref r) H'
abbrev s_law_simples : Stmt := top 58
theorem scLsimples : FnScope ["part"] ["part"] (defScope s_law_simples) := ⟨rfl, rfl, rfl, by decide +kernel, rfl, by decide +kernel, by decide +kernel⟩
theorem ok_smp (T : Txt K mg) {f : Addr} {fd : FuncData} (F : Fun K "_law_simples" "_law_simples" s_law_simples f fd) : FnOk P w K mg base CX0 1 f fd ["part"] spSmp := by
  refine F.ok scLsimples (fun vs H Q E h => ?_) (fun cdv A outer s H vs Q E hr h => ?_)
  · obtain ⟨a, p, rfl, _⟩ := h
    rfl
  obtain ⟨a, p, rfl, hA, q⟩ := h
  refine ⟨_, (pss_cons (ps_if (pt_cmpR op_eq (pe_ix ix_tup (pv 0) pe_int (fun _ _ => rfl)) pe_str (nomark _)) (pss_one (ps_ret (pe_ix ix_tup (pv 0) pe_int (fun _ _ => rfl)))) pss_nil)
    (pss_cons (ps_if (pt_cmpR op_eq (pe_ix ix_tup (pv 0) pe_int (fun _ _ => rfl)) pe_str (nomark _)) (pss_one (ps_ret (pe_tup pa_nil))) pss_nil)
    (pss_one (ps_ret (pe_tup (pa_cons (pe_ix ix_tup (pv 0) (pe_op op_sub pe_int (pe_callTy call_int1 (by rfl) T.m_int (by decide +kernel) (pa_cons (pe_cmpR op_eq (pe_ix ix_tup (pv 0) pe_int (fun _ _ => rfl)) pe_str (nomark _)) pa_nil))) (fun _ _ => rfl)) pa_nil)))))), ?_⟩
  cases p with
  | ask g ts j =>
    obtain ⟨b, vs, h1, h2, h3⟩ := hA
    exact ⟨_, rfl, a, _, _, _, rfl, rfl, SqT.of h1, at0, rfl, _, rfl, itT rfl ⟨_, rfl, a, _, _, _, rfl, rfl, SqT.of h1, at2, q b _ vs (Same.refl _) h2 h3.len⟩⟩
  | post j x p p2 =>
    obtain ⟨c, d, h1, h2, h3⟩ := hA
    exact ⟨_, rfl, a, _, _, _, rfl, rfl, SqT.of h1, at0, rfl, _, rfl, itF rfl ⟨_, rfl, a, _, _, _, rfl, rfl, SqT.of h1, at0, rfl, _, rfl, itT rfl ⟨sz (by decide), fun p hp => q p _ [] (same_new hp _) upd_same rfl⟩⟩⟩
  | give j s =>
    obtain ⟨b, h1, h2⟩ := hA
    exact ⟨_, rfl, a, _, _, _, rfl, rfl, SqT.of h1, at0, rfl, _, rfl, itF rfl ⟨_, rfl, a, _, _, _, rfl, rfl, SqT.of h1, at0, rfl, _, rfl, itF rfl ⟨_, rfl, _, rfl, a, _, _, _, rfl, rfl, SqT.of h1, at0, rfl, .inr ⟨_, rfl, _, _, rfl, rfl, a, _, _, _, rfl, rfl, SqT.of h1, at2, sz (by show 1 ≤ 100000; decide), fun p hp => q p _ _ (same_new hp _) upd_same rfl⟩⟩⟩⟩
  | tell x s p =>
    obtain ⟨b, c, h1, h2, h3⟩ := hA
    exact ⟨_, rfl, a, _, _, _, rfl, rfl, SqT.of h1, at0, rfl, _, rfl, itF rfl ⟨_, rfl, a, _, _, _, rfl, rfl, SqT.of h1, at0, rfl, _, rfl, itF rfl ⟨_, rfl, _, rfl, a, _, _, _, rfl, rfl, SqT.of h1, at0, rfl, .inr ⟨_, rfl, _, _, rfl, rfl, a, _, _, _, rfl, rfl, SqT.of h1, at2, sz (by show 1 ≤ 100000; decide), fun p hp => q p _ _ (same_new hp _) upd_same rfl⟩⟩⟩⟩
  | lett x s p =>
    obtain ⟨b, c, h1, h2, h3⟩ := hA
    exact ⟨_, rfl, a, _, _, _, rfl, rfl, SqT.of h1, at0, rfl, _, rfl, itF rfl ⟨_, rfl, a, _, _, _, rfl, rfl, SqT.of h1, at0, rfl, _, rfl, itF rfl ⟨_, rfl, _, rfl, a, _, _, _, rfl, rfl, SqT.of h1, at0, rfl, .inr ⟨_, rfl, _, _, rfl, rfl, a, _, _, _, rfl, rfl, SqT.of h1, at2, sz (by show 1 ≤ 100000; decide), fun p hp => q p _ _ (same_new hp _) upd_same rfl⟩⟩⟩⟩
  | iff s p p2 =>
    obtain ⟨b, c, d, h1, h2, h3, h4⟩ := hA
    exact ⟨_, rfl, a, _, _, _, rfl, rfl, SqT.of h1, at0, rfl, _, rfl, itF rfl ⟨_, rfl, a, _, _, _, rfl, rfl, SqT.of h1, at0, rfl, _, rfl, itF rfl ⟨_, rfl, _, rfl, a, _, _, _, rfl, rfl, SqT.of h1, at0, rfl, .inr ⟨_, rfl, _, _, rfl, rfl, a, _, _, _, rfl, rfl, SqT.of h1, at1, sz (by show 1 ≤ 100000; decide), fun p hp => q p _ _ (same_new hp _) upd_same rfl⟩⟩⟩⟩
/-! ### _law_tplaces -/
def spTPl (n : Nat) : Sp := fun vs H Q _ => ∃ (a pl : Addr) (p : Pt) (pre : List V), vs = [.ref a, .ref pl] ∧ PAt H p a ∧ H pl = some (.tup pre) ∧ pcnt p ≤ n ∧ pre.length + pcnt p ≤ 2000 ∧
  ∀ p' H' its, H p' = none → Same H H' → H' p' = some (.lst its) → All2 (EnP H' pre) (prL p) its → Q (.ref p') H'
abbrev s_law_tplaces : Stmt := top 59
theorem scLtplaces : FnScope ["part", "place", "found", "first", "k", "one"] ["part", "place"] (defScope s_law_tplaces) := ⟨rfl, rfl, rfl, by decide +kernel, rfl, by decide +kernel, by decide +kernel⟩
theorem ok_Tpl (T : Txt K mg) {n : Nat} {f g1 g2 : Addr} {fd d1 d2 : FuncData} (F : Fun K "_law_tplaces" "_law_tplaces" s_law_tplaces f fd) (G_law_tplaces : FnOk P w K mg base CX0 (n + 1) f fd ["part", "place"] (spTPl n)) (R_law_tplaces : Ref K mg "_law_tplaces" f fd ["part", "place"])
    (G_law_simples : FnOk P w K mg base CX0 1 g1 d1 ["part"] spSmp) (R_law_simples : Ref K mg "_law_simples" g1 d1 ["part"]) (G_law_inner : FnOk P w K mg base CX0 1 g2 d2 ["part"] spInn) (R_law_inner : Ref K mg "_law_inner" g2 d2 ["part"]) : FnOk P w K mg base CX0 (n + 2) f fd ["part", "place"] (spTPl (n + 1)) := by
  refine F.ok scLtplaces (fun vs H Q E h => ?_) (fun cdv A outer s H vs Q E hr h => ?_)
  · obtain ⟨a, pl, t, pre, rfl, _⟩ := h
    rfl
  obtain ⟨a, pl, p, pre, rfl, hA, hp, hc, hl, q⟩ := h
  refine ⟨_, (pss_cons (ps_set (i := 2) scLtplaces.nd rfl (Or.inl rfl) (pe_lst (pa_cons (pe_tup (pa_cons (pv 1) (pa_cons (pv 0) pa_nil))) pa_nil)))
    (pss_cons (ps_set (i := 3) scLtplaces.nd rfl (Or.inl rfl) (pe_callB call_len_seq (by rfl) T.m_len PySem.boot_len (pa_cons (pe_call G_law_simples (hr.mono (by omega)) rfl R_law_simples.m R_law_simples.k R_law_simples.b .nil pass0 (pa_cons (pv 0) pa_nil)) pa_nil)))
    (pss_cons (ps_for PassesOwn.never rfl (pi_enumT (by rfl) T.m_enumerate (pa_cons (pe_call G_law_inner (hr.mono (by omega)) rfl R_law_inner.m R_law_inner.k R_law_inner.b .nil pass0 (pa_cons (pv 0) pa_nil)) pa_nil)) (pg_tup rfl (pgs_cons (pg_name (i := 4) scLtplaces.nd rfl (Or.inl rfl)) (pgs_cons (pg_name (i := 5) scLtplaces.nd rfl (Or.inl rfl)) pgs_nil))) (pss_one (ps_expr (pe_bm PySem.F.plainAttrs_list PySem.F.slot_list_extend PySem.F.type_list_extend mt_extend (pv 2) (pa_cons (pe_call G_law_tplaces hr rfl R_law_tplaces.m R_law_tplaces.k R_law_tplaces.b .nil pass0 (pa_cons (pv 5) (pa_cons (pe_op op_catA (pv 1) (pe_tup (pa_cons (pe_op op_add (pv 3) (pv 4)) pa_nil))) pa_nil))) pa_nil)))))
    (pss_one (ps_ret (pv 2)))))), ?_⟩
  have hck := pcnt_inn p
  refine ⟨_, rfl, _, rfl, sz (by show 2 ≤ 100000; decide), fun e0 he0 => ?_⟩
  have sa := same_new he0 (.tup [.ref pl, .ref a])
  refine ⟨sz (by show 1 ≤ 100000; decide), fun fl hfl => ?_⟩
  have sb := same_new hfl (.lst [.ref e0])
  have s0 := sa.trans sb
  have k0 : All2 (EnP (upd (upd H e0 (.tup [.ref pl, .ref a])) fl (.lst [.ref e0])) pre) [([], p)] [.ref e0] := ⟨⟨e0, pl, a, rfl, sb _ _ upd_same, (by rw [List.map_nil, List.append_nil]; exact s0 _ _ hp), PAt.tk (tk_same s0) hA⟩, trivial⟩
  have f0 : upd (upd H e0 (.tup [.ref pl, .ref a])) fl (.lst [.ref e0]) fl = some (.lst [.ref e0]) := upd_same
  have nfl := sa.free hfl
  generalize upd (upd H e0 (.tup [.ref pl, .ref a])) fl (.lst [.ref e0]) = H0 at s0 k0 f0
  clear sa sb hfl he0
  refine ⟨_, rfl, a, p, rfl, PAt.tk (tk_same s0) hA, fun pp H1 us1 s1 h1 k1 => ?_⟩
  refine ⟨pp, us1, rfl, .inr (SqT.of h1), ?_⟩
  have s01 := s0.trans s1
  refine ⟨_, rfl, a, p, rfl, PAt.tk (tk_same s01) hA, fun pi H2 us s2 h2 k2 => ?_⟩
  have s02 := s01.trans s2
  refine ⟨pi, us, rfl, SqT.of h2, for_enT (xs := us) (fun i σ H' => ∃ o4 o5 its, σ = [some (.ref a), some (.ref pl), some (.ref fl), some (.int (us1.length : Nat)), o4, o5] ∧ Same H H' ∧ TK H2 H' ∧ H' pi = some (.tup us) ∧ H' fl = some (.lst its) ∧ All2 (EnP H' pre) (([], p) :: prK us1.length 0 ((innP p).take i)) its) ?_ ?_ ?_ ?_⟩
  · exact ⟨_, _, _, rfl, s02, fun _ _ z => z, h2, (s1.trans s2) _ _ f0, k0.imp fun _ _ z => z.tk (tk_same (s1.trans s2))⟩
  · rintro i σ H' _ ⟨o4, o5, its, rfl, _, _, g1, _⟩
    exact SqT.of g1
  · rintro i x T' σ H3 hx hT ⟨o4, o5, its, rfl, s3, t3, g1, g2, g3⟩
    obtain ⟨pi', hpi, b, rfl, hb⟩ := k2.get hx
    have hmem := mem_of_get hpi
    have hct := mem_sum hmem
    have s4 := same_new hT (.tup [.int (i : Nat), .ref b])
    refine ⟨T', _, rfl, SqT.of upd_same, rfl, _, _, rfl, _, _, rfl, rfl, ?_⟩
    have s34 := s3.trans s4
    refine ⟨_, rfl, .inl ⟨rfl, _, SqL.of (s4 _ _ g2)⟩, _, rfl, _, rfl, _, rfl, _, rfl, _, _, rfl, rfl, ?_⟩
    refine ⟨sz (by show 1 ≤ 100000; decide), fun p2 hp2 => ?_⟩
    have s5 := same_new hp2 (.tup [.int (((us1.length : Nat) : Int) + ((i : Nat) : Int))])
    refine catA_of (s5 _ _ (s34 _ _ hp)) upd_same (by show pre.length + 1 ≤ 100000; omega) fun p3 H4 s6 h4 => ?_
    have s45 := s4.trans (s5.trans s6)
    have s35 := s3.trans s45
    have cp : 1 ≤ pcnt pi' := by rw [pcnt_inn]; exact Nat.le_add_right _ _
    refine ⟨b, p3, pi', _, rfl, PAt.tk (t3.trans (tk_same s45)) hb, h4, by omega, by rw [List.length_append, List.length_singleton]; omega, fun p5 H5 its5 hp5 s7 h5 k5 => ?_⟩
    have s46 := s45.trans s7
    have s36 := s3.trans s46
    have f5 := s46 _ _ g2
    have l5 := k5.len
    have l3 := g3.len
    rw [prL_len] at l5
    rw [List.length_cons, prK_len] at l3
    have l6 := take_sum (innP p) i
    refine ⟨fl, p5, _, _, rfl, rfl, f5, h5, sz (by omega), ?_⟩
    have tk := tk_put (o := .lst (its ++ its5)) f5
    refine ⟨_, _, _, rfl, same_mut s36 nfl, t3.trans ((tk_same s46).trans tk), tk _ _ (s46 _ _ g1), upd_same, ?_⟩
    rw [prK_take hpi, ← List.cons_append, Nat.zero_add]
    exact (g3.imp fun _ _ z => (EnP.tk (tk_same s46) z).tk tk).app (All2.map (f := fun (e : List Int × Pt) => ((((us1.length : Nat) : Int) + ((i : Nat) : Int)) :: e.1, e.2)) (k5.imp fun _ _ z => EnP.deep (z.tk tk)))
  · rintro σ H3 ⟨o4, o5, its, rfl, s3, _, g1, g2, g3⟩
    refine ⟨_, rfl, q fl H3 its nfl s3 g2 ?_⟩
    rw [k2.len, List.take_length] at g3
    rw [k1] at g3
    rw [prL_eq]
    exact g3
theorem no_Tpl {f : Addr} {fd : FuncData} : FnOk P w K mg base CX0 1 f fd ["part", "place"] (spTPl 0) := by
  have no : ∀ vs H Q E, ¬ spTPl 0 vs H Q E := fun vs H Q E h => by
    obtain ⟨a, pl, p, pre, _, _, _, h0, _⟩ := h
    have := pcnt_inn p
    omega
  exact ⟨fun vs H Q E h => absurd h (no vs H Q E), fun A outer s H args us vs Q E _ _ _ _ h => absurd h (no vs H Q E)⟩
theorem all_Tpl (T : Txt K mg) {f g1 g2 : Addr} {fd d1 d2 : FuncData} (F : Fun K "_law_tplaces" "_law_tplaces" s_law_tplaces f fd) (R_law_tplaces : Ref K mg "_law_tplaces" f fd ["part", "place"])
    (G_law_simples : FnOk P w K mg base CX0 1 g1 d1 ["part"] spSmp) (R_law_simples : Ref K mg "_law_simples" g1 d1 ["part"]) (G_law_inner : FnOk P w K mg base CX0 1 g2 d2 ["part"] spInn) (R_law_inner : Ref K mg "_law_inner" g2 d2 ["part"]) : ∀ n : Nat, FnOk P w K mg base CX0 (n + 1) f fd ["part", "place"] (spTPl n)
  | 0 => no_Tpl
  | n + 1 => ok_Tpl T F (all_Tpl T F R_law_tplaces G_law_simples R_law_simples G_law_inner R_law_inner n) R_law_tplaces G_law_simples R_law_simples G_law_inner R_law_inner
end
end KB

namespace KB
open PySem L2

/-- a part whose terms are simple, with no ask of more than four -/
def wfP : Pt → Prop
  | .give _ t => simple t = true
  | .ask _ ts _ => ts.length ≤ 4 ∧ ∀ t ∈ ts, simple t = true
  | .tell _ t p => simple t = true ∧ wfP p
  | .lett _ t p => simple t = true ∧ wfP p
  | .iff t p q => simple t = true ∧ wfP p ∧ wfP q
  | .post _ _ p q => wfP p ∧ wfP q
/-! ### all parts and terms of a part, counted -/
def ncnt : Pt → Nat
  | .give _ t => 1 + cnt t
  | .ask _ ts _ => 1 + cnts ts
  | .tell _ t p => 1 + cnt t + ncnt p
  | .lett _ t p => 1 + cnt t + ncnt p
  | .iff t p q => 1 + cnt t + ncnt p + ncnt q
  | .post _ _ p q => 1 + ncnt p + ncnt q
def termsP : Pt → List Tm
  | .give _ t => [t]
  | .ask _ ts _ => ts
  | .tell _ t _ => [t]
  | .lett _ t _ => [t]
  | .iff t _ _ => [t]
  | .post _ _ _ _ => []
/-! ### turned parts as a tree -/
def plP : Pt → List (List Int × Pt)
  | .give j t => [([], .give j t)]
  | .ask f ts j => [([], .ask f ts j)]
  | .tell x t p => ([], .tell x t p) :: ((plP p).map (fun e => (((0 : Nat) : Int) :: e.1, e.2)) ++ [])
  | .lett x t p => ([], .lett x t p) :: ((plP p).map (fun e => (((0 : Nat) : Int) :: e.1, e.2)) ++ [])
  | .iff t p q => ([], .iff t p q) :: ((plP p).map (fun e => (((0 : Nat) : Int) :: e.1, e.2)) ++ ((plP q).map (fun e => (((1 : Nat) : Int) :: e.1, e.2)) ++ []))
  | .post j x p q => ([], .post j x p q) :: ((plP p).map (fun e => (((0 : Nat) : Int) :: e.1, e.2)) ++ ((plP q).map (fun e => (((1 : Nat) : Int) :: e.1, e.2)) ++ []))
def TrP : Tre Pt where
  kids := innP
  sz := pcnt
  pl := plP
  A := PAt
  tk e h := PAt.tk e h
  szk n := by cases n <;> simp [pcnt, innP, Nat.add_assoc]
  plk n := by cases n <;> rfl
/-! ### turned parts and their terms as a tree -/
abbrev Nd := Pt ⊕ Tm
def plU : Tm → List (List Int × Nd)
  | .mk h n k => ([], .inr (.mk h n k)) :: (List.ofFn fun i : _root_.Fin n => (plU (k i)).map (fun e => ((i.val : Int) :: e.1, e.2))).flatten
def plTs : Nat → List Tm → List (List Int × Nd)
  | _, [] => []
  | j, t :: ts => (plU t).map (fun e => ((j : Int) :: e.1, e.2)) ++ plTs (j + 1) ts
def plQ : Pt → List (List Int × Nd)
  | .give j t => ([], .inl (.give j t)) :: ((plU t).map (fun e => (((0 : Nat) : Int) :: e.1, e.2)) ++ [])
  | .ask f ts j => ([], .inl (.ask f ts j)) :: plTs 0 ts
  | .tell x t p => ([], .inl (.tell x t p)) :: ((plU t).map (fun e => (((0 : Nat) : Int) :: e.1, e.2)) ++ ((plQ p).map (fun e => (((1 : Nat) : Int) :: e.1, e.2)) ++ []))
  | .lett x t p => ([], .inl (.lett x t p)) :: ((plU t).map (fun e => (((0 : Nat) : Int) :: e.1, e.2)) ++ ((plQ p).map (fun e => (((1 : Nat) : Int) :: e.1, e.2)) ++ []))
  | .iff t p q => ([], .inl (.iff t p q)) :: ((plU t).map (fun e => (((0 : Nat) : Int) :: e.1, e.2)) ++ ((plQ p).map (fun e => (((1 : Nat) : Int) :: e.1, e.2)) ++ ((plQ q).map (fun e => (((2 : Nat) : Int) :: e.1, e.2)) ++ [])))
  | .post j x p q => ([], .inl (.post j x p q)) :: ((plQ p).map (fun e => (((0 : Nat) : Int) :: e.1, e.2)) ++ ((plQ q).map (fun e => (((1 : Nat) : Int) :: e.1, e.2)) ++ []))
def plN : Nd → List (List Int × Nd)
  | .inl p => plQ p
  | .inr t => plU t
def kidsN : Nd → List Nd
  | .inl p => (termsP p).map .inr ++ (innP p).map .inl
  | .inr (.mk _ _ k) => (List.ofFn k).map .inr
def szN : Nd → Nat
  | .inl p => ncnt p
  | .inr t => cnt t
def NAt (H : Hp) : Nd → Addr → Prop
  | .inl p, a => PAt H p a ∧ wfP p
  | .inr t, a => At H t a ∧ simple t = true
theorem plTs_plL : ∀ (ts : List Tm) (j : Nat), plTs j ts = plL plN j (ts.map .inr)
  | [], _ => rfl
  | t :: ts, j => by
    show (plU t).map (fun e => ((j : Int) :: e.1, e.2)) ++ plTs (j + 1) ts = (plU t).map (fun e => ((j : Int) :: e.1, e.2)) ++ plL plN (j + 1) (ts.map .inr)
    rw [plTs_plL ts (j + 1)]
theorem plU_fn : ∀ {n : Nat} {k : _root_.Fin n → Tm} {j : Nat}, (List.ofFn fun i : _root_.Fin n => (plU (k i)).map (fun e => (((j + i.val : Nat) : Int) :: e.1, e.2))).flatten = plTs j (List.ofFn k)
  | 0, _, _ => rfl
  | n + 1, k, j => by
    rw [List.ofFn_succ, List.ofFn_succ, List.flatten_cons]
    show _ = (plU (k 0)).map (fun e => ((j : Int) :: e.1, e.2)) ++ plTs (j + 1) _
    rw [← plU_fn (k := fun i => k i.succ) (j := j + 1)]
    congr 3
    · funext i
      have e : j + (i.succ).val = j + 1 + i.val := by
        rw [_root_.Fin.val_succ]
        omega
      rw [e]
theorem plT_mk {h : Hd} {n : Nat} {k : _root_.Fin n → Tm} : plU (.mk h n k) = ([], .inr (.mk h n k)) :: plTs 0 (List.ofFn k) := by
  rw [← plU_fn]
  show _ :: _ = _
  congr 4
  funext i
  rw [Nat.zero_add]
theorem szs_inr (ts : List Tm) : ((ts.map Sum.inr).map szN).sum = cnts ts := by
  rw [List.map_map]
  rfl
def TrN : Tre Nd where
  kids := kidsN
  sz := szN
  pl := plN
  A := NAt
  tk {H H' n a} e h := by
    cases n with
    | inl p => exact ⟨PAt.tk e h.1, h.2⟩
    | inr t => exact ⟨h.1.tk e, h.2⟩
  szk n := by
    cases n with
    | inl p =>
      cases p with
      | ask f ts j =>
        show 1 + cnts ts = 1 + (((ts.map Sum.inr ++ []).map szN)).sum
        rw [List.append_nil, szs_inr]
      | _ => simp [szN, ncnt, kidsN, termsP, innP, Nat.add_assoc]
    | inr t =>
      obtain ⟨h, n, k⟩ := t
      show cnt (.mk h n k) = 1 + (((List.ofFn k).map Sum.inr).map szN).sum
      rw [szs_inr, cnt_mk]
  plk n := by
    cases n with
    | inl p =>
      cases p with
      | ask f ts j =>
        show ([], .inl (.ask f ts j)) :: plTs 0 ts = ([], .inl (.ask f ts j)) :: plL plN 0 (ts.map .inr ++ [])
        rw [List.append_nil, plTs_plL]
      | _ => rfl
    | inr t =>
      obtain ⟨h, n, k⟩ := t
      show plU (.mk h n k) = ([], .inr (.mk h n k)) :: plL plN 0 ((List.ofFn k).map .inr)
      rw [plT_mk, plTs_plL]
theorem all2_fn {H : Hp} : ∀ {n : Nat} {k : _root_.Fin n → Tm} {ys : _root_.Fin n → Addr}, (∀ i, At H (k i) (ys i)) → All2 (RefV H) (List.ofFn k) (Rfs ys)
  | 0, _, _, _ => trivial
  | n + 1, k, ys, h => by
    unfold Rfs
    rw [List.ofFn_succ, List.ofFn_succ]
    exact ⟨⟨ys 0, rfl, h 0⟩, all2_fn (k := fun i => k i.succ) (ys := fun i => ys i.succ) fun i => h i.succ⟩
theorem simple_mk {h : Hd} {n : Nat} {k : _root_.Fin n → Tm} (e : simple (.mk h n k) = true) : flatHd h = true ∧ ∀ i, simple (k i) = true := by
  have e' : (flatHd h && (List.ofFn fun i => simple (k i)).all id) = true := e
  rw [Bool.and_eq_true, List.all_eq_true] at e'
  exact ⟨e'.1, fun i => e'.2 _ (List.mem_ofFn.mpr ⟨i, rfl⟩)⟩
theorem all2_mem {α : Type} {R S : α → V → Prop} : ∀ {as : List α} {vs : List V}, All2 R as vs → (∀ a ∈ as, ∀ v, R a v → S a v) → All2 S as vs
  | [], [], _, _ => trivial
  | a :: as, v :: vs, h, e => ⟨e a List.mem_cons_self v h.1, all2_mem h.2 fun b hb => e b (List.mem_cons_of_mem _ hb)⟩
  | [], _ :: _, h, _ => h.elim
  | _ :: _, [], h, _ => h.elim
def heads : List V := [.str "number", .str "name", .str "plus", .str "less"]
theorem flat_in2 (h : Hd) : inV (.str (hs h)) heads = flatHd h := by
  cases h <;> rfl
/-- how a part begins -/
def hsP : Pt → Str
  | .give _ _ => "give" | .ask _ _ _ => "ask" | .tell _ _ _ => "tell" | .lett _ _ _ => "let" | .iff _ _ _ => "if" | .post _ _ _ _ => "post"
theorem PAt.head {H : Hp} {p : Pt} {a : Addr} (h : PAt H p a) : ∃ r, H a = some (.tup (.str (hsP p) :: r)) := by
  cases p with
  | give j t => obtain ⟨b, h1, _⟩ := h; exact ⟨_, h1⟩
  | ask f ts j => obtain ⟨b, vs, h1, _⟩ := h; exact ⟨_, h1⟩
  | tell x t p => obtain ⟨b, c, h1, _⟩ := h; exact ⟨_, h1⟩
  | lett x t p => obtain ⟨b, c, h1, _⟩ := h; exact ⟨_, h1⟩
  | iff t p q => obtain ⟨b, c, d, h1, _⟩ := h; exact ⟨_, h1⟩
  | post j x p q => obtain ⟨c, d, h1, _⟩ := h; exact ⟨_, h1⟩
def handV : Pt → V
  | .give j _ => .str j
  | .ask _ _ j => .str j
  | _ => .non
theorem wfP_terms {p : Pt} (h : wfP p) : ∀ t ∈ termsP p, simple t = true := by
  intro t ht
  cases p with
  | give j u => rw [List.mem_singleton.mp ht]; exact h
  | ask f ts j => exact h.2 t ht
  | tell x u p => rw [List.mem_singleton.mp ht]; exact h.1
  | lett x u p => rw [List.mem_singleton.mp ht]; exact h.1
  | iff u p q => rw [List.mem_singleton.mp ht]; exact h.1
  | post j x p q => cases ht
theorem wfP_rest {p : Pt} (h : wfP p) : ∀ u ∈ innP p, wfP u := by
  intro u hu
  cases p with
  | give j t => cases hu
  | ask f ts j => cases hu
  | tell x t p => rw [List.mem_singleton.mp hu]; exact h.2
  | lett x t p => rw [List.mem_singleton.mp hu]; exact h.2
  | iff t p q =>
    rcases List.mem_cons.mp hu with z | z
    · rw [z]; exact h.2.1
    · rw [List.mem_singleton.mp z]; exact h.2.2
  | post j x p q =>
    rcases List.mem_cons.mp hu with z | z
    · rw [z]; exact h.1
    · rw [List.mem_singleton.mp z]; exact h.2
section
variable {P : Program} {w : World} {K : PySem.W.Frag} {mg : Str → Option Value} {base : Heap}
/-! ### terms_in -/
def spTermsIn : Sp := fun vs H Q _ => ∃ (a : Addr) (p : Pt), vs = [.ref a] ∧ PAt H p a ∧ ∀ H' q vs, Same H H' → H' q = some (.tup vs) → All2 (RefV H') (termsP p) vs → Q (.ref q) H'
abbrev sterms_in : Stmt := top 13
theorem scterms_in : FnScope ["part"] ["part"] (defScope sterms_in) := ⟨rfl, rfl, rfl, by decide +kernel, rfl, by decide +kernel, by decide +kernel⟩
theorem ok_tin {f : Addr} {fd : FuncData} (F : Fun K "terms_in" "terms_in" sterms_in f fd) : FnOk P w K mg base CX0 1 f fd ["part"] spTermsIn := by
  refine F.ok scterms_in (fun vs H Q E h => ?_) (fun cdv A outer s H vs Q E hr h => ?_)
  · obtain ⟨a, p, rfl, _⟩ := h
    rfl
  obtain ⟨a, p, rfl, hA, q⟩ := h
  refine ⟨_, (pss_cons (ps_if (pt_cmpR op_eq (pe_ix ix_tup (pv 0) pe_int (fun _ _ => rfl)) pe_str (nomark _)) (pss_one (ps_ret (pe_ix ix_tup (pv 0) pe_int (fun _ _ => rfl)))) pss_nil)
    (pss_cons (ps_if (pt_cmpR op_eq (pe_ix ix_tup (pv 0) pe_int (fun _ _ => rfl)) pe_str (nomark _)) (pss_one (ps_ret (pe_slice sl_tupA (pv 0) (po_some pe_int) (po_some pe_int)))) pss_nil)
    (pss_cons (ps_if (pt_cmpR op_eq (pe_ix ix_tup (pv 0) pe_int (fun _ _ => rfl)) pe_str (nomark _)) (pss_one (ps_ret (pe_tup pa_nil))) pss_nil)
    (pss_one (ps_ret (pe_slice sl_tupA (pv 0) (po_some pe_int) (po_some pe_int))))))), ?_⟩
  cases p with
  | give j t =>
    obtain ⟨b, h1, h2⟩ := hA
    refine ⟨_, rfl, a, _, _, _, rfl, rfl, SqT.of h1, at0, rfl, _, rfl, itF rfl ⟨_, rfl, a, _, _, _, rfl, rfl, SqT.of h1, at0, rfl, _, rfl, itF rfl ⟨_, rfl, a, _, _, _, rfl, rfl, SqT.of h1, at0, rfl, _, rfl, itF rfl ?_⟩⟩⟩
    refine ⟨_, rfl, _, rfl, _, rfl, a, _, rfl, SqT.of h1, fun z => absurd z (by show ¬ (HT.sIx 3 0 (some 2) = 0 ∧ HT.sIx 3 3 (some 3) = 3); decide), fun _ p hp => ?_⟩
    have s1 := same_new hp (.tup [V.ref b])
    exact q _ p [.ref b] s1 upd_same ⟨⟨b, rfl, h2.mono s1⟩, trivial⟩
  | ask g ts j =>
    obtain ⟨b, vs, h1, h2, h3⟩ := hA
    exact ⟨_, rfl, a, _, _, _, rfl, rfl, SqT.of h1, at0, rfl, _, rfl, itT rfl ⟨_, rfl, a, _, _, _, rfl, rfl, SqT.of h1, at2, q H b vs (Same.refl H) h2 h3⟩⟩
  | tell x t p =>
    obtain ⟨b, c, h1, h2, h3⟩ := hA
    refine ⟨_, rfl, a, _, _, _, rfl, rfl, SqT.of h1, at0, rfl, _, rfl, itF rfl ⟨_, rfl, a, _, _, _, rfl, rfl, SqT.of h1, at0, rfl, _, rfl, itF rfl ⟨_, rfl, a, _, _, _, rfl, rfl, SqT.of h1, at0, rfl, _, rfl, itF rfl ?_⟩⟩⟩
    refine ⟨_, rfl, _, rfl, _, rfl, a, _, rfl, SqT.of h1, fun z => absurd z (by show ¬ (HT.sIx 4 0 (some 2) = 0 ∧ HT.sIx 4 4 (some 3) = 4); decide), fun _ p hp => ?_⟩
    have s1 := same_new hp (.tup [V.ref b])
    exact q _ p [.ref b] s1 upd_same ⟨⟨b, rfl, h2.mono s1⟩, trivial⟩
  | lett x t p =>
    obtain ⟨b, c, h1, h2, h3⟩ := hA
    refine ⟨_, rfl, a, _, _, _, rfl, rfl, SqT.of h1, at0, rfl, _, rfl, itF rfl ⟨_, rfl, a, _, _, _, rfl, rfl, SqT.of h1, at0, rfl, _, rfl, itF rfl ⟨_, rfl, a, _, _, _, rfl, rfl, SqT.of h1, at0, rfl, _, rfl, itF rfl ?_⟩⟩⟩
    refine ⟨_, rfl, _, rfl, _, rfl, a, _, rfl, SqT.of h1, fun z => absurd z (by show ¬ (HT.sIx 4 0 (some 2) = 0 ∧ HT.sIx 4 4 (some 3) = 4); decide), fun _ p hp => ?_⟩
    have s1 := same_new hp (.tup [V.ref b])
    exact q _ p [.ref b] s1 upd_same ⟨⟨b, rfl, h2.mono s1⟩, trivial⟩
  | iff t p p2 =>
    obtain ⟨b, c, d, h1, h2, h3, h4⟩ := hA
    refine ⟨_, rfl, a, _, _, _, rfl, rfl, SqT.of h1, at0, rfl, _, rfl, itF rfl ⟨_, rfl, a, _, _, _, rfl, rfl, SqT.of h1, at0, rfl, _, rfl, itT rfl ?_⟩⟩
    refine ⟨_, rfl, _, rfl, _, rfl, a, _, rfl, SqT.of h1, fun z => absurd z (by show ¬ (HT.sIx 4 0 (some 1) = 0 ∧ HT.sIx 4 4 (some 2) = 4); decide), fun _ p hp => ?_⟩
    have s1 := same_new hp (.tup [V.ref b])
    exact q _ p [.ref b] s1 upd_same ⟨⟨b, rfl, h2.mono s1⟩, trivial⟩
  | post j x p p2 =>
    obtain ⟨c, d, h1, h2, h3⟩ := hA
    refine ⟨_, rfl, a, _, _, _, rfl, rfl, SqT.of h1, at0, rfl, _, rfl, itF rfl ⟨_, rfl, a, _, _, _, rfl, rfl, SqT.of h1, at0, rfl, _, rfl, itF rfl ⟨_, rfl, a, _, _, _, rfl, rfl, SqT.of h1, at0, rfl, _, rfl, itT rfl ?_⟩⟩⟩
    exact ⟨sz (by show 0 ≤ 100000; decide), fun p hp => q _ p [] (same_new hp _) upd_same trivial⟩
/-! ### rest_of -/
abbrev srest_of : Stmt := top 14
theorem screst_of : FnScope ["part"] ["part"] (defScope srest_of) := ⟨rfl, rfl, rfl, by decide +kernel, rfl, by decide +kernel, by decide +kernel⟩
theorem ok_rest {f : Addr} {fd : FuncData} (F : Fun K "rest_of" "rest_of" srest_of f fd) : FnOk P w K mg base CX0 1 f fd ["part"] (spKids TrP) := by
  refine F.ok screst_of (fun vs H Q E h => ?_) (fun cdv A outer s H vs Q E hr h => ?_)
  · obtain ⟨p, a, rfl, _⟩ := h
    rfl
  obtain ⟨p, a, rfl, hA, q⟩ := h
  refine ⟨_, (pss_cons (ps_if (pt_cmpR op_eq (pe_ix ix_tup (pv 0) pe_int (fun _ _ => rfl)) pe_str (nomark _)) (pss_one (ps_ret (pe_slice sl_tupA (pv 0) (po_some pe_int) po_none))) pss_nil)
    (pss_cons (ps_if (pt_cmpR op_in_seq (pe_ix ix_tup (pv 0) pe_int (fun _ _ => rfl)) (pe_tup (pa_cons pe_str (pa_cons pe_str pa_nil))) rfl) (pss_one (ps_ret (pe_tup pa_nil))) pss_nil)
    (pss_one (ps_ret (pe_slice sl_tupA (pv 0) (po_some pe_int) po_none))))), ?_⟩
  have hA' : PAt H p a := hA
  obtain ⟨r, hd⟩ := hA'.head
  refine ⟨_, rfl, a, _, _, _, rfl, rfl, SqT.of hd, at0, rfl, _, rfl, ?_⟩
  cases p with
  | iff t p1 p2 =>
    obtain ⟨b, c, d, h1, h2, h3, h4⟩ := hA'
    refine itT rfl ⟨_, rfl, _, rfl, a, _, rfl, SqT.of h1, fun z => absurd z (not_whole (by decide) len2), fun _ pa hpa => ?_⟩
    have s1 := same_new hpa (.tup (cutV [.str "if", .ref b, .ref c, .ref d] (some 2) none))
    exact q pa _ [.ref c, .ref d] s1 (by rw [upd_same, cut2]) ⟨⟨c, rfl, PAt.tk (tk_same s1) h3⟩, ⟨d, rfl, PAt.tk (tk_same s1) h4⟩, trivial⟩
  | give j t =>
    refine itF rfl ⟨_, rfl, a, _, _, _, rfl, rfl, SqT.of hd, at0, sz (by show 2 ≤ 100000; decide), fun t1 ht1 => ⟨t1, _, rfl, .inr (SqT.of upd_same), rfl, rfl, _, rfl, itT rfl ⟨sz (by show 0 ≤ 100000; decide), fun pa hpa => ?_⟩⟩⟩
    exact q pa _ [] ((same_new ht1 _).trans (same_new hpa _)) upd_same trivial
  | ask g ts j =>
    refine itF rfl ⟨_, rfl, a, _, _, _, rfl, rfl, SqT.of hd, at0, sz (by show 2 ≤ 100000; decide), fun t1 ht1 => ⟨t1, _, rfl, .inr (SqT.of upd_same), rfl, rfl, _, rfl, itT rfl ⟨sz (by show 0 ≤ 100000; decide), fun pa hpa => ?_⟩⟩⟩
    exact q pa _ [] ((same_new ht1 _).trans (same_new hpa _)) upd_same trivial
  | tell x t p1 =>
    obtain ⟨b, c, h1, h2, h3⟩ := hA'
    refine itF rfl ⟨_, rfl, a, _, _, _, rfl, rfl, SqT.of h1, at0, sz (by show 2 ≤ 100000; decide), fun t1 ht1 => ⟨t1, _, rfl, .inr (SqT.of upd_same), rfl, rfl, _, rfl, itF rfl ?_⟩⟩
    have s0 := same_new ht1 (.tup [.str "give", .str "ask"])
    refine ⟨_, rfl, _, rfl, a, _, rfl, SqT.of (s0 _ _ h1), fun z => absurd z (not_whole (by decide) len3), fun _ pa hpa => ?_⟩
    have s1 := s0.trans (same_new hpa (.tup (cutV [.str "tell", .str x, .ref b, .ref c] (some 3) none)))
    exact q pa _ [.ref c] s1 (by rw [upd_same, cut3]) ⟨⟨c, rfl, PAt.tk (tk_same s1) h3⟩, trivial⟩
  | lett x t p1 =>
    obtain ⟨b, c, h1, h2, h3⟩ := hA'
    refine itF rfl ⟨_, rfl, a, _, _, _, rfl, rfl, SqT.of h1, at0, sz (by show 2 ≤ 100000; decide), fun t1 ht1 => ⟨t1, _, rfl, .inr (SqT.of upd_same), rfl, rfl, _, rfl, itF rfl ?_⟩⟩
    have s0 := same_new ht1 (.tup [.str "give", .str "ask"])
    refine ⟨_, rfl, _, rfl, a, _, rfl, SqT.of (s0 _ _ h1), fun z => absurd z (not_whole (by decide) len3), fun _ pa hpa => ?_⟩
    have s1 := s0.trans (same_new hpa (.tup (cutV [.str "let", .str x, .ref b, .ref c] (some 3) none)))
    exact q pa _ [.ref c] s1 (by rw [upd_same, cut3]) ⟨⟨c, rfl, PAt.tk (tk_same s1) h3⟩, trivial⟩
  | post j x p1 p2 =>
    obtain ⟨c, d, h1, h2, h3⟩ := hA'
    refine itF rfl ⟨_, rfl, a, _, _, _, rfl, rfl, SqT.of h1, at0, sz (by show 2 ≤ 100000; decide), fun t1 ht1 => ⟨t1, _, rfl, .inr (SqT.of upd_same), rfl, rfl, _, rfl, itF rfl ?_⟩⟩
    have s0 := same_new ht1 (.tup [.str "give", .str "ask"])
    refine ⟨_, rfl, _, rfl, a, _, rfl, SqT.of (s0 _ _ h1), fun z => absurd z (not_whole (by decide) len3), fun _ pa hpa => ?_⟩
    have s1 := s0.trans (same_new hpa (.tup (cutV [.str "post", .str j, .str x, .ref c, .ref d] (some 3) none)))
    exact q pa _ [.ref c, .ref d] s1 (by rw [upd_same, cut3]) ⟨⟨c, rfl, PAt.tk (tk_same s1) h2⟩, ⟨d, rfl, PAt.tk (tk_same s1) h3⟩, trivial⟩
/-! ### turned_parts -/
abbrev sturned_parts : Stmt := top 15
theorem scturned_parts : FnScope ["part"] ["part"] (defScope sturned_parts) := ⟨rfl, rfl, rfl, by decide +kernel, rfl, by decide +kernel, by decide +kernel⟩
theorem ok_tparts (hS : ∃ a, mg "SIMPLE_HEADS" = some (.ref a) ∧ ∀ H, SqT K H a heads) {f f1 f2 f3 : Addr} {fd d1 d2 d3 : FuncData} (F : Fun K "turned_parts" "turned_parts" sturned_parts f fd) (Gparts_of : FnOk P w K mg base CX0 1 f1 d1 ["term"] spParts) (Rparts_of : Ref K mg "parts_of" f1 d1 ["term"])
    (Gterms_in : FnOk P w K mg base CX0 1 f2 d2 ["part"] spTermsIn) (Rterms_in : Ref K mg "terms_in" f2 d2 ["part"]) (Grest_of : FnOk P w K mg base CX0 1 f3 d3 ["part"] (spKids TrP)) (Rrest_of : Ref K mg "rest_of" f3 d3 ["part"]) : FnOk P w K mg base CX0 2 f fd ["part"] (spKids TrN) := by
  refine F.ok scturned_parts (fun vs H Q E h => ?_) (fun cdv A outer s H vs Q E hr h => ?_)
  · obtain ⟨p, a, rfl, _⟩ := h
    rfl
  obtain ⟨n, a, rfl, hA, q⟩ := h
  obtain ⟨sh, msh, hsh⟩ := hS
  refine ⟨_, (pss_cons (ps_if (pt_cmpR op_in_seq (pe_ix ix_tup (pv 0) pe_int (fun _ _ => rfl)) (pe_glob (v := .ref sh) rfl msh rfl) rfl) (pss_one (ps_ret (pe_call Gparts_of (hr.mono (by omega)) rfl Rparts_of.m Rparts_of.k Rparts_of.b .nil pass0 (pa_cons (pv 0) pa_nil)))) pss_nil)
    (pss_one (ps_ret (pe_op op_catA (pe_call Gterms_in (hr.mono (by omega)) rfl Rterms_in.m Rterms_in.k Rterms_in.b .nil pass0 (pa_cons (pv 0) pa_nil)) (pe_call Grest_of (hr.mono (by omega)) rfl Rrest_of.m Rrest_of.k Rrest_of.b .nil pass0 (pa_cons (pv 0) pa_nil)))))), ?_⟩
  cases n with
  | inr t =>
    obtain ⟨hT, hsi⟩ := hA
    obtain ⟨h, n, k⟩ := t
    obtain ⟨ys, l, hk⟩ := hT
    obtain ⟨r, hd⟩ := l.head
    obtain ⟨e1, e2⟩ := simple_mk hsi
    refine ⟨_, rfl, a, _, _, _, rfl, rfl, SqT.of hd, at0, sh, _, rfl, .inr (hsh _), rfl, rfl, _, rfl, itT ?_ ⟨_, rfl, a, h, _, rfl, l, fun p H1 s1 h1 => ?_⟩⟩
    · show inV (.str (hs h)) heads = true
      rw [flat_in2, e1]
    · refine q p H1 _ s1 h1 ?_
      have z := all2_fn (k := k) (ys := ys) fun i => (hk i).mono s1
      refine All2.map (f := Sum.inr) (all2_mem z fun u hu v hv => ?_)
      obtain ⟨b, rfl, hb⟩ := hv
      obtain ⟨i, rfl⟩ := List.mem_ofFn.mp hu
      exact ⟨b, rfl, hb, e2 i⟩
  | inl p =>
    obtain ⟨hA', hk⟩ : PAt H p a ∧ wfP p := hA
    obtain ⟨r, hd⟩ := hA'.head
    refine ⟨_, rfl, a, _, _, _, rfl, rfl, SqT.of hd, at0, sh, _, rfl, .inr (hsh _), rfl, rfl, _, rfl, itF ?_ ⟨_, rfl, a, p, rfl, hA', fun H1 b1 us1 s1 g1 k1 => ?_⟩⟩
    · show inV (.str (hsP p)) heads = false
      cases p <;> rfl
    · refine ⟨_, rfl, p, a, rfl, PAt.tk (tk_same s1) hA', fun b2 H2 us2 s2 g2 k2 => ?_⟩
      have z1 := k1.len
      have z2 := k2.len
      have l1 : (termsP p).length ≤ 4 := by
        cases p with
        | ask f ts j => exact hk.1
        | _ => show (_ : List Tm).length ≤ 4; simp [termsP]
      have l2 : (innP p).length ≤ 2 := by cases p <;> simp [innP]
      refine catA_of (s2 _ _ g1) g2 (by show us1.length + us2.length ≤ 100000; rw [z1, z2]; show (termsP p).length + (innP p).length ≤ 100000; omega) fun b3 H3 s3 g3 => ?_
      refine q b3 H3 _ ((s1.trans s2).trans s3) g3 ?_
      refine All2.app (All2.map (f := Sum.inr) (all2_mem k1 fun t ht v hv => ?_)) (All2.map (f := Sum.inl) (all2_mem k2 fun u hu v hv => ?_))
      · obtain ⟨b, e, hb⟩ := hv
        exact ⟨b, e, hb.mono (s2.trans s3), wfP_terms hk t ht⟩
      · obtain ⟨b, e, hb⟩ := hv
        exact ⟨b, e, PAt.tk (tk_same s3) hb, wfP_rest hk u hu⟩
/-! ### hand_of -/
def spHandOf : Sp := fun vs H Q _ => ∃ (a : Addr) (p : Pt), vs = [.ref a] ∧ PAt H p a ∧ Q (handV p) H
abbrev shand_of : Stmt := top 16
theorem schand_of : FnScope ["part"] ["part"] (defScope shand_of) := ⟨rfl, rfl, rfl, by decide +kernel, rfl, by decide +kernel, by decide +kernel⟩
theorem ok_handof {f : Addr} {fd : FuncData} (F : Fun K "hand_of" "hand_of" shand_of f fd) : FnOk P w K mg base CX0 1 f fd ["part"] spHandOf := by
  refine F.ok schand_of (fun vs H Q E h => ?_) (fun cdv A outer s H vs Q E hr h => ?_)
  · obtain ⟨p, a, rfl, _⟩ := h
    rfl
  obtain ⟨a, p, rfl, hA, q⟩ := h
  refine ⟨_, (pss_cons (ps_if (pt_cmpR op_eq (pe_ix ix_tup (pv 0) pe_int (fun _ _ => rfl)) pe_str (nomark _)) (pss_one (ps_ret (pe_ix ix_tup (pv 0) pe_int (fun _ _ => rfl)))) pss_nil)
    (pss_cons (ps_if (pt_cmpR op_eq (pe_ix ix_tup (pv 0) pe_int (fun _ _ => rfl)) pe_str (nomark _)) (pss_one (ps_ret (pe_ix ix_tup (pv 0) pe_int (fun _ _ => rfl)))) pss_nil)
    (pss_one (ps_ret pe_non)))), ?_⟩
  obtain ⟨r, hd⟩ := hA.head
  refine ⟨_, rfl, a, _, _, _, rfl, rfl, SqT.of hd, at0, rfl, _, rfl, ?_⟩
  cases p with
  | give j t =>
    obtain ⟨b, h1, _⟩ := hA
    exact itT rfl ⟨_, rfl, a, _, _, _, rfl, rfl, SqT.of h1, at1, q⟩
  | ask g ts j =>
    obtain ⟨b, us, h1, _⟩ := hA
    exact itF rfl ⟨_, rfl, a, _, _, _, rfl, rfl, SqT.of h1, at0, rfl, _, rfl, itT rfl ⟨_, rfl, a, _, _, _, rfl, rfl, SqT.of h1, at_of (j := 3) rfl rfl, q⟩⟩
  | _ => exact itF rfl ⟨_, rfl, a, _, _, _, rfl, rfl, SqT.of hd, at0, rfl, _, rfl, itF rfl q⟩
end
end KB

namespace KB
open PySem L2 HT

/-! ### the least of a list of data -/
section
variable {X : Cx}
def rMinD (K : PySem.W.Frag) : List V → Hp → VK → Prop := fun vs H Q => ∃ (a : Addr) (ws : List V) (d : PyData) (ds : List PyData), vs = [.ref a] ∧ SqL K H a ws ∧ DpAll K H ws (d :: ds) ∧ PySem.W.AlikeAll (d :: ds) ∧ PySem.PyData.depthAll (d :: ds) ≤ 50 ∧
  ∀ (i : Nat) (x : V), ws[i]? = some x → (d :: ds)[i]? = some (PySem.W.minD d ds) → Q x H
theorem vals_back : ∀ {xs : List V} {us : List Value} {i : Nat} {u : Value}, Vals xs us → us[i]? = some u → ∃ x, xs[i]? = some x ∧ RelV x u
  | _, _, 0, u, .cons (a := x) r _, e => ⟨x, rfl, (Option.some.inj e) ▸ r⟩
  | _, _, i + 1, u, .cons r t, e => by
    obtain ⟨x, h1, h2⟩ := vals_back (i := i) t (by simpa using e)
    exact ⟨x, by simpa using h1, h2⟩
  | _, _, 0, u, .nil, e => by simp at e
  | _, _, i + 1, u, .nil, e => by simp at e
theorem cr_minD (hc : X.calm = true) (hu : X.A.units + 64 < cLine) : CallR X (.builtin "min") (rMinD X.K) := by
  intro pins s σ H vs us Q I r h
  obtain ⟨a, ws, d, ds, rfl, hs, hd, ha, hz, q⟩ := h
  obtain ⟨its, rv, hl, _⟩ := I.list hs
  rw [Vals.ref1 r]
  obtain ⟨as, hr⟩ := Dp.readsAll I (d :: ds) ws its hd rv
  refine PySem.W.min_list_data (I.ok.hd hc) hl.isList (as := as) (by rw [List.toList_toArray]; exact hr) ha (by omega) fun i v h' tk bs hi hm hk => ?_
  have hi' : its[i]? = some v := by simpa using hi
  obtain ⟨x, hx, rx⟩ := vals_back rv hi'
  obtain ⟨cs, h1, h2, _, _⟩ := PySem.W.readsAll_at hr i v hi'
  have e := (PyProof.Rows.reads_det (fun b o z _ => hk b o z) h1 hm).1
  refine ⟨x, H, I.kept hk, rx, q i x hx ?_⟩
  rw [e, List.getElem?_eq_getElem h2, List.getD_eq_getElem?_getD, List.getElem?_eq_getElem h2]
  rfl
end
/-! ### places -/
def ltL : List Int → List Int → Bool
  | [], [] => false
  | [], _ :: _ => true
  | _ :: _, [] => false
  | x :: xs, y :: ys => if x = y then ltL xs ys else decide (x < y)
def pdPl (x : Str × List Int) : PyData := .tuple (.str x.1 :: x.2.map PyData.int)
theorem toks_ints : ∀ xs ys : List Int, PyProof.Rows.lexLt PyProof.Rows.itemOrd (PySem.W.keyToksAll (xs.map .int)) (PySem.W.keyToksAll (ys.map .int)) = ltL xs ys
  | [], [] => rfl
  | [], _ :: _ => rfl
  | _ :: _, [] => rfl
  | x :: xs, y :: ys => by
    have ih := toks_ints xs ys
    rw [List.map_cons, List.map_cons, PySem.W.toks_all_cons, PySem.W.toks_all_cons, PyProof.Rows.lex_self (O := PyProof.Rows.itemOrd)]
    show PyProof.Rows.lexLt PyProof.Rows.itemOrd (Sum.inl x :: PySem.W.keyToksAll (xs.map .int)) (Sum.inl y :: PySem.W.keyToksAll (ys.map .int)) = if x = y then ltL xs ys else decide (x < y)
    by_cases e : x = y
    · subst e
      rw [PyProof.Rows.lex_self (O := PyProof.Rows.itemOrd), if_pos rfl, ih]
    · rw [if_neg e, PyProof.Rows.lex_diff (O := PyProof.Rows.itemOrd) (fun z => e (Sum.inl.inj z))]
      rfl
theorem lt_pl (n : Str) (xs ys : List Int) : PySem.W.dataLt (pdPl (n, xs)) (pdPl (n, ys)) = ltL xs ys := by
  unfold pdPl
  rw [PySem.W.dataLt_tuple, PySem.W.toks_all_cons, PySem.W.toks_all_cons, PyProof.Rows.lex_self (O := PyProof.Rows.itemOrd)]
  show PyProof.Rows.lexLt PyProof.Rows.itemOrd ((Sum.inr n.cps.toList) :: PySem.W.keyToksAll (xs.map .int)) (Sum.inr n.cps.toList :: PySem.W.keyToksAll (ys.map .int)) = _
  rw [PyProof.Rows.lex_self (O := PyProof.Rows.itemOrd), toks_ints]
theorem alike_ints : ∀ xs ys : List Int, PySem.W.alikeAll (xs.map .int) (ys.map .int) = true
  | [], _ => by simp [PySem.W.alikeAll]
  | _ :: _, [] => by simp [PySem.W.alikeAll]
  | x :: xs, y :: ys => by
    rw [List.map_cons, List.map_cons, PySem.W.alikeAll, alike_ints xs ys]
    rfl
theorem alike_pl (x y : Str × List Int) : PySem.W.alike (pdPl x) (pdPl y) = true := by
  unfold pdPl
  rw [PySem.W.alike, PySem.W.alikeAll, alike_ints]
  rfl
theorem alike_pls (xs : List (Str × List Int)) : PySem.W.AlikeAll (xs.map pdPl) := by
  refine ⟨fun a ha b hb => ?_, fun a ha => ?_⟩
  · obtain ⟨x, _, rfl⟩ := List.mem_map.mp ha
    obtain ⟨y, _, rfl⟩ := List.mem_map.mp hb
    exact alike_pl x y
  · obtain ⟨x, _, rfl⟩ := List.mem_map.mp ha
    exact fun z => nomatch z
/-- the least of places of one errand -/
def minL (a : List Int) (r : List (List Int)) : List Int := r.foldl (fun a y => if ltL y a then y else a) a
theorem min_pl (n : Str) : ∀ (r : List (List Int)) (a : List Int), PySem.W.minD (pdPl (n, a)) (r.map fun x => pdPl (n, x)) = pdPl (n, minL a r)
  | [], _ => rfl
  | y :: r, a => by
    unfold PySem.W.minD minL
    rw [List.map_cons, List.foldl_cons, List.foldl_cons, lt_pl]
    have ih := min_pl n r (if ltL y a = true then y else a)
    unfold PySem.W.minD minL at ih
    rw [← ih]
    by_cases e : ltL y a = true
    · rw [if_pos e, if_pos e]
    · rw [if_neg e, if_neg e]
end KB

namespace KB
open PySem L2 HT

/-! ### places as Python's data -/
theorem layAll : ∀ {ds : List PyData}, (∀ d ∈ ds, d.canLay0 = true) → PySem.PyData.canLayAll0 ds = true
  | [], _ => rfl
  | d :: r, h => by
    show (d.canLay0 && PySem.PyData.canLayAll0 r) = true
    rw [h d List.mem_cons_self, layAll fun x hx => h x (List.mem_cons_of_mem _ hx)]
    rfl
theorem depthAll_le {m : Nat} : ∀ {ds : List PyData}, (∀ d ∈ ds, d.depth ≤ m) → PySem.PyData.depthAll ds ≤ m
  | [], _ => Nat.zero_le _
  | d :: r, h => by
    show max d.depth (PySem.PyData.depthAll r) ≤ m
    have h1 := h d List.mem_cons_self
    have h2 := depthAll_le fun x hx => h x (List.mem_cons_of_mem _ hx)
    omega
theorem depth_tup {m : Nat} {ds : List PyData} (h : ∀ d ∈ ds, d.depth ≤ m) : (PyData.tuple ds).depth ≤ m + 1 := by
  show PySem.PyData.depthAll ds + 1 ≤ m + 1
  have := depthAll_le h
  omega
theorem depth_lst {m : Nat} {ds : List PyData} (h : ∀ d ∈ ds, d.depth ≤ m) : (PyData.list ds).depth ≤ m + 1 := by
  show PySem.PyData.depthAll ds + 1 ≤ m + 1
  have := depthAll_le h
  omega
theorem lay_str {x : Str} (h : isW x = true) : (PyData.str x).canLay0 = true := isW_ok h
theorem eqv_self {d : PyData} (h : SeqAt.shaped d = true) : PyData.eqv d d = true := SeqAt.eqv_refl d (SeqAt.canLay_of_shaped h)
theorem dp_ints {K : PySem.W.Frag} {H : Hp} : ∀ ks : List Int, DpAll K H (ks.map V.int) (ks.map PyData.int)
  | [] => .nil
  | k :: r => .cons (.int k) (dp_ints r)
theorem u65 {k : Nat} {A : Around} (r : Room k A) : A.units + 65 < cLine := by
  have := r.un
  omega
def PlS (H : Hp) (x : Str × List Int) (v : V) : Prop := ∃ r, v = .ref r ∧ H r = some (.tup (.str x.1 :: x.2.map V.int))
theorem PlS.tk {H H' : Hp} (t : TK H H') {x : Str × List Int} {v : V} (h : PlS H x v) : PlS H' x v := let ⟨r, e, g⟩ := h; ⟨r, e, t _ _ g⟩
theorem dp_pls {K : PySem.W.Frag} {H : Hp} : ∀ {xs : List (Str × List Int)} {vs : List V}, All2 (PlS H) xs vs → DpAll K H vs (xs.map pdPl)
  | [], [], _ => .nil
  | x :: xs, v :: vs, h => by
    obtain ⟨⟨r, e, hr⟩, h2⟩ := h
    subst e
    exact .cons (.tup (SqT.of hr) (.cons (.str _) (dp_ints _))) (dp_pls h2)
  | [], _ :: _, h => h.elim
  | _ :: _, [], h => h.elim
theorem lay_pl {x : Str × List Int} (h : isW x.1 = true) : (pdPl x).canLay0 = true := layAll fun d hd => by
  rcases List.mem_cons.mp hd with z | z
  · rw [z]
    exact lay_str h
  · obtain ⟨k, _, rfl⟩ := List.mem_map.mp z
    rfl
theorem depth_pl (x : Str × List Int) : (pdPl x).depth ≤ 1 := depth_tup (m := 0) fun d hd => by
  rcases List.mem_cons.mp hd with z | z
  · rw [z]
    exact Nat.le_refl 0
  · obtain ⟨k, _, rfl⟩ := List.mem_map.mp z
    exact Nat.le_refl 0
theorem shaped_pl {x : Str × List Int} (h : isW x.1 = true) : SeqAt.shaped (pdPl x) = true := shaped_of (lay_pl h) (Nat.le_trans (depth_pl x) (by decide))
theorem shaped_pls {xs : List (Str × List Int)} (h : ∀ x ∈ xs, isW x.1 = true) : SeqAt.shaped (.list (xs.map pdPl)) = true := by
  refine shaped_of (layAll fun d hd => ?_) (Nat.le_trans (depth_lst (m := 1) fun d hd => ?_) (by decide))
  · obtain ⟨x, hx, rfl⟩ := List.mem_map.mp hd
    exact lay_pl (h x hx)
  · obtain ⟨x, _, rfl⟩ := List.mem_map.mp hd
    exact depth_pl x
theorem eqv_ints : ∀ a b : List Int, PyData.eqvAll (a.map PyData.int) (b.map PyData.int) = decide (a = b)
  | [], [] => rfl
  | [], _ :: _ => rfl
  | _ :: _, [] => rfl
  | x :: a, y :: b => by
    show (PyData.eqv (.int x) (.int y) && PyData.eqvAll (a.map PyData.int) (b.map PyData.int)) = _
    rw [eqv_ints a b]
    by_cases h1 : x = y
    · subst h1
      have e : PyData.eqv (.int x) (.int x) = true := by simp [PyData.eqv]
      rw [e]
      by_cases h2 : a = b
      · subst h2; simp
      · simp [h2]
    · have e : PyData.eqv (.int x) (.int y) = false := by simp [PyData.eqv, h1]
      rw [e]
      simp [h1]
theorem eqv_pl (x y : Str × List Int) : PyData.eqv (pdPl x) (pdPl y) = decide (x = y) := by
  show (PyData.eqv (.str x.1) (.str y.1) && PyData.eqvAll (x.2.map PyData.int) (y.2.map PyData.int)) = _
  rw [eqv_ints]
  obtain ⟨a, b⟩ := x
  obtain ⟨c, d⟩ := y
  by_cases h1 : a = c
  · subst h1
    have e : PyData.eqv (.str a) (.str a) = true := by simp [PyData.eqv]
    show (PyData.eqv (.str a) (.str a) && _) = _
    rw [e]
    by_cases h2 : b = d
    · subst h2; simp
    · simp [h2]
  · have e : PyData.eqv (.str a) (.str c) = false := by simp [PyData.eqv, h1]
    show (PyData.eqv (.str a) (.str c) && _) = _
    rw [e]
    simp [h1]
theorem any_pl (xs : List (Str × List Int)) (x : Str × List Int) : ((xs.map pdPl).any fun z => PyData.eqv z (pdPl x)) = decide (x ∈ xs) := by
  induction xs with
  | nil => rfl
  | cons y r ih =>
    rw [List.map_cons, List.any_cons, ih, eqv_pl]
    by_cases h : y = x
    · subst h; simp
    · have h' : ¬ x = y := fun z => h z.symm
      simp [h, h']
end KB

namespace KB
open PySem L2 HT

/-! ### where a part hands on what is not due -/
def dueK : Pt → Str → Nat → Str
  | .post j _ _ _, _, 1 => j
  | _, due, _ => due
def bentL : Pt → Str → List (List Int)
  | .give j _, due => if j = due then [] else [[]]
  | .ask _ _ j, due => if j = due then [] else [[]]
  | .tell _ _ q, due => (bentL q due).map (fun e => (1 : Int) :: e) ++ []
  | .lett _ _ q, due => (bentL q due).map (fun e => (1 : Int) :: e) ++ []
  | .iff _ q u, due => (bentL q due).map (fun e => (1 : Int) :: e) ++ ((bentL u due).map (fun e => (2 : Int) :: e) ++ [])
  | .post j _ q u, due => (bentL q due).map (fun e => (0 : Int) :: e) ++ ((bentL u j).map (fun e => (1 : Int) :: e) ++ [])
def bentK (s : Nat) (d : Nat → Str) : Nat → List Pt → List (List Int)
  | _, [] => []
  | i, p :: r => (bentL p (d i)).map (fun e => (((s : Nat) : Int) + ((i : Nat) : Int)) :: e) ++ bentK s d (i + 1) r
theorem bentL_tell {x t q due} : bentL (.tell x t q) due = bentK 1 (dueK (.tell x t q) due) 0 [q] := rfl
theorem bentL_eq {p : Pt} {due : Str} (h : innP p ≠ []) : bentL p due = bentK (smpN p) (dueK p due) 0 (innP p) := by
  cases p with
  | give j t => exact absurd rfl h
  | ask f ts j => exact absurd rfl h
  | _ => rfl
theorem eq_strV (a b : Str) : eqV (.str a) (.str b) = decide (a = b) := by
  show (a == b) = decide (a = b)
  by_cases h : a = b
  · rw [decide_eq_true h, beq_iff_eq]; exact h
  · rw [decide_eq_false h]; exact beq_eq_false_iff_ne.mpr h
theorem eq_intV (a b : Int) : eqV (.int a) (.int b) = decide (a = b) := by
  show (a == b) = decide (a = b)
  by_cases h : a = b
  · rw [decide_eq_true h, beq_iff_eq]; exact h
  · rw [decide_eq_false h]; exact beq_eq_false_iff_ne.mpr h
theorem hand_flat (p : Pt) : flatV (handV p) = true := by cases p <;> rfl
theorem hand_str (j due : Str) : inV (.str j) [.non, .str due] = decide (due = j) := by
  show (false || (eqV (.str due) (.str j) || false)) = _
  rw [eq_strV, Bool.false_or, Bool.or_false]
theorem bent_yes {p : Pt} {due : Str} (h : (!inV (handV p) [.non, .str due]) = true) : bentL p due = [[]] := by
  cases p with
  | give j t =>
    rw [show handV (.give j t) = .str j from rfl, hand_str] at h
    have : ¬ due = j := fun z => by rw [decide_eq_true z] at h; cases h
    exact if_neg fun z => this z.symm
  | ask f ts j =>
    rw [show handV (.ask f ts j) = .str j from rfl, hand_str] at h
    have : ¬ due = j := fun z => by rw [decide_eq_true z] at h; cases h
    exact if_neg fun z => this z.symm
  | _ => exact absurd h (by show ¬ false = true; exact Bool.false_ne_true)
theorem bent_no {p : Pt} {due : Str} (h : (!inV (handV p) [.non, .str due]) ≠ true) : bentL p due = bentK (smpN p) (dueK p due) 0 (innP p) := by
  cases p with
  | give j t =>
    rw [show handV (.give j t) = .str j from rfl, hand_str] at h
    have : due = j := Decidable.byContradiction fun z => h (by rw [decide_eq_false z]; rfl)
    exact if_pos this.symm
  | ask f ts j =>
    rw [show handV (.ask f ts j) = .str j from rfl, hand_str] at h
    have : due = j := Decidable.byContradiction fun z => h (by rw [decide_eq_false z]; rfl)
    exact if_pos this.symm
  | _ => rfl
theorem smp_terms (p : Pt) : (termsP p).length = smpN p := by cases p <;> rfl
/-! ### a row of parts that wait -/
abbrev Tri := List Int × Pt × Str
def remB : List Tri → List (List Int)
  | [] => []
  | e :: r => (bentL e.2.1 e.2.2).map (fun k => e.1 ++ k) ++ remB r
def triB (ks : List Int) (s : Nat) (d : Nat → Str) : Nat → List Pt → List Tri
  | _, [] => []
  | i, p :: r => (ks ++ [((s : Nat) : Int) + ((i : Nat) : Int)], p, d i) :: triB ks s d (i + 1) r
theorem remB_app : ∀ a b : List Tri, remB (a ++ b) = remB a ++ remB b
  | [], b => rfl
  | e :: r, b => by
    show _ ++ remB (r ++ b) = (_ ++ remB r) ++ remB b
    rw [remB_app r b, List.append_assoc]
theorem remB_tri (ks : List Int) (s : Nat) (d : Nat → Str) : ∀ (ps : List Pt) (i : Nat), remB (triB ks s d i ps) = (bentK s d i ps).map (fun k => ks ++ k)
  | [], _ => rfl
  | p :: r, i => by
    show (bentL p (d i)).map (fun k => (ks ++ [((s : Nat) : Int) + ((i : Nat) : Int)]) ++ k) ++ remB (triB ks s d (i + 1) r) = _
    rw [remB_tri ks s d r (i + 1)]
    show _ = (((bentL p (d i)).map _) ++ bentK s d (i + 1) r).map _
    rw [List.map_append, List.map_map]
    congr 1
    refine List.map_congr_left fun k _ => ?_
    show (ks ++ [((s : Nat) : Int) + ((i : Nat) : Int)]) ++ k = ks ++ ((((s : Nat) : Int) + ((i : Nat) : Int)) :: k)
    rw [List.append_assoc]
    rfl
theorem triB_drop {ks : List Int} {s : Nat} {d : Nat → Str} {kl : List Pt} {i : Nat} (h : i < kl.length) : triB ks s d i (kl.drop i) = (ks ++ [((s : Nat) : Int) + ((i : Nat) : Int)], kl[i], d i) :: triB ks s d (i + 1) (kl.drop (i + 1)) := by
  rw [List.drop_eq_getElem_cons h]
  rfl
theorem triB_len {ks : List Int} {s : Nat} {d : Nat → Str} : ∀ {ps : List Pt} {i : Nat}, (triB ks s d i ps).length = ps.length
  | [], _ => rfl
  | p :: r, i => by
    show (triB ks s d (i + 1) r).length + 1 = r.length + 1
    rw [triB_len]
def triW : List Tri → Nat
  | [] => 0
  | e :: r => pcnt e.2.1 + triW r
theorem triW_app : ∀ a b : List Tri, triW (a ++ b) = triW a + triW b
  | [], b => (Nat.zero_add _).symm
  | e :: r, b => by
    show pcnt e.2.1 + triW (r ++ b) = (pcnt e.2.1 + triW r) + triW b
    rw [triW_app r b]
    omega
theorem triW_tri (ks : List Int) (s : Nat) (d : Nat → Str) : ∀ (ps : List Pt) (i : Nat), triW (triB ks s d i ps) = (ps.map pcnt).sum
  | [], _ => rfl
  | p :: r, i => by
    show pcnt p + triW (triB ks s d (i + 1) r) = _
    rw [triW_tri ks s d r]
    rfl
theorem pc_posP (p : Pt) : 1 ≤ pcnt p := by
  rw [pcnt_inn]
  exact Nat.le_add_right _ _
theorem triW_len : ∀ a : List Tri, a.length ≤ triW a
  | [] => Nat.le_refl _
  | e :: r => by
    have := triW_len r
    have := pc_posP e.2.1
    show r.length + 1 ≤ pcnt e.2.1 + triW r
    omega
def TriV (H : Hp) (nm : Str) (e : Tri) (v : V) : Prop := ∃ q r b, v = .ref q ∧ H q = some (.tup [.ref r, .ref b, .str e.2.2]) ∧ H r = some (.tup (.str nm :: e.1.map V.int)) ∧ PAt H e.2.1 b
theorem TriV.tk {H H' : Hp} (k : TK H H') {nm : Str} {e : Tri} {v : V} (h : TriV H nm e v) : TriV H' nm e v := let ⟨q, r, b, e1, h1, h2, h3⟩ := h; ⟨q, r, b, e1, k _ _ h1, k _ _ h2, h3.tk k⟩
/-- a place, or None -/
def OptPl (H : Hp) (nm : Str) : Option (List Int) → V → Prop
  | none, v => v = .non
  | some ks, v => PlS H (nm, ks) v
theorem post_due {p : Pt} {due : Str} (h : hsP p ≠ "post") (i : Nat) : dueK p due i = due := by
  cases p with
  | post j x q u => exact absurd rfl h
  | _ => rfl
theorem post_of {p : Pt} (h : hsP p = "post") : ∃ j x q u, p = .post j x q u := by
  cases p with
  | post j x q u => exact ⟨j, x, q, u, rfl⟩
  | _ => dsimp only [hsP] at h; exact absurd h (by decide)
theorem due_post {j x : Str} {q u : Pt} {due : Str} (i : Nat) : dueK (.post j x q u) due i = if i = 1 then j else due := by
  match i with
  | 0 => rfl
  | 1 => rfl
  | i + 2 => rw [if_neg (by omega)]; rfl

section
variable {P : Program} {w : World} {K : PySem.W.Frag} {mg : Str → Option Value} {base : Heap}
/-! ### bent_in -/
def spBentIn : Sp := fun vs H Q _ => ∃ (nm : Str) (a : Addr) (p : Pt), vs = [.str nm, .ref a] ∧ PAt H p a ∧ pcnt p ≤ 2000 ∧ ∀ v H', Same H H' → OptPl H' nm (bentL p "home").head? v → Q v H'
abbrev sbent_in : Stmt := top 31
theorem scbent_in : FnScope ["name", "body", "waiting", "place", "part", "due", "first", "rest", "k", "is_due_own"] ["name", "body"] (defScope sbent_in) := ⟨rfl, rfl, rfl, by decide +kernel, rfl, by decide +kernel, by decide +kernel⟩
def BiW (H : Hp) (nm : Str) (a wl : Addr) (t : Pt) (m : Nat) (σ : St) (H' : Hp) : Prop := ∃ o3 o4 o5 o6 o7 o8 o9 rs es, σ = [some (.str nm), some (.ref a), some (.ref wl), o3, o4, o5, o6, o7, o8, o9] ∧ Same H H' ∧ H' wl = some (.lst (List.reverse rs)) ∧ All2 (TriV H' nm) es rs ∧ m = triW es ∧
  triW es ≤ pcnt t ∧ (∀ e ∈ es, e.1.length + pcnt e.2.1 ≤ pcnt t) ∧ (remB es).head? = (bentL t "home").head?
def BiI (H : Hp) (nm : Str) (a wl b ra pp : Addr) (p1 : Pt) (due : Str) (ks : List Int) (es : List Tri) (ys : List V) (i : Nat) (σ : St) (H' : Hp) : Prop :=
  ∃ o8 o9, σ = [some (.str nm), some (.ref a), some (.ref wl), some (.ref ra), some (.ref b), some (.str due), some (.int ((smpN p1 : Nat) : Int)), some (.ref pp), o8, o9] ∧ Same H H' ∧
  (∃ rs, H' wl = some (.lst (List.reverse rs)) ∧ All2 (TriV H' nm) (triB ks (smpN p1) (dueK p1 due) ((innP p1).length - i) ((innP p1).drop ((innP p1).length - i)) ++ es) rs) ∧
  H' ra = some (.tup (.str nm :: ks.map V.int)) ∧ H' pp = some (.tup ys) ∧ All2 (TrP.V H') (innP p1) ys ∧ PAt H' p1 b
theorem ok_bentin (T : Txt K mg) {th : Value} (eh : mg "HOME" = some th) (rh : RelV (.str "home") th) {f f1 f2 f3 : Addr} {fd d1 d2 d3 : FuncData} (F : Fun K "bent_in" "bent_in" sbent_in f fd) (Ghand_of : FnOk P w K mg base CX0 1 f1 d1 ["part"] spHandOf) (Rhand_of : Ref K mg "hand_of" f1 d1 ["part"])
    (Gterms_in : FnOk P w K mg base CX0 1 f2 d2 ["part"] spTermsIn) (Rterms_in : Ref K mg "terms_in" f2 d2 ["part"]) (Grest_of : FnOk P w K mg base CX0 1 f3 d3 ["part"] (spKids TrP)) (Rrest_of : Ref K mg "rest_of" f3 d3 ["part"]) : FnOk P w K mg base CX0 2 f fd ["name", "body"] spBentIn := by
  refine F.ok scbent_in (fun vs H Q E h => ?_) (fun cdv A outer s H vs Q E hr h => ?_)
  · obtain ⟨nm, a, t, rfl, _⟩ := h
    rfl
  obtain ⟨nm, a, t, rfl, hA, hc, q⟩ := h
  refine ⟨_, (pss_cons (ps_set (i := 2) scbent_in.nd rfl (Or.inl rfl) (pe_lst (pa_cons (pe_tup (pa_cons (pe_tup (pa_cons (pv 0) pa_nil)) (pa_cons (pv 1) (pa_cons (pe_glob (v := .str "home") rfl eh rh) pa_nil)))) pa_nil)))
    (pss_cons (ps_while PassesOwn.never (pt_truth (pv 2) (by intro _; rfl)) (pss_cons (ps_asg (pe_bm0 PySem.F.plainAttrs_list PySem.F.slot_list_pop PySem.F.type_list_pop mt_pop (pv 2)) (pg_tup rfl (pgs_cons (pg_name (i := 3) scbent_in.nd rfl (Or.inl rfl)) (pgs_cons (pg_name (i := 4) scbent_in.nd rfl (Or.inl rfl)) (pgs_cons (pg_name (i := 5) scbent_in.nd rfl (Or.inl rfl)) pgs_nil)))))
    (pss_cons (ps_if (pt_cmpR op_notIn_seq (pe_call Ghand_of (hr.mono (by omega)) rfl Rhand_of.m Rhand_of.k Rhand_of.b .nil pass0 (pa_cons (pv 4) pa_nil)) (pe_tup (pa_cons pe_non (pa_cons (pv 5) pa_nil))) rfl) (pss_one (ps_ret (pv 3))) pss_nil)
    (pss_cons (ps_set (i := 6) scbent_in.nd rfl (Or.inl rfl) (pe_callB call_len_seq (by rfl) T.m_len PySem.boot_len (pa_cons (pe_call Gterms_in (hr.mono (by omega)) rfl Rterms_in.m Rterms_in.k Rterms_in.b .nil pass0 (pa_cons (pv 4) pa_nil)) pa_nil)))
    (pss_cons (ps_set (i := 7) scbent_in.nd rfl (Or.inl rfl) (pe_call Grest_of (hr.mono (by omega)) rfl Rrest_of.m Rrest_of.k Rrest_of.b .nil pass0 (pa_cons (pv 4) pa_nil)))
    (pss_one (ps_for PassesOwn.never rfl (pi_revR rfl T.m_reversed (prg_1 rfl T.m_range (pe_callB call_len_seq (by rfl) T.m_len PySem.boot_len (pa_cons (pv 7) pa_nil)))) (pg_name (i := 8) scbent_in.nd rfl (Or.inl rfl)) (Evl.pss_cut (ps_set (i := 9) scbent_in.nd rfl (Or.inl rfl) (pe_and (pe_cmpR op_eq (pe_ix ix_tup (pv 4) pe_int (fun _ _ => rfl)) pe_str (nomark _)) (pe_one (pe_cmpR op_eq (pv 8) pe_int (nomark _)))))
    (pss_one (ps_expr (pe_bm PySem.F.plainAttrs_list PySem.F.slot_list_append PySem.F.type_list_append mt_append (pv 2) (pa_cons (pe_tup (pa_cons (pe_tup (StX.pa_star (pv 3) (pa_cons (pe_op op_add (pv 6) (pv 8)) pa_nil))) (pa_cons (pe_ix ix_tup (pv 7) (pv 8) (fun _ _ => rfl)) (pa_cons (pe_ifExp (pt_val (pv 9)) (pe_ix ix_tup (pv 4) pe_int (fun _ _ => rfl)) (pv 5)) pa_nil)))) pa_nil))))))))))))
    (pss_one (ps_ret pe_non)))), ?_⟩
  refine ⟨_, rfl, sz (by show 1 ≤ 100000; decide), fun p0 hp0 => ?_⟩
  have s0 := same_new hp0 (.tup [.str nm])
  refine ⟨_, rfl, sz (by show 3 ≤ 100000; decide), fun p1 hp1 => ?_⟩
  have s1 := same_new hp1 (.tup [.ref p0, .ref a, .str "home"])
  refine ⟨sz (by show 1 ≤ 100000; decide), fun wl hwl => ?_⟩
  have s2 := same_new hwl (.lst [.ref p1])
  have s01 := s0.trans s1
  have sA := s01.trans s2
  have hw0 : H wl = none := s01.free hwl
  refine ⟨BiW H nm a wl t, ⟨_, none, none, none, none, none, none, none, [.ref p1], [([], t, "home")], rfl, sA, upd_same, ⟨⟨p1, p0, a, rfl, s2 _ _ upd_same, (s1.trans s2) _ _ upd_same, hA.tk (tk_same sA)⟩, trivial⟩, rfl, Nat.le_refl _, ?_, ?_⟩, ?_⟩
  · intro e he
    rw [List.mem_singleton.mp he]
    show 0 + pcnt t ≤ pcnt t
    omega
  · show ((bentL t "home").map (fun k => [] ++ k) ++ []).head? = _
    simp
  clear s0 s1 s2 s01 sA hp0 hp1 hwl
  rintro m σ H1 ⟨o3, o4, o5, o6, o7, o8, o9, rs, es, rfl, s1, h2, k2, rfl, hm, hd, hx⟩
  refine ⟨_, rfl, _, .inl ⟨_, SqL.of h2, rfl⟩, ?_⟩
  cases rs with
  | nil =>
    cases es with
    | cons _ _ => exact k2.elim
    | nil =>
      refine itF rfl (q _ _ s1 ?_)
      rw [← hx]
      rfl
  | cons r rs =>
    cases es with
    | nil => exact k2.elim
    | cons e1 es =>
      obtain ⟨ks, p1, due⟩ := e1
      obtain ⟨⟨qa, ra, b, rfl, g1, g2, g3⟩, k3⟩ := k2
      refine itT (by simp) ⟨fun σ' H' => ∃ m', m' < triW ((ks, p1, due) :: es) ∧ BiW H nm a wl t m' σ' H', fun _ _ z => z, ?_⟩
      refine ⟨_, rfl, .inl ⟨rfl, _, SqL.of h2⟩, wl, _, .ref qa, rfl, rfl, h2, by simp, ?_⟩
      have eD : ((V.ref qa :: rs).reverse).dropLast = rs.reverse := by rw [List.reverse_cons, List.dropLast_concat]
      rw [eD]
      have tk2 : TK H1 (upd H1 wl (.lst rs.reverse)) := tk_put h2
      have s2 : Same H (upd H1 wl (.lst rs.reverse)) := same_mut s1 hw0
      have w2 : upd H1 wl (.lst rs.reverse) wl = some (.lst rs.reverse) := upd_same
      have k5 := k3.imp fun _ _ z => TriV.tk tk2 z
      have g4 := tk2 _ _ g1
      have g5 := tk2 _ _ g2
      have g6 : PAt _ p1 b := PAt.tk tk2 g3
      clear tk2
      generalize upd H1 wl (.lst rs.reverse) = H2 at s2 w2 k5 g4 g5 g6
      refine ⟨qa, _, rfl, SqT.of g4, rfl, _, _, rfl, _, _, rfl, _, _, rfl, rfl, ?_⟩
      -- hand_of(part) not in (None, due)
      refine ⟨_, rfl, b, p1, rfl, g6, _, rfl, sz (by show 2 ≤ 100000; decide), fun t3 ht3 => ?_⟩
      have s3 := same_new ht3 (.tup [.non, .str due])
      refine ⟨t3, _, rfl, .inr (SqT.of upd_same), hand_flat p1, rfl, _, rfl, ?_⟩
      have hd1 := hd _ List.mem_cons_self
      have hd1' : ks.length + pcnt p1 ≤ pcnt t := hd1
      refine ite2 (fun c => ?_) (fun c => ?_)
      · refine ⟨_, rfl, q _ _ (s2.trans s3) ?_⟩
        have e : remB ((ks, p1, due) :: es) = (bentL p1 due).map (fun k => ks ++ k) ++ remB es := rfl
        rw [← hx, e, bent_yes c]
        show PlS _ (nm, ks ++ []) (.ref ra)
        rw [List.append_nil]
        exact ⟨ra, rfl, s3 _ _ g5⟩
      have hbn := bent_no c
      generalize upd H2 t3 (.tup [.non, .str due]) = H3 at s3
      refine ⟨_, rfl, b, p1, rfl, g6.tk (tk_same s3), fun H4 q4 vs4 s4 h4 k4 => ⟨q4, _, rfl, .inr (SqT.of h4), ?_⟩⟩
      have e4 : vs4.length = smpN p1 := by rw [k4.len, smp_terms]
      rw [e4]
      have s34 := s3.trans s4
      refine ⟨_, rfl, p1, b, rfl, g6.tk (tk_same s34), fun pp H5 ys s5 h5 k6 => ?_⟩
      have s35 := s34.trans s5
      have s6 := s2.trans s35
      have hyl : ys.length = (innP p1).length := k6.len
      refine ⟨_, rfl, pp, _, rfl, .inr (SqT.of h5), _, rfl, by decide, by decide, ?_, ?_, ?_⟩
      · omega
      · have : (innP p1).length ≤ 2 := by cases p1 <;> simp [innP]
        omega
      rw [hyl]
      generalize hn : (innP p1).length = n at hyl
      have hn2 : n ≤ 2 := by rw [← hn]; cases p1 <;> simp [innP]
      have e0 : ((n : Int) - 0).toNat = n := by omega
      rw [e0]
      have hW : triW ((ks, p1, due) :: es) = 1 + ((innP p1).map pcnt).sum + triW es := by
        show pcnt p1 + triW es = _
        rw [pcnt_inn p1]
      have hel := triW_len es
      refine for_rangeC (lo := 0 + (n : Int) - 1) (c := -1) (n := n) (BiI H nm a wl b ra pp p1 due ks es ys) ?_ ?_ ?_
      · refine ⟨_, _, rfl, s6, ⟨rs, s35 _ _ w2, ?_⟩, s35 _ _ g5, h5, k6, g6.tk (tk_same s35)⟩
        rw [Nat.sub_zero, List.drop_length]
        exact k5.imp fun _ _ z => TriV.tk (tk_same s35) z
      · rintro i σ' H6 hi ⟨o8', o9', rfl, r1, ⟨rs6, r4, r5⟩, r6, r7, r8, r9⟩
        rw [hn] at r5
        have hj : n - i - 1 < n := by omega
        have ej : (0 : Int) + (n : Int) - 1 + ((i : Nat) : Int) * (-1) = ((n - i - 1 : Nat) : Int) := by omega
        rw [ej]
        obtain ⟨v, hv⟩ : ∃ v, ys[n - i - 1]? = some v := ⟨_, List.getElem?_eq_getElem (by rw [hyl]; exact hj)⟩
        obtain ⟨tj, htj, bj, rfl, hbj⟩ := r8.get hv
        have hes6 := r5.len
        rw [List.length_append, triB_len, List.length_drop, hn] at hes6
        obtain ⟨r0, hhd⟩ := r9.head
        refine ⟨fun σ'' H'' => H'' = H6 ∧ σ'' = [some (.str nm), some (.ref a), some (.ref wl), some (.ref ra), some (.ref b), some (.str due), some (.int ((smpN p1 : Nat) : Int)), some (.ref pp), some (.int ((n - i - 1 : Nat) : Int)), some (.bl (decide (hsP p1 = "post") && decide (n - i - 1 = 1)))], ?_, ?_⟩
        · refine ⟨_, rfl, b, _, _, _, rfl, rfl, SqT.of hhd, at0, rfl, _, rfl, ?_⟩
          refine ite2 (fun c => ?_) (fun c => ?_)
          · have e1 : hsP p1 = "post" := V.str.inj (of_decide_eq_true c)
            refine ⟨_, rfl, rfl, rfl, ?_⟩
            have e2 : decide (V.int ((n - i - 1 : Nat) : Int) = V.int 1) = (decide (hsP p1 = "post") && decide (n - i - 1 = 1)) := by
              rw [decide_eq_true e1, Bool.true_and]
              by_cases z : n - i - 1 = 1
              · rw [decide_eq_true z, decide_eq_true (by rw [z]; rfl)]
              · rw [decide_eq_false z, decide_eq_false (fun y => z (by have := V.int.inj y; omega))]
            rw [e2]
            rfl
          · have e1 : ¬ hsP p1 = "post" := fun z => c (decide_eq_true (congrArg V.str z))
            refine ⟨rfl, ?_⟩
            rw [decide_eq_false e1, Bool.false_and]
            rfl
        intro σz Hz hz
        obtain ⟨eHz, rfl⟩ := hz
        rw [eHz]
        clear eHz Hz
        have hduek : ∃ d', d' = dueK p1 due (n - i - 1) ∧ (((decide (hsP p1 = "post") && decide (n - i - 1 = 1)) = true ∧ ∃ r1, H6 b = some (.tup (.str "post" :: .str d' :: r1))) ∨ ((decide (hsP p1 = "post") && decide (n - i - 1 = 1)) = false ∧ d' = due)) := by
          refine ⟨_, rfl, ?_⟩
          by_cases e1 : hsP p1 = "post"
          · obtain ⟨j, x, pq, pu, rfl⟩ := post_of e1
            rw [due_post]
            by_cases e2 : n - i - 1 = 1
            · rw [if_pos e2]
              obtain ⟨c1, c2, hh, _⟩ := r9
              exact .inl ⟨by rw [decide_eq_true e1, decide_eq_true e2]; rfl, _, hh⟩
            · rw [if_neg e2]
              exact .inr ⟨by rw [decide_eq_false e2, Bool.and_false], rfl⟩
          · exact .inr ⟨by rw [decide_eq_false e1, Bool.false_and], post_due e1 _⟩
        obtain ⟨d', ed, hdc⟩ := hduek
        generalize (decide (hsP p1 = "post") && decide (n - i - 1 = 1)) = own at hdc ⊢
        refine ⟨_, rfl, .inl ⟨rfl, _, SqL.of r4⟩, _, rfl, ra, _, rfl, .inl (SqT.of r6), _, rfl, _, rfl, _, _, rfl, rfl, sz ?_, fun p3 hp3 => ?_⟩
        · show ((.str nm :: ks.map V.int) ++ [V.int (((smpN p1 : Nat) : Int) + ((n - i - 1 : Nat) : Int))]).length ≤ 100000
          rw [List.length_append, List.length_cons, List.length_map, List.length_singleton]
          omega
        have t3 := same_new hp3 (.tup ((.str nm :: ks.map V.int) ++ [.int (((smpN p1 : Nat) : Int) + ((n - i - 1 : Nat) : Int))]))
        have fin : ∀ p4, upd H6 p3 (.tup ((.str nm :: ks.map V.int) ++ [.int (((smpN p1 : Nat) : Int) + ((n - i - 1 : Nat) : Int))])) p4 = none →
            BiI H nm a wl b ra pp p1 due ks es ys (i + 1) [some (.str nm), some (.ref a), some (.ref wl), some (.ref ra), some (.ref b), some (.str due), some (.int ((smpN p1 : Nat) : Int)), some (.ref pp), some (.int ((n - i - 1 : Nat) : Int)), some (.bl own)]
              (upd (upd (upd H6 p3 (.tup ((.str nm :: ks.map V.int) ++ [.int (((smpN p1 : Nat) : Int) + ((n - i - 1 : Nat) : Int))]))) p4 (.tup [.ref p3, .ref bj, .str d'])) wl (.lst (rs6.reverse ++ [.ref p4]))) := by
          intro p4 hp4
          have t4 := same_new hp4 (.tup [.ref p3, .ref bj, .str d'])
          have tt := t3.trans t4
          have w6 := tt _ _ r4
          have tk6 := (tk_same tt).trans (tk_put (o := .lst (rs6.reverse ++ [.ref p4])) w6)
          refine ⟨_, _, rfl, same_mut (r1.trans tt) hw0, ⟨.ref p4 :: rs6, ?_, ?_⟩, tk6 _ _ r6, tk6 _ _ r7, r8.imp fun _ _ z => Tre.V.tk tk6 z, r9.tk tk6⟩
          · rw [upd_same, List.reverse_cons]
          · rw [hn]
            have e2 : n - (i + 1) = n - i - 1 := by omega
            have e3 : n - i - 1 + 1 = n - i := by omega
            rw [e2, triB_drop (by rw [hn]; exact hj), e3]
            refine ⟨⟨p4, p3, bj, rfl, ?_, ?_, ?_⟩, r5.imp fun _ _ z => TriV.tk tk6 z⟩
            · show _ = some (HO.tup [.ref p3, .ref bj, .str (dueK p1 due (n - i - 1))])
              rw [← ed]
              exact tk_put w6 _ _ upd_same
            · have z := (tk_same t4).trans (tk_put (o := .lst (rs6.reverse ++ [.ref p4])) w6) _ _ (upd_same (H := H6) (a := p3) (o := .tup ((.str nm :: ks.map V.int) ++ [.int (((smpN p1 : Nat) : Int) + ((n - i - 1 : Nat) : Int))])))
              rw [z]
              simp
            · have e9 : (innP p1)[n - i - 1]'(by rw [hn]; exact hj) = tj := by
                have z9 : (innP p1)[n - i - 1]? = some tj := htj
                rw [List.getElem?_eq_getElem (by rw [hn]; exact hj)] at z9
                exact Option.some.inj z9
              show PAt _ ((innP p1)[n - i - 1]'(by rw [hn]; exact hj)) bj
              rw [e9]
              exact PAt.tk tk6 hbj
        have small : rs6.reverse.length < sizeLine := Nat.lt_of_le_of_lt (m := 4000) (by rw [List.length_reverse]; omega) (by decide)
        refine ⟨_, rfl, _, rfl, pp, _, _, _, rfl, rfl, SqT.of (t3 _ _ r7), atI_nat hv, _, rfl, _, rfl, ?_⟩
        rcases hdc with ⟨c1, r1', hr1⟩ | ⟨c1, e⟩
        · rw [if_pos c1]
          refine ⟨_, rfl, b, _, _, _, rfl, rfl, SqT.of (t3 _ _ hr1), at1, sz (by show 3 ≤ 100000; decide), fun p4 hp4 => ?_⟩
          exact ⟨wl, _, _, rfl, rfl, (same_new hp4 _) _ _ (t3 _ _ r4), small, fin p4 hp4⟩
        · rw [if_neg (by rw [c1]; exact Bool.false_ne_true)]
          subst e
          refine ⟨_, rfl, sz (by show 3 ≤ 100000; decide), fun p4 hp4 => ?_⟩
          exact ⟨wl, _, _, rfl, rfl, (same_new hp4 _) _ _ (t3 _ _ r4), small, fin p4 hp4⟩
      · rintro σ' H6 ⟨o8', o9', rfl, r1, ⟨rs6, r4, r5⟩, r6, r7, r8, r9⟩
        rw [hn, Nat.sub_self, List.drop_zero] at r5
        have e3 : triW (triB ks (smpN p1) (dueK p1 due) 0 (innP p1) ++ es) = ((innP p1).map pcnt).sum + triW es := by rw [triW_app, triW_tri]
        refine ⟨_, ?_, _, _, _, _, _, _, _, rs6, _, rfl, r1, r4, r5, rfl, ?_, ?_, ?_⟩
        · rw [e3, hW]
          omega
        · rw [e3]
          rw [hW] at hm
          omega
        · intro e he
          rcases List.mem_append.mp he with z | z
          · have hkids : ∀ (ps : List Pt) (i : Nat), (∀ p ∈ ps, pcnt p < pcnt p1) → ∀ e ∈ triB ks (smpN p1) (dueK p1 due) i ps, e.1.length + pcnt e.2.1 ≤ pcnt t := by
              intro ps
              induction ps with
              | nil => intro _ _ e he; cases he
              | cons p r ih =>
                intro i hp e he
                rcases List.mem_cons.mp he with y | y
                · subst y
                  have := hp p List.mem_cons_self
                  show (ks ++ [_]).length + pcnt p ≤ _
                  rw [List.length_append, List.length_singleton]
                  omega
                · exact ih (i + 1) (fun p' h' => hp p' (List.mem_cons_of_mem _ h')) e y
            refine hkids _ 0 (fun p hp => ?_) e z
            have := mem_sum hp
            rw [pcnt_inn p1]
            omega
          · exact hd e (List.mem_cons_of_mem _ z)
        · rw [← hx, remB_app, remB_tri, ← hbn]
          rfl
end
end KB

namespace KB
open PySem PySem.Spec PyProof.Rows L2

/-- an exception object that was caught and is kept, at a -/
def KeptX (cls : Value) (d : Option Addr) (a : Addr) : HO := .ext fun h => ∃ (oe : Obj) (vs : Array Value), h.get? a = some oe ∧ Zc cls d oe ∧ oe.data = .fields vs
section
variable {X : Cx} {pins : List (Addr × Obj)} {σ : L2.St} {H : Hp} {s : Shared}
theorem track {a : Addr} {oe : Obj} {cls : Value} {d : Option Addr} (I : L2.Inv X pins σ H s) (ha : s.heap.get? a = some oe) (hz : Zc cls d oe) (hd : ∃ vs, oe.data = .fields vs) (na : H a = none) (nL : a ≠ X.env.locals)
    (n0 : X.s_0.heap.get? a = none) (hp : ∀ p ∈ X.pn ++ pins, p.1 ≠ a) : L2.Inv X pins σ (upd H a (KeptX cls d a)) s := by
  have ne0 : ∀ b o, X.s_0.heap.get? b = some o → b ≠ a := fun b o e z => by
    rw [z, n0] at e
    cases e
  obtain ⟨vs, hd⟩ := hd
  refine ⟨I.ok, I.os, I.bare, ⟨I.base.keep, I.base.slot, fun b o e n hq => ?_, I.base.there, fun b xs e => ?_, fun b o u e => ?_, fun b ps e => ?_⟩, I.loc, I.cell, ?_, fun x c e => ?_, fun p hpp => ?_, ?_, I.len⟩
  · rw [upd_ne (ne0 b o e)]
    exact I.base.free b o e n hq
  · have q := I.base.tups b xs e
    rw [upd_ne (ne_of_none q na)]
    exact q
  · have q := I.base.frzs b o u e
    rw [upd_ne (ne_of_none q na)]
    exact q
  · obtain ⟨m, q⟩ := I.base.tbls b ps e
    exact ⟨m, by rw [upd_ne (ne_of_none q na)]; exact q⟩
  · rw [upd_ne (Ne.symm nL)]
    exact I.free
  · have hc : c ≠ a := fun z => by
      obtain ⟨v, o, ho, hv⟩ := I.cell x c e
      rw [z, ha] at ho
      cases ho
      rw [hd] at hv
      cases hv
    rw [upd_ne hc]
    exact I.freeC x c e
  · obtain ⟨e, n, ne, nf, dd⟩ := I.pin p hpp
    exact ⟨e, by rw [upd_ne (hp p hpp)]; exact n, ne, nf, dd⟩
  · exact I.hok.laidN (fun _ _ q => q) na ⟨⟨oe, vs, ha, hz, hd⟩, ⟨oe, ha⟩, fun _ _ ⟨o, v, q, r⟩ k => ⟨o, v, k o q, r⟩⟩
end
/-- what the clause wishes: slot i is its name's; the suite leaves the error kept -/
def wKeep (K : PySem.W.Frag) (c : Value) (i : Nat) (ts : Addr → Value → Option Addr → TS) (Wout : WX) (D : Ends) : WX := fun cls d σ H =>
  ∃ b, PySem.W.exmOne K cls c = some b ∧ (b = true → ∀ a, H a = none → ts a cls d { nx := fun σ' H' => D.nx (σ'.set i none) (upd H' a (KeptX cls d a)), rt := fun _ _ => False, bk := fun _ _ => False, ct := fun _ _ => False } (σ.set i (some (.ref a))) H) ∧
    (b = false → Wout cls d σ H)
section
variable {X : Cx} {x n : Str} {c : Value} {i : Nat} {body suite : List Stmt} {b₀ : Stmt} {np pos pos' : Pos} {tb : WX → TS} {ts : Addr → Value → Option Addr → TS} {Wout : WX}
theorem ps_try_keep (hex : X.ex = []) (hs : X.stack = X.env :: X.outer) (hf : X.env.frame = some X.env.locals) (hN : X.N.Nodup) (hi : X.N[i]? = some n) (hln : X.env.kindOf n = some .local) (hc : Names X x c) (tk : Takes X Wout)
    (hb : ∀ (W : WX) (pn : List (Addr × Obj)) (xe : Value → Shared → Prop), Takes (X.tr pn xe) W → PassesOwn (model X.prog X.w) X.A X.env xe → PSs (X.tr pn xe) body (tb W))
    (hsu : ∀ (a : Addr) (oe : Obj) (cls : Value) (d : Option Addr) (pn : List (Addr × Obj)), Zc cls d oe → (∃ vs, oe.data = .fields vs) → PSs (X.suite a ((a, oe) :: pn)) (b₀ :: suite) (ts a cls d)) :
    PS X (.Try body [.ExceptHandler (some (.Name x np)) (some n) (b₀ :: suite) pos'] [] [] pos) (fun D σ H => tb (wKeep X.K c i ts Wout D) D σ H) := by
  refine ⟨fun pins s σ H D I h => ?_⟩
  have ok := I.ok
  have hfr : X.A.frames = some (X.env :: X.outer) := by rw [ok.frames, hs]
  have hloc : Loc X.env.scope n := .inl hln
  refine wpAny_Try_except ?_
  refine wpAny_mono ((hb (wKeep X.K c i ts Wout D) (X.pn ++ pins) (fun e s₁ => wpAny (model X.prog X.w) X.A (noteFrame e X.env) (fun _ s₂ => wpAny (model X.prog X.w) X.A (setFlight e none) (fun _ s₃ =>
    wpAny (model X.prog X.w) X.A (handleBy e X.env [.ExceptHandler (some (.Name x np)) (some n) (b₀ :: suite) pos']) (SP X pins D) X.xe s₃) X.xe s₂) X.xe s₁) (fun u s' xx => ?_) PassesOwn.looking).run [] s σ H D (I.toTry _) h) (fun f s1 hsp => ?_) (fun e s1 he => he)
  · obtain ⟨a, B, sI, pins', σ', H', cls, d, rfl, J', nb, up, sky, na, os, ag, b, hb1, hyes, hno⟩ := xx
    have J : L2.Inv X pins σ' H' sI := J'.ofTry ok
    have sky' : Sky B (X.env :: X.outer) a (Zc cls d) X.env.locals s'.heap := by rw [← hs]; exact sky
    show wpAny (model X.prog X.w) X.A (noteFrame (.ref a) X.env) _ _ _
    refine Sky.land Zc.steady hfr hf sky' fun h3 fl3 up3 => ?_
    have J3 : L2.Inv X pins σ' H' { s' with heap := h3 } := J.landed nb fl3.1 (up.trans up3) os ag
    obtain ⟨oe3, vs3, he3, hz3, hd3⟩ := fl3.there
    have notFr : ∀ {h : Heap} {o : Obj} {vs : Array Value}, h.FunFrames B (X.env :: X.outer) → h.get? a = some o → o.data = .fields vs → a ∉ frs (X.env :: X.outer) := fun {h o vs} ff e dd hm => by
      obtain ⟨_, o', e', hnf⟩ := ff.mem hm
      rw [e] at e'; cases e'
      exact hnf _ dd
    have nfr := notFr fl3.2.2.1 he3 hd3
    have nL : a ≠ X.env.locals := fun z => nfr (List.mem_filterMap.mpr ⟨X.env, List.mem_cons_self, by rw [hf, z]⟩)
    have nF : a ∉ X.fs := fun hm => by
      obtain ⟨e, he, q⟩ := List.mem_filterMap.mp hm
      exact nfr (List.mem_filterMap.mpr ⟨e, List.mem_cons_of_mem _ he, q⟩)
    -- the error is new since the entry
    have nI : sI.heap.get? a = none := by
      cases e : sI.heap.get? a with
      | none => rfl
      | some o =>
        have z := nb a o e (by rw [hs]; exact nfr)
        rw [fl3.2.1] at z
        cases z
    have n0 : X.s_0.heap.get? a = none := by
      cases e : X.s_0.heap.get? a with
      | none => rfl
      | some o =>
        obtain ⟨o', z⟩ := J.base.there a o e (by rw [hex]; exact fun z => nomatch z)
        rw [nI] at z
        cases z
    have hpp : ∀ p ∈ X.pn ++ pins, p.1 ≠ a := fun p hp z => by
      have q := (J.pin p hp).1
      rw [z, nI] at q
      cases q
    have S3 := J3.suite he3 hd3 na nL nF
    refine wpAny_handleBy_cons (codeAny_handlers_test ?_) (by intro q; cases q)
    have LT : PySem.W.Looks (model X.prog X.w) h3 (typeOf (.ref a)) cls := fun A Q E s k q => wpAny_typeOf_ref (k _ _ he3) (by rw [hz3.1]; exact q)
    have LM := PySem.W.exm_one (M := model X.prog X.w) (J3.kIn) LT hb1
    have test : ∀ {Q : Value → Shared → Prop} {E : Value → Shared → Prop}, Q c { s' with heap := h3 } → wpAny (model X.prog X.w) (X.A.mark (some (.ref a))) (eval (.Name x np) X.env) Q E { s' with heap := h3 } := fun {Q E} q => by
      obtain ⟨hg, hdbg, hm | ⟨hm, hv, hnn⟩⟩ := hc
      · exact ld_glob (X := X.suite a ((a, oe3) :: (X.pn ++ pins))) S3 hg hm q hdbg
      · exact ld_blt (X := X.suite a ((a, oe3) :: (X.pn ++ pins))) S3 hg hm hv q hnn hdbg
    refine test (LM.here ?_)
    cases b with
    | true =>
      refine codeAny_handlers_suite_as ?_
      refine HandSPX.lands_againZ fl3 fun h4 fl4 up4 => ?_
      have J4 : L2.Inv X pins σ' H' { s' with heap := h4 } := J.landed nb fl4.1 ((up.trans up3).trans up4) os ag
      obtain ⟨oe4, vs4, he4, hz4, hd4⟩ := fl4.there
      have S4 := J4.suite he4 hd4 na nL nF
      refine store_ok (X := X.suite a ((a, oe4) :: (X.pn ++ pins))) (v := .ref a) S4 hN hi hloc rfl (fun s5 S5 => ?_) (.inr hln)
      refine wpAny_mono ((hsu a oe4 cls d (X.pn ++ pins) hz4 ⟨_, hd4⟩).run [] s5 _ H' _ S5 (hyes rfl a na)) (fun f s6 hsp => ?_) (fun _ _ z => False.elim z)
      cases f with
      | next =>
        obtain ⟨σ6, H6, S6, q6⟩ := hsp
        obtain ⟨g1, g2, _⟩ := S6.pin (a, oe4) (List.mem_append_left _ List.mem_cons_self)
        have J6 := track (S6.unsuite ok) g1 hz4 ⟨_, hd4⟩ g2 nL n0 hpp
        exact gone_ok J6 hN hi hln fun s7 J7 => ⟨_, _, J7, q6⟩
      | brk =>
        obtain ⟨σ6, H6, S6, q6⟩ := hsp
        exact q6.elim
      | cont =>
        obtain ⟨σ6, H6, S6, q6⟩ := hsp
        exact q6.elim
      | ret u =>
        obtain ⟨v6, σ6, H6, S6, r6, q6⟩ := hsp
        exact q6.elim
    | false =>
      show wpAny _ X.A (handleBy (.ref a) X.env []) _ _ _
      refine wpAny_handleBy_nil ?_
      obtain ⟨k1, k2, k3, oe, vs, T, oT, ts', he, hz, hd, h1, hr⟩ := id fl3
      unfold PySem.passOn
      refine wpAny_bind (wpAny_field he hd h1 ?_)
      rw [if_neg (show ¬ ((Value.ref T == Value.none) = true) from by simp)]
      have fin : wpAny (model X.prog X.w) X.A (setFlight (.ref a) X.env.frame) (fun _ s4 => wpAny (model X.prog X.w) X.A (throw (.ref a) : Sem Flow) (SP X pins D) X.xe s4) X.xe { s' with heap := h3 } := by
        rw [hf]
        refine HandSPX.setFlight_upZ fl3 fun h4 hh4 up4 => wpAny_throw (tk _ _ ?_)
        exact ⟨a, B, sI, pins, σ', H', cls, d, rfl, J, nb, (up.trans up3).trans up4, .inr (.inr (by rw [hs]; exact hh4)), na, os, ag, hno rfl⟩
      first
        | exact wpAny_bind (wpAny_pure (wpAny_bind fin))
        | exact wpAny_bind fin
  · cases f with
    | next =>
      obtain ⟨σ', H', J', q⟩ := hsp
      exact wpAny_execs_nil ⟨σ', H', J'.ofTry ok, q⟩
    | brk =>
      obtain ⟨σ', H', J', q⟩ := hsp
      exact ⟨σ', H', J'.ofTry ok, q⟩
    | cont =>
      obtain ⟨σ', H', J', q⟩ := hsp
      exact ⟨σ', H', J'.ofTry ok, q⟩
    | ret u =>
      obtain ⟨v, σ', H', J', r, q⟩ := hsp
      exact ⟨v, σ', H', J'.ofTry ok, r, q⟩
end
end KB

namespace KB
open PySem PySem.Spec PyProof.Rows L2

/-! ### isinstance of a kept error that has fields, and its fields -/
def rIsY (K : PySem.W.Frag) : List V → Hp → VK → Prop := fun xs H Q => ∃ (a D dd : Addr) (fs : List (Str × V)) (c : V) (cv : Value) (b : Bool), xs = [.ref a, c] ∧ ExcC K D ∧ H a = some (KeptX (.ref D) (some dd) a) ∧ H dd = some (.xd fs) ∧ (∀ u, RelV c u → u = cv) ∧ PySem.W.kitOne K (.ref D) cv = some b ∧ Q (.bl b) H
theorem kept_at {X : Cx} {pins : List (Addr × Obj)} {σ : L2.St} {H : Hp} {s : Shared} {a D dd : Addr} {fs : List (Str × V)} (I : L2.Inv X pins σ H s) (hk : H a = some (KeptX (.ref D) (some dd) a)) (hd : H dd = some (.xd fs)) :
    ∃ (oe od : Obj) (mA : Str → Option Value), PySem.W.InstAt s.heap a oe D (some od) ∧ (∀ n, PySem.W.lookIn n od = some (mA n)) ∧ ∀ n, RelO (fs.lookup n) (mA n) := by
  obtain ⟨⟨oe, vs, hget, hz, hv⟩, _, _⟩ := I.hok a _ hk
  have hx : ObjOk X.prog X.w H s.heap dd (.xd fs) := I.hok dd _ hd
  obtain ⟨mA, hns, hr⟩ := hx
  obtain ⟨od, ho, hl⟩ := lookIn_ns hns
  obtain ⟨oc, odi, oda, osl⟩ := oe
  obtain ⟨h1, h2⟩ := hz
  dsimp only at h1 h2 hv
  subst h1 h2 hv
  exact ⟨_, od, mA, ⟨hget, rfl, rfl, ho⟩, hl, hr⟩
theorem call_isY {X : Cx} : CallR X (.builtin "isinstance") (rIsY X.K) := by
  intro pins s σ H xs us Q I r h
  obtain ⟨a, D, dd, fs, c, cv, b, rfl, C, hk, hdd, hcv, e, q⟩ := h
  cases r with
  | cons rx rr =>
    cases rr with
    | cons rt rr =>
      cases rr
      cases rx
      have ec := hcv _ rt
      subst ec
      obtain ⟨oe, od, mA, J, _, _⟩ := kept_at I hk hdd
      have hcl : (PySem.W.clsIn X.K D).isSome = true := by
        obtain ⟨cd, hc, _⟩ := PySem.W.any_some C.hd
        rw [hc]
        rfl
      exact PySem.W.kia_one (PySem.W.kitx_exc hcl C.hg C.hk C.hs C.ha C.hn C.ht C.hm) I.kIn J e (fun z => nomatch z) fun tk => ⟨.bl b, H, I.kept (t' := tk) fun _ _ z => z, rfl, q⟩
/-- e.n, e a kept error -/
def tXk (K : PySem.W.Frag) (n : Str) (te : TE) : TE := fun σ H Q => te σ H fun x H1 => ∃ (a D dd : Addr) (fs : List (Str × V)) (v : V), x = .ref a ∧ XfC K D ∧ PySem.W.findIn K (.ref D) n = some none ∧ H1 a = some (KeptX (.ref D) (some dd) a) ∧ H1 dd = some (.xd fs) ∧ fs.lookup n = some v ∧ Q v H1
theorem pe_xk {X : Cx} {e : Expr} {te : TE} {pos : Pos} {n : Str} (he : PE X e te) (hb : attributeBase e n X.env (eval e X.env) = eval e X.env := by rfl) : PE X (.Attribute e n pos) (tXk X.K n te) := by
  refine ⟨fun pins s σ H Q I h => attr_of hb (thn (he.run pins s σ H _ I h) fun u s1 hh => ?_)⟩
  obtain ⟨x, H1, I1, rx, a, D, dd, fs, v, ex, T, hno, hk, hdd, l, q⟩ := hh
  subst ex
  obtain rfl : u = Value.ref a := rx
  obtain ⟨oe, od, mA, J, hl, hr⟩ := kept_at I1 hk hdd
  obtain ⟨u, hu, ru⟩ := RelO.some_of (v := v) (o := mA n) (by rw [← l]; exact hr n)
  exact HandSPX.exc_get I1.kIn J T.ga T.gg T.exC (PySem.W.findObj_own T.hdC hno rfl (by rw [hl, hu])) (handed_of ru) ⟨v, H1, I1.tok _, ru, q⟩
/-! ### an own exception, made and looked at -/
/-- C(e, ..) as a value -/
def tMkV (C : Addr) (sp : Sp) (ta : TA) : TE := fun σ H Q => ta σ H fun vs H1 => vs.length ≤ 1000 ∧ ∀ a, H1 a = none → sp (.ref a :: vs) (upd H1 a (exo a C none)) (fun v H2 => v = .non ∧ Q (.ref a) H2) (fun _ _ _ => False)
theorem pe_exv {X : Cx} {e : Expr} {es : List Expr} {ta : TA} {p pos : Pos} {x : Str} {C fI : Addr} {k : Nat} {fd : FuncData} {ps : List Str} {sp : Sp} (T : OexC X.K C) (iC : PySem.W.findIn X.K (.ref C) "__init__" = some (some (.ref fI))) (tI : PySem.W.typeIn X.K (.ref fI) = some (.type "function"))
    (F1 : FnOk X.prog X.w X.K X.mg X.base CX0 k fI fd ps sp) (hr : Room (k + 1) X.A) (hb : Binds X.K fd ps []) (hg : Gl X x) (hm : X.mg x = some (.ref C)) (ha : PA X (e :: es) ta)
    (hdb : (x == ("__debug__" : Str)) = false := by decide) (he : starEach (e :: es) X.env = (false, eval e X.env) :: starEach es X.env := by rfl) (hpl : (backTo pos (starEach es X.env)).any (·.1) = false := by rfl) :
    PE X (.Call (.Name x p) (e :: es) [] pos) (tMkV C sp ta) := by
  refine ⟨fun pins s0 σ H Q I h => ?_⟩
  obtain ⟨nm, qn, Ns, bs, bm, sn, sub, ab, col, dd, k0, k1, k2, k3, k5, hC, hbm⟩ := T.cls
  refine wpAny_Call_Name_kw (ld_glob I hg hm (PySem.W.callWith_K (h₀ := X.base) I.ok.mod.kin T.kC (thn (ha.run pos pins s0 σ H _ I h) fun us s1 ⟨vs, H1, I1, r1, hz, q1⟩ => ⟨I1.kIn, ?_⟩) he hpl) hdb)
  obtain ⟨hp, gn, dr, tk, os⟩ := s1
  have n1 : H1 (hp.objs.size + 1) = none := I1.hok.fresh (Nat.le_succ _)
  have q2 := q1 _ n1
  have olds : ∀ b u, hp.get? b = some u → ((hp.push (PySem.W.kdv_tup us)).push (PySem.HandSPX.excO C hp.objs.size)).get? b = some u := fun b u z => Heap.get?_push_of_some _ (Heap.get?_push_of_some _ z)
  have newO : ((hp.push (PySem.W.kdv_tup us)).push (PySem.HandSPX.excO C hp.objs.size)).get? (hp.objs.size + 1) = some (PySem.HandSPX.excO C hp.objs.size) := by heap_get
  have J2 : L2.Inv X pins σ (upd H1 (hp.objs.size + 1) (exo (hp.objs.size + 1) C none)) ⟨_, gn, dr, tk, os⟩ := I1.laid (t' := tk) olds (Nat.le_succ _) (exo_ok newO)
  have rl : Vals (V.ref (hp.objs.size + 1) :: vs) (Value.ref (hp.objs.size + 1) :: us) := .cons rfl r1
  have hlen : (Value.ref (hp.objs.size + 1) :: us ++ []).length = ps.length := by
    rw [List.append_nil, ← rl.length]
    exact F1.len _ _ _ _ q2
  have small : us.length ≤ sizeLine := by
    have := Paired.length r1
    rw [sizeLine_eq]
    omega
  refine wpAny_call (PySem.HandSPX.call_own F.excBase_ValueError (fun Y => PySem.HandSPX.refsVE_contains Y bm hbm) (I1.kIn _ _ hC) (PySem.W.looks_findIn I1.kIn iC) (fun self => PySem.W.bind_fn I1.kIn self tI) small (codeAny_mono (F1.run _ X.stack _ _ ⟨Value.ref (hp.objs.size + 1) :: us, []⟩ (Value.ref (hp.objs.size + 1) :: us) _ _ (fun _ _ _ => False) (hr.make C us []) (J2.env0.make C us []) (by have := hb _ (Value.ref (hp.objs.size + 1) :: us) J2.kIn hlen; rw [List.append_nil] at this; exact this) rl q2) fun r s' hq => ?_))
  cases r with
  | error er => exact hq.elim
  | ok fl =>
    cases fl with
    | ret u =>
      obtain ⟨v, H2, o2, b2, un2, hok2, rv, ev, q3⟩ := hq
      subst ev
      obtain ⟨h2, g2, d2, t2, os'⟩ := s'
      exact ⟨rv, .ref (hp.objs.size + 1), H2, J2.call' (ch := []) o2 un2 hok2 b2 (fun b z => absurd z (by simp)), rfl, q3⟩
    | next => exact False.elim hq
    | brk => exact False.elim hq
    | cont => exact False.elim hq
/-- e.n, e an error as it was made -/
def tXo (K : PySem.W.Frag) (n : Str) (te : TE) : TE := fun σ H Q => te σ H fun x H1 => ∃ (a C dd : Addr) (fs : List (Str × V)) (v : V), x = .ref a ∧ XfC K C ∧ PySem.W.findIn K (.ref C) n = some none ∧ H1 a = some (exo a C (some dd)) ∧ H1 dd = some (exd dd fs) ∧ fs.lookup n = some v ∧ Q v H1
theorem pe_xo {X : Cx} {e : Expr} {te : TE} {pos : Pos} {n : Str} (he : PE X e te) (hb : attributeBase e n X.env (eval e X.env) = eval e X.env := by rfl) : PE X (.Attribute e n pos) (tXo X.K n te) := by
  refine ⟨fun pins s σ H Q I h => attr_of hb (thn (he.run pins s σ H _ I h) fun u s1 hh => ?_)⟩
  obtain ⟨x, H1, I1, rx, a, C, dd, fs, v, ex, T, hno, hk, hdd, l, q⟩ := hh
  subst ex
  obtain rfl : u = Value.ref a := rx
  obtain ⟨t1, hget⟩ := exo_at I1.hok hk
  obtain ⟨mA, hns, hr⟩ := exd_at I1.hok hdd
  obtain ⟨od, ho, hl⟩ := lookIn_ns hns
  have J : PySem.W.InstAt s1.heap a _ C (some od) := ⟨hget, rfl, rfl, ho⟩
  obtain ⟨u, hu, ru⟩ := RelO.some_of (v := v) (o := mA n) (by rw [← l]; exact hr n)
  exact HandSPX.exc_get I1.kIn J T.ga T.gg T.exC (PySem.W.findObj_own T.hdC hno rfl (by rw [hl, hu])) (handed_of ru) ⟨v, H1, I1.tok _, ru, q⟩
/-- whether the written class says what OexC asks of it -/
def oexObj (C : Addr) : Obj → Bool
  | ⟨.type "type", _, .cls cd, sl⟩ => match cd.mro, sl.toList with
    | .ref C' :: bm, [_, _, _, _, some (.builtin n), _] => C' == C && (n == "ValueError.__new__" && (!cd.hasDel && (cd.hasDict && PySem.HandSPX.refsVE bm)))
    | _, _ => false
  | _ => false
theorem oex_of {K : PySem.W.Frag} {C : Addr} {o : Obj} (h : K.lookup C = some o) (q : oexObj C o = true) (h1 : PySem.W.findIn K (.ref C) "__setattr__" = some (some (.builtin "object.__setattr__"))) (h2 : PySem.W.subIn K (.ref C) (.type "BaseException") = some true)
    (h3 : PySem.W.typeIn K (.ref C) = some (.type "type")) (h4 : PySem.W.keepIn K (.ref C) = true) : OexC K C := by
  refine ⟨?_, h1, h2, h3, h4⟩
  unfold oexObj at q
  split at q
  · rename_i dd cd sl
    split at q
    · rename_i C' bm k0 k1 k2 k3 n k5 hm hs
      simp only [Bool.and_eq_true, beq_iff_eq, Bool.not_eq_true'] at q
      obtain ⟨rfl, rfl, hdel, hdi, ht⟩ := q
      obtain ⟨nm, bs, mro, ns, qn, hd, sn, sub, ab, col, del⟩ := cd
      dsimp only at hm hdel hdi
      subst hm hdel hdi
      have es : sl = #[k0, k1, k2, k3, some (.builtin "ValueError.__new__"), k5] := by
        rw [← hs]
      subst es
      exact ⟨nm, qn, ns, bs, bm, sn, sub, ab, col, dd, k0, k1, k2, k3, k5, h, ht⟩
    · cases q
  · cases q
end KB

namespace KB
open PySem L2 HT

/-! ### a turned book's first bent place -/
def bentB : List TEr → Option (Str × List Int)
  | [] => none
  | e :: r => match (bentL e.2.2 "home").head? with
    | some ks => some (e.1, ks)
    | none => bentB r
def OptP (H : Hp) : Option (Str × List Int) → V → Prop
  | none, v => v = .non
  | some x, v => PlS H x v
theorem OptP.tk {H H' : Hp} (k : TK H H') {o : Option (Str × List Int)} {v : V} (h : OptP H o v) : OptP H' o v := by
  cases o with
  | none => exact h
  | some x => exact PlS.tk k h
theorem bentB_some {e : TEr} {r : List TEr} {ks : List Int} (h : (bentL e.2.2 "home").head? = some ks) : bentB (e :: r) = some (e.1, ks) := by
  unfold bentB
  rw [h]
theorem bentB_none {e : TEr} {r : List TEr} (h : (bentL e.2.2 "home").head? = none) : bentB (e :: r) = bentB r := by
  show (match (bentL e.2.2 "home").head? with | some ks => some (e.1, ks) | none => bentB r) = bentB r
  rw [h]
/-! ### what a part is turned back to -/
def backT : Pt → Tm
  | .give _ t => t
  | .ask f ts _ => mkL (.ask f) ts
  | .tell x t p => mkL (.lett x) [mkL .tell [t], backT p]
  | .lett x t p => mkL (.lett x) [t, backT p]
  | .iff t p q => mkL .iff [t, backT p, backT q]
  | .post _ x p q => mkL (.lett x) [backT q, backT p]
def backG : Nd → List Tm → Tm
  | .inl (.give _ _), [t] => t
  | .inl (.ask f _ _), ts => mkL (.ask f) ts
  | .inl (.tell x _ _), [t, u] => mkL (.lett x) [mkL .tell [t], u]
  | .inl (.lett x _ _), [t, u] => mkL (.lett x) [t, u]
  | .inl (.iff _ _ _), [t, u, w] => mkL .iff [t, u, w]
  | .inl (.post _ x _ _), [u, w] => mkL (.lett x) [w, u]
  | .inr t, _ => t
  | _, _ => mkL (.num 0) []
def backF : Nd → Tm
  | .inl p => backT p
  | .inr t => t
theorem backF_eq (n : Nd) : backF n = backG n ((TrN.kids n).map backF) := by
  cases n with
  | inr t => obtain ⟨h, n, k⟩ := t; rfl
  | inl p =>
    cases p with
    | ask f ts j =>
      show mkL (.ask f) ts = mkL (.ask f) ((ts.map Sum.inr ++ []).map backF)
      rw [List.append_nil, List.map_map]
      congr 1
      exact (List.map_id ts).symm
    | _ => rfl
theorem stk_of {H : Hp} : ∀ {ts : List Tm} {vs : List V}, All2 (RefV H) ts vs → Stk H vs ts
  | [], [], _ => trivial
  | t :: ts, v :: vs, h => ⟨h.1, stk_of h.2⟩
  | [], _ :: _, h => h.elim
  | _ :: _, [], h => h.elim
def backB (es : List TEr) : List Er := es.map fun e => (e.1, e.2.1, backT e.2.2)
section
variable {P : Program} {w : World} {K : PySem.W.Frag} {mg : Str → Option Value} {base : Heap} {CB : Addr}
/-! ### bent_at -/
def spBentAt : Sp := fun vs H Q _ => ∃ (p : Addr) (es : List TEr) (us : List V), vs = [.ref p] ∧ TBkAt H es us p ∧ (∀ e ∈ es, pcnt e.2.2 ≤ 2000) ∧ ∀ v H', Same H H' → OptP H' (bentB es) v → Q v H'
abbrev sbent_at : Stmt := top 30
theorem scbent_at : FnScope ["turned", "name", "names", "body", "place"] ["turned"] (defScope sbent_at) := ⟨rfl, rfl, rfl, by decide +kernel, rfl, by decide +kernel, by decide +kernel⟩
theorem ok_bentat {f f1 : Addr} {fd d1 : FuncData} (F : Fun K "bent_at" "bent_at" sbent_at f fd) (Gbent_in : FnOk P w K mg base CX0 2 f1 d1 ["name", "body"] spBentIn) (Rbent_in : Ref K mg "bent_in" f1 d1 ["name", "body"]) : FnOk P w K mg base CX0 3 f fd ["turned"] spBentAt := by
  refine F.ok scbent_at (fun vs H Q E h => ?_) (fun cdv A outer s H vs Q E hr h => ?_)
  · obtain ⟨p, es, us, rfl, _⟩ := h
    rfl
  obtain ⟨p, es, us, rfl, hB, hc, q⟩ := h
  refine ⟨_, (pss_cons (ps_for PassesOwn.never rfl (pi_tup (pv 0)) (pg_tup rfl (pgs_cons (pg_name (i := 1) scbent_at.nd rfl (Or.inl rfl)) (pgs_cons (pg_name (i := 2) scbent_at.nd rfl (Or.inl rfl)) (pgs_cons (pg_name (i := 3) scbent_at.nd rfl (Or.inl rfl)) pgs_nil)))) (pss_cons (ps_set (i := 4) scbent_at.nd rfl (Or.inl rfl) (pe_call Gbent_in (hr.mono (by omega)) rfl Rbent_in.m Rbent_in.k Rbent_in.b .nil pass0 (pa_cons (pv 1) (pa_cons (pv 3) pa_nil))))
    (pss_one (ps_if (pt_cmpR op_notN (pv 4) pe_non (nomark _)) (pss_one (ps_ret (pv 4))) pss_nil))))
    (pss_one (ps_ret pe_non))), ?_⟩
  refine ⟨_, rfl, p, rfl, ⟨_, SqT.of hB.1⟩, for_tup (xs := us) (fun i σ H' => ∃ o1 o2 o3 o4, σ = [some (.ref p), o1, o2, o3, o4] ∧ Same H H' ∧ bentB (es.drop i) = bentB es) ?_ ?_ ?_ ?_⟩
  · exact ⟨_, _, _, _, rfl, Same.refl _, rfl⟩
  · rintro i σ H' _ ⟨o1, o2, o3, o4, rfl, s1, _⟩
    exact SqT.of (s1 _ _ hB.1)
  · rintro i x σ H1 hx ⟨o1, o2, o3, o4, rfl, s1, hb⟩
    obtain ⟨e, he, qa, r, b, rfl, g1, g2, g3⟩ := hB.2.get hx
    have hee := mem_of_get he
    obtain ⟨hi, hi2⟩ := List.getElem?_eq_some_iff.mp he
    have hdr : es.drop i = e :: es.drop (i + 1) := by rw [List.drop_eq_getElem_cons hi, hi2]
    refine ⟨qa, _, rfl, SqT.of (s1 _ _ g1), rfl, _, _, rfl, _, _, rfl, _, _, rfl, rfl, ?_⟩
    refine ⟨_, rfl, _, rfl, e.1, b, e.2.2, rfl, g3.tk (tk_same s1), hc e hee, fun v H2 s2 hv => ?_⟩
    have s12 := s1.trans s2
    rw [hdr] at hb
    cases hh : (bentL e.2.2 "home").head? with
    | none =>
      rw [hh] at hv
      have hv' : v = .non := hv
      subst hv'
      rw [bentB_none hh] at hb
      exact ⟨_, rfl, rfl, _, rfl, itF rfl ⟨_, _, _, _, rfl, s12, hb⟩⟩
    | some ks =>
      rw [hh] at hv
      obtain ⟨rr, rfl, hr2⟩ : PlS H2 (e.1, ks) v := hv
      rw [bentB_some hh] at hb
      refine ⟨_, rfl, rfl, _, rfl, itT (by rw [decide_eq_false (by intro z; cases z)]; rfl) ⟨_, rfl, q _ _ s12 ?_⟩⟩
      rw [← hb]
      exact ⟨rr, rfl, hr2⟩
  · rintro σ H1 ⟨o1, o2, o3, o4, rfl, s1, hb⟩
    refine q _ _ s1 ?_
    rw [← hb, hB.2.len, List.drop_length]
    rfl
/-! ### part_back -/
abbrev spart_back : Stmt := top 33
theorem scpart_back : FnScope ["part", "own", "head"] ["part", "own"] (defScope spart_back) := ⟨rfl, rfl, rfl, by decide +kernel, rfl, by decide +kernel, by decide +kernel⟩
theorem ok_pback {f : Addr} {fd : FuncData} (F : Fun K "part_back" "part_back" spart_back f fd) : FnOk P w K mg base CX0 1 f fd ["part", "own"] (spMade TrN RefV backG) := by
  refine F.ok scpart_back (fun vs H Q E h => ?_) (fun cdv A outer s H vs Q E hr h => ?_)
  · obtain ⟨n, a, q, bs, us, rfl, _⟩ := h
    rfl
  obtain ⟨n, a, qa, bs, us, rfl, hA, hq, hb, hl, q⟩ := h
  refine ⟨_, (pss_cons (ps_set (i := 2) scpart_back.nd rfl (Or.inl rfl) (pe_ix ix_tup (pv 0) pe_int (fun _ _ => rfl)))
    (pss_cons (ps_if (pt_cmpR op_eq (pv 2) pe_str (nomark _)) (pss_one (ps_ret (pe_ix ix_tup (pv 1) pe_int (fun _ _ => rfl)))) pss_nil)
    (pss_cons (ps_if (pt_cmpR op_eq (pv 2) pe_str (nomark _)) (pss_one (ps_ret (pe_tup (pa_cons (pv 2) (pa_cons (pe_ix ix_tup (pv 0) pe_int (fun _ _ => rfl)) (pa_cons (pv 1) pa_nil)))))) pss_nil)
    (pss_cons (ps_if (pt_cmpR op_eq (pv 2) pe_str (nomark _)) (pss_one (ps_ret (pe_tup (pa_cons pe_str (pa_cons (pe_ix ix_tup (pv 0) pe_int (fun _ _ => rfl)) (pa_cons (pe_tup (pa_cons (pv 2) (pa_cons (pe_ix ix_tup (pv 1) pe_int (fun _ _ => rfl)) pa_nil))) (pa_cons (pe_ix ix_tup (pv 1) pe_int (fun _ _ => rfl)) pa_nil))))))) pss_nil)
    (pss_cons (ps_if (pt_cmpR op_eq (pv 2) pe_str (nomark _)) (pss_one (ps_ret (pe_tup (pa_cons (pv 2) (pa_cons (pe_ix ix_tup (pv 0) pe_int (fun _ _ => rfl)) (StX.pa_star (pv 1) pa_nil)))))) pss_nil)
    (pss_cons (ps_if (pt_cmpR op_eq (pv 2) pe_str (nomark _)) (pss_one (ps_ret (pe_tup (pa_cons pe_str (pa_cons (pe_ix ix_tup (pv 0) pe_int (fun _ _ => rfl)) (pa_cons (pe_ix ix_tup (pv 1) pe_int (fun _ _ => rfl)) (pa_cons (pe_ix ix_tup (pv 1) pe_int (fun _ _ => rfl)) pa_nil))))))) pss_nil)
    (pss_cons (ps_if (pt_cmpR op_eq (pv 2) pe_str (nomark _)) (pss_one (ps_ret (pe_tup (pa_cons (pv 2) (StX.pa_star (pv 1) pa_nil))))) pss_nil)
    (pss_one (ps_ret (pv 0)))))))))), ?_⟩
  cases n with
  | inr t =>
    obtain ⟨hT, hsi⟩ : At H t a ∧ simple t = true := hA
    obtain ⟨h, n, k⟩ := t
    obtain ⟨ys, l, hk⟩ := id hT
    obtain ⟨r, hd⟩ := l.head
    obtain ⟨e1, e2⟩ := simple_mk hsi
    have hno : ∀ x : Str, x ∈ (["give", "ask", "tell", "let", "post", "if"] : List Str) → decide (V.str (hs h) = V.str x) = false := by
      intro x hx
      refine decide_eq_false fun z => ?_
      have z' := V.str.inj z
      subst z'
      cases h <;> first | exact absurd e1 Bool.false_ne_true | (dsimp only [hs] at hx; exact absurd hx (by decide))
    refine ⟨_, rfl, a, _, _, _, rfl, rfl, SqT.of hd, at0, ?_⟩
    refine ⟨_, rfl, rfl, _, rfl, itF (hno "give" (by decide)) ⟨_, rfl, rfl, _, rfl, itF (hno "ask" (by decide)) ⟨_, rfl, rfl, _, rfl, itF (hno "tell" (by decide)) ⟨_, rfl, rfl, _, rfl, itF (hno "let" (by decide)) ⟨_, rfl, rfl, _, rfl, itF (hno "post" (by decide)) ⟨_, rfl, rfl, _, rfl, itF (hno "if" (by decide)) ⟨_, rfl, ?_⟩⟩⟩⟩⟩⟩⟩
    refine q _ H (Same.refl H) ?_
    have e : backG (.inr (.mk h n k)) bs = .mk h n k := rfl
    rw [e]
    exact ⟨a, rfl, hT⟩
  | inl p =>
    obtain ⟨hP, hw⟩ : PAt H p a ∧ wfP p := hA
    cases p with
    | give j t =>
      obtain ⟨b, h1, h2⟩ := hP
      match bs, us, hb, hl with
      | [t'], [v], ⟨hv, _⟩, _ =>
        exact ⟨_, rfl, a, _, _, _, rfl, rfl, SqT.of h1, at0, _, rfl, rfl, _, rfl, itT rfl ⟨_, rfl, qa, _, _, _, rfl, rfl, SqT.of hq, at0, q v H (Same.refl H) hv⟩⟩
    | ask g ts j =>
      obtain ⟨b, vs, h1, h2, h3⟩ := hP
      have hlb : bs.length = ts.length := by
        have z : bs.length = (ts.map (Sum.inr (α := Pt)) ++ []).length := hl
        rw [List.append_nil, List.length_map] at z
        exact z
      refine ⟨_, rfl, a, _, _, _, rfl, rfl, SqT.of h1, at0, _, rfl, rfl, _, rfl, itF rfl ⟨_, rfl, rfl, _, rfl, itT rfl ⟨_, rfl, _, rfl, a, _, _, _, rfl, rfl, SqT.of h1, at1, _, rfl, sz (by show 3 ≤ 100000; decide), fun p hp => ?_⟩⟩⟩
      have s1 := same_new hp (.tup [.str "ask", .str g, .ref qa])
      refine q _ _ s1 ⟨p, rfl, ?_⟩
      have hu := hb.len
      exact at_mkL (h := .ask g) (vs := us) ⟨by have := hw.1; omega, qa, upd_same, s1 _ _ hq⟩ ((stk_of hb).tk (tk_same s1))
    | tell x t p =>
      obtain ⟨b, c, h1, h2, h3⟩ := hP
      match bs, us, hb, hl with
      | [t', u'], [v, v'], hb', _ =>
        obtain ⟨⟨b1, rfl, hv⟩, ⟨b2, rfl, hv'⟩, _⟩ := hb'
        refine ⟨_, rfl, a, _, _, _, rfl, rfl, SqT.of h1, at0, _, rfl, rfl, _, rfl, itF rfl ⟨_, rfl, rfl, _, rfl, itF rfl ⟨_, rfl, rfl, _, rfl, itT rfl ⟨_, rfl, a, _, _, _, rfl, rfl, SqT.of h1, at1, _, rfl, _, rfl, qa, _, _, _, rfl, rfl, SqT.of hq, at0, sz (by show 2 ≤ 100000; decide), fun p1 hp1 => ?_⟩⟩⟩⟩
        have s1 := same_new hp1 (.tup [.str "tell", .ref b1])
        refine ⟨_, rfl, qa, _, _, _, rfl, rfl, SqT.of (s1 _ _ hq), at1, sz (by show 4 ≤ 100000; decide), fun p2 hp2 => ?_⟩
        have s2 := same_new hp2 (.tup [.str "let", .str x, .ref p1, .ref b2])
        have s12 := s1.trans s2
        refine q _ _ s12 ⟨p2, rfl, ?_⟩
        exact at_mkL (h := .lett x) (vs := [.ref p1, .ref b2]) ⟨rfl, upd_same⟩ ⟨⟨p1, rfl, at_mkL (h := .tell) (vs := [.ref b1]) ⟨rfl, s2 _ _ upd_same⟩ ⟨⟨b1, rfl, hv.mono s12⟩, trivial⟩⟩, ⟨b2, rfl, hv'.mono s12⟩, trivial⟩
    | lett x t p =>
      obtain ⟨b, c, h1, h2, h3⟩ := hP
      match bs, us, hb, hl with
      | [t', u'], [v, v'], hb', _ =>
        obtain ⟨⟨b1, rfl, hv⟩, ⟨b2, rfl, hv'⟩, _⟩ := hb'
        refine ⟨_, rfl, a, _, _, _, rfl, rfl, SqT.of h1, at0, _, rfl, rfl, _, rfl, itF rfl ⟨_, rfl, rfl, _, rfl, itF rfl ⟨_, rfl, rfl, _, rfl, itF rfl ⟨_, rfl, rfl, _, rfl, itT rfl ⟨_, rfl, _, rfl, a, _, _, _, rfl, rfl, SqT.of h1, at1, _, rfl, qa, _, rfl, .inl (SqT.of hq), sz (by show 4 ≤ 100000; decide), fun p2 hp2 => ?_⟩⟩⟩⟩⟩
        have s1 := same_new hp2 (.tup [.str "let", .str x, .ref b1, .ref b2])
        refine q _ _ s1 ⟨p2, rfl, ?_⟩
        exact at_mkL (h := .lett x) (vs := [.ref b1, .ref b2]) ⟨rfl, upd_same⟩ ⟨⟨b1, rfl, hv.mono s1⟩, ⟨b2, rfl, hv'.mono s1⟩, trivial⟩
    | iff t p p2 =>
      obtain ⟨b, c, d, h1, h2, h3, h4⟩ := hP
      match bs, us, hb, hl with
      | [t', u', w'], [v, v', v''], hb', _ =>
        obtain ⟨⟨b1, rfl, hv⟩, ⟨b2, rfl, hv'⟩, ⟨b3, rfl, hv''⟩, _⟩ := hb'
        refine ⟨_, rfl, a, _, _, _, rfl, rfl, SqT.of h1, at0, _, rfl, rfl, _, rfl, itF rfl ⟨_, rfl, rfl, _, rfl, itF rfl ⟨_, rfl, rfl, _, rfl, itF rfl ⟨_, rfl, rfl, _, rfl, itF rfl ⟨_, rfl, rfl, _, rfl, itF rfl ⟨_, rfl, rfl, _, rfl, itT rfl ⟨_, rfl, _, rfl, qa, _, rfl, .inl (SqT.of hq), sz (by show 4 ≤ 100000; decide), fun p2 hp2 => ?_⟩⟩⟩⟩⟩⟩⟩
        have s1 := same_new hp2 (.tup [.str "if", .ref b1, .ref b2, .ref b3])
        refine q _ _ s1 ⟨p2, rfl, ?_⟩
        exact at_mkL (h := .iff) (vs := [.ref b1, .ref b2, .ref b3]) ⟨rfl, upd_same⟩ ⟨⟨b1, rfl, hv.mono s1⟩, ⟨b2, rfl, hv'.mono s1⟩, ⟨b3, rfl, hv''.mono s1⟩, trivial⟩
    | post j x p p2 =>
      obtain ⟨c, d, h1, h2, h3⟩ := hP
      match bs, us, hb, hl with
      | [t', u'], [v, v'], hb', _ =>
        obtain ⟨⟨b1, rfl, hv⟩, ⟨b2, rfl, hv'⟩, _⟩ := hb'
        refine ⟨_, rfl, a, _, _, _, rfl, rfl, SqT.of h1, at0, _, rfl, rfl, _, rfl, itF rfl ⟨_, rfl, rfl, _, rfl, itF rfl ⟨_, rfl, rfl, _, rfl, itF rfl ⟨_, rfl, rfl, _, rfl, itF rfl ⟨_, rfl, rfl, _, rfl, itT rfl ⟨_, rfl, a, _, _, _, rfl, rfl, SqT.of h1, at2, _, rfl, qa, _, _, _, rfl, rfl, SqT.of hq, at1, _, rfl, qa, _, _, _, rfl, rfl, SqT.of hq, at0, sz (by show 4 ≤ 100000; decide), fun p2 hp2 => ?_⟩⟩⟩⟩⟩⟩
        have s1 := same_new hp2 (.tup [.str "let", .str x, .ref b2, .ref b1])
        refine q _ _ s1 ⟨p2, rfl, ?_⟩
        exact at_mkL (h := .lett x) (vs := [.ref b2, .ref b1]) ⟨rfl, upd_same⟩ ⟨⟨b2, rfl, hv'.mono s1⟩, ⟨b1, rfl, hv.mono s1⟩, trivial⟩
end
end KB

namespace KB
open PySem L2 HT

/-! ### the first bent place is the least -/
theorem lt_same (k : Int) (a b : List Int) : ltL (k :: a) (k :: b) = ltL a b := if_pos rfl
theorem lt_less {k l : Int} (h : k < l) (a b : List Int) : ltL (l :: a) (k :: b) = false := by
  show (if l = k then ltL a b else decide (l < k)) = false
  rw [if_neg (by omega)]
  exact decide_eq_false (by omega)
def Ris (l : List (List Int)) : Prop := l.Pairwise fun a b => ltL b a = false
theorem ris_map {k : Int} {l : List (List Int)} (h : Ris l) : Ris (l.map fun e => k :: e) := by
  unfold Ris
  rw [List.pairwise_map]
  exact h.imp fun {a b} z => by rw [lt_same]; exact z
theorem ris_two {k l : Int} (hk : k < l) {x y : List (List Int)} (h1 : Ris x) (h2 : Ris y) : Ris ((x.map fun e => k :: e) ++ ((y.map fun e => l :: e) ++ [])) := by
  rw [List.append_nil]
  unfold Ris
  rw [List.pairwise_append]
  refine ⟨ris_map h1, ris_map h2, fun a ha b hb => ?_⟩
  obtain ⟨a', _, rfl⟩ := List.mem_map.mp ha
  obtain ⟨b', _, rfl⟩ := List.mem_map.mp hb
  exact lt_less hk _ _
theorem bent_ris : ∀ (p : Pt) (due : Str), Ris (bentL p due)
  | .give j t, due => by
    show Ris (if j = due then [] else [[]])
    split
    · exact .nil
    · exact List.pairwise_singleton _ _
  | .ask f ts j, due => by
    show Ris (if j = due then [] else [[]])
    split
    · exact .nil
    · exact List.pairwise_singleton _ _
  | .tell x t p, due => by
    show Ris ((bentL p due).map _ ++ [])
    rw [List.append_nil]
    exact ris_map (bent_ris p due)
  | .lett x t p, due => by
    show Ris ((bentL p due).map _ ++ [])
    rw [List.append_nil]
    exact ris_map (bent_ris p due)
  | .iff t p q, due => ris_two (by decide) (bent_ris p due) (bent_ris q due)
  | .post j x p q, due => ris_two (by decide) (bent_ris p due) (bent_ris q j)
theorem min_first : ∀ {r : List (List Int)} {a : List Int}, (∀ y ∈ r, ltL y a = false) → minL a r = a
  | [], _, _ => rfl
  | y :: r, a, h => by
    show minL (if ltL y a = true then y else a) r = a
    rw [h y List.mem_cons_self, if_neg Bool.false_ne_true]
    exact min_first fun z hz => h z (List.mem_cons_of_mem _ hz)
theorem ints_inj : ∀ {a b : List Int}, a.map PyData.int = b.map PyData.int → a = b
  | [], [], _ => rfl
  | x :: a, y :: b, h => by
    obtain ⟨h1, h2⟩ := List.cons.inj h
    rw [PyData.int.inj h1, ints_inj h2]
  | [], _ :: _, h => nomatch h
  | _ :: _, [], h => nomatch h
theorem pdPl_inj {n : Str} {a b : List Int} (h : pdPl (n, a) = pdPl (n, b)) : a = b := ints_inj (List.cons.inj (PyData.tuple.inj h)).2
def PlV (H : Hp) (pre : List V) (ks : List Int) (v : V) : Prop := ∃ r, v = .ref r ∧ H r = some (.tup (pre ++ ks.map V.int))
theorem PlV.tk {H H' : Hp} (e : TK H H') {pre : List V} {ks : List Int} {v : V} (h : PlV H pre ks v) : PlV H' pre ks v :=
  let ⟨r, e1, h1⟩ := h; ⟨r, e1, e _ _ h1⟩
theorem PlV.deep {H : Hp} {pre : List V} {i : Int} {ks : List Int} {v : V} (h : PlV H (pre ++ [.int i]) ks v) : PlV H pre (i :: ks) v := by
  obtain ⟨r, e1, h1⟩ := h
  refine ⟨r, e1, ?_⟩
  rw [h1, List.append_assoc]
  rfl
theorem PAt.two {H : Hp} {p : Pt} {a : Addr} (h : PAt H p a) (hn : innP p ≠ []) : ∃ v r, H a = some (.tup (.str (hsP p) :: v :: r)) ∧ ∀ j x q u, p = .post j x q u → v = .str j := by
  cases p with
  | give j t => exact absurd rfl hn
  | ask f ts j => exact absurd rfl hn
  | tell x t p => obtain ⟨b, c, h1, _⟩ := h; exact ⟨_, _, h1, fun _ _ _ _ z => nomatch z⟩
  | lett x t p => obtain ⟨b, c, h1, _⟩ := h; exact ⟨_, _, h1, fun _ _ _ _ z => nomatch z⟩
  | iff t p q => obtain ⟨b, c, d, h1, _⟩ := h; exact ⟨_, _, h1, fun _ _ _ _ z => nomatch z⟩
  | post j x p q =>
    obtain ⟨c, d, h1, _⟩ := h
    refine ⟨_, _, h1, fun j' x' q' u' z => ?_⟩
    cases z
    rfl
theorem bentK_take {s : Nat} {d : Nat → Str} {p : Pt} : ∀ {ps : List Pt} {i j : Nat}, ps[i]? = some p → bentK s d j (ps.take (i + 1)) = bentK s d j (ps.take i) ++ (bentL p (d (j + i))).map (fun e => (((s : Nat) : Int) + (((j + i : Nat) : Nat) : Int)) :: e)
  | [], i, j, h => by simp at h
  | a :: r, 0, j, h => by
    have e : a = p := Option.some.inj h
    subst e
    show (bentL a (d j)).map _ ++ [] = [] ++ _
    rw [List.append_nil, List.nil_append]
    rfl
  | a :: r, i + 1, j, h => by
    have ih := bentK_take (s := s) (d := d) (ps := r) (i := i) (j := j + 1) (by simpa using h)
    show (bentL a (d j)).map _ ++ bentK s d (j + 1) (r.take (i + 1)) = ((bentL a (d j)).map _ ++ bentK s d (j + 1) (r.take i)) ++ _
    rw [ih, List.append_assoc]
    have e : j + 1 + i = j + (i + 1) := by omega
    rw [e]
theorem bentL_len : ∀ (p : Pt) (due : Str), (bentL p due).length ≤ pcnt p
  | .give j t, due => by show (if j = due then [] else [[]] : List (List Int)).length ≤ 1; split <;> decide
  | .ask f ts j, due => by show (if j = due then [] else [[]] : List (List Int)).length ≤ 1; split <;> decide
  | .tell x t p, due => by have := bentL_len p due; simp [bentL, pcnt]; omega
  | .lett x t p, due => by have := bentL_len p due; simp [bentL, pcnt]; omega
  | .iff t p q, due => by have := bentL_len p due; have := bentL_len q due; simp [bentL, pcnt]; omega
  | .post j x p q, due => by have := bentL_len p due; have := bentL_len q j; simp [bentL, pcnt]; omega
theorem bentK_len (s : Nat) (d : Nat → Str) : ∀ (ps : List Pt) (i : Nat), (bentK s d i ps).length ≤ (ps.map pcnt).sum
  | [], _ => Nat.le_refl _
  | p :: r, i => by
    have h1 := bentL_len p (d i)
    have h2 := bentK_len s d r (i + 1)
    show ((bentL p (d i)).map _ ++ bentK s d (i + 1) r).length ≤ pcnt p + (r.map pcnt).sum
    rw [List.length_append, List.length_map]
    omega

theorem rep_of (j due : Str) : ∃ m : Nat, (if (!decide (V.str j = V.str due)) = true then (1 : Int) else 0) = (m : Int) ∧ m ≤ 1 ∧ (if j = due then [] else [[]] : List (List Int)) = List.replicate m [] := by
  by_cases c : j = due
  · exact ⟨0, by rw [decide_eq_true (congrArg V.str c)]; rfl, by decide, if_pos c⟩
  · exact ⟨1, by rw [decide_eq_false (fun z => c (V.str.inj z))]; rfl, by decide, if_neg c⟩
section
variable {P : Program} {w : World} {K : PySem.W.Frag} {mg : Str → Option Value} {base : Heap}
/-! ### _law_bent_places -/
def spLBP (n : Nat) : Sp := fun vs H Q _ => ∃ (a pl : Addr) (p : Pt) (pre : List V) (due : Str), vs = [.ref a, .ref pl, .str due] ∧ PAt H p a ∧ H pl = some (.tup pre) ∧ pcnt p ≤ n ∧ pre.length + pcnt p ≤ 3000 ∧
  ∀ r H' us, H r = none → Same H H' → H' r = some (.lst us) → All2 (PlV H' pre) (bentL p due) us → Q (.ref r) H'
abbrev s_law_bent_places : Stmt := top 63
theorem scLbent_places : FnScope ["part", "place", "due", "hand", "found", "first", "k", "one", "here"] ["part", "place", "due"] (defScope s_law_bent_places) := ⟨rfl, rfl, rfl, by decide +kernel, rfl, by decide +kernel, by decide +kernel⟩
theorem ok_lbp (T : Txt K mg) {n : Nat} {f g1 g2 : Addr} {fd d1 d2 : FuncData} (F : Fun K "_law_bent_places" "_law_bent_places" s_law_bent_places f fd) (G_law_bent_places : FnOk P w K mg base CX0 (n + 1) f fd ["part", "place", "due"] (spLBP n)) (R_law_bent_places : Ref K mg "_law_bent_places" f fd ["part", "place", "due"])
    (G_law_simples : FnOk P w K mg base CX0 1 g1 d1 ["part"] spSmp) (R_law_simples : Ref K mg "_law_simples" g1 d1 ["part"]) (G_law_inner : FnOk P w K mg base CX0 1 g2 d2 ["part"] spInn) (R_law_inner : Ref K mg "_law_inner" g2 d2 ["part"]) : FnOk P w K mg base CX0 (n + 2) f fd ["part", "place", "due"] (spLBP (n + 1)) := by
  refine F.ok scLbent_places (fun vs H Q E h => ?_) (fun cdv A outer s H vs Q E hr h => ?_)
  · obtain ⟨a, pl, t, pre, due, rfl, _⟩ := h
    rfl
  obtain ⟨a, pl, p, pre, due, rfl, hA, hp, hc, hl, q⟩ := h
  refine ⟨_, (pss_cons (ps_if (pt_cmpR op_in_seq (pe_ix ix_tup (pv 0) pe_int (fun _ _ => rfl)) (pe_tup (pa_cons pe_str (pa_cons pe_str pa_nil))) rfl) (pss_cons (ps_set (i := 3) scLbent_places.nd rfl (Or.inl rfl) (pe_ix ix_tup (pv 0) (pe_op op_add pe_int (pe_op op_mul pe_int (pe_callTy call_int1 (by rfl) T.m_int (by decide +kernel) (pa_cons (pe_cmpR op_eq (pe_ix ix_tup (pv 0) pe_int (fun _ _ => rfl)) pe_str (nomark _)) pa_nil)))) (fun _ _ => rfl)))
    (pss_one (ps_ret (pe_op op_rep (pe_lst (pa_cons (pv 1) pa_nil)) (pe_callTy call_int1 (by rfl) T.m_int (by decide +kernel) (pa_cons (pe_cmpR op_ne (pv 3) (pv 2) (nomark _)) pa_nil)))))) pss_nil)
    (pss_cons (ps_set (i := 4) scLbent_places.nd rfl (Or.inl rfl) (pe_lst pa_nil))
    (pss_cons (ps_set (i := 5) scLbent_places.nd rfl (Or.inl rfl) (pe_callB call_len_seq (by rfl) T.m_len PySem.boot_len (pa_cons (pe_call G_law_simples (hr.mono (by omega)) rfl R_law_simples.m R_law_simples.k R_law_simples.b .nil pass0 (pa_cons (pv 0) pa_nil)) pa_nil)))
    (pss_cons (ps_for PassesOwn.never rfl (pi_enumT (by rfl) T.m_enumerate (pa_cons (pe_call G_law_inner (hr.mono (by omega)) rfl R_law_inner.m R_law_inner.k R_law_inner.b .nil pass0 (pa_cons (pv 0) pa_nil)) pa_nil)) (pg_tup rfl (pgs_cons (pg_name (i := 6) scLbent_places.nd rfl (Or.inl rfl)) (pgs_cons (pg_name (i := 7) scLbent_places.nd rfl (Or.inl rfl)) pgs_nil))) (Evl.pss_cut (ps_set (i := 8) scLbent_places.nd rfl (Or.inl rfl) (pe_ix ix_list (pe_lst (pa_cons (pv 2) (pa_cons (pe_ix ix_tup (pv 0) pe_int (fun _ _ => rfl)) pa_nil))) (pe_callTy call_int1 (by rfl) T.m_int (by decide +kernel) (pa_cons (pe_and (pe_cmpR op_eq (pe_ix ix_tup (pv 0) pe_int (fun _ _ => rfl)) pe_str (nomark _)) (pe_one (pe_cmpR op_eq (pv 6) pe_int (nomark _)))) pa_nil)) (fun _ _ => rfl)))
    (pss_one (ps_expr (pe_bm PySem.F.plainAttrs_list PySem.F.slot_list_extend PySem.F.type_list_extend mt_extend (pv 4) (pa_cons (pe_call G_law_bent_places hr rfl R_law_bent_places.m R_law_bent_places.k R_law_bent_places.b .nil pass0 (pa_cons (pv 7) (pa_cons (pe_op op_catA (pv 1) (pe_tup (pa_cons (pe_op op_add (pv 5) (pv 6)) pa_nil))) (pa_cons (pv 8) pa_nil)))) pa_nil))))))
    (pss_one (ps_ret (pv 4))))))), ?_⟩
  have hck := pcnt_inn p
  cases hpc : innP p with
  | nil =>
    cases p with
    | tell x t p => cases hpc
    | lett x t p => cases hpc
    | iff t p q => cases hpc
    | post j x p q => cases hpc
    | give j t =>
      obtain ⟨b, h1, h2⟩ := hA
      refine ⟨_, rfl, a, _, _, _, rfl, rfl, SqT.of h1, at0, sz (by show 2 ≤ 100000; decide), fun t ht => ⟨t, _, rfl, .inr (SqT.of upd_same), rfl, rfl, _, rfl, itT rfl ?_⟩⟩
      have s1 := same_new ht (.tup [.str "give", .str "ask"])
      refine ⟨_, rfl, _, rfl, a, _, _, _, rfl, rfl, SqT.of (s1 _ _ h1), at0, rfl, .inr ⟨_, rfl, _, _, rfl, rfl, .inl (by decide), _, _, rfl, rfl, a, _, _, _, rfl, rfl, SqT.of (s1 _ _ h1), at1, ?_⟩⟩
      obtain ⟨m, em, hm, hb⟩ : ∃ m : Nat, (if (!decide (V.str j = V.str due)) = true then (1 : Int) else 0) = (m : Int) ∧ m ≤ 1 ∧ bentL (.give j _) due = List.replicate m [] := rep_of j due
      refine ⟨_, rfl, sz (by show 1 ≤ 100000; decide), fun p1 hp1 => ⟨_, rfl, _, rfl, rfl, .inr ⟨_, rfl, ?_⟩⟩⟩
      rw [em]
      have s2 := same_new hp1 (.lst [V.ref pl])
      refine ⟨p1, _, _, rfl, rfl, upd_same, by omega, by omega, sz (by show 1 * ((m : Nat) : Int).toNat ≤ 100000; omega), fun fl hfl => ?_⟩
      have s3 := same_new hfl (.lst (List.replicate ((m : Nat) : Int).toNat [V.ref pl]).flatten)
      refine q fl _ _ ((s1.trans s2).free hfl) (s1.trans (s2.trans s3)) upd_same ?_
      rw [hb, Int.toNat_natCast]
      match m, hm with
      | 0, _ => exact trivial
      | 1, _ => exact ⟨⟨pl, rfl, by rw [List.map_nil, List.append_nil]; exact (s1.trans (s2.trans s3)) _ _ hp⟩, trivial⟩
    | ask g ts j =>
      obtain ⟨b, vs, h1, h2, h3⟩ := hA
      refine ⟨_, rfl, a, _, _, _, rfl, rfl, SqT.of h1, at0, sz (by show 2 ≤ 100000; decide), fun t ht => ⟨t, _, rfl, .inr (SqT.of upd_same), rfl, rfl, _, rfl, itT rfl ?_⟩⟩
      have s1 := same_new ht (.tup [.str "give", .str "ask"])
      refine ⟨_, rfl, _, rfl, a, _, _, _, rfl, rfl, SqT.of (s1 _ _ h1), at0, rfl, .inr ⟨_, rfl, _, _, rfl, rfl, .inl (by decide), _, _, rfl, rfl, a, _, _, _, rfl, rfl, SqT.of (s1 _ _ h1), at3, ?_⟩⟩
      obtain ⟨m, em, hm, hb⟩ : ∃ m : Nat, (if (!decide (V.str j = V.str due)) = true then (1 : Int) else 0) = (m : Int) ∧ m ≤ 1 ∧ bentL (.ask _ _ j) due = List.replicate m [] := rep_of j due
      refine ⟨_, rfl, sz (by show 1 ≤ 100000; decide), fun p1 hp1 => ⟨_, rfl, _, rfl, rfl, .inr ⟨_, rfl, ?_⟩⟩⟩
      rw [em]
      have s2 := same_new hp1 (.lst [V.ref pl])
      refine ⟨p1, _, _, rfl, rfl, upd_same, by omega, by omega, sz (by show 1 * ((m : Nat) : Int).toNat ≤ 100000; omega), fun fl hfl => ?_⟩
      have s3 := same_new hfl (.lst (List.replicate ((m : Nat) : Int).toNat [V.ref pl]).flatten)
      refine q fl _ _ ((s1.trans s2).free hfl) (s1.trans (s2.trans s3)) upd_same ?_
      rw [hb, Int.toNat_natCast]
      match m, hm with
      | 0, _ => exact trivial
      | 1, _ => exact ⟨⟨pl, rfl, by rw [List.map_nil, List.append_nil]; exact (s1.trans (s2.trans s3)) _ _ hp⟩, trivial⟩
  | cons p0 pr =>
    have hne : innP p ≠ [] := by rw [hpc]; exact fun z => nomatch z
    clear hpc
    obtain ⟨v1, r1, hd1, hpost⟩ := hA.two hne
    have hin : inV (.str (hsP p)) [.str "give", .str "ask"] = false := by
      cases p with
      | give j t => exact absurd rfl hne
      | ask g ts j => exact absurd rfl hne
      | _ => rfl
    refine ⟨_, rfl, a, _, _, _, rfl, rfl, SqT.of hd1, at0, sz (by show 2 ≤ 100000; decide), fun t ht => ⟨t, _, rfl, .inr (SqT.of upd_same), rfl, rfl, _, rfl, itF hin ?_⟩⟩
    have sa := same_new ht (.tup [.str "give", .str "ask"])
    refine ⟨sz (by show 0 ≤ 100000; decide), fun fl hfl => ?_⟩
    have sb := same_new hfl (.lst [])
    have s0 := sa.trans sb
    have f0 : upd (upd H t (.tup [.str "give", .str "ask"])) fl (.lst []) fl = some (.lst []) := upd_same
    have nfl := sa.free hfl
    generalize upd (upd H t (.tup [.str "give", .str "ask"])) fl (.lst []) = H0 at s0 f0
    clear sa sb hfl ht
    refine ⟨_, rfl, a, p, rfl, PAt.tk (tk_same s0) hA, fun pp H1 us1 s1 h1 k1 => ?_⟩
    refine ⟨pp, us1, rfl, .inr (SqT.of h1), ?_⟩
    have s01 := s0.trans s1
    refine ⟨_, rfl, a, p, rfl, PAt.tk (tk_same s01) hA, fun pi H2 us s2 h2 k2 => ?_⟩
    have s02 := s01.trans s2
    refine ⟨pi, us, rfl, SqT.of h2, for_enT (xs := us) (fun i σ H' => ∃ o3 o6 o7 o8 its, σ = [some (.ref a), some (.ref pl), some (.str due), o3, some (.ref fl), some (.int (us1.length : Nat)), o6, o7, o8] ∧ Same H H' ∧ TK H2 H' ∧ H' pi = some (.tup us) ∧ H' fl = some (.lst its) ∧ All2 (PlV H' pre) (bentK us1.length (dueK p due) 0 ((innP p).take i)) its) ?_ ?_ ?_ ?_⟩
    · exact ⟨_, _, _, _, [], rfl, s02, fun _ _ z => z, h2, (s1.trans s2) _ _ f0, trivial⟩
    · rintro i σ H' _ ⟨o3, o6, o7, o8, its, rfl, _, _, g1, _⟩
      exact SqT.of g1
    · rintro i x T' σ H3 hx hT ⟨o3, o6, o7, o8, its, rfl, s3, t3, g1, g2, g3⟩
      obtain ⟨pi', hpi, b, rfl, hb⟩ := k2.get hx
      have hmem := mem_of_get hpi
      have hct := mem_sum hmem
      have s4 := same_new hT (.tup [.int (i : Nat), .ref b])
      refine ⟨T', _, rfl, SqT.of upd_same, rfl, _, _, rfl, _, _, rfl, rfl, ?_⟩
      generalize hH4 : upd H3 T' (.tup [.int (i : Nat), .ref b]) = H4 at s4
      have s34 := s3.trans s4
      refine ⟨fun σ' H' => ∃ t6, H4 t6 = none ∧ H' = upd H4 t6 (.lst [.str due, v1]) ∧ σ' = [some (.ref a), some (.ref pl), some (.str due), o3, some (.ref fl), some (.int (us1.length : Nat)), some (.int (i : Nat)), some (.ref b), some (.str (dueK p due i))], ?_, ?_⟩
      · refine ⟨_, rfl, _, rfl, a, _, _, _, rfl, rfl, SqT.of (s34 _ _ hd1), at1, sz (by show 2 ≤ 100000; decide), fun t6 ht6 => ?_⟩
        have s6 := same_new ht6 (.lst [.str due, v1])
        refine ⟨_, rfl, a, _, _, _, rfl, rfl, SqT.of (s6 _ _ (s34 _ _ hd1)), at0, rfl, _, rfl, ?_⟩
        refine ite2 (fun c => ?_) (fun c => ?_)
        · have e1 : hsP p = "post" := V.str.inj (of_decide_eq_true c)
          obtain ⟨j, y, pq, pu, rfl⟩ := post_of e1
          have ev := hpost j y pq pu rfl
          subst ev
          refine ⟨_, rfl, rfl, .inr ⟨_, rfl, t6, _, _, .str (dueK (.post j y pq pu) due i), rfl, rfl, SqL.of upd_same, ?_, t6, ht6, rfl, rfl⟩⟩
          rw [due_post]
          by_cases z : i = 1
          · rw [if_pos z, if_pos (decide_eq_true (by rw [z]; rfl))]
            exact at1
          · rw [if_neg z, if_neg (fun y => z (by have := V.int.inj (of_decide_eq_true y); omega))]
            exact at0
        · have e1 : ¬ hsP p = "post" := fun z => c (decide_eq_true (congrArg V.str z))
          refine .inr ⟨_, rfl, t6, _, _, .str (dueK p due i), rfl, rfl, SqL.of upd_same, ?_, t6, ht6, rfl, rfl⟩
          rw [post_due e1]
          exact at0
      rintro σ6 H6 ⟨t6, ht6, rfl, rfl⟩
      have s6 := same_new ht6 (.lst [.str due, v1])
      have s46 := s4.trans s6
      refine ⟨_, rfl, .inl ⟨rfl, _, SqL.of (s46 _ _ g2)⟩, _, rfl, _, rfl, _, rfl, _, rfl, _, _, rfl, rfl, ?_⟩
      refine ⟨sz (by show 1 ≤ 100000; decide), fun p2 hp2 => ?_⟩
      have s7 := same_new hp2 (.tup [.int (((us1.length : Nat) : Int) + ((i : Nat) : Int))])
      refine catA_of (s7 _ _ (s46 _ _ (s3 _ _ hp))) upd_same (by show pre.length + 1 ≤ 100000; omega) fun p3 H8 s8 h8 => ?_
      have s48 := s46.trans (s7.trans s8)
      have cp := pc_posP pi'
      refine ⟨_, rfl, b, p3, pi', _, dueK p due i, rfl, PAt.tk (t3.trans (tk_same s48)) hb, h8, by omega, by rw [List.length_append, List.length_singleton]; omega, fun p5 H9 its5 hp5 s9 h9 k9 => ?_⟩
      have s49 := s48.trans s9
      have s39 := s3.trans s49
      have f9 := s49 _ _ g2
      have l5 := k9.len
      have l3 := g3.len
      have l6 := bentL_len pi' (dueK p due i)
      have l7 := bentK_len us1.length (dueK p due) ((innP p).take i) 0
      have l8 := take_sum (innP p) i
      refine ⟨fl, p5, _, _, rfl, rfl, f9, h9, sz (by omega), ?_⟩
      have tk := tk_put (o := .lst (its ++ its5)) f9
      refine ⟨_, _, _, _, _, rfl, same_mut s39 nfl, t3.trans ((tk_same s49).trans tk), tk _ _ (s49 _ _ g1), upd_same, ?_⟩
      rw [bentK_take hpi, Nat.zero_add]
      exact (g3.imp fun _ _ z => (PlV.tk (tk_same s49) z).tk tk).app (All2.map (f := fun (e : List Int) => (((us1.length : Nat) : Int) + ((i : Nat) : Int)) :: e) (k9.imp fun _ _ z => PlV.deep (z.tk tk)))
    · rintro σ H3 ⟨o3, o6, o7, o8, its, rfl, s3, _, g1, g2, g3⟩
      refine ⟨_, rfl, q fl H3 its nfl s3 g2 ?_⟩
      rw [k2.len, List.take_length] at g3
      rw [k1] at g3
      rw [bentL_eq hne]
      exact g3
theorem no_lbp {f : Addr} {fd : FuncData} : FnOk P w K mg base CX0 1 f fd ["part", "place", "due"] (spLBP 0) := by
  have no : ∀ vs H Q E, ¬ spLBP 0 vs H Q E := fun vs H Q E h => by
    obtain ⟨a, pl, p, pre, due, _, _, _, h0, _⟩ := h
    have := pcnt_inn p
    omega
  exact ⟨fun vs H Q E h => absurd h (no vs H Q E), fun A outer s H args us vs Q E _ _ _ _ h => absurd h (no vs H Q E)⟩
theorem all_lbp (T : Txt K mg) {f g1 g2 : Addr} {fd d1 d2 : FuncData} (F : Fun K "_law_bent_places" "_law_bent_places" s_law_bent_places f fd) (R_law_bent_places : Ref K mg "_law_bent_places" f fd ["part", "place", "due"])
    (G_law_simples : FnOk P w K mg base CX0 1 g1 d1 ["part"] spSmp) (R_law_simples : Ref K mg "_law_simples" g1 d1 ["part"]) (G_law_inner : FnOk P w K mg base CX0 1 g2 d2 ["part"] spInn) (R_law_inner : Ref K mg "_law_inner" g2 d2 ["part"]) : ∀ n : Nat, FnOk P w K mg base CX0 (n + 1) f fd ["part", "place", "due"] (spLBP n)
  | 0 => no_lbp
  | n + 1 => ok_lbp T F (all_lbp T F R_law_bent_places G_law_simples R_law_simples G_law_inner R_law_inner n) R_law_bent_places G_law_simples R_law_simples G_law_inner R_law_inner
end
end KB

namespace KB
open PySem L2 HT

theorem all2_pls {H : Hp} {nm : Str} : ∀ {kss : List (List Int)} {vs : List V}, All2 (PlV H [.str nm]) kss vs → All2 (PlS H) (kss.map fun ks => (nm, ks)) vs
  | [], [], _ => trivial
  | ks :: r, v :: vs, h => ⟨h.1, all2_pls h.2⟩
  | [], _ :: _, h => h.elim
  | _ :: _, [], h => h.elim
theorem depth_pls (xs : List (Str × List Int)) : PySem.PyData.depthAll (xs.map pdPl) ≤ 50 := by
  refine Nat.le_trans (depthAll_le (m := 1) fun d hd => ?_) (by decide)
  obtain ⟨x, _, rfl⟩ := List.mem_map.mp hd
  exact depth_pl x
section
variable {P : Program} {w : World} {K : PySem.W.Frag} {mg : Str → Option Value} {base : Heap}
/-! ### _law_bent_first -/
def spLBF : Sp := fun vs H Q _ => ∃ (p : Addr) (es : List TEr) (us : List V), vs = [.ref p] ∧ TBkAt H es us p ∧ (∀ e ∈ es, pcnt e.2.2 ≤ 161 ∧ isW e.1 = true) ∧ ∀ v H', Same H H' → OptP H' (bentB es) v → Q v H'
abbrev s_law_bent_first : Stmt := top 64
theorem scLbent_first : FnScope ["turned", "name", "names", "part", "found"] ["turned"] (defScope s_law_bent_first) := ⟨rfl, rfl, rfl, by decide +kernel, rfl, by decide +kernel, by decide +kernel⟩
theorem ok_lbf (mmin : mg "min" = none) {f f1 : Addr} {fd d1 : FuncData} (F : Fun K "_law_bent_first" "_law_bent_first" s_law_bent_first f fd) (G_law_bent_places : FnOk P w K mg base CX0 162 f1 d1 ["part", "place", "due"] (spLBP 161)) (R_law_bent_places : Ref K mg "_law_bent_places" f1 d1 ["part", "place", "due"]) : FnOk P w K mg base CX0 163 f fd ["turned"] spLBF := by
  refine F.ok scLbent_first (fun vs H Q E h => ?_) (fun cdv A outer s H vs Q E hr h => ?_)
  · obtain ⟨p, es, us, rfl, _⟩ := h
    rfl
  obtain ⟨p, es, us, rfl, hB, hc, q⟩ := h
  refine ⟨_, (pss_cons (ps_for PassesOwn.never rfl (pi_tup (pv 0)) (pg_tup rfl (pgs_cons (pg_name (i := 1) scLbent_first.nd rfl (Or.inl rfl)) (pgs_cons (pg_name (i := 2) scLbent_first.nd rfl (Or.inl rfl)) (pgs_cons (pg_name (i := 3) scLbent_first.nd rfl (Or.inl rfl)) pgs_nil)))) (pss_cons (ps_set (i := 4) scLbent_first.nd rfl (Or.inl rfl) (pe_call G_law_bent_places (hr.mono (by omega)) rfl R_law_bent_places.m R_law_bent_places.k R_law_bent_places.b .nil pass0 (pa_cons (pv 3) (pa_cons (pe_tup (pa_cons (pv 1) pa_nil)) (pa_cons pe_str pa_nil)))))
    (pss_one (ps_if (pt_cmpR (op_neD hr.units) (pv 4) (pe_lst pa_nil) (nomark _)) (pss_one (ps_ret (pe_callB (cr_minD rfl hr.units) (by rfl) mmin (by decide +kernel) (pa_cons (pv 4) pa_nil)))) pss_nil))))
    (pss_one (ps_ret pe_non))), ?_⟩
  refine ⟨_, rfl, p, rfl, ⟨_, SqT.of hB.1⟩, for_tup (xs := us) (fun i σ H' => ∃ o1 o2 o3 o4, σ = [some (.ref p), o1, o2, o3, o4] ∧ Same H H' ∧ bentB (es.drop i) = bentB es) ?_ ?_ ?_ ?_⟩
  · exact ⟨_, _, _, _, rfl, Same.refl _, rfl⟩
  · rintro i σ H' _ ⟨o1, o2, o3, o4, rfl, s1, _⟩
    exact SqT.of (s1 _ _ hB.1)
  · rintro i x σ H1 hx ⟨o1, o2, o3, o4, rfl, s1, hb⟩
    obtain ⟨e, he, qa, r, b, rfl, g1, g2, g3⟩ := hB.2.get hx
    have hee := mem_of_get he
    obtain ⟨hc1, hc2⟩ := hc e hee
    obtain ⟨hi, hi2⟩ := List.getElem?_eq_some_iff.mp he
    have hdr : es.drop i = e :: es.drop (i + 1) := by rw [List.drop_eq_getElem_cons hi, hi2]
    rw [hdr] at hb
    refine ⟨qa, _, rfl, SqT.of (s1 _ _ g1), rfl, _, _, rfl, _, _, rfl, _, _, rfl, rfl, ?_⟩
    refine ⟨_, rfl, _, rfl, sz (by show 1 ≤ 100000; decide), fun t2 ht2 => ?_⟩
    have s2 := same_new ht2 (.tup [.str e.1])
    refine ⟨b, t2, e.2.2, [.str e.1], "home", rfl, (g3.tk (tk_same s1)).tk (tk_same s2), upd_same, hc1, by show 1 + _ ≤ 3000; omega, fun fl H3 us3 hfl s3 h3 k3 => ?_⟩
    have s13 := s1.trans (s2.trans s3)
    refine ⟨_, rfl, sz (by show 0 ≤ 100000; decide), fun t4 ht4 => ?_⟩
    have s4 := same_new ht4 (.lst [])
    have k4 := all2_pls k3
    refine ⟨.list (((bentL e.2.2 "home").map fun ks => (e.1, ks)).map pdPl), .list [], .lst (SqL.of (s4 _ _ h3)) (dp_pls (k4.imp fun _ _ z => z.tk (tk_same s4))), .lst (SqL.of upd_same) .nil, ?_, rfl, _, rfl, ?_⟩
    · refine shaped_pls fun x hx => ?_
      obtain ⟨ks, _, rfl⟩ := List.mem_map.mp hx
      exact hc2
    cases hh : bentL e.2.2 "home" with
    | nil =>
      rw [hh] at k3
      refine itF rfl ⟨_, _, _, _, rfl, s13.trans s4, ?_⟩
      rw [← hb]
      exact (bentB_none (by rw [hh]; rfl)).symm
    | cons k0 kr =>
      rw [hh] at k3 k4
      have hr0 := bent_ris e.2.2 "home"
      rw [hh] at hr0
      have hmin := min_first (List.pairwise_cons.mp hr0).1
      refine itT rfl ⟨_, rfl, fl, us3, pdPl (e.1, k0), (kr.map fun ks => (e.1, ks)).map pdPl, rfl, SqL.of (s4 _ _ h3), dp_pls (k4.imp fun _ _ z => z.tk (tk_same s4)), alike_pls ((e.1, k0) :: kr.map fun ks => (e.1, ks)), depth_pls ((e.1, k0) :: kr.map fun ks => (e.1, ks)), fun j x hx hm => ?_⟩
      obtain ⟨ks, hks, hv⟩ := k3.get hx
      have e1 : (pdPl (e.1, k0) :: (kr.map fun ks => (e.1, ks)).map pdPl) = ((k0 :: kr).map fun ks => pdPl (e.1, ks)) := by
        rw [List.map_cons, List.map_map]
        rfl
      have e2 : ((kr.map fun ks => (e.1, ks)).map pdPl) = kr.map fun x => pdPl (e.1, x) := by
        rw [List.map_map]
        rfl
      rw [e1, List.getElem?_map, hks, e2, min_pl, hmin] at hm
      have e3 : ks = k0 := pdPl_inj (Option.some.inj hm)
      subst e3
      refine q _ _ (s13.trans s4) ?_
      rw [← hb, bentB_some (by rw [hh]; rfl)]
      obtain ⟨rr, e4, h4⟩ := hv
      exact ⟨rr, e4, s4 _ _ h4⟩
  · rintro σ H1 ⟨o1, o2, o3, o4, rfl, s1, hb⟩
    refine q _ _ s1 ?_
    rw [← hb, hB.2.len, List.drop_length]
    rfl
end
end KB

namespace KB
open PySem L2 HT

/-! ### own errors with one field -/
def spBI (C : Addr) (n : Str) : Sp := fun vs H Q _ => ∃ (a : Addr) (v : V), vs = [.ref a, v] ∧ H a = some (exo a C none) ∧ ∀ d, H d = none → d ≠ a → Q .non (upd (upd H d (exd d [(n, v)])) a (exo a C (some d)))
structure OwnX (P : Program) (w : World) (K : PySem.W.Frag) (mg : Str → Option Value) (base : Heap) (x n : Str) (C fI : Addr) (fd : FuncData) : Prop where
  o : OexC K C
  m : mg x = some (.ref C)
  i : PySem.W.findIn K (.ref C) "__init__" = some (some (.ref fI))
  t : PySem.W.typeIn K (.ref fI) = some (.type "function")
  b : Binds K fd ["self", n] []
  no : PySem.W.findIn K (.ref C) n = some none
  xf : XfC K C
  f : FnOk P w K mg base CX0 1 fI fd ["self", n] (spBI C n)
theorem own_same {H : Hp} {a d C : Addr} {n : Str} {v : V} (ha : H a = none) (hd : upd H a (exo a C none) d = none) (hda : d ≠ a) : H d = none ∧ Same H (upd (upd (upd H a (exo a C none)) d (exd d [(n, v)])) a (exo a C (some d))) ∧
    Same H (upd (del (upd (upd (upd H a (exo a C none)) d (exd d [(n, v)])) a (exo a C (some d))) a) d (.xd [(n, v)])) := by
  have h0 : H d = none := by
    rw [upd_ne hda] at hd
    exact hd
  refine ⟨h0, fun b o h => ?_, fun b o h => ?_⟩
  · have n1 : b ≠ a := ne_of_none h ha
    have n2 : b ≠ d := ne_of_none h h0
    rw [upd_ne n1, upd_ne n2, upd_ne n1]
    exact h
  · have n1 : b ≠ a := ne_of_none h ha
    have n2 : b ≠ d := ne_of_none h h0
    rw [upd_ne n2, del_ne n1, upd_ne n1, upd_ne n2, upd_ne n1]
    exact h
section
variable {P : Program} {w : World} {K : PySem.W.Frag} {mg : Str → Option Value} {base : Heap} {CB : Addr}
abbrev sBent0 : Stmt := inClass (top 2) 0
theorem scBent0 : FnScope ["self", "place"] ["self", "place"] (defScope sBent0) := ⟨rfl, rfl, rfl, by decide +kernel, rfl, by decide +kernel, by decide +kernel⟩
theorem ok_bent0 (T : OexC K CB) (hno : PySem.W.findIn K (.ref CB) "place" = some none) {f : Addr} {fd : FuncData} (F : Fun K "__init__" "Bent.__init__" sBent0 f fd) : FnOk P w K mg base CX0 1 f fd ["self", "place"] (spBI CB "place") := by
  refine F.ok scBent0 (fun vs H Q E h => ?_) (fun cdv A outer s H vs Q E hr h => ?_)
  · obtain ⟨a, v, rfl, _⟩ := h
    rfl
  obtain ⟨a, v, rfl, ha, q⟩ := h
  exact ⟨_, pss_one (ps_ost (pv 0) (pv 1)), _, rfl, _, rfl, a, CB, rfl, T, hno, .inl ⟨ha, fun d hd hda => q d hd hda⟩⟩
/-! ### back -/
def spBack (CB : Addr) : Sp := fun vs H Q E => ∃ (p : Addr) (es : List TEr) (us : List V), vs = [.ref p] ∧ TBkAt H es us p ∧ es.length ≤ 6 ∧ (∀ e ∈ es, pcnt e.2.2 ≤ 2000 ∧ ncnt e.2.2 ≤ 5000 ∧ wfP e.2.2) ∧
  (bentB es = none → ∀ p' us' H', Same H H' → BkAt H' (backB es) us' p' → Q (.ref p') H') ∧
  (∀ x, bentB es = some x → ∀ H' dd v, Same H H' → H' dd = some (.xd [("place", v)]) → PlS H' x v → E (.ref CB) (some dd) H')
abbrev sback : Stmt := top 32
theorem scback : FnScope ["turned", "place", "name", "names", "body"] ["turned"] (defScope sback) := ⟨rfl, rfl, rfl, by decide +kernel, rfl, by decide +kernel, by decide +kernel⟩
theorem ok_back (T : Txt K mg) {fI : Addr} {dI : FuncData} (XB : OwnX P w K mg base "Bent" "place" CB fI dI) {k : Nat} {f f1 f2 f3 f4 : Addr} {fd d1 d2 d3 d4 : FuncData} (F : Fun K "back" "back" sback f fd) (Gbent_at : FnOk P w K mg base CX0 3 f1 d1 ["turned"] spBentAt) (Rbent_at : Ref K mg "bent_at" f1 d1 ["turned"])
    (Rturned_parts : Ref K mg "turned_parts" f2 d2 ["part"]) (Rpart_back : Ref K mg "part_back" f3 d3 ["part", "own"])
    (Gremade : FnOk P w K mg base CX0 k f4 d4 ["body", "parts", "made"] (spRem TrN RefV backF f2 f3)) (Rremade : Ref K mg "remade" f4 d4 ["body", "parts", "made"]) : FnOk P w K mg base (L2.CX P w) (k + 4) f fd ["turned"] (spBack CB) := by
  refine F.okX scback (fun vs H Q E h => ?_) (fun cdv A outer s H vs Q E hr h => ?_)
  · obtain ⟨p, es, us, rfl, _⟩ := h
    rfl
  obtain ⟨p, es, us, rfl, hB, hl6, hc, q1, q2⟩ := h
  refine ⟨_, (pss_cons (ps_set (i := 1) scback.nd rfl (Or.inl rfl) (pe_call Gbent_at (hr.mono (by omega)) rfl Rbent_at.m Rbent_at.k Rbent_at.b .nil pass0 (pa_cons (pv 0) pa_nil)))
    (pss_cons (ps_if (pt_cmpR op_notN (pv 1) pe_non (nomark _)) (pss_one (ps_raise rfl (takes_of rfl rfl rfl rfl) (pmk_oex XB.o XB.i XB.t XB.f (hr.mono (by omega)) XB.b .nil pass0 rfl XB.m (pa_cons (pv 1) pa_nil)))) pss_nil)
    (pss_one (ps_ret (pe_callTy call_tuple_of (by rfl) T.m_tuple (by decide +kernel) (pa_cons (pe_lc (own := [("name", 2), ("names", 3), ("body", 4)]) (g := gTup K 3 (gCons (gName 2) (gCons (gName 3) (gCons (gName 4) gNil)))) (by rfl) scback.nd (pi_tup (pv 0)) (blkOk_by (own := [("name", 2), ("names", 3), ("body", 4)]) (N := ["turned", "place", "name", "names", "body"]) (sc := defScope sback) (by decide +kernel)) (fun _ _ _ _ _ => (pg_tup rfl (pgs_cons (pg_name (i := 2) scback.nd rfl (Or.inl rfl)) (pgs_cons (pg_name (i := 3) scback.nd rfl (Or.inl rfl)) (pgs_cons (pg_name (i := 4) scback.nd rfl (Or.inl rfl)) pgs_nil))))) (fun _ _ _ _ _ => pts_nil) (fun _ _ _ _ _ => (pe_tup (pa_cons (pv 2) (pa_cons (pv 3) (pa_cons (pe_call Gremade (hr.mono (by omega)) rfl Rremade.m Rremade.k Rremade.b .nil pass0 (pa_cons (pv 4) (pa_cons (pe_glob (v := .ref f2) rfl Rturned_parts.m rfl) (pa_cons (pe_glob (v := .ref f3) rfl Rpart_back.m rfl) pa_nil)))) pa_nil)))))) pa_nil)))))), ?_⟩
  refine ⟨_, rfl, p, es, us, rfl, hB, fun e he => (hc e he).1, fun v H1 s1 hv => ?_⟩
  cases hb : bentB es with
  | some x =>
    rw [hb] at hv
    obtain ⟨rr, rfl, hr2⟩ : PlS H1 x v := hv
    refine ⟨_, rfl, rfl, _, rfl, itT (by rw [decide_eq_false (by intro z; cases z)]; rfl) ?_⟩
    refine ⟨_, rfl, by show 1 ≤ 1000; decide, fun a ha => ⟨a, _, rfl, upd_same, fun d hd hda => ?_⟩⟩
    obtain ⟨hd0, _, sD⟩ := own_same (n := "place") (v := .ref rr) ha hd hda
    refine ⟨rfl, d, _, upd_same, by rw [upd_ne hda]; exact upd_same, hd0, ?_⟩
    exact q2 x hb _ d (.ref rr) (s1.trans sD) upd_same ⟨rr, rfl, sD _ _ hr2⟩
  | none =>
    rw [hb] at hv
    have hv' : v = .non := hv
    subst hv'
    refine ⟨_, rfl, rfl, _, rfl, itF rfl ?_⟩
    have hB1 : TBkAt H1 es us p := ⟨s1 _ _ hB.1, hB.2.imp fun _ _ z => TErV.tk (tk_same s1) z⟩
    refine ⟨_, rfl, p, rfl, ⟨_, SqT.of hB1.1⟩, fun D hD => lc_tup (K := K) (a := p) (xs := us) (fun i H' => Same H1 H' ∧ ∃ acc, H' D = some (.lst acc) ∧ All2 (ErV H') (backB (es.take i)) acc) ⟨same_new hD _, [], upd_same, by rw [List.take_zero]; trivial⟩ ?_ ?_ ?_⟩
    · rintro i H' _ ⟨s2, _⟩
      exact SqT.of (s2 _ _ hB1.1)
    · rintro i x H2 hx2 ⟨s2, acc, h2, k2⟩
      obtain ⟨e, he, qa, r, b, rfl, g1, g2, g3⟩ := hB1.2.get hx2
      have hee := mem_of_get he
      obtain ⟨hc1, hc2, hc3⟩ := hc e hee
      obtain ⟨hj, hj2⟩ := List.getElem?_eq_some_iff.mp he
      have hle := k2.len
      unfold backB at hle
      rw [List.length_map, List.length_take] at hle
      refine ⟨qa, _, rfl, SqT.of (s2 _ _ g1), rfl, _, _, rfl, _, _, rfl, _, _, rfl, rfl, rfl, ?_⟩
      dsimp only [tYes]
      refine iteT ⟨_, rfl, _, rfl, _, rfl, .inl e.2.2, b, rfl, ⟨g3.tk (tk_same s2), hc3⟩, hc2, fun v H3 s3 hv3 => ?_⟩
      obtain ⟨b3, rfl, hb3⟩ := hv3
      refine ⟨sz (by show 3 ≤ 100000; decide), fun t3 ht3 => ?_⟩
      have s4 := same_new ht3 (.tup [.str e.1, .ref r, .ref b3])
      have s34 := s3.trans s4
      have h4 := s34 _ _ h2
      have tk := tk_put (o := .lst (acc ++ [.ref t3])) h4
      refine ⟨acc, h4, Nat.lt_of_le_of_lt (m := 100) (by omega) (by decide), same_mut (s2.trans s34) hD, _, upd_same, ?_⟩
      have eT : backB (es.take (i + 1)) = backB (es.take i) ++ [(e.1, e.2.1, backT e.2.2)] := by
        unfold backB
        rw [List.take_succ_eq_append_getElem hj, hj2, List.map_append]
        rfl
      rw [eT]
      exact ((k2.imp fun _ _ z => ErV.tk (tk_same s34) z).imp fun _ _ z => z.tk tk).app ⟨⟨t3, r, b3, rfl, tk _ _ upd_same, tk _ _ ((s2.trans s34) _ _ g2), At.tk ((tk_same s4).trans tk) hb3⟩, trivial⟩
    · rintro H2 ⟨s2, acc, h2, k2⟩
      rw [hB1.2.len, List.take_length] at k2
      refine ⟨D, acc, rfl, .inl ⟨SqL.of h2, fun p' hp' => ?_⟩⟩
      have s3 := same_new hp' (.tup acc)
      exact q1 hb p' acc _ (s1.trans (s2.trans s3)) ⟨upd_same, k2.imp fun _ _ z => ErV.tk (tk_same s3) z⟩
end
end KB

namespace KB
open PySem L2 HT

/-! ### sums -/
def sm {α : Type} (c : α → Nat) (l : List α) : Nat := (l.map c).sum
theorem sm_cons {α : Type} (c : α → Nat) (a : α) (l : List α) : sm c (a :: l) = c a + sm c l := rfl
theorem sm_app {α : Type} (c : α → Nat) (a b : List α) : sm c (a ++ b) = sm c a + sm c b := by
  unfold sm
  rw [List.map_append, List.sum_append]
theorem sm_nil {α : Type} (c : α → Nat) : sm c [] = 0 := rfl
theorem sm_map {α β : Type} (c : β → Nat) (g : α → β) (l : List α) : sm c (l.map g) = sm (fun a => c (g a)) l := by
  unfold sm
  rw [List.map_map]
  rfl
theorem sm_zero {α : Type} {c : α → Nat} : ∀ {l : List α}, (∀ a ∈ l, c a = 0) → sm c l = 0
  | [], _ => rfl
  | a :: r, h => by
    rw [sm_cons, h a List.mem_cons_self, sm_zero fun x hx => h x (List.mem_cons_of_mem _ hx)]
theorem sm_congr {α : Type} {c d : α → Nat} : ∀ {l : List α}, (∀ a ∈ l, c a = d a) → sm c l = sm d l
  | [], _ => rfl
  | a :: r, h => by
    rw [sm_cons, sm_cons, h a List.mem_cons_self, sm_congr fun x hx => h x (List.mem_cons_of_mem _ hx)]
/-! ### any measure of parts that adds up -/
structure Ms where
  tell : Nat
  lett : Nat
  post : Nat
  iff : Nat
  ask : Str → Str → Nat
  give : Nat
  p : Pt → Nat
  pa : ∀ f ts j, p (.ask f ts j) = ask f j
  pg : ∀ j s, p (.give j s) = give
  pt : ∀ x s q, p (.tell x s q) = tell + p q
  pl : ∀ x s q, p (.lett x s q) = lett + p q
  pp : ∀ j x q u, p (.post j x q u) = post + p q + p u
  pi : ∀ s q u, p (.iff s q u) = iff + p q + p u
namespace Ms
variable (M : Ms)
def l : Ld → Nat
  | .lett _ _ => M.lett
  | .tell _ _ => M.tell
  | .post _ _ u => M.post + M.p u
def g : Gt → Nat
  | .t _ => 0
  | .p q => M.p q
def rg (R : List (List Ld)) (G : List Gt) : Nat := sm (sm M.l) R + sm M.g G
theorem ah : ∀ (r : List Ld) (q : Pt), M.p (putAh r q) = sm M.l r + M.p q
  | [], q => (Nat.zero_add _).symm
  | .lett x s :: r, q => by
    show M.p (.lett x s (putAh r q)) = _
    rw [M.pl, ah r q, sm_cons]
    show _ = M.lett + _ + _
    omega
  | .tell x s :: r, q => by
    show M.p (.tell x s (putAh r q)) = _
    rw [M.pt, ah r q, sm_cons]
    show _ = M.tell + _ + _
    omega
  | .post j x u :: r, q => by
    show M.p (.post j x (putAh r q) u) = _
    rw [M.pp, ah r q, sm_cons]
    show _ = (M.post + M.p u) + _ + _
    omega
/-- what a finishing job adds -/
def fin : Jb → Nat
  | .lett _ => M.lett
  | .tell _ => M.tell
  | .post _ _ => M.post
  | .iff => M.iff
  | .ask f _ j => M.ask f j
  | .give _ => M.give
  | _ => 0
theorem fin_rg {j : Jb} {R R1 : List (List Ld)} {G G1 : List Gt} (f : Fin j R G R1 G1) : M.fin j + M.rg R G = M.rg R1 G1 := by
  unfold rg
  cases f with
  | row =>
    show 0 + _ = _
    rw [sm_cons, sm_nil]
    omega
  | @close r _ q _ =>
    show 0 + _ = _
    rw [sm_cons, sm_cons, sm_cons]
    show _ = _ + (M.p (putAh r q) + _)
    rw [M.ah]
    show 0 + (_ + (M.p q + _)) = _
    omega
  | lett =>
    show M.lett + _ = _
    rw [sm_cons, sm_cons, sm_cons, sm_app, sm_cons, sm_nil]
    show _ + (_ + (0 + _)) = (_ + (M.lett + _)) + _ + _
    omega
  | tell =>
    show M.tell + _ = _
    rw [sm_cons, sm_cons, sm_cons, sm_app, sm_cons, sm_nil]
    show _ + (_ + (0 + _)) = (_ + (M.tell + _)) + _ + _
    omega
  | @post _ _ _ _ q _ =>
    show M.post + _ = _
    rw [sm_cons, sm_cons, sm_cons, sm_app, sm_cons, sm_nil]
    show _ + (_ + (M.p q + _)) = (_ + ((M.post + M.p q) + _)) + _ + _
    omega
  | known =>
    show 0 + _ = _
    rw [sm_cons]
    show _ = _ + (0 + _)
    omega
  | @ask _ _ ts _ _ =>
    have e : sm M.g ((ts.map Gt.t).reverse) = 0 := sm_zero fun a ha => by
      obtain ⟨t, _, rfl⟩ := List.mem_map.mp (List.mem_reverse.mp ha)
      rfl
    rw [sm_app, e, sm_cons]
    show M.ask _ _ + _ = _ + (M.p (.ask _ _ _) + _)
    rw [M.pa]
    omega
  | give =>
    rw [sm_cons, sm_cons]
    show M.give + (_ + (0 + _)) = _ + (M.p (.give _ _) + _)
    rw [M.pg]
    omega
  | @iff a b c _ _ =>
    show M.iff + _ = _
    rw [sm_cons, sm_cons, sm_cons, sm_cons]
    show _ + (_ + (M.p c + (M.p b + (0 + _)))) = _ + (M.p (.iff a b c) + _)
    rw [M.pi]
    omega
  | op =>
    show 0 + _ = _
    rw [sm_cons, sm_cons, sm_cons]
    show _ + (_ + (0 + (0 + _))) = _ + (0 + _)
    omega
end Ms
/-! ### terms have as many parts as their heads ask for -/
def arT : Tm → Prop
  | .mk h n k => arH h n ∧ ∀ i, arT (k i)
theorem arT.here {t : Tm} (h : arT t) : arN t := by
  cases t with
  | mk hd n k =>
    show arH hd (kidsT (.mk hd n k)).length
    rw [kids_len]
    exact h.1
theorem arT.kid {t u : Tm} (h : arT t) (m : u ∈ kidsT t) : arT u := by
  cases t with
  | mk hd n k =>
    obtain ⟨i, rfl⟩ := List.mem_ofFn.mp m
    exact h.2 i
theorem At.arT {H : Hp} : ∀ {t : Tm} {a : Addr}, At H t a → KB.arT t := by
  intro t
  induction t with
  | mk hd n k ih =>
    intro a h
    obtain ⟨ys, l, r⟩ := h
    have := l.ar
    unfold Rfs at this
    rw [List.length_ofFn] at this
    exact ⟨this, fun i => ih i (r i)⟩
def arJ : Jb → Prop
  | .done t _ => arT t
  | .put t _ => arT t
  | .simple t => arT t
  | _ => True
theorem arE {t : Tm} {j : Str} (h : arT t) : ∀ x ∈ endJ t j, arJ x := by
  intro x hx
  unfold endJ at hx
  have hn := h.here
  unfold arN at hn
  have hk : ∀ u ∈ kidsT t, arT u := fun u hu => h.kid hu
  split at hx
  · rcases List.mem_append.mp hx with z | z
    · obtain ⟨u, hu, rfl⟩ := List.mem_map.mp z
      exact hk u hu
    · cases List.mem_singleton.mp z
      trivial
  · rename_i a b c h1 h2
    rw [h2] at hk
    have ha := hk a (by simp)
    have hb := hk b (by simp)
    have hc := hk c (by simp)
    simp only [List.mem_cons, List.not_mem_nil, or_false] at hx
    rcases hx with rfl | rfl | rfl | rfl | rfl | rfl
    · exact ha
    · trivial
    · exact hb
    · trivial
    · exact hc
    · trivial
  · simp only [List.mem_cons, List.not_mem_nil, or_false] at hx
    rcases hx with rfl | rfl
    · exact h
    · trivial
theorem arD {t : Tm} {j : Str} (h : arT t) : ∀ x ∈ doneJ t j, arJ x := by
  intro x hx
  unfold doneJ at hx
  have hk : ∀ u ∈ kidsT t, arT u := fun u hu => h.kid hu
  split at hx
  · rename_i a b h1 h2
    rw [h2] at hk
    have ha := hk a (by simp)
    have hb := hk b (by simp)
    simp only [List.mem_cons, List.not_mem_nil, or_false] at hx
    rcases hx with rfl | rfl
    · exact ha
    · exact hb
  · rcases List.mem_append.mp hx with z | z
    · exact arE h x z
    · cases List.mem_singleton.mp z
      trivial
theorem arP {t : Tm} {y w : Str} (h : arT t) : ∀ x ∈ putJ t y w, arJ x := by
  intro x hx
  unfold putJ at hx
  have hk : ∀ u ∈ kidsT t, arT u := fun u hu => h.kid hu
  split at hx
  · rename_i a b h1 h2
    rw [h2] at hk
    have ha := hk a (by simp)
    have hb := hk b (by simp)
    simp only [List.mem_cons, List.not_mem_nil, or_false] at hx
    rcases hx with rfl | rfl
    · exact ha
    · exact hb
  · rcases List.mem_append.mp hx with z | z
    · exact arE h x z
    · cases List.mem_singleton.mp z
      trivial
  · rcases List.mem_append.mp hx with z | z
    · exact arE h x z
    · cases List.mem_singleton.mp z
      trivial
  · rename_i a h1 h2
    rw [h2] at hk
    have ha := hk a (by simp)
    simp only [List.mem_cons, List.not_mem_nil, or_false] at hx
    rcases hx with rfl | rfl
    · exact ha
    · trivial
  · simp only [List.mem_cons, List.not_mem_nil, or_false] at hx
    rcases hx with rfl | rfl
    · exact h
    · trivial
theorem arS {t : Tm} {w : Str} (h : arT t) : ∀ x ∈ simpJ t w, arJ x := by
  intro x hx
  unfold simpJ at hx
  have hk : ∀ u ∈ kidsT t, arT u := fun u hu => h.kid hu
  split at hx
  · cases List.mem_singleton.mp hx
    trivial
  · cases List.mem_singleton.mp hx
    trivial
  · rename_i a b h1 h2
    rw [h2] at hk
    have ha := hk a (by simp)
    have hb := hk b (by simp)
    simp only [List.mem_cons, List.not_mem_nil, or_false] at hx
    rcases hx with rfl | rfl | rfl
    · exact ha
    · exact hb
    · trivial
  · rename_i a b h1 h2
    rw [h2] at hk
    have ha := hk a (by simp)
    have hb := hk b (by simp)
    simp only [List.mem_cons, List.not_mem_nil, or_false] at hx
    rcases hx with rfl | rfl | rfl
    · exact ha
    · exact hb
    · trivial
  · rename_i a b h1 h2
    rw [h2] at hk
    have ha := hk a (by simp)
    have hb := hk b (by simp)
    simp only [List.mem_cons, List.not_mem_nil, or_false] at hx
    rcases hx with rfl | rfl
    · exact ha
    · exact hb
  · simp only [List.mem_cons, List.not_mem_nil, or_false] at hx
    rcases hx with rfl | rfl
    · exact h
    · trivial
/-- what is kept by every step of a row of jobs: c weighs jobs, M what is told of them -/
theorem Run.le {M : Ms} {c : Jb → Nat} (tk : List Str)
    (hf : ∀ {j R G R1 G1}, Fin j R G R1 G1 → M.fin j ≤ c j)
    (hd : ∀ t j, arT t → sm c (doneJ t j) ≤ c (.done t j))
    (hp : ∀ (t : Tm) (x w : Str), arT t → (wordH (hdT t) = true → w ≠ "home") → sm c (putJ t x w) ≤ c (.put t x))
    (hs : ∀ t w, arT t → sm c (simpJ t w) ≤ c (.simple t))
    {J : List Jb} {R G m R2 G2 m2} (h : Run tk J R G m R2 G2 m2) : (∀ j ∈ J, arJ j) → M.rg R2 G2 ≤ sm c J + M.rg R G := by
  have nh : ∀ {b : Bool} {m w m1}, (b = true → NwR tk m w m1) → b = true → w ≠ "home" := fun h z => by
    obtain ⟨k, _, _, e, _⟩ := h z
    rw [e]
    exact wordOf_home k
  induction h with
  | nil => intro _; exact Nat.le_add_left _ _
  | fin f h ih =>
    intro ha
    have h1 := ih fun x hx => ha x (List.mem_cons_of_mem _ hx)
    have h2 := hf f
    have h3 := M.fin_rg f
    rw [sm_cons]
    omega
  | @done t j J R G m R2 G2 m2 h ih =>
    intro ha
    have h0 : arT t := ha _ List.mem_cons_self
    have h1 := ih fun x hx => by
      rcases List.mem_append.mp hx with z | z
      · exact arD h0 x z
      · exact ha x (List.mem_cons_of_mem _ z)
    have h2 := hd t j h0
    rw [sm_app] at h1
    rw [sm_cons]
    omega
  | @put t x w J R G m m1 R2 G2 m2 h1 h2 h ih =>
    intro ha
    have h0 : arT t := ha _ List.mem_cons_self
    have h1 := ih fun x hx => by
      rcases List.mem_append.mp hx with z | z
      · exact arP h0 x z
      · exact ha x (List.mem_cons_of_mem _ z)
    have h2 := hp t x w h0 (nh ‹_›)
    rw [sm_app] at h1
    rw [sm_cons]
    omega
  | @simple t w J R G m m1 R2 G2 m2 h1 h2 h ih =>
    intro ha
    have h0 : arT t := ha _ List.mem_cons_self
    have h1 := ih fun x hx => by
      rcases List.mem_append.mp hx with z | z
      · exact arS h0 x z
      · exact ha x (List.mem_cons_of_mem _ z)
    have h2 := hs t w h0
    rw [sm_app] at h1
    rw [sm_cons]
    omega
/-! ### how many parts at most -/
def mP : Ms where
  tell := 1
  lett := 1
  post := 1
  iff := 1
  ask _ _ := 1
  give := 1
  p := pcnt
  pa _ _ _ := rfl
  pg _ _ := rfl
  pt _ _ _ := rfl
  pl _ _ _ := rfl
  pp _ _ _ _ := rfl
  pi _ _ _ := rfl
def uJ : Jb → Nat
  | .simple t => 4 * cnt t
  | .put t _ => 4 * cnt t + (if wordS (hdT t) = true then 0 else 1)
  | .done t _ => 4 * cnt t + 1
  | .lett _ => 1
  | .tell _ => 1
  | .post _ _ => 1
  | .ask _ _ _ => 1
  | .give _ => 1
  | .iff => 1
  | _ => 0
theorem fin_uJ {j : Jb} {R G R1 G1} (f : Fin j R G R1 G1) : mP.fin j ≤ uJ j := by
  cases f <;> exact Nat.le_refl _
theorem u_simples : ∀ ts : List Tm, sm uJ (ts.map Jb.simple) = 4 * cnts ts
  | [] => rfl
  | t :: r => by
    rw [List.map_cons, sm_cons, u_simples r, cnts_cons]
    show 4 * cnt t + _ = _
    omega
theorem u_put_le (t : Tm) (x : Str) : uJ (.put t x) ≤ 4 * cnt t + 1 := by
  show 4 * cnt t + _ ≤ _
  split <;> omega
theorem u_end {t : Tm} {j : Str} (h : arT t) : sm uJ (endJ t j) ≤ 4 * cnt t + 1 ∧ (wordH (hdT t) = true → sm uJ (endJ t j) + 1 ≤ 4 * cnt t) := by
  have hn := h.here
  unfold arN at hn
  have hc := cnt_kids t
  unfold endJ
  cases hh : hdT t with
  | ask f =>
    show sm uJ ((kidsT t).map Jb.simple ++ [.ask f (kidsT t).length j]) ≤ _ ∧ (_ → sm uJ ((kidsT t).map Jb.simple ++ [.ask f (kidsT t).length j]) + 1 ≤ _)
    rw [sm_app, u_simples]
    have e : sm uJ [Jb.ask f (kidsT t).length j] = 1 := rfl
    omega
  | iff =>
    rw [hh] at hn
    obtain ⟨a, b, c, e⟩ := three_of (show (kidsT t).length = 3 from hn)
    rw [e] at hc ⊢
    have e2 : cnts [a, b, c] = cnt a + (cnt b + (cnt c + 0)) := rfl
    show (4 * cnt a + (0 + ((4 * cnt b + 1) + (0 + ((4 * cnt c + 1) + (1 + 0)))))) ≤ _ ∧ (_ → (4 * cnt a + (0 + ((4 * cnt b + 1) + (0 + ((4 * cnt c + 1) + (1 + 0)))))) + 1 ≤ _)
    omega
  | _ =>
    refine ⟨?_, fun z => nomatch z⟩
    show 4 * cnt t + (1 + 0) ≤ _
    omega
theorem u_done {t : Tm} {j : Str} (h : arT t) : sm uJ (doneJ t j) ≤ uJ (.done t j) := by
  have hn := h.here
  unfold arN at hn
  have hc := cnt_kids t
  have he := (u_end (j := j) h).1
  show _ ≤ 4 * cnt t + 1
  unfold doneJ
  cases hh : hdT t with
  | lett x =>
    rw [hh] at hn
    obtain ⟨a, b, e⟩ := two_of (show (kidsT t).length = 2 from hn)
    rw [e] at hc ⊢
    have e2 : cnts [a, b] = cnt a + (cnt b + 0) := rfl
    have := u_put_le a x
    show uJ (.put a x) + ((4 * cnt b + 1) + 0) ≤ _
    omega
  | _ =>
    show sm uJ (endJ t j ++ [.close]) ≤ _
    rw [sm_app]
    have e : sm uJ [Jb.close] = 0 := rfl
    omega
theorem u_put {t : Tm} {x w : Str} (h : arT t) : sm uJ (putJ t x w) ≤ uJ (.put t x) := by
  have hn := h.here
  unfold arN at hn
  have hc := cnt_kids t
  have he := (u_end (j := w) h).2
  show _ ≤ 4 * cnt t + _
  unfold putJ
  cases hh : hdT t with
  | lett y =>
    rw [hh] at hn
    obtain ⟨a, b, e⟩ := two_of (show (kidsT t).length = 2 from hn)
    rw [e] at hc ⊢
    have e2 : cnts [a, b] = cnt a + (cnt b + 0) := rfl
    have := u_put_le a y
    have := u_put_le b x
    show uJ (.put a y) + (uJ (.put b x) + 0) ≤ _
    omega
  | ask f =>
    have := he (by rw [hh]; rfl)
    show sm uJ (endJ t w ++ [.post w x]) ≤ _
    rw [sm_app]
    have e : sm uJ [Jb.post w x] = 1 := rfl
    omega
  | iff =>
    have := he (by rw [hh]; rfl)
    show sm uJ (endJ t w ++ [.post w x]) ≤ _
    rw [sm_app]
    have e : sm uJ [Jb.post w x] = 1 := rfl
    omega
  | tell =>
    rw [hh] at hn
    obtain ⟨a, e⟩ := one_of (show (kidsT t).length = 1 from hn)
    rw [e] at hc ⊢
    have e2 : cnts [a] = cnt a + 0 := rfl
    show 4 * cnt a + (1 + 0) ≤ _
    omega
  | _ =>
    show 4 * cnt t + (1 + 0) ≤ 4 * cnt t + 1
    omega
theorem u_simp {t : Tm} {w : Str} (h : arT t) : sm uJ (simpJ t w) ≤ uJ (.simple t) := by
  have hn := h.here
  unfold arN at hn
  have hc := cnt_kids t
  show _ ≤ 4 * cnt t
  unfold simpJ
  have plain : ∀ l : Bool, (kidsT t).length = 2 → ∃ a b, kidsT t = [a, b] ∧ sm uJ [.simple a, .simple b, .op l] ≤ 4 * cnt t := fun l h2 => by
    obtain ⟨a, b, e⟩ := two_of h2
    rw [e] at hc
    have e2 : cnts [a, b] = cnt a + (cnt b + 0) := rfl
    refine ⟨a, b, e, ?_⟩
    show 4 * cnt a + (4 * cnt b + (0 + 0)) ≤ _
    omega
  cases hh : hdT t with
  | num z => exact Nat.zero_le _
  | nam z => exact Nat.zero_le _
  | plus =>
    rw [hh] at hn
    obtain ⟨a, b, e, h9⟩ := plain false hn
    rw [e]
    exact h9
  | less =>
    rw [hh] at hn
    obtain ⟨a, b, e, h9⟩ := plain true hn
    rw [e]
    exact h9
  | lett y =>
    rw [hh] at hn
    obtain ⟨a, b, e⟩ := two_of (show (kidsT t).length = 2 from hn)
    rw [e] at hc ⊢
    have e2 : cnts [a, b] = cnt a + (cnt b + 0) := rfl
    have := u_put_le a y
    show uJ (.put a y) + (4 * cnt b + 0) ≤ _
    omega
  | ask f =>
    show (4 * cnt t + (if wordS (hdT t) = true then 0 else 1)) + (0 + 0) ≤ _
    rw [hh]
    show (4 * cnt t + 0) + (0 + 0) ≤ _
    omega
  | iff =>
    show (4 * cnt t + (if wordS (hdT t) = true then 0 else 1)) + (0 + 0) ≤ _
    rw [hh]
    show (4 * cnt t + 0) + (0 + 0) ≤ _
    omega
  | tell =>
    show (4 * cnt t + (if wordS (hdT t) = true then 0 else 1)) + (0 + 0) ≤ _
    rw [hh]
    show (4 * cnt t + 0) + (0 + 0) ≤ _
    omega
theorem run_small {xs : List Str} {t : Tm} {p : Pt} (h : RunB xs t p) (ha : arT t) : pcnt p ≤ 4 * cnt t + 1 := by
  obtain ⟨m', h⟩ := h
  have hj : ∀ j ∈ ([.row, .done t "home"] : List Jb), arJ j := fun j hj => by
    simp only [List.mem_cons, List.not_mem_nil, or_false] at hj
    rcases hj with rfl | rfl
    · trivial
    · exact ha
  have h1 := Run.le (M := mP) (c := uJ) _ (fun f => fin_uJ f) (fun t j a => u_done a) (fun t x w a b => u_put a) (fun t w a => u_simp a) h hj
  have e1 : mP.rg [] [.p p] = 0 + (pcnt p + 0) := rfl
  have e2 : mP.rg [] [] = 0 := rfl
  have e3 : sm uJ [.row, .done t "home"] = 0 + ((4 * cnt t + 1) + 0) := rfl
  omega
end KB

namespace KB
open PySem L2 HT

/-! ### what is turned is straight -/
def stP (p : Pt) (due : Str) : Prop := bentL p due = [] ∧ wfP p
def tyJ : List Jb → List (Option Str) → Prop
  | [], g => g = [some ("home" : Str)]
  | .row :: J, g => tyJ J g
  | .done _ j :: J, g => tyJ J (some j :: g)
  | .put _ _ :: J, g => tyJ J g
  | .simple _ :: J, g => tyJ J (none :: g)
  | .known t :: J, g => (simple t = true ∧ cnt t ≤ 1) ∧ tyJ J (none :: g)
  | .close :: J, g => ∃ j g', g = some j :: g' ∧ tyJ J (some j :: g')
  | .lett _ :: J, g => ∃ g', g = none :: g' ∧ tyJ J g'
  | .tell _ :: J, g => ∃ g', g = none :: g' ∧ tyJ J g'
  | .post j _ :: J, g => ∃ g', g = some j :: g' ∧ tyJ J g'
  | .ask _ n j :: J, g => n ≤ 4 ∧ ∃ g', g = List.replicate n none ++ g' ∧ tyJ J (some j :: g')
  | .give j :: J, g => ∃ g', g = none :: g' ∧ tyJ J (some j :: g')
  | .iff :: J, g => ∃ j g', g = some j :: some j :: none :: g' ∧ tyJ J (some j :: g')
  | .op _ :: J, g => ∃ g', g = none :: none :: g' ∧ tyJ J (none :: g')
theorem ty_simples {J : List Jb} : ∀ (ts : List Tm) (g : List (Option Str)), tyJ J (List.replicate ts.length none ++ g) → tyJ (ts.map Jb.simple ++ J) g
  | [], g, h => h
  | t :: ts, g, h => by
    show tyJ (ts.map Jb.simple ++ J) (none :: g)
    refine ty_simples ts (none :: g) ?_
    have e : List.replicate ts.length (none : Option Str) ++ none :: g = List.replicate (t :: ts).length none ++ g := by
      rw [List.length_cons, List.replicate_succ']
      simp
    rw [e]
    exact h
theorem ty_end {t : Tm} {j : Str} {J : List Jb} {g : List (Option Str)} (h : arN t) (o : tyJ J (some j :: g)) : tyJ (endJ t j ++ J) g := by
  unfold arN at h
  unfold endJ
  cases hh : hdT t with
  | ask f =>
    rw [hh] at h
    show tyJ (((kidsT t).map Jb.simple ++ [.ask f (kidsT t).length j]) ++ J) g
    rw [List.append_assoc]
    exact ty_simples _ g ⟨h, g, rfl, o⟩
  | iff =>
    rw [hh] at h
    obtain ⟨a, b, c, e⟩ := three_of (show (kidsT t).length = 3 from h)
    rw [e]
    exact ⟨j, g, rfl, o⟩
  | _ => exact ⟨g, rfl, o⟩
theorem ty_done {t : Tm} {j : Str} {J : List Jb} {g : List (Option Str)} (h : arN t) (o : tyJ (.done t j :: J) g) : tyJ (doneJ t j ++ J) g := by
  have o' : tyJ J (some j :: g) := o
  have he : tyJ ((endJ t j ++ [.close]) ++ J) g := by
    rw [List.append_assoc]
    exact ty_end h ⟨j, g, rfl, o'⟩
  unfold arN at h
  unfold doneJ
  cases hh : hdT t with
  | lett x =>
    rw [hh] at h
    obtain ⟨a, b, e⟩ := two_of (show (kidsT t).length = 2 from h)
    rw [e]
    exact o'
  | _ => exact he
theorem ty_put {t : Tm} {x w : Str} {J : List Jb} {g : List (Option Str)} (h : arN t) (o : tyJ (.put t x :: J) g) : tyJ (putJ t x w ++ J) g := by
  have o' : tyJ J g := o
  have he : tyJ ((endJ t w ++ [.post w x]) ++ J) g := by
    rw [List.append_assoc]
    exact ty_end h ⟨g, rfl, o'⟩
  unfold arN at h
  unfold putJ
  cases hh : hdT t with
  | lett y =>
    rw [hh] at h
    obtain ⟨a, b, e⟩ := two_of (show (kidsT t).length = 2 from h)
    rw [e]
    exact o'
  | ask f => exact he
  | iff => exact he
  | tell =>
    rw [hh] at h
    obtain ⟨a, e⟩ := one_of (show (kidsT t).length = 1 from h)
    rw [e]
    exact ⟨g, rfl, o'⟩
  | _ => exact ⟨g, rfl, o'⟩
theorem flat_one {t : Tm} (h : flatHd (hdT t) = true) (hk : (kidsT t).length = 0) : simple t = true ∧ cnt t ≤ 1 := by
  refine ⟨?_, ?_⟩
  · cases t with
    | mk hd n k =>
      rw [kids_len] at hk
      subst hk
      show (flatHd hd && true) = true
      rw [Bool.and_true]
      exact h
  · rw [cnt_kids]
    have : kidsT t = [] := List.eq_nil_of_length_eq_zero hk
    rw [this]
    exact Nat.le_refl 1
theorem ty_simp {t : Tm} {w : Str} {J : List Jb} {g : List (Option Str)} (h : arN t) (o : tyJ (.simple t :: J) g) : tyJ (simpJ t w ++ J) g := by
  have o' : tyJ J (none :: g) := o
  unfold arN at h
  unfold simpJ
  cases hh : hdT t with
  | num z =>
    rw [hh] at h
    exact ⟨flat_one (by rw [hh]; rfl) h, o'⟩
  | nam z =>
    rw [hh] at h
    exact ⟨flat_one (by rw [hh]; rfl) h, o'⟩
  | plus =>
    rw [hh] at h
    obtain ⟨a, b, e⟩ := two_of (show (kidsT t).length = 2 from h)
    rw [e]
    exact ⟨g, rfl, o'⟩
  | less =>
    rw [hh] at h
    obtain ⟨a, b, e⟩ := two_of (show (kidsT t).length = 2 from h)
    rw [e]
    exact ⟨g, rfl, o'⟩
  | lett y =>
    rw [hh] at h
    obtain ⟨a, b, e⟩ := two_of (show (kidsT t).length = 2 from h)
    rw [e]
    exact o'
  | _ => exact ⟨⟨simple_mkL rfl (fun _ z => nomatch z), by rw [cnt_mkL]; exact Nat.le_refl 1⟩, o'⟩
/-! ### what has been told so far is typed -/
def gtT : Gt → Option Str → Prop
  | .t s, none => simple s = true
  | .p q, some j => stP q j
  | _, _ => False
def gtsT : List Gt → List (Option Str) → Prop
  | [], [] => True
  | a :: G, o :: g => gtT a o ∧ gtsT G g
  | _, _ => False
def ldT : Ld → Prop
  | .lett _ s => simple s = true
  | .tell _ s => simple s = true
  | .post j _ u => stP u j
def rowsT (R : List (List Ld)) : Prop := ∀ r ∈ R, ∀ l ∈ r, ldT l
theorem put_st {due : Str} : ∀ {r : List Ld} {q : Pt}, (∀ l ∈ r, ldT l) → stP q due → stP (putAh r q) due
  | [], q, _, h => h
  | .lett x s :: r, q, hr, h => by
    have ih := put_st (r := r) (fun l hl => hr l (List.mem_cons_of_mem _ hl)) h
    refine ⟨?_, hr _ List.mem_cons_self, ih.2⟩
    show (bentL (putAh r q) due).map _ ++ [] = []
    rw [ih.1]
    rfl
  | .tell x s :: r, q, hr, h => by
    have ih := put_st (r := r) (fun l hl => hr l (List.mem_cons_of_mem _ hl)) h
    refine ⟨?_, hr _ List.mem_cons_self, ih.2⟩
    show (bentL (putAh r q) due).map _ ++ [] = []
    rw [ih.1]
    rfl
  | .post j x u :: r, q, hr, h => by
    have ih := put_st (r := r) (fun l hl => hr l (List.mem_cons_of_mem _ hl)) h
    have hu : stP u j := hr _ List.mem_cons_self
    refine ⟨?_, ih.2, hu.2⟩
    show (bentL (putAh r q) due).map _ ++ ((bentL u j).map _ ++ []) = []
    rw [ih.1, hu.1]
    rfl
theorem gts_rep : ∀ {n : Nat} {G : List Gt} {g : List (Option Str)}, gtsT G (List.replicate n none ++ g) → ∃ (ts : List Tm) (G' : List Gt), G = ts.map Gt.t ++ G' ∧ ts.length = n ∧ (∀ t ∈ ts, simple t = true) ∧ gtsT G' g
  | 0, G, g, h => ⟨[], G, rfl, rfl, (fun _ z => nomatch z), h⟩
  | n + 1, [], g, h => by rw [List.replicate_succ, List.cons_append] at h; exact h.elim
  | n + 1, a :: G, g, h => by
    rw [List.replicate_succ, List.cons_append] at h
    obtain ⟨h1, h2⟩ : gtT a none ∧ gtsT G (List.replicate n none ++ g) := h
    obtain ⟨ts, G', e1, e2, e3, e4⟩ := gts_rep h2
    cases a with
    | p q => exact h1.elim
    | t s =>
      refine ⟨s :: ts, G', by rw [e1]; rfl, by rw [List.length_cons, e2], fun t ht => ?_, e4⟩
      rcases List.mem_cons.mp ht with z | z
      · rw [z]; exact h1
      · exact e3 t z
theorem map_t_inj : ∀ {a b : List Tm} {x y : List Gt}, a.map Gt.t ++ x = b.map Gt.t ++ y → a.length = b.length → a = b ∧ x = y
  | [], [], x, y, h, _ => ⟨rfl, h⟩
  | s :: a, t :: b, x, y, h, e => by
    obtain ⟨h1, h2⟩ := List.cons.inj h
    obtain ⟨h3, h4⟩ := map_t_inj (a := a) (b := b) h2 (by simpa using e)
    exact ⟨by rw [Gt.t.inj h1, h3], h4⟩
  | [], _ :: _, _, _, _, e => nomatch e
  | _ :: _, [], _, _, _, e => nomatch e
theorem fin_ty {j : Jb} {J : List Jb} {R R1 : List (List Ld)} {G G1 : List Gt} {g : List (Option Str)} (f : Fin j R G R1 G1) (o : tyJ (j :: J) g) (hG : gtsT G g) (hR : rowsT R) : ∃ g1, tyJ J g1 ∧ gtsT G1 g1 ∧ rowsT R1 := by
  cases f with
  | row => exact ⟨g, o, hG, fun r hr => by
      rcases List.mem_cons.mp hr with z | z
      · subst z; intro l hl; cases hl
      · exact hR r z⟩
  | @close r R1 q G1 =>
    obtain ⟨j, g', rfl, o⟩ := o
    obtain ⟨h1, h2⟩ : gtT (.p q) (some j) ∧ gtsT _ g' := hG
    exact ⟨_, o, ⟨put_st (hR r List.mem_cons_self) h1, h2⟩, fun r' hr => hR r' (List.mem_cons_of_mem _ hr)⟩
  | @lett x r R s G =>
    obtain ⟨g', rfl, o⟩ := o
    obtain ⟨h1, h2⟩ : gtT (.t s) none ∧ gtsT _ g' := hG
    refine ⟨_, o, h2, fun r' hr l hl => ?_⟩
    rcases List.mem_cons.mp hr with z | z
    · subst z
      rcases List.mem_append.mp hl with y | y
      · exact hR r List.mem_cons_self l y
      · rw [List.mem_singleton.mp y]; exact h1
    · exact hR r' (List.mem_cons_of_mem _ z) l hl
  | @tell x r R s G =>
    obtain ⟨g', rfl, o⟩ := o
    obtain ⟨h1, h2⟩ : gtT (.t s) none ∧ gtsT _ g' := hG
    refine ⟨_, o, h2, fun r' hr l hl => ?_⟩
    rcases List.mem_cons.mp hr with z | z
    · subst z
      rcases List.mem_append.mp hl with y | y
      · exact hR r List.mem_cons_self l y
      · rw [List.mem_singleton.mp y]; exact h1
    · exact hR r' (List.mem_cons_of_mem _ z) l hl
  | @post j x r R q G =>
    obtain ⟨g', rfl, o⟩ := o
    obtain ⟨h1, h2⟩ : gtT (.p q) (some j) ∧ gtsT _ g' := hG
    refine ⟨_, o, h2, fun r' hr l hl => ?_⟩
    rcases List.mem_cons.mp hr with z | z
    · subst z
      rcases List.mem_append.mp hl with y | y
      · exact hR r List.mem_cons_self l y
      · rw [List.mem_singleton.mp y]; exact h1
    · exact hR r' (List.mem_cons_of_mem _ z) l hl
  | known =>
    obtain ⟨h1, o⟩ := o
    exact ⟨_, o, ⟨h1.1, hG⟩, hR⟩
  | @ask f j ts R G =>
    obtain ⟨h4, g', rfl, o⟩ := o
    rw [← List.map_reverse] at hG
    obtain ⟨us, G', e1, e2, e3, e4⟩ := gts_rep hG
    obtain ⟨e5, e6⟩ := map_t_inj e1 (by rw [List.length_reverse, e2])
    subst e6
    refine ⟨_, o, ⟨⟨if_pos rfl, h4, fun t ht => e3 t (by rw [← e5]; exact List.mem_reverse.mpr ht)⟩, e4⟩, hR⟩
  | @give j s R G =>
    obtain ⟨g', rfl, o⟩ := o
    obtain ⟨h1, h2⟩ : gtT (.t s) none ∧ gtsT _ g' := hG
    exact ⟨_, o, ⟨⟨if_pos rfl, h1⟩, h2⟩, hR⟩
  | @iff a b c R G =>
    obtain ⟨j, g', rfl, o⟩ := o
    obtain ⟨h1, h2, h3, h4⟩ : gtT (.p c) (some j) ∧ gtT (.p b) (some j) ∧ gtT (.t a) none ∧ gtsT _ g' := hG
    have h1' : stP c j := h1
    have h2' : stP b j := h2
    refine ⟨_, o, ⟨⟨?_, h3, h2'.2, h1'.2⟩, h4⟩, hR⟩
    show (bentL b j).map _ ++ ((bentL c j).map _ ++ []) = []
    rw [h2'.1, h1'.1]
    rfl
  | @op l a b R G =>
    obtain ⟨g', rfl, o⟩ := o
    obtain ⟨h1, h2, h3⟩ : gtT (.t b) none ∧ gtT (.t a) none ∧ gtsT _ g' := hG
    refine ⟨_, o, ⟨?_, h3⟩, hR⟩
    show simple (mkOp l a b) = true
    unfold mkOp
    refine simple_mkL (by cases l <;> rfl) fun t ht => ?_
    rcases List.mem_cons.mp ht with z | z
    · rw [z]; exact h2
    · rw [List.mem_singleton.mp z]; exact h1
theorem run_ty {tk : List Str} {J : List Jb} {R G m R2 G2 m2} (h : Run tk J R G m R2 G2 m2) : ∀ g, (∀ j ∈ J, arJ j) → tyJ J g → gtsT G g → rowsT R → gtsT G2 [some ("home" : Str)] := by
  induction h with
  | nil =>
    intro g _ o hG _
    have e : g = [some ("home" : Str)] := o
    rw [← e]
    exact hG
  | fin f h ih =>
    intro g ha o hG hR
    obtain ⟨g1, o1, hG1, hR1⟩ := fin_ty f o hG hR
    exact ih g1 (fun x hx => ha x (List.mem_cons_of_mem _ hx)) o1 hG1 hR1
  | @done t j J R G m R2 G2 m2 h ih =>
    intro g ha o hG hR
    have h0 : arT t := ha _ List.mem_cons_self
    refine ih g (fun x hx => ?_) (ty_done h0.here o) hG hR
    rcases List.mem_append.mp hx with z | z
    · exact arD h0 x z
    · exact ha x (List.mem_cons_of_mem _ z)
  | @put t x w J R G m m1 R2 G2 m2 h1 h2 h ih =>
    intro g ha o hG hR
    have h0 : arT t := ha _ List.mem_cons_self
    refine ih g (fun x hx => ?_) (ty_put h0.here o) hG hR
    rcases List.mem_append.mp hx with z | z
    · exact arP h0 x z
    · exact ha x (List.mem_cons_of_mem _ z)
  | @simple t w J R G m m1 R2 G2 m2 h1 h2 h ih =>
    intro g ha o hG hR
    have h0 : arT t := ha _ List.mem_cons_self
    refine ih g (fun x hx => ?_) (ty_simp h0.here o) hG hR
    rcases List.mem_append.mp hx with z | z
    · exact arS h0 x z
    · exact ha x (List.mem_cons_of_mem _ z)
/-! ### how much it comes to -/
def nG : Gt → Nat
  | .t s => cnt s
  | .p q => ncnt q
def nL : Ld → Nat
  | .lett _ s => 1 + cnt s
  | .tell _ s => 1 + cnt s
  | .post _ _ u => 1 + ncnt u
def nRG (R : List (List Ld)) (G : List Gt) : Nat := sm (sm nL) R + sm nG G
theorem n_put : ∀ (r : List Ld) (q : Pt), ncnt (putAh r q) = sm nL r + ncnt q
  | [], q => (Nat.zero_add _).symm
  | .lett x s :: r, q => by
    show 1 + cnt s + ncnt (putAh r q) = _
    rw [n_put r q, sm_cons]
    show _ = (1 + cnt s) + _ + _
    omega
  | .tell x s :: r, q => by
    show 1 + cnt s + ncnt (putAh r q) = _
    rw [n_put r q, sm_cons]
    show _ = (1 + cnt s) + _ + _
    omega
  | .post j x u :: r, q => by
    show 1 + ncnt (putAh r q) + ncnt u = _
    rw [n_put r q, sm_cons]
    show _ = (1 + ncnt u) + _ + _
    omega
theorem sm_ts (ts : List Tm) : sm nG (ts.map Gt.t) = cnts ts := by
  rw [sm_map]
  rfl
theorem sm_rev {α : Type} (c : α → Nat) (l : List α) : sm c l.reverse = sm c l := by
  induction l with
  | nil => rfl
  | cons a r ih =>
    rw [List.reverse_cons, sm_app, ih, sm_cons, sm_cons, sm_nil]
    omega
theorem fin_n {j : Jb} {J : List Jb} {R R1 : List (List Ld)} {G G1 : List Gt} {g : List (Option Str)} (f : Fin j R G R1 G1) (o : tyJ (j :: J) g) : nRG R1 G1 ≤ nRG R G + 1 := by
  unfold nRG
  cases f with
  | row =>
    rw [sm_cons, sm_nil]
    omega
  | @close r R1 q G1 =>
    rw [sm_cons, sm_cons, sm_cons]
    show _ + (ncnt (putAh r q) + _) ≤ _ + (ncnt q + _) + 1
    rw [n_put]
    omega
  | @lett x r R s G =>
    rw [sm_cons, sm_cons, sm_cons, sm_app, sm_cons, sm_nil]
    show (_ + ((1 + cnt s) + 0) + _) + _ ≤ (_ + _) + (cnt s + _) + 1
    omega
  | @tell x r R s G =>
    rw [sm_cons, sm_cons, sm_cons, sm_app, sm_cons, sm_nil]
    show (_ + ((1 + cnt s) + 0) + _) + _ ≤ (_ + _) + (cnt s + _) + 1
    omega
  | @post j x r R q G =>
    rw [sm_cons, sm_cons, sm_cons, sm_app, sm_cons, sm_nil]
    show (_ + ((1 + ncnt q) + 0) + _) + _ ≤ (_ + _) + (ncnt q + _) + 1
    omega
  | known =>
    obtain ⟨⟨_, h1⟩, _⟩ := o
    rw [sm_cons]
    show _ + (cnt _ + _) ≤ _
    omega
  | @ask f j ts R G =>
    rw [sm_app, sm_rev, sm_ts, sm_cons]
    show _ + ((1 + cnts ts) + _) ≤ _
    omega
  | @give j s R G =>
    rw [sm_cons, sm_cons]
    show _ + ((1 + cnt s) + _) ≤ _ + (cnt s + _) + 1
    omega
  | @iff a b c R G =>
    rw [sm_cons, sm_cons, sm_cons, sm_cons]
    show _ + ((1 + cnt a + ncnt b + ncnt c) + _) ≤ _ + (ncnt c + (ncnt b + (cnt a + _))) + 1
    omega
  | @op l a b R G =>
    rw [sm_cons, sm_cons, sm_cons]
    have e : cnt (mkOp l a b) = 1 + (cnt a + (cnt b + 0)) := by
      unfold mkOp
      rw [cnt_mkL, cnts_cons, cnts_cons]
      rfl
    show _ + (cnt (mkOp l a b) + _) ≤ _ + (cnt b + (cnt a + _)) + 1
    rw [e]
    omega
theorem run_n {tk : List Str} {J : List Jb} {R G m R2 G2 m2} (h : Run tk J R G m R2 G2 m2) : ∀ g, (∀ j ∈ J, arJ j) → tyJ J g → gtsT G g → rowsT R → nRG R2 G2 ≤ wJs J + nRG R G := by
  induction h with
  | nil => intro g _ _ _ _; exact Nat.le_add_left _ _
  | @fin j J R G m R1 G1 R2 G2 m2 f h ih =>
    intro g ha o hG hR
    obtain ⟨g1, o1, hG1, hR1⟩ := fin_ty f o hG hR
    have h1 := ih g1 (fun x hx => ha x (List.mem_cons_of_mem _ hx)) o1 hG1 hR1
    have h2 := fin_n f o
    have h3 := wJ_pos j
    rw [wJs_cons]
    omega
  | @done t j J R G m R2 G2 m2 h ih =>
    intro g ha o hG hR
    have h0 : arT t := ha _ List.mem_cons_self
    have h1 := ih g (fun x hx => by
      rcases List.mem_append.mp hx with z | z
      · exact arD h0 x z
      · exact ha x (List.mem_cons_of_mem _ z)) (ty_done h0.here o) hG hR
    have h2 := w_done t j h0.here
    rw [wJs_app] at h1
    rw [wJs_cons]
    show _ ≤ wD t + _ + _
    omega
  | @put t x w J R G m m1 R2 G2 m2 q1 q2 h ih =>
    intro g ha o hG hR
    have h0 : arT t := ha _ List.mem_cons_self
    have h1 := ih g (fun x hx => by
      rcases List.mem_append.mp hx with z | z
      · exact arP h0 x z
      · exact ha x (List.mem_cons_of_mem _ z)) (ty_put h0.here o) hG hR
    have h2 := w_put t x w h0.here
    rw [wJs_app] at h1
    rw [wJs_cons]
    show _ ≤ wP t + _ + _
    omega
  | @simple t w J R G m m1 R2 G2 m2 q1 q2 h ih =>
    intro g ha o hG hR
    have h0 : arT t := ha _ List.mem_cons_self
    have h1 := ih g (fun x hx => by
      rcases List.mem_append.mp hx with z | z
      · exact arS h0 x z
      · exact ha x (List.mem_cons_of_mem _ z)) (ty_simp h0.here o) hG hR
    have h2 := w_simple t w h0.here
    rw [wJs_app] at h1
    rw [wJs_cons]
    show _ ≤ wS t + _ + _
    omega
/-- a book's body, turned: straight, its terms simple, not too great -/
theorem turned_straight {xs : List Str} {t : Tm} {p : Pt} (h : RunB xs t p) (ha : arT t) : bentL p "home" = [] ∧ wfP p ∧ pcnt p ≤ 4 * cnt t + 1 ∧ ncnt p ≤ 20 * cnt t + 6 := by
  have hs := run_small h ha
  obtain ⟨m', h⟩ := h
  have hj : ∀ j ∈ ([.row, .done t "home"] : List Jb), arJ j := fun j hj => by
    simp only [List.mem_cons, List.not_mem_nil, or_false] at hj
    rcases hj with rfl | rfl
    · trivial
    · exact ha
  have h1 := run_ty h [] hj (show ([some ("home" : Str)] : List (Option Str)) = [some ("home" : Str)] from rfl) trivial (fun _ z => nomatch z)
  have h2 := run_n h [] hj (show ([some ("home" : Str)] : List (Option Str)) = [some ("home" : Str)] from rfl) trivial (fun _ z => nomatch z)
  obtain ⟨h3, _⟩ : gtT (.p p) (some "home") ∧ gtsT [] [] := h1
  refine ⟨h3.1, h3.2, hs, ?_⟩
  have e1 : nRG [] [.p p] = 0 + (ncnt p + 0) := rfl
  have e2 : nRG [] [] = 0 := rfl
  have e3 : wJs [.row, .done t "home"] = 1 + ((20 * cnt t + 5) + 0) := rfl
  omega
end KB

namespace KB
open PySem PySem.Spec PyProof.Rows L2

/-! ### a def's promise where no repr is under way -/
structure FnG (P : Program) (w : World) (K : PySem.W.Frag) (mg : Str → Option Value) (base : Heap) (CX : CXT) (k : Nat) (f : Addr) (fd : FuncData) (ps : List Str) (sp : Sp) : Prop where
  ln : ∀ vs H Q E, sp vs H Q E → vs.length = ps.length
  go : ∀ (A : Around) (o : List Env) (s : Shared) (H : Hp) (as : Args) (us : List Value) (vs : List V) (Q : VK) (E : XK), A.guards = some [] → Room k A → Env0 P w K mg base A o s H → BindsTo s fd as (ps.zip us) →
    Vals vs us → sp vs H Q E → codeAny (model P w) A (.call (.ref f) as) (CR CX o P w H s Q E) s
section
variable {P : Program} {w : World} {K : PySem.W.Frag} {mg : Str → Option Value} {base : Heap}
theorem okG {x qual : Str} {st : Stmt} {f : Addr} {fd : FuncData} {N ps : List Str} {k : Nat} {sp : Sp} (F : Fun K x qual st f fd) (S : FnScope N ps (defScope st)) (hln : ∀ vs H Q E, sp vs H Q E → vs.length = ps.length)
    (hb : ∀ (cv : Value) (A : Around) (o : List Env) (s : Shared) (H : Hp) (vs : List V) (Q : VK) (E : XK), A.guards = some [] → Room k (A.deeper (envOfC qual (defScope st) s.heap.objs.size f cv)) → sp vs H Q E →
      ∃ t, PSs (cxOf CX0 P w K mg base N qual (defScope st) f cv A o s H E).nox (defBody st) t ∧ t { nx := fun _ H' => Q .non H', rt := Q } (start N vs) H) :
    FnG P w K mg base CX0 (k + 1) f fd ps sp := by
  obtain ⟨_, _, _, _, _, _, cv, _, _, rfl, look, code⟩ := F.ex
  constructor
  · exact hln
  intro A o s H as us vs Q E g room e0 bnd rel want
  have grow := fun b u e => (e0.bs b u e).1
  have inK : K.In s.heap := e0.mod.kin.keeps grow
  have nolim : s.heap.NoLimit := e0.mod.nolimit.keeps grow
  apply codeAny_call_function room.depth (inK _ _ look) rfl S.co S.gen rfl (PySem.W.codeRec_of inK code)
  apply bnd
  apply wpAny_newFunctionEnv_cells S.kind
  · rintro ⟨n, v⟩ hy
    cases S.par n (List.of_mem_zip hy).1 with
    | inl q => exact Or.inl q
    | inr q => exact Or.inr ⟨q, PySem.W.cellsFrom_some _ _ _ (Or.inl q)⟩
  intro env he s1 x
  subst he
  constructor
  · exact nolim.keeps x.toInCall.keep
  apply codeAny_func
  obtain ⟨t, ht, hq⟩ := hb cv A o s H vs Q E g (room.deeper _) want
  apply wpAny_mono (ht.nox.run [] s1 (start N vs) H _ (inv_start S room.hd e0 (hln _ _ _ _ want) rel x) hq)
  · intro fl s' z
    cases fl with
    | ret u =>
      obtain ⟨v, σ', H', J, rv, q⟩ := z
      exact ⟨v, H', J.os, J.bare, J.base, J.hok, rv, q⟩
    | next =>
      obtain ⟨σ', H', J, q⟩ := z
      exact ⟨.non, H', J.os, J.bare, J.base, J.hok, rfl, q⟩
    | brk => exact z.choose_spec.choose_spec.2.elim
    | cont => exact z.choose_spec.choose_spec.2.elim
  · intro e s' z
    exact z
end

section
variable {X : Cx}
/-- a global function's call, where no repr is under way -/
theorem callG {CX : CXT} {k : Nat} {f : Addr} {fd : FuncData} {ps : List Str} {sp : Sp} {E : XK} (F : FnG X.prog X.w X.K X.mg X.base CX k f fd ps sp) (g : X.A.guards = some []) (hr : Room k X.A) (hb : Binds X.K fd ps []) (hx : Passes CX X E) :
    CallR X (.ref f) fun vs H Q => sp vs H Q E := by
  intro pins s σ H vs us Q I r h
  have hl : (us ++ []).length = ps.length := by
    rw [List.append_nil, ← r.length]
    exact F.ln _ _ _ _ h
  have bd := hb s us I.kIn hl
  rw [List.append_nil] at bd
  apply wpAny_call
  apply codeAny_mono (F.go X.A X.stack s H ⟨us, []⟩ us vs Q E g hr I.env0 bd r h)
  intro res s' q
  match res, q with
  | .ok (.ret u), q => exact I.after q
  | .ok .next, q => exact False.elim q
  | .ok .brk, q => exact False.elim q
  | .ok .cont, q => exact False.elim q
  | .error e, q => exact hx pins σ H s e s' I q
/-- a call of a global that holds a function, by what the function's call does -/
theorem pe_callR {f : Addr} {x : Str} {p pos : Pos} {e : Expr} {es : List Expr} {t : TA} {r : List V → Hp → VK → Prop} (hc : CallR X (.ref f) r) (hg : Gl X x) (hm : X.mg x = some (.ref f)) (hk : PySem.W.keepIn X.K (.ref f) = true) (ha : PA X (e :: es) t)
    (hdb : (x == ("__debug__" : Str)) = false := by decide) (he : starEach (e :: es) X.env = (false, eval e X.env) :: starEach es X.env := by rfl) (hpl : (backTo pos (starEach es X.env)).any (·.1) = false := by rfl) :
    PE X (.Call (.Name x p) (e :: es) [] pos) (fun σ H Q => t σ H fun vs H1 => r vs H1 Q) := by
  constructor
  intro pins s σ H Q I h
  apply wpAny_Call_Name_kw (ld_glob I hg hm ?_ hdb)
  apply PySem.W.callWith_K (h₀ := X.base) I.ok.mod.kin hk ?_ he hpl
  apply thn (ha.run pos pins s σ H _ I h)
  rintro us s1 ⟨vs, H1, I1, rv, q⟩
  exact ⟨I1.kIn, hc pins s1 σ H1 vs us Q I1 rv q⟩
/-- repr of data -/
theorem call_reprD (g : X.A.guards = some []) (hu : X.A.units + 64 < cLine) : CallR X (.builtin "repr") fun xs H Q => ∃ (a : Addr) (d : PyData), xs = [.ref a] ∧ Dp X.K H (.ref a) d ∧ d.showable = true ∧ d.hasDict = false ∧ d.depth ≤ 40 ∧ d.shown.length ≤ sizeLine ∧ Q (.str d.shown) H := by
  intro pins s σ H xs us Q I r h
  obtain ⟨a, d, rfl, hd, sh, nd, dp, ln, q⟩ := h
  obtain ⟨u, rfl, t⟩ := vals1 r
  have t : u = .ref a := t
  subst t
  obtain ⟨as, rd⟩ := Dp.reads I d _ _ hd rfl
  refine repr_of_reads' rd sh (fun z => ?_) g (by omega) (fun _ _ z => z) (fun h' u tk kp => ⟨.str _, H, I.kept kp, ⟨_, rfl⟩, q⟩) ln
  rw [nd] at z
  cases z
end

/-! ### the law's call -/
section
variable {P : Program} {w : World} {K : PySem.W.Frag} {mg mb : Str → Option Value} {k : Nat} {fa a : Addr} {fd : FuncData} {x : Str} {sp : Sp} {s : Shared} {vs : List Value} {ns : List Int}
/-- how the law's call ends -/
def Told (s : Shared) (r : Result) (s' : Shared) : Prop := r = .ok (.ret (.bool true)) ∧ OldK s.heap s'.heap ∧ s'.os = s.os ∧ AllBare s'.gens
theorem law_at (KX : K.In s.heap) (n1 : s.heap.Ns mainGlobals mg) (n2 : s.heap.Ns builtinsNs mb) (n3 : ∀ x : Str, x ≠ "__name__" → mb x = bootBuiltins x) (n4 : s.heap.NoLimit) (hg : s.gens = #[])
    (ha : s.heap.get? a = some { cls := .type "list", data := .seq vs.toArray }) (room : Room k callerA) (F : ∀ base : Heap, K.In base → base.Ns mainGlobals mg → FnG P w K mg base CX0 k fa fd [x] sp)
    (bnd : ∀ (s : Shared) (u : Value), BindsTo s fd ⟨[u], []⟩ [(x, u)]) {H : Hp} (want : sp [.ref a] H (fun v _ => v = .bl true) fun _ _ _ => False) (only : ∀ b, H b = none ∨ (b = a ∧ ∃ o xs, H b = some (.frz o (.lst xs)))) (hok : HOk P w H s.heap) (hK : H a ≠ none → K.lookup a = none) :
    codeAny (model P w) callerA (.call (.ref fa) ⟨[.ref a], []⟩) (Told s) s := by
  have isA : ∀ b, H b ≠ none → b = a := fun b z => (only b).elim (fun y => absurd y z) fun y => y.1
  have noD : ∀ (b : Addr) (o : Obj) (es : Array DictEntry) (ep : Nat), s.heap.get? b = some o → o.data = .dict es ep → H b = none := by
    intro b o es ep e d
    apply Classical.byContradiction
    intro z
    rw [isA b z, ha] at e
    cases e
    cases (show Data.seq vs.toArray _ = Data.dict es ep from d)
  have nsH : ∀ (b : Addr) (m : Str → Option Value), s.heap.Ns b m → (hidT s.heap H).Ns b m := by
    rintro b m ⟨o, es, ep, e, d, r⟩
    exact ⟨o, es, ep, hidT_get e (noD b o es ep e d), d, r⟩
  have inH : K.In (hidT s.heap H) := by
    intro b o e
    apply hidT_get (KX b o e)
    apply Classical.byContradiction
    intro z
    have hb := isA b z
    rw [hb] at e z
    rw [hK z] at e
    cases e
  obtain ⟨mc, c1, c2⟩ := n4
  have e0 : Env0 P w K mg (hidT s.heap H) callerA [] s H := by
    constructor
    · rfl
    · exact ⟨inH, nsH _ _ n1, ⟨mb, nsH _ _ n2, n3⟩, ⟨mc, nsH _ _ c1, c2⟩⟩
    · exact fun b o e => of_hidT e
    · exact Nat.le_of_eq (hidT_size _ _)
    · trivial
    · intro b z
      cases (show b ∈ ([] : List Addr) from z)
    · exact hok
    · exact .of_eq hg
  apply codeAny_mono ((F _ inH (nsH _ _ n1)).go callerA [] s H ⟨[.ref a], []⟩ [.ref a] [.ref a] _ _ rfl room e0 (bnd s (.ref a)) (.cons rfl .nil) want)
  intro r s' q
  match r, q with
  | .error e, q => exact q.elim
  | .ok .next, q => exact False.elim q
  | .ok .brk, q => exact False.elim q
  | .ok .cont, q => exact False.elim q
  | .ok (.ret u), ⟨v, H', os, bare, un, hok', rv, tv⟩ =>
    have tv : v = .bl true := tv
    subst tv
    have rv : u = Value.bool true := rv
    subst rv
    refine ⟨rfl, OldK.of_keep ?_, os, bare⟩
    intro b o e
    rcases only b with z | ⟨_, ob, xs, z⟩
    · apply un.keep b o e z _ (by simp)
      intro y
      cases (show b ∈ ([] : List Addr) from y)
    · have f1 := (hok b _ z).1
      have f2 := (hok' b _ (un.frzs b ob _ z)).1
      rw [e] at f1
      cases f1
      exact f2
theorem law_callG (KX : K.In s.heap) (n1 : s.heap.Ns mainGlobals mg) (n2 : s.heap.Ns builtinsNs mb) (n3 : ∀ x : Str, x ≠ "__name__" → mb x = bootBuiltins x) (n4 : s.heap.NoLimit) (hg : s.gens = #[])
    (ha : s.heap.get? a = some { cls := .type "list", data := .seq vs.toArray }) (hi : IntsAre vs ns) (hl : ns.length ≤ sizeLine) (room : Room k callerA) (F : ∀ base : Heap, K.In base → base.Ns mainGlobals mg → FnG P w K mg base CX0 k fa fd [x] sp)
    (bnd : ∀ (s : Shared) (u : Value), BindsTo s fd ⟨[u], []⟩ [(x, u)]) (want : ∀ H : Hp, SqL K H a (ns.map V.int) → sp [.ref a] H (fun v _ => v = .bl true) fun _ _ _ => False) :
    codeAny (model P w) callerA (.call (.ref fa) ⟨[.ref a], []⟩) (Told s) s := by
  have rel := vals_ints hi
  cases look : K.lookup a with
  | some o =>
    have e := KX a o look
    rw [ha] at e
    cases e
    refine law_at (H := fun _ => none) KX n1 n2 n3 n4 hg ha room F bnd (want _ ?_) (fun _ => .inl rfl) (fun b u z => ?_) (fun z => absurd rfl z)
    · refine .inr ⟨_, vs.toArray, _, look, rfl, rfl, rfl, ?_, by simpa using rel⟩
      rw [List.size_toArray, hi.length]
      exact hl
    · cases (show (none : Option HO) = some u from z)
  | none =>
    have at1 : ∀ b, (if b = a then some (HO.frz { cls := .type "list", data := .seq vs.toArray } (.lst (ns.map V.int))) else none) = none ∨ b = a := fun b => by
      by_cases c : b = a
      · exact .inr c
      · exact .inl (if_neg c)
    refine law_at (H := fun b => if b = a then some (.frz { cls := .type "list", data := .seq vs.toArray } (.lst (ns.map V.int))) else none) KX n1 n2 n3 n4 hg ha room F bnd (want _ (.inl (.inr ⟨_, if_pos rfl⟩))) (fun b => ?_) (fun b u z => ?_) (fun _ => look)
    · rcases at1 b with c | c
      · exact .inl c
      · exact .inr ⟨c, _, _, if_pos c⟩
    · rcases at1 b with c | c
      · cases (c.symm.trans z)
      · subst c
        have z := (if_pos rfl).symm.trans z
        cases z
        refine ⟨ha, ?_, vs, _, rel, ha⟩
        rw [List.length_map]
        exact hl
end
theorem walk_G {l : PySem.W.OpenLaw} {n k : Nat} {q : Program} {loose : List Str} {XP : (Str → Option Value) → Heap → Prop} {YP : World → Heap → Prop} {d : DefRec} {K : Params → PySem.W.Frag} {sp : World → Sp} {x : Str}
    (hn : l.most = some n) (hs : n ≤ sizeLine) (hdf : d.params.defaults = []) (room : Room k callerA) (hY : ∀ (w : World) (h : Heap), YP w h → (K w.params).In h)
    (F : ∀ (w : World) (mg : Str → Option Value) (fa : Addr) (h : Heap), (K w.params).In h → h.Ns mainGlobals mg → mg d.name = some (.ref fa) →
      ∃ fd : FuncData, (∀ (s : Shared) (u : Value), BindsTo s fd ⟨[u], []⟩ [(x, u)]) ∧ ∀ base : Heap, (K w.params).In base → base.Ns mainGlobals mg → FnG l.prog w (K w.params) mg base CX0 k fa fd [x] (sp w))
    (want : ∀ (w : World) (H : Hp) (a : Addr) (ns : List Int), ns.length ≤ n → SqL (K w.params) H a (ns.map V.int) → sp w [.ref a] H (fun v _ => v = .bl true) fun _ _ _ => False) :
    PySem.W.WalkO q loose XP YP l.row.toRowW d [] (fun f vs => PySem.call f vs) := by
  apply Att.attach_call hn hdf
  intro w s0 s1 mg mb fa o pm cd doc a vs ns G Y ho hd hcd hmg hobj hints hlen hg
  have inK := hY w _ Y
  obtain ⟨fd, hb, hF⟩ := F w mg fa _ inK G.T.g hmg
  exact law_callG inK G.T.g G.T.b G.T.builtins G.T.nolimit hg hobj hints (Nat.le_trans hlen hs) room hF hb fun H z => want w H a ns hlen z
end KB

namespace KB
open PySem L2 HT

/-! ### what is told can be written out -/
theorem wt_int {z : Int} {k : Nat} (h : z.natAbs < 2 ^ k) : (PyData.int z).weight ≤ k := by
  show (if (z == 0) = true then 0 else z.natAbs.log2 + 1) ≤ k
  split
  · exact Nat.zero_le _
  · rename_i hz
    have hz : z.natAbs ≠ 0 := fun y => hz (by
      have : z = 0 := Int.natAbs_eq_zero.mp y
      rw [this]
      rfl)
    exact (Nat.log2_lt hz).mpr h
theorem wtAll_le {m : Nat} : ∀ {ds : List PyData}, (∀ d ∈ ds, d.weight ≤ m) → PySem.PyData.weightAll ds ≤ ds.length * (m + 1)
  | [], _ => Nat.zero_le _
  | d :: r, h => by
    show d.weight + 1 + PySem.PyData.weightAll r ≤ (r.length + 1) * (m + 1)
    have h1 := h d List.mem_cons_self
    have h2 := wtAll_le fun x hx => h x (List.mem_cons_of_mem _ hx)
    rw [Nat.succ_mul]
    omega
theorem sh_int {z : Int} (h : z.natAbs < 2 ^ 20) : (PyData.int z).showable = true := by
  show decide (z.natAbs.log2 < 1920) = true
  apply decide_eq_true
  by_cases hz : z.natAbs = 0
  · rw [hz]
    decide
  · exact Nat.lt_of_lt_of_le ((Nat.log2_lt hz).mpr h) (by decide)
theorem shAll : ∀ {ds : List PyData}, (∀ d ∈ ds, d.showable = true) → PySem.PyData.showableAll ds = true
  | [], _ => rfl
  | d :: r, h => by
    show (d.showable && PySem.PyData.showableAll r) = true
    rw [h d List.mem_cons_self, shAll fun x hx => h x (List.mem_cons_of_mem _ hx)]
    rfl
theorem isAll : ∀ {ds : List PyData}, (∀ d ∈ ds, d.intsShort 13 = true) → PySem.PyData.intsShortAll 13 ds = true
  | [], _ => rfl
  | d :: r, h => by
    show (d.intsShort 13 && PySem.PyData.intsShortAll 13 r) = true
    rw [h d List.mem_cons_self, isAll fun x hx => h x (List.mem_cons_of_mem _ hx)]
    rfl
theorem is_int {z : Int} (h : z.natAbs < 2 ^ 20) : (PyData.int z).intsShort 13 = true := by
  have e : (2 : Nat) ^ 20 = 1048576 := by decide
  show decide ((PyData.shown (.int z)).length ≤ 13) = true
  exact decide_eq_true (PyData.shown_int_le2 (by omega) (by omega))
/-- what is asked of a thing that is told -/
structure Sho (d : PyData) (n : Nat) : Prop where
  w : d.weight ≤ n
  s : d.showable = true
  i : d.intsShort 13 = true
theorem sho_int {z : Int} {k : Nat} (h : z.natAbs < 2 ^ k) (hk : k ≤ 20) : Sho (.int z) k := by
  have h2 : z.natAbs < 2 ^ 20 := Nat.lt_of_lt_of_le h (Nat.pow_le_pow_right (by decide) hk)
  exact ⟨wt_int h, sh_int h2, is_int h2⟩
theorem sho_str {x : Str} {n : Nat} (h : x.cps.size ≤ n) : Sho (.str x) n := ⟨h, rfl, rfl⟩
theorem sho_tup {ds : List PyData} {m n : Nat} (h : ∀ d ∈ ds, Sho d m) (hn : ds.length * (m + 1) ≤ n) : Sho (.tuple ds) n :=
  ⟨Nat.le_trans (wtAll_le fun d hd => (h d hd).w) hn, shAll fun d hd => (h d hd).s, isAll fun d hd => (h d hd).i⟩
theorem sho_lst {ds : List PyData} {m n : Nat} (h : ∀ d ∈ ds, Sho d m) (hn : ds.length * (m + 1) ≤ n) : Sho (.list ds) n :=
  ⟨Nat.le_trans (wtAll_le fun d hd => (h d hd).w) hn, shAll fun d hd => (h d hd).s, isAll fun d hd => (h d hd).i⟩
theorem Sho.le {d : PyData} {n m : Nat} (h : Sho d n) (e : n ≤ m) : Sho d m := ⟨Nat.le_trans h.w e, h.s, h.i⟩
/-- a tuple told piece by piece -/
theorem sho_cons {d : PyData} {ds : List PyData} {a b : Nat} (h : Sho d a) (r : Sho (.tuple ds) b) : Sho (.tuple (d :: ds)) (a + 1 + b) := by
  have h1 := h.w
  have h2 : PySem.PyData.weightAll ds ≤ b := r.w
  refine ⟨?_, ?_, ?_⟩
  · show d.weight + 1 + PySem.PyData.weightAll ds ≤ _
    omega
  · show (d.showable && PySem.PyData.showableAll ds) = true
    rw [h.s, show PySem.PyData.showableAll ds = true from r.s]
    rfl
  · show (d.intsShort 13 && PySem.PyData.intsShortAll 13 ds) = true
    rw [h.i, show PySem.PyData.intsShortAll 13 ds = true from r.i]
    rfl
theorem sho_nil : Sho (.tuple []) 0 := ⟨Nat.le_refl 0, rfl, rfl⟩
theorem isW_size {x : Str} (h : isW x = true) : x.cps.size ≤ 8 := by
  unfold isW at h
  simp only [Bool.and_eq_true, decide_eq_true_eq] at h
  exact h.1.2.2
theorem bent_small : ∀ (p : Pt) (due : Str), ∀ ks ∈ bentL p due, (∀ k ∈ ks, 0 ≤ k ∧ k ≤ 2) ∧ ks.length < pcnt p := by
  have one : ∀ {k : Int} {l : List (List Int)} {n m : Nat}, 0 ≤ k → k ≤ 2 → n < m → (∀ ks ∈ l, (∀ k ∈ ks, 0 ≤ k ∧ k ≤ 2) ∧ ks.length < n) → ∀ ks ∈ l.map (fun e => k :: e), (∀ k ∈ ks, 0 ≤ k ∧ k ≤ 2) ∧ ks.length < m := by
    intro k l n m h0 h2 hnm h ks hks
    obtain ⟨e, he, rfl⟩ := List.mem_map.mp hks
    obtain ⟨q1, q2⟩ := h e he
    refine ⟨fun z hz => ?_, by rw [List.length_cons]; omega⟩
    rcases List.mem_cons.mp hz with y | y
    · rw [y]; exact ⟨h0, h2⟩
    · exact q1 z y
  have ends : ∀ (c : Prop) [Decidable c], ∀ ks ∈ (if c then [] else [[]] : List (List Int)), (∀ k ∈ ks, 0 ≤ k ∧ k ≤ 2) ∧ ks.length < 1 := by
    intro c _ ks hks
    split at hks
    · cases hks
    · rw [List.mem_singleton.mp hks]
      exact ⟨fun _ z => (nomatch z), Nat.zero_lt_one⟩
  intro p
  induction p with
  | give j t => intro due ks hks; exact ends _ ks hks
  | ask f ts j => intro due ks hks; exact ends _ ks hks
  | tell x t p ih =>
    intro due ks hks
    have hks : ks ∈ (bentL p due).map (fun e => (1 : Int) :: e) ++ [] := hks
    rw [List.append_nil] at hks
    exact one (n := pcnt p) (by decide) (by decide) (by show pcnt p < 1 + pcnt p; omega) (ih due) ks hks
  | lett x t p ih =>
    intro due ks hks
    have hks : ks ∈ (bentL p due).map (fun e => (1 : Int) :: e) ++ [] := hks
    rw [List.append_nil] at hks
    exact one (n := pcnt p) (by decide) (by decide) (by show pcnt p < 1 + pcnt p; omega) (ih due) ks hks
  | iff t p q ih1 ih2 =>
    intro due ks hks
    have hks : ks ∈ (bentL p due).map (fun e => (1 : Int) :: e) ++ ((bentL q due).map (fun e => (2 : Int) :: e) ++ []) := hks
    rw [List.append_nil] at hks
    rcases List.mem_append.mp hks with z | z
    · exact one (n := pcnt p) (by decide) (by decide) (by show pcnt p < 1 + pcnt p + pcnt q; omega) (ih1 due) ks z
    · exact one (n := pcnt q) (by decide) (by decide) (by show pcnt q < 1 + pcnt p + pcnt q; omega) (ih2 due) ks z
  | post j x p q ih1 ih2 =>
    intro due ks hks
    have hks : ks ∈ (bentL p due).map (fun e => (0 : Int) :: e) ++ ((bentL q j).map (fun e => (1 : Int) :: e) ++ []) := hks
    rw [List.append_nil] at hks
    rcases List.mem_append.mp hks with z | z
    · exact one (n := pcnt p) (by decide) (by decide) (by show pcnt p < 1 + pcnt p + pcnt q; omega) (ih1 due) ks z
    · exact one (n := pcnt q) (by decide) (by decide) (by show pcnt q < 1 + pcnt p + pcnt q; omega) (ih2 j) ks z
structure OkE (e : TEr) : Prop where
  w : isW e.1 = true
  pc : pcnt e.2.2 ≤ 161
  nc : ncnt e.2.2 ≤ 1000
  wf : wfP e.2.2
/-! ### what is drawn and what is turned is fit -/
theorem okP_wf {hd : Str → Option Nat} : ∀ {p : Pt} {xs hs : List Str}, okP hd p xs hs → wfP p ∧ ncnt p ≤ 13 * pcnt p
  | .give j t, _, _, h => ⟨h.2.si, by have := h.2.cn; show 1 + cnt t ≤ 13 * 1; omega⟩
  | .ask f ts j, _, _, h => ⟨⟨h.2.2.2.1, fun t ht => (h.2.2.2.2 t ht).si⟩, by
      have h4 := h.2.2.2.1
      have hall := h.2.2.2.2
      have : cnts ts ≤ 3 * ts.length := by
        clear h h4
        induction ts with
        | nil => exact Nat.le_refl _
        | cons t r ih =>
          have h1 := (hall t List.mem_cons_self).cn
          have h2 := ih fun u hu => hall u (List.mem_cons_of_mem _ hu)
          rw [cnts_cons, List.length_cons]
          omega
      show 1 + cnts ts ≤ 13 * 1
      omega⟩
  | .tell x t p, _, _, h => ⟨⟨h.2.1.si, (okP_wf h.2.2).1⟩, by
      have := h.2.1.cn
      have := (okP_wf h.2.2).2
      show 1 + cnt t + ncnt p ≤ 13 * (1 + pcnt p)
      omega⟩
  | .lett x t p, _, _, h => ⟨⟨h.2.1.si, (okP_wf h.2.2).1⟩, by
      have := h.2.1.cn
      have := (okP_wf h.2.2).2
      show 1 + cnt t + ncnt p ≤ 13 * (1 + pcnt p)
      omega⟩
  | .iff t p q, _, _, h => ⟨⟨h.1.si, (okP_wf h.2.1).1, (okP_wf h.2.2).1⟩, by
      have := h.1.cn
      have := (okP_wf h.2.1).2
      have := (okP_wf h.2.2).2
      show 1 + cnt t + ncnt p + ncnt q ≤ 13 * (1 + pcnt p + pcnt q)
      omega⟩
  | .post j x p q, _, _, h => ⟨⟨(okP_wf h.2.2.1).1, (okP_wf h.2.2.2).1⟩, by
      have := (okP_wf h.2.2.1).2
      have := (okP_wf h.2.2.2).2
      show 1 + ncnt p + ncnt q ≤ 13 * (1 + pcnt p + pcnt q)
      omega⟩
theorem drawn_ok {es : List TEr} (h : GdTB es) : ∀ e ∈ es, OkE e := by
  obtain ⟨hF, hE, _⟩ := h.er
  intro e he
  have g := hE e he
  obtain ⟨h1, h2⟩ := okP_wf g.ok
  have h3 := g.cn
  exact ⟨g.w, by omega, by omega, h1⟩
theorem turned_ok {H : Hp} : ∀ {es : List Er} {vs us : List V}, All2 (TurV H) es vs → All2 (ErV H) es us → (∀ e ∈ es, cnt e.2.2 ≤ 40 ∧ isW e.1 = true) → ∃ ts : List TEr, All2 (TErV H) ts vs ∧ ts.length = es.length ∧ ∀ t ∈ ts, OkE t ∧ bentL t.2.2 "home" = []
  | [], [], [], _, _, _ => ⟨[], trivial, rfl, fun _ z => nomatch z⟩
  | e :: es, v :: vs, u :: us, h1, h2, h3 => by
    obtain ⟨⟨q, r, b, p, e1, g1, g2, g3, g4⟩, h1'⟩ := h1
    obtain ⟨⟨q2, r2, b2, _, _, _, gA⟩, h2'⟩ := h2
    obtain ⟨ts, k1, k2, k3⟩ := turned_ok h1' h2' fun x hx => h3 x (List.mem_cons_of_mem _ hx)
    obtain ⟨c1, c2⟩ := h3 e List.mem_cons_self
    obtain ⟨s1, s2, s3, s4⟩ := turned_straight g3 gA.arT
    refine ⟨(e.1, e.2.1, p) :: ts, ⟨⟨q, r, b, e1, g1, g2, g4⟩, k1⟩, by rw [List.length_cons, k2, List.length_cons], fun t ht => ?_⟩
    rcases List.mem_cons.mp ht with z | z
    · rw [z]
      exact ⟨⟨c2, by show pcnt p ≤ 161; omega, by show ncnt p ≤ 1000; omega, s2⟩, s1⟩
    · exact k3 t z
  | [], _ :: _, _, h, _, _ => h.elim
  | _ :: _, [], _, h, _, _ => h.elim
  | [], [], _ :: _, _, h, _ => h.elim
  | _ :: _, _ :: _, [], _, h, _ => h.elim
theorem bentB_str {es : List TEr} (h : ∀ e ∈ es, bentL e.2.2 "home" = []) : bentB es = none := by
  induction es with
  | nil => rfl
  | cons e r ih =>
    rw [bentB_none (by rw [h e List.mem_cons_self]; rfl)]
    exact ih fun x hx => h x (List.mem_cons_of_mem _ hx)
/-- a turned book that may be looked at -/
structure BkO (es : List TEr) : Prop where
  l1 : 1 ≤ es.length
  l6 : es.length ≤ 6
  ok : ∀ e ∈ es, OkE e
def BkV (H : Hp) (es : List TEr) (v : V) : Prop := ∃ p us, v = .ref p ∧ TBkAt H es us p ∧ BkO es
theorem TBkAt.tk {H H' : Hp} (k : TK H H') {es : List TEr} {us : List V} {p : Addr} (h : TBkAt H es us p) : TBkAt H' es us p := ⟨k _ _ h.1, h.2.imp fun _ _ z => TErV.tk k z⟩
theorem BkV.tk {H H' : Hp} (k : TK H H') {es : List TEr} {v : V} (h : BkV H es v) : BkV H' es v := let ⟨p, us, e1, h1, h2⟩ := h; ⟨p, us, e1, h1.tk k, h2⟩
/-- a call of a def that writes out, by its promise -/
def tCR (sp : Sp) (t : TA) : TE := fun σ H Q => t σ H fun vs H1 => sp vs H1 Q E0
theorem pe_cr {X : Cx} {f : Addr} {fd : FuncData} {ps : List Str} {k : Nat} {sp : Sp} {x : Str} {p pos : Pos} {e : Expr} {es : List Expr} {t : TA} (G : FnG X.prog X.w X.K X.mg X.base CX0 k f fd ps sp) (g : X.A.guards = some []) (hr : Room k X.A) (hb : Binds X.K fd ps []) (hg : Gl X x) (hm : X.mg x = some (.ref f)) (hk : PySem.W.keepIn X.K (.ref f) = true) (ha : PA X (e :: es) t)
    (hdb : (x == ("__debug__" : Str)) = false := by decide) (he : starEach (e :: es) X.env = (false, eval e X.env) :: starEach es X.env := by rfl) (hpl : (backTo pos (starEach es X.env)).any (·.1) = false := by rfl) :
    PE X (.Call (.Name x p) (e :: es) [] pos) (tCR sp t) := pe_callR (callG (E := E0) G g hr hb pass0) hg hm hk ha hdb he hpl
structure Cal (P : Program) (w : World) (K : PySem.W.Frag) (mg : Str → Option Value) (base : Heap) (CX : CXT) (x : Str) (ps : List Str) (k : Nat) (sp : Sp) : Prop where
  c : ∃ f fd, FnOk P w K mg base CX k f fd ps sp ∧ Ref K mg x f fd ps
end KB

namespace KB
open PySem L2 HT

/-! ### terms as data, a term's parts -/
def pdH : Hd → List PyData → PyData
  | .num z, _ => .tuple [.str "number", .int z]
  | .nam x, _ => .tuple [.str "name", .str x]
  | .plus, ds => .tuple (.str "plus" :: ds)
  | .less, ds => .tuple (.str "less" :: ds)
  | .tell, ds => .tuple (.str "tell" :: ds)
  | .lett x, ds => .tuple (.str "let" :: .str x :: ds)
  | .iff, ds => .tuple (.str "if" :: ds)
  | .ask f, ds => .tuple [.str "ask", .str f, .tuple ds]
def pd : Tm → PyData
  | .mk h _ k => pdH h (List.ofFn fun i => pd (k i))
theorem dp_fn {K : PySem.W.Frag} {H : Hp} : ∀ {n : Nat} {ys : _root_.Fin n → Addr} {ds : _root_.Fin n → PyData}, (∀ i, Dp K H (.ref (ys i)) (ds i)) → DpAll K H (Rfs ys) (List.ofFn ds)
  | 0, _, _, _ => .nil
  | n + 1, ys, ds, h => by
    unfold Rfs
    rw [List.ofFn_succ, List.ofFn_succ]
    exact .cons (h 0) (dp_fn (ys := fun i => ys i.succ) (ds := fun i => ds i.succ) fun i => h i.succ)
theorem dp_at {K : PySem.W.Frag} {H : Hp} : ∀ {t : Tm} {a : Addr}, At H t a → Dp K H (.ref a) (pd t) := by
  intro t
  induction t with
  | mk h n k ih =>
    rintro a ⟨ys, l, r⟩
    have d : DpAll K H (Rfs ys) (List.ofFn fun i => pd (k i)) := dp_fn fun i => ih i (r i)
    show Dp K H (.ref a) (pdH h (List.ofFn fun i => pd (k i)))
    generalize (List.ofFn fun i => pd (k i)) = ds at d
    cases h with
    | num z => exact .tup (SqT.of l.2) (.cons (.str _) (.cons (.int _) .nil))
    | nam z => exact .tup (SqT.of l.2) (.cons (.str _) (.cons (.str _) .nil))
    | lett x => exact .tup (SqT.of l.2) (.cons (.str _) (.cons (.str _) d))
    | ask f =>
      obtain ⟨_, p, h1, h2⟩ := l
      exact .tup (SqT.of h1) (.cons (.str _) (.cons (.str _) (.cons (.tup (SqT.of h2) d) .nil)))
    | _ => exact .tup (SqT.of l.2) (.cons (.str _) d)
theorem lay_lit {x : Str} (h : PySem.PyData.strOk x = true) : (PyData.str x).canLay0 = true := h
theorem lay_pdH {h : Hd} {ds : List PyData} (o : okH h) (l : ∀ d ∈ ds, d.canLay0 = true) : (pdH h ds).canLay0 = true := by
  have la := layAll l
  cases h with
  | num z =>
    refine layAll fun d hd => ?_
    rcases List.mem_cons.mp hd with y | y
    · rw [y]
      exact lay_lit (by decide +kernel)
    · rw [List.mem_singleton.mp y]
      rfl
  | nam x =>
    refine layAll fun d hd => ?_
    rcases List.mem_cons.mp hd with z | z
    · rw [z]
      exact lay_lit (by decide +kernel)
    · rw [List.mem_singleton.mp z]
      exact lay_str o
  | lett x =>
    refine layAll fun d hd => ?_
    rcases List.mem_cons.mp hd with z | z
    · rw [z]
      exact lay_lit (by decide +kernel)
    · rcases List.mem_cons.mp z with z | z
      · rw [z]
        exact lay_str o
      · exact l d z
  | ask f =>
    refine layAll fun d hd => ?_
    rcases List.mem_cons.mp hd with z | z
    · rw [z]
      exact lay_lit (by decide +kernel)
    · rcases List.mem_cons.mp z with z | z
      · rw [z]
        exact lay_str o
      · rw [List.mem_singleton.mp z]
        exact la
  | _ =>
    refine layAll fun d hd => ?_
    rcases List.mem_cons.mp hd with z | z
    · rw [z]
      exact lay_lit (by decide +kernel)
    · exact l d z
theorem lay_pd : ∀ {t : Tm}, okT t → (pd t).canLay0 = true := by
  intro t
  induction t with
  | mk h n k ih =>
    rintro ⟨o, r⟩
    refine lay_pdH o fun d hd => ?_
    obtain ⟨i, rfl⟩ := List.mem_ofFn.mp hd
    exact ih i (r i)
theorem depth_pdH {h : Hd} {m : Nat} {ds : List PyData} (l : ∀ d ∈ ds, d.depth ≤ m) : (pdH h ds).depth ≤ m + 2 := by
  cases h with
  | num z => exact Nat.le_trans (depth_tup (m := 0) fun d hd => by
      rcases List.mem_cons.mp hd with y | y
      · rw [y]
        exact Nat.le_refl 0
      · rw [List.mem_singleton.mp y]
        exact Nat.le_refl 0) (by omega)
  | nam x => exact Nat.le_trans (depth_tup (m := 0) fun d hd => by
      rcases List.mem_cons.mp hd with z | z
      · rw [z]
        exact Nat.le_refl 0
      · rw [List.mem_singleton.mp z]
        exact Nat.le_refl 0) (by omega)
  | lett x =>
    refine Nat.le_trans (depth_tup (m := m) fun d hd => ?_) (by omega)
    rcases List.mem_cons.mp hd with z | z
    · rw [z]
      exact Nat.zero_le _
    · rcases List.mem_cons.mp z with z | z
      · rw [z]
        exact Nat.zero_le _
      · exact l d z
  | ask f =>
    refine depth_tup (m := m + 1) fun d hd => ?_
    rcases List.mem_cons.mp hd with z | z
    · rw [z]
      exact Nat.zero_le _
    · rcases List.mem_cons.mp z with z | z
      · rw [z]
        exact Nat.zero_le _
      · rw [List.mem_singleton.mp z]
        exact depth_tup l
  | _ =>
    refine Nat.le_trans (depth_tup (m := m) fun d hd => ?_) (by omega)
    rcases List.mem_cons.mp hd with z | z
    · rw [z]
      exact Nat.zero_le _
    · exact l d z

/-! ### new words are words -/
theorem digs_small : ∀ n k : Nat, k ≤ n → ∀ c ∈ digs k, small c = true := by
  intro n
  induction n with
  | zero =>
    intro k hk c hc
    have h0 : k = 0 := by omega
    subst h0
    rw [digs_eq, if_pos rfl, List.nil_append] at hc
    rw [List.mem_singleton.mp hc]
    decide
  | succ n ih =>
    intro k hk c hc
    rw [digs_eq] at hc
    rcases List.mem_append.mp hc with z | z
    · by_cases d : k / 26 = 0
      · rw [if_pos d] at z
        cases z
      · rw [if_neg d] at z
        exact ih (k / 26) (by omega) c z
    · rw [List.mem_singleton.mp z]
      unfold small
      rw [decide_eq_true (by omega), decide_eq_true (by omega)]
      rfl
theorem isW_wordOf {k : Nat} (h : k < 26 ^ 7) : isW (wordOf k) = true := by
  have hl := digs_len 6 k h
  have hz : (wordOf k).length = (digs k).length + 1 := by
    show ((digs k ++ [113]).toArray).size = _
    rw [List.size_toArray, List.length_append]
    rfl
  have hk : keptW.contains (wordOf k) = false := by
    cases hc : keptW.contains (wordOf k) with
    | false => rfl
    | true =>
      exfalso
      have hm : wordOf k ∈ keptW := by simpa using hc
      have hlast : (wordOf k).cps.toList.getLast? = some 113 := by
        show (digs k ++ [113]).toArray.toList.getLast? = some 113
        rw [List.getLast?_append]
        rfl
      have all : ∀ z ∈ keptW, z.cps.toList.getLast? ≠ some 113 := by decide +kernel
      exact all _ hm hlast
  unfold isW
  rw [hk, hz]
  have a1 : decide (1 ≤ (digs k).length + 1) = true := decide_eq_true (by omega)
  have a2 : decide ((digs k).length + 1 ≤ 8) = true := decide_eq_true (by omega)
  rw [a1, a2]
  have a3 : (wordOf k).cps.toList.all small = true := by
    show (digs k ++ [113]).toArray.toList.all small = true
    rw [List.all_eq_true]
    intro c hc
    rcases List.mem_append.mp (show c ∈ digs k ++ [113] from hc) with z | z
    · exact digs_small k k (Nat.le_refl _) c z
    · rw [List.mem_singleton.mp z]
      decide
  rw [a3]
  rfl
/-! ### how long a term written out is -/
theorem sho_pd : ∀ {t : Tm}, okT t → Sho (pd t) (21 * cnt t - 1) := by
  have fnw : ∀ {n : Nat} {k : _root_.Fin n → Tm}, (∀ i, Sho (pd (k i)) (21 * cnt (k i) - 1)) → Sho (.tuple (List.ofFn fun i => pd (k i))) (21 * cnts (List.ofFn k)) := by
    intro n
    induction n with
    | zero => intro k _; exact ⟨Nat.zero_le _, rfl, rfl⟩
    | succ n ih =>
      intro k h
      rw [List.ofFn_succ, List.ofFn_succ, cnts_cons]
      have h0 := h 0
      have hp := cnt_pos (k 0)
      exact (sho_cons h0 (ih (k := fun i => k i.succ) fun i => h i.succ)).le (by omega)
  intro t
  induction t with
  | mk h n k ih =>
    rintro ⟨o, r⟩
    have f := fnw (k := k) fun i => ih i (r i)
    have hc : cnt (.mk h n k) = 1 + cnts (List.ofFn k) := cnt_mk
    rw [hc]
    show Sho (pdH h (List.ofFn fun i => pd (k i))) _
    generalize (List.ofFn fun i => pd (k i)) = ds at f
    have lit : ∀ {x : Str}, x.cps.size ≤ 8 → Sho (.str x) 8 := fun h => sho_str h
    cases h with
    | num z =>
      have o : 0 ≤ z ∧ z < 1000 := o
      refine (sho_cons (lit (by decide +kernel)) (sho_cons (sho_int (k := 10) (by have : (2 : Nat) ^ 10 = 1024 := by decide
                                                                                  omega) (by decide)) sho_nil)).le (by omega)
    | nam x => exact (sho_cons (lit (by decide +kernel)) (sho_cons (lit (isW_size o)) sho_nil)).le (by omega)
    | lett x => exact (sho_cons (lit (by decide +kernel)) (sho_cons (lit (isW_size o)) f)).le (by omega)
    | ask x => exact (sho_cons (a := 3) (sho_str (by decide +kernel)) (sho_cons (a := 8) (lit (isW_size o)) (sho_cons f sho_nil))).le (by omega)
    | _ => exact (sho_cons (lit (by decide +kernel)) f).le (by omega)
/-! ### books as data -/
def pdEr (e : Er) : PyData := .tuple [.str e.1, .tuple (e.2.1.map PyData.str), pd e.2.2]
def pdB (es : List Er) : PyData := .tuple (es.map pdEr)
theorem dp_er {K : PySem.W.Frag} {H : Hp} {e : Er} {v : V} (h : ErV H e v) : Dp K H v (pdEr e) := by
  obtain ⟨q, r, b, rfl, h1, h2, h3⟩ := h
  exact .tup (SqT.of h1) (.cons (.str _) (.cons (.tup (SqT.of h2) (dp_strs _)) (.cons (dp_at h3) .nil)))
theorem dp_ers {K : PySem.W.Frag} {H : Hp} : ∀ {es : List Er} {vs : List V}, All2 (ErV H) es vs → DpAll K H vs (es.map pdEr)
  | [], [], _ => .nil
  | e :: es, v :: vs, h => .cons (dp_er h.1) (dp_ers h.2)
  | [], _ :: _, h => h.elim
  | _ :: _, [], h => h.elim
theorem dp_bk {K : PySem.W.Frag} {H : Hp} {es : List Er} {vs : List V} {p : Addr} (h : BkAt H es vs p) : Dp K H (.ref p) (pdB es) := .tup (SqT.of h.1) (dp_ers h.2)
/-- a book that may be written out -/
structure BkF (es : List Er) : Prop where
  l6 : es.length ≤ 6
  w : ∀ e ∈ es, isW e.1 = true
  ws : ∀ e ∈ es, ∀ x ∈ e.2.1, isW x = true
  n4 : ∀ e ∈ es, e.2.1.length ≤ 4
  ok : ∀ e ∈ es, okT e.2.2
  cn : ∀ e ∈ es, cnt e.2.2 ≤ 2000
  dp : ∀ e ∈ es, (pd e.2.2).depth ≤ 60
theorem strs_lay {xs : List Str} (h : ∀ x ∈ xs, isW x = true) : ∀ d ∈ xs.map PyData.str, d.canLay0 = true := fun d hd => by
  obtain ⟨x, hx, rfl⟩ := List.mem_map.mp hd
  exact lay_str (h x hx)
theorem er_lay {es : List Er} (f : BkF es) {e : Er} (he : e ∈ es) : (pdEr e).canLay0 = true ∧ (pdEr e).depth ≤ 61 ∧ Sho (pdEr e) 42100 := by
  refine ⟨layAll fun d hd => ?_, depth_tup (m := 60) fun d hd => ?_, ?_⟩
  · simp only [List.mem_cons, List.not_mem_nil, or_false] at hd
    rcases hd with rfl | rfl | rfl
    · exact lay_str (f.w e he)
    · exact layAll (strs_lay (f.ws e he))
    · exact lay_pd (f.ok e he)
  · simp only [List.mem_cons, List.not_mem_nil, or_false] at hd
    rcases hd with rfl | rfl | rfl
    · exact Nat.zero_le _
    · exact Nat.le_trans (depth_tup (m := 0) fun d hd => by
        obtain ⟨x, _, rfl⟩ := List.mem_map.mp hd
        exact Nat.le_refl 0) (by decide)
    · exact f.dp e he
  · have h1 := f.cn e he
    have h4 := f.n4 e he
    have t : Sho (.tuple (e.2.1.map PyData.str)) 36 := sho_tup (m := 8) (fun d hd => by
      obtain ⟨x, hx, rfl⟩ := List.mem_map.mp hd
      exact sho_str (isW_size (f.ws e he x hx))) (by rw [List.length_map]; omega)
    exact (sho_cons (a := 8) (sho_str (isW_size (f.w e he))) (sho_cons t (sho_cons (sho_pd (f.ok e he)) sho_nil))).le (by omega)
structure Fit6 (d : PyData) : Prop where
  sh : SeqAt.shaped d = true
  sw : d.showable = true
  nd : d.hasDict = false
  dp : d.depth ≤ 64
  ln : d.shown.length ≤ sizeLine
theorem bk_fit {es : List Er} (f : BkF es) : Fit6 (pdB es) := by
  have lay : (pdB es).canLay0 = true := layAll fun d hd => by
    obtain ⟨e, he, rfl⟩ := List.mem_map.mp hd
    exact (er_lay f he).1
  have dep : (pdB es).depth ≤ 62 := depth_tup (m := 61) fun d hd => by
    obtain ⟨e, he, rfl⟩ := List.mem_map.mp hd
    exact (er_lay f he).2.1
  have all : Sho (pdB es) 260000 := sho_tup (m := 42100) (fun d hd => by
    obtain ⟨e, he, rfl⟩ := List.mem_map.mp hd
    exact (er_lay f he).2.2) (by rw [List.length_map]; have := f.l6; omega)
  have lay0 : PyData.layable0 (pdB es) = true := by
    show (PyData.canLay0 (pdB es) && decide (PyData.depth (pdB es) ≤ 64) && decide (PyData.weight (pdB es) ≤ 2 ^ 20)) = true
    rw [lay, decide_eq_true (Nat.le_trans dep (by decide)), decide_eq_true (Nat.le_trans all.w (by decide))]
    rfl
  exact ⟨shaped_of lay (Nat.le_trans dep (by decide)), all.s, PyData.hasDict_of_canLay _ lay, Nat.le_trans dep (by decide), Nat.le_trans (PyProof.Rows.shown_le13 lay0 all.i) (by decide)⟩
section
open PySem
variable {X : Cx}
/-- repr of data up to sixty-four within one another -/
theorem call_repr6 (g : X.A.guards = some []) (hu : X.A.units + 66 < cLine) : CallR X (.builtin "repr") fun xs H Q => ∃ (a : Addr) (d : PyData), xs = [.ref a] ∧ Dp X.K H (.ref a) d ∧ Fit6 d ∧ Q (.str d.shown) H := by
  intro pins s σ H xs us Q I r h
  obtain ⟨a, d, rfl, hd, ft, q⟩ := h
  obtain ⟨u, rfl, t⟩ := vals1 r
  have t : u = .ref a := t
  subst t
  obtain ⟨as, rd⟩ := Dp.reads I d _ _ hd rfl
  refine repr_of_reads' rd ft.sw (fun z => ?_) g (by have := ft.dp; omega) (fun _ _ z => z) (fun h' u tk kp => ⟨.str _, H, I.kept kp, ⟨_, rfl⟩, q⟩) ft.ln
  rw [ft.nd] at z
  cases z
end
theorem u66 {k : Nat} {A : Around} (r : Room k A) : A.units + 66 < cLine := by
  have := r.un
  omega
end KB

namespace KB
open PySem L2 HT

/-! ### measures of terms that add up, and what a turning keeps of them -/
def tmH (h : Hd → Nat) : Tm → Nat
  | .mk hd _ k => h hd + (List.ofFn fun i => tmH h (k i)).sum
theorem tmH_kids (h : Hd → Nat) (t : Tm) : tmH h t = h (hdT t) + sm (tmH h) (kidsT t) := by
  cases t with
  | mk hd n k =>
    show h hd + (List.ofFn fun i => tmH h (k i)).sum = h hd + ((List.ofFn k).map (tmH h)).sum
    rw [List.map_ofFn]
    rfl
theorem tmH_mkL (h : Hd → Nat) (hd : Hd) (ts : List Tm) : tmH h (mkL hd ts) = h hd + sm (tmH h) ts := by
  rw [tmH_kids]
  show h hd + sm (tmH h) (List.ofFn fun i => ts.get i) = _
  rw [ofFn_get]
def gM (h : Hd → Nat) : Gt → Nat
  | .t s => tmH h s
  | .p q => tmH h (backT q)
def lM (h : Hd → Nat) : Ld → Nat
  | .lett x s => h (.lett x) + tmH h s
  | .tell x s => h (.lett x) + h .tell + tmH h s
  | .post _ x u => h (.lett x) + tmH h (backT u)
def rgM (h : Hd → Nat) (R : List (List Ld)) (G : List Gt) : Nat := sm (sm (lM h)) R + sm (gM h) G
theorem ahM (h : Hd → Nat) : ∀ (r : List Ld) (q : Pt), tmH h (backT (putAh r q)) = sm (lM h) r + tmH h (backT q)
  | [], q => (Nat.zero_add _).symm
  | .lett x s :: r, q => by
    show tmH h (mkL (.lett x) [s, backT (putAh r q)]) = _
    rw [tmH_mkL, sm_cons, sm_cons, sm_nil, ahM h r q, sm_cons]
    show _ = (h (.lett x) + tmH h s) + _ + _
    omega
  | .tell x s :: r, q => by
    show tmH h (mkL (.lett x) [mkL .tell [s], backT (putAh r q)]) = _
    rw [tmH_mkL, sm_cons, sm_cons, sm_nil, tmH_mkL, sm_cons, sm_nil, ahM h r q, sm_cons]
    show _ = (h (.lett x) + h .tell + tmH h s) + _ + _
    omega
  | .post j x u :: r, q => by
    show tmH h (mkL (.lett x) [backT u, backT (putAh r q)]) = _
    rw [tmH_mkL, sm_cons, sm_cons, sm_nil, ahM h r q, sm_cons]
    show _ = (h (.lett x) + tmH h (backT u)) + _ + _
    omega
/-- what a finishing job adds -/
def finM (h : Hd → Nat) : Jb → Nat
  | .known t => tmH h t
  | .lett x => h (.lett x)
  | .tell x => h (.lett x) + h .tell
  | .post _ x => h (.lett x)
  | .iff => h .iff
  | .ask f _ _ => h (.ask f)
  | .op l => h (if l then .less else .plus)
  | _ => 0
theorem fin_M (h : Hd → Nat) {j : Jb} {R R1 : List (List Ld)} {G G1 : List Gt} (f : Fin j R G R1 G1) : finM h j + rgM h R G = rgM h R1 G1 := by
  unfold rgM
  cases f with
  | row =>
    show 0 + _ = _
    rw [sm_cons, sm_nil]
    omega
  | @close r _ q _ =>
    show 0 + _ = _
    rw [sm_cons, sm_cons, sm_cons]
    show _ = _ + (tmH h (backT (putAh r q)) + _)
    rw [ahM]
    show 0 + (_ + (tmH h (backT q) + _)) = _
    omega
  | @lett x _ _ s _ =>
    show h (.lett x) + _ = _
    rw [sm_cons, sm_cons, sm_cons, sm_app, sm_cons, sm_nil]
    show _ + (_ + (tmH h s + _)) = (_ + ((h (.lett x) + tmH h s) + _)) + _ + _
    omega
  | @tell x _ _ s _ =>
    show (h (.lett x) + h .tell) + _ = _
    rw [sm_cons, sm_cons, sm_cons, sm_app, sm_cons, sm_nil]
    show _ + (_ + (tmH h s + _)) = (_ + ((h (.lett x) + h .tell + tmH h s) + _)) + _ + _
    omega
  | @post j x _ _ q _ =>
    show h (.lett x) + _ = _
    rw [sm_cons, sm_cons, sm_cons, sm_app, sm_cons, sm_nil]
    show _ + (_ + (tmH h (backT q) + _)) = (_ + ((h (.lett x) + tmH h (backT q)) + _)) + _ + _
    omega
  | @known t _ _ =>
    show tmH h t + _ = _
    rw [sm_cons]
    show _ = _ + (tmH h t + _)
    omega
  | @ask f j ts R G =>
    show h (.ask f) + _ = _
    rw [sm_app, sm_rev, sm_map, sm_cons]
    show _ + (_ + (sm (tmH h) ts + _)) = _ + (tmH h (mkL (.ask f) ts) + _)
    rw [tmH_mkL]
    omega
  | @give j s R G =>
    rw [sm_cons, sm_cons]
    show 0 + (_ + (tmH h s + _)) = _ + (tmH h s + _)
    omega
  | @iff a b c _ _ =>
    show h .iff + _ = _
    rw [sm_cons, sm_cons, sm_cons, sm_cons]
    show _ + (_ + (tmH h (backT c) + (tmH h (backT b) + (tmH h a + _)))) = _ + (tmH h (mkL .iff [a, backT b, backT c]) + _)
    rw [tmH_mkL, sm_cons, sm_cons, sm_cons, sm_nil]
    omega
  | @op l a b _ _ =>
    show h (if l then .less else .plus) + _ = _
    rw [sm_cons, sm_cons, sm_cons]
    show _ + (_ + (tmH h b + (tmH h a + _))) = _ + (tmH h (mkL (if l then .less else .plus) [a, b]) + _)
    rw [tmH_mkL, sm_cons, sm_cons, sm_nil]
    omega
/-! ### what is kept by each step of a row of jobs -/
theorem Run.inv {tk : List Str} {I : List Jb → List (List Ld) → List Gt → Nat → Prop}
    (hf : ∀ {j J R G m R1 G1}, Fin j R G R1 G1 → I (j :: J) R G m → I J R1 G1 m)
    (hd : ∀ {t j J R G m}, I (.done t j :: J) R G m → I (doneJ t j ++ J) R G m)
    (hp : ∀ {t x w J R G m m1}, (wordH (hdT t) = true → NwR tk m w m1) → (wordH (hdT t) = false → m1 = m) → I (.put t x :: J) R G m → I (putJ t x w ++ J) R G m1)
    (hs : ∀ {t w J R G m m1}, (wordS (hdT t) = true → NwR tk m w m1) → (wordS (hdT t) = false → m1 = m) → I (.simple t :: J) R G m → I (simpJ t w ++ J) R G m1)
    {J : List Jb} {R G m R2 G2 m2} (h : Run tk J R G m R2 G2 m2) : I J R G m → I [] R2 G2 m2 := by
  induction h with
  | nil => exact fun z => z
  | fin f h ih => exact fun z => ih (hf f z)
  | done h ih => exact fun z => ih (hd z)
  | put h1 h2 h ih => exact fun z => ih (hp h1 h2 z)
  | simple h1 h2 h ih => exact fun z => ih (hs h1 h2 z)
/-! ### a job's measure -/
def jM (h : Hd → Nat) : Jb → Nat
  | .simple t => tmH h t
  | .put t x => tmH h t + h (.lett x)
  | .done t _ => tmH h t
  | .known t => tmH h t
  | .lett x => h (.lett x)
  | .tell x => h (.lett x)
  | .post _ x => h (.lett x)
  | .ask f _ _ => h (.ask f)
  | .iff => h .iff
  | .op l => h (if l then .less else .plus)
  | _ => 0
theorem fin_jM {h : Hd → Nat} (h0 : h .tell = 0) (j : Jb) (hj : isMk j = false) : finM h j = jM h j := by
  cases j with
  | done t j => cases hj
  | put t x => cases hj
  | simple t => cases hj
  | tell x =>
    show h (.lett x) + h .tell = h (.lett x)
    rw [h0]
    rfl
  | _ => rfl
theorem jM_simples (h : Hd → Nat) (ts : List Tm) : sm (jM h) (ts.map Jb.simple) = sm (tmH h) ts := by
  rw [sm_map]
  rfl
theorem jM_end {h : Hd → Nat} {t : Tm} {j : Str} (ha : arN t) : sm (jM h) (endJ t j) = tmH h t := by
  unfold arN at ha
  rw [tmH_kids]
  unfold endJ
  cases hh : hdT t with
  | ask f =>
    show sm (jM h) ((kidsT t).map Jb.simple ++ [.ask f (kidsT t).length j]) = _
    rw [sm_app, jM_simples, sm_cons, sm_nil]
    show _ + (h (.ask f) + 0) = _
    omega
  | iff =>
    rw [hh] at ha
    obtain ⟨a, b, c, e⟩ := three_of (show (kidsT t).length = 3 from ha)
    rw [e]
    show tmH h a + (0 + (tmH h b + (0 + (tmH h c + (h .iff + 0))))) = h .iff + (tmH h a + (tmH h b + (tmH h c + 0)))
    omega
  | _ =>
    show tmH h t + (0 + 0) = _
    rw [tmH_kids, hh]
    rfl
theorem jM_done {h : Hd → Nat} {t : Tm} {j : Str} (ha : arN t) : sm (jM h) (doneJ t j) = jM h (.done t j) := by
  have he := jM_end (h := h) (j := j) ha
  unfold arN at ha
  show _ = tmH h t
  unfold doneJ
  cases hh : hdT t with
  | lett x =>
    rw [hh] at ha
    obtain ⟨a, b, e⟩ := two_of (show (kidsT t).length = 2 from ha)
    rw [tmH_kids, hh, e]
    show (tmH h a + h (.lett x)) + (tmH h b + 0) = h (.lett x) + (tmH h a + (tmH h b + 0))
    omega
  | _ =>
    show sm (jM h) (endJ t j ++ [.close]) = _
    rw [sm_app, he]
    rfl
theorem jM_put {h : Hd → Nat} (h0 : h .tell = 0) {t : Tm} {x w : Str} (ha : arN t) : sm (jM h) (putJ t x w) = jM h (.put t x) := by
  have he := jM_end (h := h) (j := w) ha
  unfold arN at ha
  show _ = tmH h t + h (.lett x)
  unfold putJ
  cases hh : hdT t with
  | lett y =>
    rw [hh] at ha
    obtain ⟨a, b, e⟩ := two_of (show (kidsT t).length = 2 from ha)
    rw [tmH_kids, hh, e]
    show (tmH h a + h (.lett y)) + ((tmH h b + h (.lett x)) + 0) = (h (.lett y) + (tmH h a + (tmH h b + 0))) + h (.lett x)
    omega
  | ask f =>
    show sm (jM h) (endJ t w ++ [.post w x]) = _
    rw [sm_app, he]
    rfl
  | iff =>
    show sm (jM h) (endJ t w ++ [.post w x]) = _
    rw [sm_app, he]
    rfl
  | tell =>
    rw [hh] at ha
    obtain ⟨a, e⟩ := one_of (show (kidsT t).length = 1 from ha)
    rw [tmH_kids, hh, e, h0]
    show tmH h a + (h (.lett x) + 0) = (0 + (tmH h a + 0)) + h (.lett x)
    omega
  | _ => rfl
theorem jM_simp {h : Hd → Nat} {t : Tm} {w : Str} (ha : arN t) : sm (jM h) (simpJ t w) = jM h (.simple t) + (if wordS (hdT t) = true then h (.lett w) + h (.nam w) else 0) := by
  unfold arN at ha
  show _ = tmH h t + _
  have kn : jM h (.known (mkL (.nam w) [])) = h (.nam w) := by
    show tmH h (mkL (.nam w) []) = _
    rw [tmH_mkL]
    rfl
  have nw : sm (jM h) [.put t w, .known (mkL (.nam w) [])] = tmH h t + (h (.lett w) + h (.nam w)) := by
    rw [sm_cons, sm_cons, sm_nil, kn]
    show (tmH h t + h (.lett w)) + (h (.nam w) + 0) = _
    omega
  unfold simpJ
  cases hh : hdT t with
  | num z => rfl
  | nam z => rfl
  | plus =>
    rw [hh] at ha
    obtain ⟨a, b, e⟩ := two_of (show (kidsT t).length = 2 from ha)
    rw [tmH_kids, hh, e]
    show tmH h a + (tmH h b + (h .plus + 0)) = (h .plus + (tmH h a + (tmH h b + 0))) + 0
    omega
  | less =>
    rw [hh] at ha
    obtain ⟨a, b, e⟩ := two_of (show (kidsT t).length = 2 from ha)
    rw [tmH_kids, hh, e]
    show tmH h a + (tmH h b + (h .less + 0)) = (h .less + (tmH h a + (tmH h b + 0))) + 0
    omega
  | lett y =>
    rw [hh] at ha
    obtain ⟨a, b, e⟩ := two_of (show (kidsT t).length = 2 from ha)
    rw [tmH_kids, hh, e]
    show (tmH h a + h (.lett y)) + (tmH h b + 0) = (h (.lett y) + (tmH h a + (tmH h b + 0))) + 0
    omega
  | ask f => exact nw
  | iff => exact nw
  | tell => exact nw
/-! ### every word that is used is bound -/
noncomputable def hU (y : Str) : Hd → Nat
  | .nam x => if x = y then 1 else 0
  | _ => 0
noncomputable def hB (y : Str) : Hd → Nat
  | .lett x => if x = y then 1 else 0
  | _ => 0
open Classical in
noncomputable def hX (hd : Hd) : Nat := if okH hd then 0 else 1
theorem ar_app {J K : List Jb} {j : Jb} (h : ∀ x ∈ K, arJ x) (g : ∀ x ∈ j :: J, arJ x) : ∀ x ∈ K ++ J, arJ x := fun x hx => by
  rcases List.mem_append.mp hx with z | z
  · exact h x z
  · exact g x (List.mem_cons_of_mem _ z)
theorem run_closed {tk : List Str} {y : Str} {J : List Jb} {R G m R2 G2 m2} (h : Run tk J R G m R2 G2 m2) (ha : ∀ j ∈ J, arJ j)
    (h0 : sm (jM (hB y)) J + rgM (hB y) R G = 0 → sm (jM (hU y)) J + rgM (hU y) R G = 0) : rgM (hB y) R2 G2 = 0 → rgM (hU y) R2 G2 = 0 := by
  have e := Run.inv (I := fun J R G _ => (∀ j ∈ J, arJ j) ∧ (sm (jM (hB y)) J + rgM (hB y) R G = 0 → sm (jM (hU y)) J + rgM (hU y) R G = 0)) ?_ ?_ ?_ ?_ h ⟨ha, h0⟩
  · have e2 := e.2
    rw [sm_nil, sm_nil, Nat.zero_add, Nat.zero_add] at e2
    exact e2
  · rintro j J R G m R1 G1 f ⟨a, b⟩
    refine ⟨fun x hx => a x (List.mem_cons_of_mem _ hx), ?_⟩
    have k : isMk j = false := by cases f <;> rfl
    have e1 := fin_M (hB y) f
    have e2 := fin_M (hU y) f
    rw [fin_jM rfl j k] at e1 e2
    rw [sm_cons, sm_cons] at b
    omega
  · rintro t j J R G m ⟨a, b⟩
    have h0 : arT t := a _ List.mem_cons_self
    refine ⟨ar_app (arD h0) a, ?_⟩
    have e1 := jM_done (h := hB y) (j := j) h0.here
    have e2 := jM_done (h := hU y) (j := j) h0.here
    rw [sm_app, sm_app, e1, e2]
    exact b
  · rintro t x w J R G m m1 _ _ ⟨a, b⟩
    have h0 : arT t := a _ List.mem_cons_self
    refine ⟨ar_app (arP h0) a, ?_⟩
    have e1 := jM_put (h := hB y) rfl (x := x) (w := w) h0.here
    have e2 := jM_put (h := hU y) rfl (x := x) (w := w) h0.here
    rw [sm_app, sm_app, e1, e2]
    exact b
  · rintro t w J R G m m1 _ _ ⟨a, b⟩
    have h0 : arT t := a _ List.mem_cons_self
    refine ⟨ar_app (arS h0) a, ?_⟩
    have e1 := jM_simp (h := hB y) (w := w) h0.here
    have e2 := jM_simp (h := hU y) (w := w) h0.here
    rw [sm_cons, sm_cons] at b
    rw [sm_app, sm_app, e1, e2]
    by_cases c : wordS (hdT t) = true
    · rw [if_pos c, if_pos c]
      show (_ + ((if w = y then 1 else 0) + 0)) + _ + _ = 0 → (_ + (0 + (if w = y then 1 else 0))) + _ + _ = 0
      by_cases d : w = y
      · rw [if_pos d]
        omega
      · rw [if_neg d]
        omega
    · rw [if_neg c, if_neg c]
      omega
theorem ok_hX {t : Tm} : tmH hX t = 0 ↔ okT t := by
  induction t with
  | mk h n k ih =>
    have e : tmH hX (.mk h n k) = hX h + (List.ofFn fun i => tmH hX (k i)).sum := rfl
    rw [e]
    have e1 : hX h = 0 ↔ okH h := by
      unfold hX
      by_cases c : okH h
      · rw [if_pos c]
        exact ⟨fun _ => c, fun _ => rfl⟩
      · rw [if_neg c]
        exact ⟨(fun z => nomatch z), fun z => absurd z c⟩
    have e2 : (List.ofFn fun i => tmH hX (k i)).sum = 0 ↔ ∀ i, okT (k i) := by
      rw [List.sum_eq_zero_iff_forall_eq_nat]
      constructor
      · intro z i
        exact (ih i).mp (z _ (List.mem_ofFn.mpr ⟨i, rfl⟩))
      · intro z x hx
        obtain ⟨i, rfl⟩ := List.mem_ofFn.mp hx
        exact (ih i).mpr (z i)
    show _ ↔ okH h ∧ ∀ i, okT (k i)
    rw [← e1, ← e2]
    omega
theorem run_good {tk : List Str} (ht : tk.length ≤ 200) {J : List Jb} {R G m R2 G2 m2} (h : Run tk J R G m R2 G2 m2) (ha : ∀ j ∈ J, arJ j) (hm : m + 300 * wJs J ≤ 700000)
    (h0 : sm (jM hX) J + rgM hX R G = 0) : rgM hX R2 G2 = 0 := by
  have ht0 : hX .tell = 0 := if_pos trivial
  have e := Run.inv (I := fun J R G m => (∀ j ∈ J, arJ j) ∧ m + 300 * wJs J ≤ 700000 ∧ sm (jM hX) J + rgM hX R G = 0) ?_ ?_ ?_ ?_ h ⟨ha, hm, h0⟩
  · have e2 := e.2.2
    rw [sm_nil, Nat.zero_add] at e2
    exact e2
  · rintro j J R G m R1 G1 f ⟨a, hm, b⟩
    rw [wJs_cons] at hm
    refine ⟨fun x hx => a x (List.mem_cons_of_mem _ hx), by omega, ?_⟩
    have k : isMk j = false := by cases f <;> rfl
    have e1 := fin_M hX f
    rw [fin_jM ht0 j k] at e1
    rw [sm_cons] at b
    omega
  · rintro t j J R G m ⟨a, hm, b⟩
    have h0 : arT t := a _ List.mem_cons_self
    have e1 := jM_done (h := hX) (j := j) h0.here
    have e2 := w_done t j h0.here
    rw [wJs_cons] at hm
    refine ⟨ar_app (arD h0) a, ?_, ?_⟩
    · rw [wJs_app]
      have e3 : wJ (.done t j) = wD t := rfl
      omega
    · rw [sm_app, e1]
      exact b
  · rintro t x w J R G m m1 n1 n2 ⟨a, hm, b⟩
    have h0 : arT t := a _ List.mem_cons_self
    have e1 := jM_put (h := hX) ht0 (x := x) (w := w) h0.here
    have e2 := w_put t x w h0.here
    have e4 := nw_le n1 n2 ht
    rw [wJs_cons] at hm
    refine ⟨ar_app (arP h0) a, ?_, ?_⟩
    · rw [wJs_app]
      have e3 : wJ (.put t x) = wP t := rfl
      omega
    · rw [sm_app, e1]
      exact b
  · rintro t w J R G m m1 n1 n2 ⟨a, hm, b⟩
    have h0 : arT t := a _ List.mem_cons_self
    have e1 := jM_simp (h := hX) (w := w) h0.here
    have e2 := w_simple t w h0.here
    have e4 := nw_le n1 n2 ht
    rw [wJs_cons] at hm
    refine ⟨ar_app (arS h0) a, ?_, ?_⟩
    · rw [wJs_app]
      have e3 : wJ (.simple t) = wS t := rfl
      omega
    · rw [sm_app, e1]
      rw [sm_cons] at b
      by_cases c : wordS (hdT t) = true
      · obtain ⟨k, k1, k2, k3, _⟩ := n1 c
        have hw : isW w = true := by
          rw [k3]
          exact isW_wordOf (Nat.lt_of_le_of_lt (m := 700200) (by omega) (by decide))
        have x1 : hX (.lett w) = 0 := if_pos hw
        have x2 : hX (.nam w) = 0 := if_pos hw
        rw [if_pos c, x1, x2]
        omega
      · rw [if_neg c]
        omega
/-! ### how deep what is turned back is -/
def h1W : Hd → Nat
  | .plus => 1 | .less => 1 | .lett _ => 1 | .iff => 1
  | _ => 0
def h2W : Hd → Nat
  | .plus => 1 | .less => 1 | .lett _ => 1 | .tell => 1 | .ask _ => 1 | .iff => 2
  | _ => 0
def cW : Jb → Nat
  | .simple t => tmH h2W t
  | .put t _ => tmH h2W t + (if wordS (hdT t) = true then 0 else 1)
  | .done t _ => tmH h2W t
  | .known t => tmH h1W t
  | .lett _ => 1
  | .tell _ => 1
  | .post _ _ => 1
  | .iff => 1
  | .op _ => 1
  | _ => 0
theorem fin_cW (j : Jb) (hj : isMk j = false) : finM h1W j ≤ cW j := by
  cases j with
  | done t j => cases hj
  | put t x => cases hj
  | simple t => cases hj
  | op l => cases l <;> exact Nat.le_refl _
  | _ => exact Nat.le_refl _
theorem cW_simples (ts : List Tm) : sm cW (ts.map Jb.simple) = sm (tmH h2W) ts := by
  rw [sm_map]
  rfl
theorem cW_end {t : Tm} {j : Str} (ha : arN t) : sm cW (endJ t j) ≤ tmH h2W t ∧ (wordH (hdT t) = true → sm cW (endJ t j) + 1 ≤ tmH h2W t) := by
  unfold arN at ha
  rw [tmH_kids]
  unfold endJ
  cases hh : hdT t with
  | ask f =>
    have e : sm cW ((kidsT t).map Jb.simple ++ [.ask f (kidsT t).length j]) = sm (tmH h2W) (kidsT t) := by
      rw [sm_app, cW_simples]
      rfl
    show sm cW ((kidsT t).map Jb.simple ++ [.ask f (kidsT t).length j]) ≤ 1 + _ ∧ (_ → sm cW ((kidsT t).map Jb.simple ++ [.ask f (kidsT t).length j]) + 1 ≤ 1 + _)
    rw [e]
    omega
  | iff =>
    rw [hh] at ha
    obtain ⟨a, b, c, e⟩ := three_of (show (kidsT t).length = 3 from ha)
    rw [e]
    show tmH h2W a + (0 + (tmH h2W b + (0 + (tmH h2W c + (1 + 0))))) ≤ 2 + (tmH h2W a + (tmH h2W b + (tmH h2W c + 0))) ∧ (_ → (tmH h2W a + (0 + (tmH h2W b + (0 + (tmH h2W c + (1 + 0)))))) + 1 ≤ 2 + (tmH h2W a + (tmH h2W b + (tmH h2W c + 0))))
    omega
  | _ =>
    refine ⟨?_, fun z => nomatch z⟩
    show tmH h2W t + (0 + 0) ≤ _
    rw [tmH_kids, hh]
    exact Nat.le_refl _
theorem put_le (t : Tm) (x : Str) : cW (.put t x) ≤ tmH h2W t + 1 := by
  show tmH h2W t + _ ≤ _
  split <;> omega
theorem cW_done {t : Tm} {j : Str} (ha : arN t) : sm cW (doneJ t j) ≤ cW (.done t j) := by
  have he := (cW_end (j := j) ha).1
  unfold arN at ha
  show _ ≤ tmH h2W t
  unfold doneJ
  cases hh : hdT t with
  | lett x =>
    rw [hh] at ha
    obtain ⟨a, b, e⟩ := two_of (show (kidsT t).length = 2 from ha)
    have := put_le a x
    rw [tmH_kids, hh, e]
    show cW (.put a x) + (tmH h2W b + 0) ≤ 1 + (tmH h2W a + (tmH h2W b + 0))
    omega
  | _ =>
    show sm cW (endJ t j ++ [.close]) ≤ _
    rw [sm_app]
    have e : sm cW [Jb.close] = 0 := rfl
    omega
theorem cW_put {t : Tm} {x w : Str} (ha : arN t) : sm cW (putJ t x w) ≤ cW (.put t x) := by
  have he := (cW_end (j := w) ha).2
  unfold arN at ha
  show _ ≤ tmH h2W t + _
  unfold putJ
  cases hh : hdT t with
  | lett y =>
    rw [hh] at ha
    obtain ⟨a, b, e⟩ := two_of (show (kidsT t).length = 2 from ha)
    have := put_le a y
    have := put_le b x
    rw [tmH_kids, hh, e]
    show cW (.put a y) + (cW (.put b x) + 0) ≤ (1 + (tmH h2W a + (tmH h2W b + 0))) + 1
    omega
  | ask f =>
    have := he (by rw [hh]; rfl)
    show sm cW (endJ t w ++ [.post w x]) ≤ _
    rw [sm_app]
    have e : sm cW [Jb.post w x] = 1 := rfl
    omega
  | iff =>
    have := he (by rw [hh]; rfl)
    show sm cW (endJ t w ++ [.post w x]) ≤ _
    rw [sm_app]
    have e : sm cW [Jb.post w x] = 1 := rfl
    omega
  | tell =>
    rw [hh] at ha
    obtain ⟨a, e⟩ := one_of (show (kidsT t).length = 1 from ha)
    rw [tmH_kids, hh, e]
    show tmH h2W a + (1 + 0) ≤ (1 + (tmH h2W a + 0)) + 0
    omega
  | _ => exact Nat.le_refl _
theorem cW_simp {t : Tm} {w : Str} (ha : arN t) : sm cW (simpJ t w) ≤ cW (.simple t) := by
  unfold arN at ha
  show _ ≤ tmH h2W t
  have kn : cW (.known (mkL (.nam w) [])) = 0 := by
    show tmH h1W (mkL (.nam w) []) = _
    rw [tmH_mkL]
    rfl
  have nw : wordS (hdT t) = true → sm cW [.put t w, .known (mkL (.nam w) [])] ≤ tmH h2W t := fun c => by
    rw [sm_cons, sm_cons, sm_nil, kn]
    show (tmH h2W t + _) + (0 + 0) ≤ _
    rw [if_pos c]
    omega
  unfold simpJ
  cases hh : hdT t with
  | num z =>
    show tmH h1W t + 0 ≤ tmH h2W t
    rw [hh] at ha
    have e : kidsT t = [] := List.length_eq_zero_iff.mp ha
    rw [tmH_kids, tmH_kids, hh, e]
    exact Nat.le_refl _
  | nam z =>
    show tmH h1W t + 0 ≤ tmH h2W t
    rw [hh] at ha
    have e : kidsT t = [] := List.length_eq_zero_iff.mp ha
    rw [tmH_kids, tmH_kids, hh, e]
    exact Nat.le_refl _
  | plus =>
    rw [hh] at ha
    obtain ⟨a, b, e⟩ := two_of (show (kidsT t).length = 2 from ha)
    rw [tmH_kids, hh, e]
    show tmH h2W a + (tmH h2W b + (1 + 0)) ≤ 1 + (tmH h2W a + (tmH h2W b + 0))
    omega
  | less =>
    rw [hh] at ha
    obtain ⟨a, b, e⟩ := two_of (show (kidsT t).length = 2 from ha)
    rw [tmH_kids, hh, e]
    show tmH h2W a + (tmH h2W b + (1 + 0)) ≤ 1 + (tmH h2W a + (tmH h2W b + 0))
    omega
  | lett y =>
    rw [hh] at ha
    obtain ⟨a, b, e⟩ := two_of (show (kidsT t).length = 2 from ha)
    have := put_le a y
    rw [tmH_kids, hh, e]
    show cW (.put a y) + (tmH h2W b + 0) ≤ 1 + (tmH h2W a + (tmH h2W b + 0))
    omega
  | ask f => exact nw (by rw [hh]; rfl)
  | iff => exact nw (by rw [hh]; rfl)
  | tell => exact nw (by rw [hh]; rfl)
theorem run_deep {tk : List Str} {J : List Jb} {R G m R2 G2 m2} (h : Run tk J R G m R2 G2 m2) (ha : ∀ j ∈ J, arJ j) {B : Nat} (h0 : sm cW J + rgM h1W R G ≤ B) : rgM h1W R2 G2 ≤ B := by
  have e := Run.inv (I := fun J R G _ => (∀ j ∈ J, arJ j) ∧ sm cW J + rgM h1W R G ≤ B) ?_ ?_ ?_ ?_ h ⟨ha, h0⟩
  · have e2 := e.2
    rw [sm_nil, Nat.zero_add] at e2
    exact e2
  · rintro j J R G m R1 G1 f ⟨a, b⟩
    refine ⟨fun x hx => a x (List.mem_cons_of_mem _ hx), ?_⟩
    have k : isMk j = false := by cases f <;> rfl
    have e1 := fin_M h1W f
    have e2 := fin_cW j k
    rw [sm_cons] at b
    omega
  · rintro t j J R G m ⟨a, b⟩
    have h0 : arT t := a _ List.mem_cons_self
    refine ⟨ar_app (arD h0) a, ?_⟩
    have e1 := cW_done (j := j) h0.here
    rw [sm_cons] at b
    rw [sm_app]
    omega
  · rintro t x w J R G m m1 _ _ ⟨a, b⟩
    have h0 : arT t := a _ List.mem_cons_self
    refine ⟨ar_app (arP h0) a, ?_⟩
    have e1 := cW_put (x := x) (w := w) h0.here
    rw [sm_cons] at b
    rw [sm_app]
    omega
  · rintro t w J R G m m1 _ _ ⟨a, b⟩
    have h0 : arT t := a _ List.mem_cons_self
    refine ⟨ar_app (arS h0) a, ?_⟩
    have e1 := cW_simp (w := w) h0.here
    rw [sm_cons] at b
    rw [sm_app]
    omega
theorem h2_le : ∀ {t : Tm}, arT t → 3 * tmH h2W t + 1 ≤ 4 * cnt t := by
  have fn : ∀ {n : Nat} {k : _root_.Fin n → Tm}, (∀ i, 3 * tmH h2W (k i) + 1 ≤ 4 * cnt (k i)) → 3 * (List.ofFn fun i => tmH h2W (k i)).sum + n ≤ 4 * cnts (List.ofFn k) := by
    intro n
    induction n with
    | zero => intro k _; exact Nat.zero_le _
    | succ n ih =>
      intro k h
      have h0 := h 0
      have h1 := ih (k := fun i => k i.succ) fun i => h i.succ
      rw [List.ofFn_succ, List.ofFn_succ, cnts_cons, List.sum_cons]
      omega
  intro t
  induction t with
  | mk h n k ih =>
    rintro ⟨a, r⟩
    have f := fn (k := k) fun i => ih i (r i)
    have hc : cnt (.mk h n k) = 1 + cnts (List.ofFn k) := cnt_mk
    rw [hc]
    show 3 * (h2W h + (List.ofFn fun i => tmH h2W (k i)).sum) + 1 ≤ _
    cases h with
    | num z => have : h2W (.num z) = 0 := rfl
               omega
    | nam z => have : h2W (.nam z) = 0 := rfl
               omega
    | plus => have : h2W .plus = 1 := rfl
              have : n = 2 := a
              omega
    | less => have : h2W .less = 1 := rfl
              have : n = 2 := a
              omega
    | tell => have : h2W .tell = 1 := rfl
              have : n = 1 := a
              omega
    | lett x => have : h2W (.lett x) = 1 := rfl
                have : n = 2 := a
                omega
    | iff => have : h2W .iff = 2 := rfl
             have : n = 3 := a
             omega
    | ask f => have : h2W (.ask f) = 1 := rfl
               omega
theorem pd_mkL (h : Hd) (ts : List Tm) : pd (mkL h ts) = pdH h (ts.map pd) := by
  show pdH h (List.ofFn fun i => pd (ts.get i)) = _
  congr 1
  show (List.ofFn (pd ∘ fun i => ts.get i)) = _
  rw [← List.map_ofFn, ofFn_get]
theorem deep_mem {ts : List Tm} {t : Tm} (h : t ∈ ts) : tmH h1W t ≤ sm (tmH h1W) ts := by
  induction ts with
  | nil => cases h
  | cons a r ih =>
    rw [sm_cons]
    rcases List.mem_cons.mp h with z | z
    · rw [z]; omega
    · have := ih z; omega
theorem le_sumN {l : List Nat} {a : Nat} (h : a ∈ l) : a ≤ l.sum := by
  induction l with
  | nil => cases h
  | cons b r ih =>
    rw [List.sum_cons]
    rcases List.mem_cons.mp h with z | z
    · omega
    · have := ih z; omega
theorem depth_simple : ∀ {t : Tm}, simple t = true → (pd t).depth ≤ tmH h1W t + 1 := by
  intro t
  induction t with
  | mk h n k ih =>
    intro hs
    obtain ⟨h1, h2⟩ := simple_mk hs
    have kid : ∀ d ∈ List.ofFn (fun i => pd (k i)), d.depth ≤ (List.ofFn fun i => tmH h1W (k i)).sum + 1 := fun d hd => by
      obtain ⟨i, rfl⟩ := List.mem_ofFn.mp hd
      have e := ih i (h2 i)
      have e2 : tmH h1W (k i) ≤ (List.ofFn fun i => tmH h1W (k i)).sum := le_sumN (List.mem_ofFn.mpr ⟨i, rfl⟩)
      omega
    show (pdH h (List.ofFn fun i => pd (k i))).depth ≤ (h1W h + (List.ofFn fun i => tmH h1W (k i)).sum) + 1
    have two : ∀ x : Str, (PyData.tuple (.str x :: List.ofFn fun i => pd (k i))).depth ≤ (1 + (List.ofFn fun i => tmH h1W (k i)).sum) + 1 := fun x => by
      refine Nat.le_trans (depth_tup (m := (List.ofFn fun i => tmH h1W (k i)).sum + 1) fun d hd => ?_) (by omega)
      rcases List.mem_cons.mp hd with z | z
      · rw [z]
        exact Nat.zero_le _
      · exact kid d z
    cases h with
    | num z =>
      refine Nat.le_trans (depth_tup (m := 0) fun d hd => ?_) (by omega)
      simp only [List.mem_cons, List.not_mem_nil, or_false] at hd
      rcases hd with rfl | rfl <;> exact Nat.le_refl 0
    | nam z =>
      refine Nat.le_trans (depth_tup (m := 0) fun d hd => ?_) (by omega)
      simp only [List.mem_cons, List.not_mem_nil, or_false] at hd
      rcases hd with rfl | rfl <;> exact Nat.le_refl 0
    | plus => exact two _
    | less => exact two _
    | _ => cases h1
theorem depth_l2 {x y : Str} {a b : PyData} {m : Nat} (ha : a.depth ≤ m) (hb : b.depth ≤ m) : (PyData.tuple [.str x, .str y, a, b]).depth ≤ m + 1 := depth_tup fun d hd => by
  simp only [List.mem_cons, List.not_mem_nil, or_false] at hd
  rcases hd with rfl | rfl | rfl | rfl
  · exact Nat.zero_le _
  · exact Nat.zero_le _
  · exact ha
  · exact hb
theorem depth_back : ∀ {p : Pt}, wfP p → (pd (backT p)).depth ≤ tmH h1W (backT p) + 3 := by
  intro p
  induction p with
  | give j t => intro h; exact Nat.le_trans (depth_simple h) (by show tmH h1W t + 1 ≤ tmH h1W t + 3; omega)
  | ask f ts j =>
    intro h
    show (pd (mkL (.ask f) ts)).depth ≤ tmH h1W (mkL (.ask f) ts) + 3
    rw [pd_mkL, tmH_mkL]
    show (PyData.tuple [.str "ask", .str f, .tuple (ts.map pd)]).depth ≤ (0 + sm (tmH h1W) ts) + 3
    refine Nat.le_trans (depth_tup (m := sm (tmH h1W) ts + 2) fun d hd => ?_) (by omega)
    simp only [List.mem_cons, List.not_mem_nil, or_false] at hd
    rcases hd with rfl | rfl | rfl
    · exact Nat.zero_le _
    · exact Nat.zero_le _
    · refine depth_tup (m := sm (tmH h1W) ts + 1) fun d hd => ?_
      obtain ⟨t, ht, rfl⟩ := List.mem_map.mp hd
      have := depth_simple (h.2 t ht)
      have := deep_mem ht
      omega
  | tell x t p ih =>
    intro h
    have e1 := depth_simple h.1
    have e2 := ih h.2
    show (pd (mkL (.lett x) [mkL .tell [t], backT p])).depth ≤ tmH h1W (mkL (.lett x) [mkL .tell [t], backT p]) + 3
    rw [pd_mkL, tmH_mkL, sm_cons, sm_cons, sm_nil, tmH_mkL, sm_cons, sm_nil]
    show (PyData.tuple [.str "let", .str x, pd (mkL .tell [t]), pd (backT p)]).depth ≤ (1 + ((0 + (tmH h1W t + 0)) + (tmH h1W (backT p) + 0))) + 3
    refine Nat.le_trans (depth_l2 (m := tmH h1W t + tmH h1W (backT p) + 3) ?_ (by omega)) (by omega)
    rw [pd_mkL]
    refine Nat.le_trans (depth_tup (m := tmH h1W t + 1) fun d hd => ?_) (by omega)
    have hd : d ∈ [PyData.str "tell", pd t] := hd
    simp only [List.mem_cons, List.not_mem_nil, or_false] at hd
    rcases hd with rfl | rfl
    · exact Nat.zero_le _
    · exact e1
  | lett x t p ih =>
    intro h
    have e1 := depth_simple h.1
    have e2 := ih h.2
    show (pd (mkL (.lett x) [t, backT p])).depth ≤ tmH h1W (mkL (.lett x) [t, backT p]) + 3
    rw [pd_mkL, tmH_mkL, sm_cons, sm_cons, sm_nil]
    show (PyData.tuple [.str "let", .str x, pd t, pd (backT p)]).depth ≤ (1 + (tmH h1W t + (tmH h1W (backT p) + 0))) + 3
    exact Nat.le_trans (depth_l2 (m := tmH h1W t + tmH h1W (backT p) + 3) (by omega) (by omega)) (by omega)
  | post j x p q ih1 ih2 =>
    intro h
    have e1 := ih1 h.1
    have e2 := ih2 h.2
    show (pd (mkL (.lett x) [backT q, backT p])).depth ≤ tmH h1W (mkL (.lett x) [backT q, backT p]) + 3
    rw [pd_mkL, tmH_mkL, sm_cons, sm_cons, sm_nil]
    show (PyData.tuple [.str "let", .str x, pd (backT q), pd (backT p)]).depth ≤ (1 + (tmH h1W (backT q) + (tmH h1W (backT p) + 0))) + 3
    exact Nat.le_trans (depth_l2 (m := tmH h1W (backT q) + tmH h1W (backT p) + 3) (by omega) (by omega)) (by omega)
  | iff t p q ih1 ih2 =>
    intro h
    have e0 := depth_simple h.1
    have e1 := ih1 h.2.1
    have e2 := ih2 h.2.2
    show (pd (mkL .iff [t, backT p, backT q])).depth ≤ tmH h1W (mkL .iff [t, backT p, backT q]) + 3
    rw [pd_mkL, tmH_mkL, sm_cons, sm_cons, sm_cons, sm_nil]
    show (PyData.tuple [.str "if", pd t, pd (backT p), pd (backT q)]).depth ≤ (1 + (tmH h1W t + (tmH h1W (backT p) + (tmH h1W (backT q) + 0)))) + 3
    refine Nat.le_trans (depth_tup (m := tmH h1W t + tmH h1W (backT p) + tmH h1W (backT q) + 3) fun d hd => ?_) (by omega)
    simp only [List.mem_cons, List.not_mem_nil, or_false] at hd
    rcases hd with rfl | rfl | rfl | rfl
    · exact Nat.zero_le _
    · omega
    · omega
    · omega
theorem cnt_back : ∀ p : Pt, cnt (backT p) ≤ 2 * ncnt p
  | .give j t => by show cnt t ≤ 2 * (1 + cnt t); omega
  | .ask f ts j => by
    show cnt (mkL (.ask f) ts) ≤ 2 * (1 + cnts ts)
    rw [cnt_mkL]
    omega
  | .tell x t p => by
    have := cnt_back p
    show cnt (mkL (.lett x) [mkL .tell [t], backT p]) ≤ 2 * (1 + cnt t + ncnt p)
    rw [cnt_mkL, cnts_cons, cnts_cons, cnt_mkL, cnts_cons]
    show 1 + ((1 + (cnt t + 0)) + (cnt (backT p) + 0)) ≤ _
    omega
  | .lett x t p => by
    have := cnt_back p
    show cnt (mkL (.lett x) [t, backT p]) ≤ 2 * (1 + cnt t + ncnt p)
    rw [cnt_mkL, cnts_cons, cnts_cons]
    show 1 + (cnt t + (cnt (backT p) + 0)) ≤ _
    omega
  | .iff t p q => by
    have := cnt_back p
    have := cnt_back q
    show cnt (mkL .iff [t, backT p, backT q]) ≤ 2 * (1 + cnt t + ncnt p + ncnt q)
    rw [cnt_mkL, cnts_cons, cnts_cons, cnts_cons]
    show 1 + (cnt t + (cnt (backT p) + (cnt (backT q) + 0))) ≤ _
    omega
  | .post j x p q => by
    have := cnt_back p
    have := cnt_back q
    show cnt (mkL (.lett x) [backT q, backT p]) ≤ 2 * (1 + ncnt p + ncnt q)
    rw [cnt_mkL, cnts_cons, cnts_cons]
    show 1 + (cnt (backT q) + (cnt (backT p) + 0)) ≤ _
    omega
end KB

namespace KB
open PySem L2 HT

/-! ### neat turned books -/
def isPost : Pt → Bool
  | .post _ _ _ _ => true
  | _ => false
def isAI : Pt → Bool
  | .ask _ _ _ => true
  | .iff _ _ _ => true
  | _ => false
def ntP : Pt → Bool
  | .post _ _ _ u => isAI u
  | _ => true
def neatP (p : Pt) : Bool := (TrP.pre p).all ntP
def neatB (es : List TEr) : Bool := (bentB es).isNone && es.all fun e => neatP e.2.2
theorem hsP_post (p : Pt) : decide (V.str (hsP p) = V.str "post") = isPost p := by cases p <;> rfl
theorem hsP_ai (p : Pt) : inV (.str (hsP p)) [.str "ask", .str "if"] = isAI p := by cases p <;> rfl
theorem prL_pre : ∀ p : Pt, (prL p).map (·.2) = TrP.pre p
  | .give j t => rfl
  | .ask f ts j => rfl
  | .tell x t p => by
    have e : (prL p).map (·.2) = (plP p).map (·.2) := prL_pre p
    show _ = List.map (·.2) (plP _)
    simp only [prL, plP, List.map_cons, List.map_append, List.map_map, List.map_nil]
    exact congrArg (fun z => Pt.tell x t p :: (z ++ [])) e
  | .lett x t p => by
    have e : (prL p).map (·.2) = (plP p).map (·.2) := prL_pre p
    show _ = List.map (·.2) (plP _)
    simp only [prL, plP, List.map_cons, List.map_append, List.map_map, List.map_nil]
    exact congrArg (fun z => Pt.lett x t p :: (z ++ [])) e
  | .iff t p q => by
    have e : (prL p).map (·.2) = (plP p).map (·.2) := prL_pre p
    have e2 : (prL q).map (·.2) = (plP q).map (·.2) := prL_pre q
    show _ = List.map (·.2) (plP _)
    simp only [prL, plP, List.map_cons, List.map_append, List.map_map, List.map_nil]
    show Pt.iff t p q :: ((prL p).map (·.2) ++ ((prL q).map (·.2) ++ [])) = _
    rw [e, e2]
    rfl
  | .post j x p q => by
    have e : (prL p).map (·.2) = (plP p).map (·.2) := prL_pre p
    have e2 : (prL q).map (·.2) = (plP q).map (·.2) := prL_pre q
    show _ = List.map (·.2) (plP _)
    simp only [prL, plP, List.map_cons, List.map_append, List.map_map, List.map_nil]
    show Pt.post j x p q :: ((prL p).map (·.2) ++ ((prL q).map (·.2) ++ [])) = _
    rw [e, e2]
    rfl
theorem neat_prL (p : Pt) : (prL p).all (fun e => ntP e.2) = neatP p := by
  unfold neatP
  rw [← prL_pre, List.all_map]
  rfl
theorem neat_filter (l : List Pt) : ((l.filter isPost).map ntP).all id = l.all ntP := by
  induction l with
  | nil => rfl
  | cons p r ih =>
    rw [List.all_cons, ← ih]
    cases p with
    | post j x q u => rfl
    | _ => rfl
theorem pre_len (p : Pt) : (TrP.pre p).length = pcnt p := by
  show (List.map _ (TrP.pl p)).length = _
  rw [List.length_map]
  exact TrP.pl_len _ p (Nat.le_refl _)
section
variable {P : Program} {w : World} {K : PySem.W.Frag} {mg : Str → Option Value} {base : Heap} {CB : Addr}
/-! ### is_neat -/
def spNeat : Sp := fun vs H Q _ => ∃ (p : Addr) (es : List TEr) (us : List V), vs = [.ref p] ∧ TBkAt H es us p ∧ (∀ e ∈ es, pcnt e.2.2 ≤ 1000) ∧ ∀ H', Same H H' → Q (.bl (neatB es)) H'
abbrev sis_neat : Stmt := top 34
theorem scis_neat : FnScope ["turned", "name", "names", "body", "posts", "part", "post"] ["turned"] (defScope sis_neat) := ⟨rfl, rfl, rfl, by decide +kernel, rfl, by decide +kernel, by decide +kernel⟩
theorem ok_isneat (T : Txt K mg) {f f1 f2 f3 : Addr} {fd d1 d2 d3 : FuncData} (F : Fun K "is_neat" "is_neat" sis_neat f fd) (Gbent_at : FnOk P w K mg base CX0 3 f1 d1 ["turned"] spBentAt) (Rbent_at : Ref K mg "bent_at" f1 d1 ["turned"])
    (Gmet : FnOk P w K mg base CX0 2 f2 d2 ["body", "parts"] (spMet TrP f3)) (Rmet : Ref K mg "met" f2 d2 ["body", "parts"]) (Rrest_of : Ref K mg "rest_of" f3 d3 ["part"]) : FnOk P w K mg base CX0 4 f fd ["turned"] spNeat := by
  refine F.ok scis_neat (fun vs H Q E h => ?_) (fun cdv A outer s H vs Q E hr h => ?_)
  · obtain ⟨p, es, us, rfl, _⟩ := h
    rfl
  obtain ⟨p, es, us, rfl, hB, hc, q⟩ := h
  refine ⟨_, (pss_cons (ps_if (pt_cmpR op_notN (pe_call Gbent_at (hr.mono (by omega)) rfl Rbent_at.m Rbent_at.k Rbent_at.b .nil pass0 (pa_cons (pv 0) pa_nil)) pe_non (nomark _)) (pss_one (ps_ret pe_bl)) pss_nil)
    (pss_cons (ps_for PassesOwn.never rfl (pi_tup (pv 0)) (pg_tup rfl (pgs_cons (pg_name (i := 1) scis_neat.nd rfl (Or.inl rfl)) (pgs_cons (pg_name (i := 2) scis_neat.nd rfl (Or.inl rfl)) (pgs_cons (pg_name (i := 3) scis_neat.nd rfl (Or.inl rfl)) pgs_nil)))) (pss_cons (ps_setLc (i := 4) (own := [("part", 5)]) (g := gName 5) (tt := tTest (tOp rEq (tOp (rIxT K) (tVar 5) (tC (.int 0))) (tC (.str "post")))) (te := tVar 5) (by rfl) scis_neat.nd rfl rfl (sw_true rfl rfl rfl (by decide +kernel)) (pi_list (pe_call Gmet (hr.mono (by omega)) rfl Rmet.m Rmet.k Rmet.b .nil pass0 (pa_cons (pv 3) (pa_cons (pe_glob (v := .ref f3) rfl Rrest_of.m rfl) pa_nil)))) (blkOk_by (own := [("part", 5)]) (N := ["turned", "name", "names", "body", "posts", "part", "post"]) (sc := defScope sis_neat) (by decide +kernel)) (fun _ _ _ _ _ => (pg_name (i := 5) scis_neat.nd rfl (Or.inl rfl))) (fun _ _ _ _ _ => (pts_one (pt_cmpR op_eq (pe_ix ix_tup (pv 5) pe_int (fun _ _ => rfl)) pe_str (nomark _)))) (fun _ _ _ _ _ => (pv 5)))
    (pss_one (ps_if (pt_not (pt_val (pe_callB (cr_all rfl) (by rfl) T.m_all (by decide +kernel) (pa_cons (pe_lc (own := [("post", 6)]) (g := gName 6) (te := tOp (rIn K false) (tOp (rIxT K) (tOp (rIxT K) (tVar 6) (tC (.int 4))) (tC (.int 0))) (tTup (tCons (tC (.str "ask")) (tCons (tC (.str "if")) tNil)))) (by rfl) scis_neat.nd (pi_list (pv 4)) (blkOk_by (own := [("post", 6)]) (N := ["turned", "name", "names", "body", "posts", "part", "post"]) (sc := defScope sis_neat) (by decide +kernel)) (fun _ _ _ _ _ => (pg_name (i := 6) scis_neat.nd rfl (Or.inl rfl))) (fun _ _ _ _ _ => pts_nil) (fun _ _ _ _ _ => (pe_cmpR op_in_seq (pe_ix ix_tup (pe_ix ix_tup (pv 6) pe_int (fun _ _ => rfl)) pe_int (fun _ _ => rfl)) (pe_tup (pa_cons pe_str (pa_cons pe_str pa_nil))) rfl))) pa_nil)))) (pss_one (ps_ret pe_bl)) pss_nil))))
    (pss_one (ps_ret pe_bl)))), ?_⟩
  refine ⟨_, rfl, p, es, us, rfl, hB, fun e he => by have := hc e he; omega, fun v1 H1 s1 hv1 => ?_⟩
  have hB1 : TBkAt H1 es us p := hB.tk (tk_same s1)
  cases hb : bentB es with
  | some x =>
    rw [hb] at hv1
    obtain ⟨rr, rfl, _⟩ : PlS H1 x v1 := hv1
    refine ⟨rfl, _, rfl, itT (by rw [decide_eq_false (by intro z; cases z)]; rfl) ?_⟩
    have e : neatB es = false := by
      unfold neatB
      rw [hb]
      rfl
    have qq := q H1 s1
    rw [e] at qq
    exact qq
  | none =>
    rw [hb] at hv1
    have e0 : v1 = .non := hv1
    subst e0
    refine ⟨rfl, _, rfl, itF rfl ?_⟩
    have eN : neatB es = es.all fun e => neatP e.2.2 := by
      unfold neatB
      rw [hb]
      rfl
    rw [eN] at q
    refine ⟨_, rfl, p, rfl, ⟨_, SqT.of hB1.1⟩, for_tup (xs := us) (fun i σ H' => ∃ o1 o2 o3 o4, σ = [some (.ref p), o1, o2, o3, o4, none, none] ∧ Same H H' ∧ Same H1 H' ∧ ((es.take i).all fun e => neatP e.2.2) = true) ?_ ?_ ?_ ?_⟩
    · exact ⟨_, _, _, _, rfl, s1, Same.refl _, rfl⟩
    · rintro i σ H' _ ⟨o1, o2, o3, o4, rfl, _, s2, _⟩
      exact SqT.of (s2 _ _ hB1.1)
    · rintro i x σ H2 hx ⟨o1, o2, o3, o4, rfl, s02, s2, hall⟩
      obtain ⟨e, he, qa, r, b, rfl, g1, g2, g3⟩ := hB1.2.get hx
      have hee := mem_of_get he
      obtain ⟨hj, hj2⟩ := List.getElem?_eq_some_iff.mp he
      have hce := hc e hee
      refine ⟨qa, _, rfl, SqT.of (s2 _ _ g1), rfl, _, _, rfl, _, _, rfl, _, _, rfl, rfl, ?_⟩
      refine ⟨_, rfl, e.2.2, b, rfl, g3.tk (tk_same s2), hce, fun pm H3 its hpm s3 h3 k3 => ?_⟩
      have hits : its.length = pcnt e.2.2 := by rw [k3.len, pre_len]
      refine ⟨pm, rfl, ⟨_, SqL.of h3⟩, fun D hD => lc_list (K := K) (a := pm) (xs := its) (fun i H' => Same H3 H' ∧ ∃ acc, H' D = some (.lst acc) ∧ acc.length ≤ i ∧ All2 (TrP.V H') (((TrP.pre e.2.2).take i).filter isPost) acc) ⟨same_new hD _, [], upd_same, Nat.le_refl _, by rw [List.take_zero]; trivial⟩ ?_ ?_ ?_⟩
      · rintro i H' _ ⟨s4, _⟩
        exact SqL.of (s4 _ _ h3)
      · rintro i x H4 hx2 ⟨s4, acc, h4, hl4, k4⟩
        obtain ⟨u, hu, c, rfl, hcu⟩ := k3.get hx2
        obtain ⟨hk, hk2⟩ := List.getElem?_eq_some_iff.mp hu
        have hil := (List.getElem?_eq_some_iff.mp hx2).1
        have hcu4 : PAt H4 u c := PAt.tk (tk_same s4) hcu
        obtain ⟨rd, hd⟩ := hcu4.head
        refine ⟨rfl, ?_⟩
        refine ⟨_, rfl, c, _, _, _, rfl, rfl, SqT.of hd, at0, rfl, _, rfl, ?_⟩
        rw [List.take_succ_eq_append_getElem hk, hk2, List.filter_append, hsP_post]
        cases hp : isPost u with
        | true =>
          refine iteT ⟨_, rfl, acc, h4, Nat.lt_of_le_of_lt (m := 1000) (by omega) (by decide), same_mut s4 hD, _, upd_same, by rw [List.length_append, List.length_singleton]; omega, ?_⟩
          have tk := tk_put (o := .lst (acc ++ [.ref c])) h4
          rw [List.filter_cons_of_pos hp]
          exact (k4.imp fun _ _ z => let ⟨b, e1, e2⟩ := z; ⟨b, e1, TrP.tk tk e2⟩).app ⟨⟨c, rfl, PAt.tk tk hcu4⟩, trivial⟩
        | false =>
          refine iteF ⟨s4, acc, h4, by omega, ?_⟩
          rw [List.filter_cons_of_neg (by rw [hp]; exact Bool.false_ne_true), List.filter_nil, List.append_nil]
          exact k4
      rintro H4 ⟨s4, pv4, h4, hl4, k4⟩
      rw [hits, ← pre_len, List.take_length] at k4
      have hpl : ∀ u ∈ (TrP.pre e.2.2).filter isPost, isPost u = true := fun u hu => (List.mem_filter.mp hu).2
      refine ⟨_, rfl, D, rfl, ⟨_, SqL.of h4⟩, fun D2 hD2 => lc_list (K := K) (a := D) (xs := pv4) (fun i H' => Same H4 H' ∧ H' D2 = some (.lst (((((TrP.pre e.2.2).filter isPost).take i).map ntP).map V.bl))) ⟨same_new hD2 _, by rw [List.take_zero]; exact upd_same⟩ ?_ ?_ ?_⟩
      · rintro i H' _ ⟨s5, _⟩
        exact SqL.of (s5 _ _ h4)
      · rintro i x H5 hx3 ⟨s5, h5⟩
        obtain ⟨u, hu, c, rfl, hcu⟩ := k4.get hx3
        obtain ⟨hk, hk2⟩ := List.getElem?_eq_some_iff.mp hu
        have hil := (List.getElem?_eq_some_iff.mp hx3).1
        have hpu := hpl u (mem_of_get hu)
        cases u with
        | post j x q u2 =>
          obtain ⟨c1, c2, w1, w2, w3⟩ : PAt H5 (.post j x q u2) c := PAt.tk (tk_same s5) hcu
          obtain ⟨rd, hd⟩ := PAt.head w3
          refine ⟨rfl, ?_⟩
          dsimp only [tYes]
          refine iteT ⟨_, rfl, c, _, _, _, rfl, rfl, SqT.of w1, at_of (j := 4) rfl rfl, c2, _, _, _, rfl, rfl, SqT.of hd, at0, sz (by show 2 ≤ 100000; decide), fun t ht => ?_⟩
          have s6 := same_new ht (.tup [.str "ask", .str "if"])
          refine ⟨t, _, rfl, .inr (SqT.of upd_same), rfl, rfl, ?_⟩
          refine ⟨_, s6 _ _ h5, Nat.lt_of_le_of_lt (m := 1000) (by rw [List.length_map, List.length_map, List.length_take]; omega) (by decide), same_mut (s5.trans s6) hD2, ?_⟩
          rw [upd_same, List.take_succ_eq_append_getElem hk, hk2, List.map_append, List.map_append, hsP_ai]
          rfl
        | _ => cases hpu
      rintro H5 ⟨s5, h5⟩
      rw [k4.len, List.take_length] at h5
      refine ⟨D2, _, rfl, SqL.of h5, _, rfl, ?_⟩
      rw [neat_filter]
      have s05 := s02.trans (s3.trans ((show Same H3 H4 from s4).trans s5))
      have s15 := s2.trans (s3.trans ((show Same H3 H4 from s4).trans s5))
      cases hn : neatP e.2.2 with
      | true =>
        rw [show (TrP.pre e.2.2).all ntP = true from hn]
        refine itF rfl ⟨_, _, _, _, rfl, s05, s15, ?_⟩
        rw [List.take_succ_eq_append_getElem hj, hj2, List.all_append, hall, List.all_cons, hn]
        rfl
      | false =>
        rw [show (TrP.pre e.2.2).all ntP = false from hn]
        refine itT rfl ?_
        have qq := q _ s05
        have e9 : (es.all fun e => neatP e.2.2) = false := by
          rw [List.all_eq_false]
          exact ⟨e, hee, by rw [hn]; exact Bool.false_ne_true⟩
        rw [e9] at qq
        exact qq
    · rintro σ H2 ⟨o1, o2, o3, o4, rfl, s02, s2, hall⟩
      have qq := q _ s02
      rw [hB1.2.len, List.take_length] at hall
      rw [hall] at qq
      exact qq
end
end KB

namespace KB
open PySem L2 HT

theorem passX {X : Cx} : Passes (L2.CX X.prog X.w) X E0 := fun _ _ _ _ _ _ _ h => by
  obtain ⟨_, _, _, _, _, _, _, _, _, _, _, _, hE⟩ := h
  exact hE.elim
theorem all2_inn {H : Hp} {F : Pt → Tm} {ps : List Pt} {i : Nat} {p : Pt} (h : ps[i]? = some p) : (ps.take (i + 1)).map F = (ps.take i).map F ++ [F p] := by
  obtain ⟨hi, he⟩ := List.getElem?_eq_some_iff.mp h
  rw [List.take_succ_eq_append_getElem hi, he, List.map_append]
  rfl
section
variable {P : Program} {w : World} {K : PySem.W.Frag} {mg : Str → Option Value} {base : Heap} {CB : Addr}
/-! ### _law_back -/
def spLBack (n : Nat) : Sp := fun vs H Q _ => ∃ (a : Addr) (p : Pt), vs = [.ref a] ∧ PAt H p a ∧ pcnt p ≤ n ∧ wfP p ∧ ∀ b H', Same H H' → At H' (backT p) b → Q (.ref b) H'
abbrev s_law_back : Stmt := top 65
theorem scLback : FnScope ["part", "inner", "one"] ["part"] (defScope s_law_back) := ⟨rfl, rfl, rfl, by decide +kernel, rfl, by decide +kernel, by decide +kernel⟩
theorem wf_inn {p : Pt} (h : wfP p) : ∀ q ∈ innP p, wfP q := by
  intro q hq
  cases p with
  | give j t => cases hq
  | ask f ts j => cases hq
  | tell x t r => rw [List.mem_singleton.mp hq]; exact h.2
  | lett x t r => rw [List.mem_singleton.mp hq]; exact h.2
  | iff t r u =>
    rcases List.mem_cons.mp hq with z | z
    · rw [z]; exact h.2.1
    · rw [List.mem_singleton.mp z]; exact h.2.2
  | post j x r u =>
    rcases List.mem_cons.mp hq with z | z
    · rw [z]; exact h.1
    · rw [List.mem_singleton.mp z]; exact h.2
theorem ok_Lback (T : Txt K mg) {n : Nat} {f f1 : Addr} {fd d1 : FuncData} (F : Fun K "_law_back" "_law_back" s_law_back f fd) (G_law_back : FnOk P w K mg base CX0 (n + 1) f fd ["part"] (spLBack n)) (R_law_back : Ref K mg "_law_back" f fd ["part"])
    (G_law_inner : FnOk P w K mg base CX0 1 f1 d1 ["part"] spInn) (R_law_inner : Ref K mg "_law_inner" f1 d1 ["part"]) : FnOk P w K mg base CX0 (n + 2) f fd ["part"] (spLBack (n + 1)) := by
  refine F.ok scLback (fun vs H Q E h => ?_) (fun cdv A outer s H vs Q E hr h => ?_)
  · obtain ⟨a, p, rfl, _⟩ := h
    rfl
  obtain ⟨a, p, rfl, hA, hc, hw, q⟩ := h
  refine ⟨_, (pss_cons (ps_if (pt_cmpR op_eq (pe_ix ix_tup (pv 0) pe_int (fun _ _ => rfl)) pe_str (nomark _)) (pss_one (ps_ret (pe_ix ix_tup (pv 0) pe_int (fun _ _ => rfl)))) pss_nil)
    (pss_cons (ps_if (pt_cmpR op_eq (pe_ix ix_tup (pv 0) pe_int (fun _ _ => rfl)) pe_str (nomark _)) (pss_one (ps_ret (pe_slice sl_tupA (pv 0) po_none (po_some pe_int)))) pss_nil)
    (pss_cons (ps_setLc (i := 1) (own := [("one", 2)]) (g := gName 2) (tt := tYes) (te := tCall (spLBack n) [] E0 (tCons (tVar 2) tNil)) (by rfl) scLback.nd rfl rfl (sw_true rfl rfl rfl (by decide +kernel)) (pi_tup (pe_call G_law_inner (hr.mono (by omega)) rfl R_law_inner.m R_law_inner.k R_law_inner.b .nil pass0 (pa_cons (pv 0) pa_nil))) (blkOk_by (own := [("one", 2)]) (N := ["part", "inner", "one"]) (sc := defScope s_law_back) (by decide +kernel)) (fun _ _ _ _ _ => (pg_name (i := 2) scLback.nd rfl (Or.inl rfl))) (fun _ _ _ _ _ => pts_nil) (fun _ _ _ _ _ => (pe_call G_law_back hr rfl R_law_back.m R_law_back.k R_law_back.b .nil pass0 (pa_cons (pv 2) pa_nil))))
    (pss_cons (ps_if (pt_cmpR op_eq (pe_ix ix_tup (pv 0) pe_int (fun _ _ => rfl)) pe_str (nomark _)) (pss_one (ps_ret (pe_tup (pa_cons pe_str (pa_cons (pe_ix ix_tup (pv 0) pe_int (fun _ _ => rfl)) (pa_cons (pe_ix ix_list (pv 1) pe_int (fun _ _ => rfl)) (pa_cons (pe_ix ix_list (pv 1) pe_int (fun _ _ => rfl)) pa_nil))))))) pss_nil)
    (pss_cons (ps_if (pt_cmpR op_eq (pe_ix ix_tup (pv 0) pe_int (fun _ _ => rfl)) pe_str (nomark _)) (pss_one (ps_ret (pe_tup (pa_cons pe_str (pa_cons (pe_ix ix_tup (pv 0) pe_int (fun _ _ => rfl)) (pa_cons (pe_ix ix_list (pv 1) pe_int (fun _ _ => rfl)) (pa_cons (pe_ix ix_list (pv 1) pe_int (fun _ _ => rfl)) pa_nil))))))) pss_nil)
    (pss_one (ps_ret (pe_tup (pa_cons pe_str (pa_cons (pe_ix ix_tup (pv 0) pe_int (fun _ _ => rfl)) (pa_cons (pe_ix ix_list (pe_lst (pa_cons (pe_ix ix_tup (pv 0) pe_int (fun _ _ => rfl)) (pa_cons (pe_tup (pa_cons pe_str (pa_cons (pe_ix ix_tup (pv 0) pe_int (fun _ _ => rfl)) pa_nil))) pa_nil))) (pe_callTy call_int1 (by rfl) T.m_int (by decide +kernel) (pa_cons (pe_cmpR op_eq (pe_ix ix_tup (pv 0) pe_int (fun _ _ => rfl)) pe_str (nomark _)) pa_nil)) (fun _ _ => rfl)) (pa_cons (pe_ix ix_list (pv 1) pe_int (fun _ _ => rfl)) pa_nil)))))))))))), ?_⟩
  have hck := pcnt_inn p
  obtain ⟨rd, hd⟩ := hA.head
  have head : ∀ {H'}, Same H H' → SqT K H' a (.str (hsP p) :: rd) := fun s => SqT.of (s _ _ hd)
  -- the list of what is within turned back
  have inner : ∀ (Qn : St → Hp → Prop), (∀ D H' vs, Same H H' → H' D = some (.lst vs) → All2 (RefV H') ((innP p).map backT) vs → Qn [some (.ref a), some (.ref D), none] H') →
      (tAsg (tLc (iTup K (tCall spInn [] E0 (tCons (tVar 0) tNil))) (gName 2) tYes (tCall (spLBack n) [] E0 (tCons (tVar 2) tNil)) [2]) (gName 1)) { nx := Qn, rt := Q } [some (.ref a), none, none] H := by
    intro Qn hq
    refine ⟨_, rfl, a, p, rfl, hA, fun pi H1 us s1 h1 k1 => ?_⟩
    refine ⟨pi, rfl, ⟨_, SqT.of h1⟩, fun D hD => lc_tup (K := K) (a := pi) (xs := us) (fun i H' => Same H1 H' ∧ ∃ acc, H' D = some (.lst acc) ∧ All2 (RefV H') (((innP p).take i).map backT) acc) ⟨same_new hD _, [], upd_same, by rw [List.take_zero]; trivial⟩ ?_ ?_ ?_⟩
    · rintro i H' _ ⟨s2, _⟩
      exact SqT.of (s2 _ _ h1)
    · rintro i x H2 hx ⟨s2, acc, h2, k2⟩
      obtain ⟨u, hu, c, rfl, hcu⟩ := k1.get hx
      have hmem := mem_of_get hu
      have hct := mem_sum hmem
      have hl2 := k2.len
      have hik : (innP p).length ≤ 2 := by cases p <;> simp [innP]
      rw [List.length_map, List.length_take] at hl2
      refine ⟨rfl, ?_⟩
      dsimp only [tYes]
      refine iteT ⟨_, rfl, c, u, rfl, hcu.tk (tk_same s2), by omega, wf_inn hw u hmem, fun b H3 s3 hb => ?_⟩
      have h3 := s3 _ _ h2
      have tk := tk_put (o := .lst (acc ++ [.ref b])) h3
      refine ⟨acc, h3, Nat.lt_of_le_of_lt (m := 100) (by omega) (by decide), same_mut (s2.trans s3) hD, _, upd_same, ?_⟩
      rw [all2_inn (H := H) hu]
      exact ((k2.imp fun _ _ z => RefV.tk (tk_same s3) z).imp fun _ _ z => RefV.tk tk z).app ⟨⟨b, rfl, hb.tk tk⟩, trivial⟩
    rintro H2 ⟨s2, acc, h2, k2⟩
    rw [k1.len, List.take_length] at k2
    exact hq D H2 acc (s1.trans s2) h2 k2
  refine ⟨_, rfl, a, _, _, _, rfl, rfl, head (Same.refl H), at0, rfl, _, rfl, ?_⟩
  cases p with
  | give j t =>
    obtain ⟨b, h1, h2⟩ := hA
    exact itT rfl ⟨_, rfl, a, _, _, _, rfl, rfl, SqT.of h1, at2, q b H (Same.refl H) h2⟩
  | ask g ts j =>
    obtain ⟨b, vs, h1, h2, h3⟩ := hA
    refine itF rfl ⟨_, rfl, a, _, _, _, rfl, rfl, SqT.of h1, at0, rfl, _, rfl, ?_⟩
    refine itT rfl ⟨_, rfl, _, rfl, a, _, rfl, SqT.of h1, ?_, ?_⟩
    · intro z
      exact absurd z.2 (by show ¬ (3 = 4); decide)
    · intro _ t ht
      have s1 := same_new ht (.tup (cutV [V.str "ask", .str g, .ref b, .str j] none (some 3)))
      refine q t _ s1 (at_mkL (h := .ask g) (vs := vs) ⟨by rw [h3.len]; exact hw.1, b, ?_, s1 _ _ h2⟩ (stk_of (h3.imp fun _ _ z => RefV.tk (tk_same s1) z)))
      rw [upd_same]
      rfl
  | iff t r u =>
    obtain ⟨b, c, d, h1, h2, h3, h4⟩ := hA
    refine itF rfl ⟨_, rfl, a, _, _, _, rfl, rfl, SqT.of h1, at0, rfl, _, rfl, itF rfl ?_⟩
    refine inner _ fun D H' vs s1 hD k => ?_
    match vs, k with
    | [v1, v2], ⟨⟨b1, e1, k1⟩, ⟨b2, e2, k2⟩, _⟩ =>
      subst e1
      subst e2
      refine ⟨_, rfl, a, _, _, _, rfl, rfl, SqT.of (s1 _ _ h1), at0, rfl, _, rfl, itT rfl ?_⟩
      refine ⟨_, rfl, a, _, _, _, rfl, rfl, SqT.of (s1 _ _ h1), at1, _, rfl, D, _, _, _, rfl, rfl, SqL.of hD, at0, _, rfl, D, _, _, _, rfl, rfl, SqL.of hD, at1, sz (by show 4 ≤ 100000; decide), fun t4 ht4 => ?_⟩
      have s2 := same_new ht4 (.tup [.str "if", .ref b, .ref b1, .ref b2])
      exact q t4 _ (s1.trans s2) (at_mkL (h := .iff) (vs := [.ref b, .ref b1, .ref b2]) ⟨rfl, upd_same⟩ ⟨⟨b, rfl, h2.tk (tk_same (s1.trans s2))⟩, ⟨b1, rfl, k1.tk (tk_same s2)⟩, ⟨b2, rfl, k2.tk (tk_same s2)⟩, trivial⟩)
  | post j x r u =>
    obtain ⟨c, d, h1, h2, h3⟩ := hA
    refine itF rfl ⟨_, rfl, a, _, _, _, rfl, rfl, SqT.of h1, at0, rfl, _, rfl, itF rfl ?_⟩
    refine inner _ fun D H' vs s1 hD k => ?_
    match vs, k with
    | [v1, v2], ⟨⟨b1, e1, k1⟩, ⟨b2, e2, k2⟩, _⟩ =>
      subst e1
      subst e2
      refine ⟨_, rfl, a, _, _, _, rfl, rfl, SqT.of (s1 _ _ h1), at0, rfl, _, rfl, itF rfl ?_⟩
      refine ⟨_, rfl, a, _, _, _, rfl, rfl, SqT.of (s1 _ _ h1), at0, rfl, _, rfl, itT rfl ?_⟩
      refine ⟨_, rfl, a, _, _, _, rfl, rfl, SqT.of (s1 _ _ h1), at2, _, rfl, D, _, _, _, rfl, rfl, SqL.of hD, at1, _, rfl, D, _, _, _, rfl, rfl, SqL.of hD, at0, sz (by show 4 ≤ 100000; decide), fun t4 ht4 => ?_⟩
      have s2 := same_new ht4 (.tup [.str "let", .str x, .ref b2, .ref b1])
      exact q t4 _ (s1.trans s2) (at_mkL (h := .lett x) (vs := [.ref b2, .ref b1]) ⟨rfl, upd_same⟩ ⟨⟨b2, rfl, k2.tk (tk_same s2)⟩, ⟨b1, rfl, k1.tk (tk_same s2)⟩, trivial⟩)
  | tell x t r =>
    obtain ⟨b, c, h1, h2, h3⟩ := hA
    refine itF rfl ⟨_, rfl, a, _, _, _, rfl, rfl, SqT.of h1, at0, rfl, _, rfl, itF rfl ?_⟩
    refine inner _ fun D H' vs s1 hD k => ?_
    match vs, k with
    | [v1], ⟨⟨b1, e1, k1⟩, _⟩ =>
      subst e1
      refine ⟨_, rfl, a, _, _, _, rfl, rfl, SqT.of (s1 _ _ h1), at0, rfl, _, rfl, itF rfl ?_⟩
      refine ⟨_, rfl, a, _, _, _, rfl, rfl, SqT.of (s1 _ _ h1), at0, rfl, _, rfl, itF rfl ?_⟩
      refine ⟨_, rfl, a, _, _, _, rfl, rfl, SqT.of (s1 _ _ h1), at1, ?_⟩
      refine ⟨_, rfl, a, _, _, _, rfl, rfl, SqT.of (s1 _ _ h1), at2, _, rfl, a, _, _, _, rfl, rfl, SqT.of (s1 _ _ h1), at2, sz (by show 2 ≤ 100000; decide), fun t2 ht2 => ?_⟩
      have s2 := same_new ht2 (.tup [.str "tell", .ref b])
      refine ⟨sz (by show 2 ≤ 100000; decide), fun l2 hl2 => ?_⟩
      have s3 := same_new hl2 (.lst [.ref b, .ref t2])
      have s23 := s2.trans s3
      refine ⟨_, rfl, a, _, _, _, rfl, rfl, SqT.of (s23 _ _ (s1 _ _ h1)), at0, rfl, .inr ⟨_, rfl, l2, _, _, _, rfl, rfl, SqL.of upd_same, at1, _, rfl, D, _, _, _, rfl, rfl, SqL.of (s23 _ _ hD), at0, sz (by show 4 ≤ 100000; decide), fun t4 ht4 => ?_⟩⟩
      have s4 := same_new ht4 (.tup [.str "let", .str x, .ref t2, .ref b1])
      have s24 := s23.trans s4
      have m2 := at_mkL (h := .tell) (vs := [.ref b]) (ts := [t]) ⟨rfl, (s3.trans s4) _ _ upd_same⟩ ⟨⟨b, rfl, h2.tk (tk_same (s1.trans s24))⟩, trivial⟩
      exact q t4 _ (s1.trans s24) (at_mkL (h := .lett x) (vs := [.ref t2, .ref b1]) ⟨rfl, upd_same⟩ ⟨⟨t2, rfl, m2⟩, ⟨b1, rfl, k1.tk (tk_same s24)⟩, trivial⟩)
  | lett x t r =>
    obtain ⟨b, c, h1, h2, h3⟩ := hA
    refine itF rfl ⟨_, rfl, a, _, _, _, rfl, rfl, SqT.of h1, at0, rfl, _, rfl, itF rfl ?_⟩
    refine inner _ fun D H' vs s1 hD k => ?_
    match vs, k with
    | [v1], ⟨⟨b1, e1, k1⟩, _⟩ =>
      subst e1
      refine ⟨_, rfl, a, _, _, _, rfl, rfl, SqT.of (s1 _ _ h1), at0, rfl, _, rfl, itF rfl ?_⟩
      refine ⟨_, rfl, a, _, _, _, rfl, rfl, SqT.of (s1 _ _ h1), at0, rfl, _, rfl, itF rfl ?_⟩
      refine ⟨_, rfl, a, _, _, _, rfl, rfl, SqT.of (s1 _ _ h1), at1, ?_⟩
      refine ⟨_, rfl, a, _, _, _, rfl, rfl, SqT.of (s1 _ _ h1), at2, _, rfl, a, _, _, _, rfl, rfl, SqT.of (s1 _ _ h1), at2, sz (by show 2 ≤ 100000; decide), fun t2 ht2 => ?_⟩
      have s2 := same_new ht2 (.tup [.str "tell", .ref b])
      refine ⟨sz (by show 2 ≤ 100000; decide), fun l2 hl2 => ?_⟩
      have s3 := same_new hl2 (.lst [.ref b, .ref t2])
      have s23 := s2.trans s3
      refine ⟨_, rfl, a, _, _, _, rfl, rfl, SqT.of (s23 _ _ (s1 _ _ h1)), at0, rfl, .inr ⟨_, rfl, l2, _, _, _, rfl, rfl, SqL.of upd_same, at0, _, rfl, D, _, _, _, rfl, rfl, SqL.of (s23 _ _ hD), at0, sz (by show 4 ≤ 100000; decide), fun t4 ht4 => ?_⟩⟩
      have s4 := same_new ht4 (.tup [.str "let", .str x, .ref b, .ref b1])
      have s24 := s23.trans s4
      exact q t4 _ (s1.trans s24) (at_mkL (h := .lett x) (vs := [.ref b, .ref b1]) ⟨rfl, upd_same⟩ ⟨⟨b, rfl, h2.tk (tk_same (s1.trans s24))⟩, ⟨b1, rfl, k1.tk (tk_same s24)⟩, trivial⟩)
theorem no_Lback {f : Addr} {fd : FuncData} : FnOk P w K mg base CX0 1 f fd ["part"] (spLBack 0) := by
  have no : ∀ vs H Q E, ¬ spLBack 0 vs H Q E := fun vs H Q E h => by
    obtain ⟨a, p, _, _, h0, _⟩ := h
    have := pcnt_inn p
    omega
  exact ⟨fun vs H Q E h => absurd h (no vs H Q E), fun A outer s H args us vs Q E _ _ _ _ h => absurd h (no vs H Q E)⟩
theorem all_Lback (T : Txt K mg) {f f1 : Addr} {fd d1 : FuncData} (F : Fun K "_law_back" "_law_back" s_law_back f fd) (R_law_back : Ref K mg "_law_back" f fd ["part"])
    (G_law_inner : FnOk P w K mg base CX0 1 f1 d1 ["part"] spInn) (R_law_inner : Ref K mg "_law_inner" f1 d1 ["part"]) : ∀ n : Nat, FnOk P w K mg base CX0 (n + 1) f fd ["part"] (spLBack n)
  | 0 => no_Lback
  | n + 1 => ok_Lback T F (all_Lback T F R_law_back G_law_inner R_law_inner n) R_law_back G_law_inner R_law_inner
/-! ### _law_back_book -/
def spLBackB : Sp := fun vs H Q _ => ∃ (p : Addr) (es : List TEr) (us : List V), vs = [.ref p] ∧ TBkAt H es us p ∧ es.length ≤ 6 ∧ (∀ e ∈ es, pcnt e.2.2 ≤ 161 ∧ wfP e.2.2) ∧ ∀ p' us' H', Same H H' → BkAt H' (backB es) us' p' → Q (.ref p') H'
abbrev s_law_back_book : Stmt := top 67
theorem scLback_book : FnScope ["other", "name", "names", "part"] ["other"] (defScope s_law_back_book) := ⟨rfl, rfl, rfl, by decide +kernel, rfl, by decide +kernel, by decide +kernel⟩
theorem ok_Lbackb (T : Txt K mg) {f f1 : Addr} {fd d1 : FuncData} (F : Fun K "_law_back_book" "_law_back_book" s_law_back_book f fd) (G_law_back : FnOk P w K mg base CX0 162 f1 d1 ["part"] (spLBack 161)) (R_law_back : Ref K mg "_law_back" f1 d1 ["part"]) : FnOk P w K mg base CX0 163 f fd ["other"] spLBackB := by
  refine F.ok scLback_book (fun vs H Q E h => ?_) (fun cdv A outer s H vs Q E hr h => ?_)
  · obtain ⟨p, es, us, rfl, _⟩ := h
    rfl
  obtain ⟨p, es, us, rfl, hB1, hl6, hc, q1⟩ := h
  refine ⟨_, (pss_one (ps_ret (pe_callTy call_tuple_of (by rfl) T.m_tuple (by decide +kernel) (pa_cons (pe_lc (own := [("name", 1), ("names", 2), ("part", 3)]) (g := gTup K 3 (gCons (gName 1) (gCons (gName 2) (gCons (gName 3) gNil)))) (by rfl) scLback_book.nd (pi_tup (pv 0)) (blkOk_by (own := [("name", 1), ("names", 2), ("part", 3)]) (N := ["other", "name", "names", "part"]) (sc := defScope s_law_back_book) (by decide +kernel)) (fun _ _ _ _ _ => (pg_tup rfl (pgs_cons (pg_name (i := 1) scLback_book.nd rfl (Or.inl rfl)) (pgs_cons (pg_name (i := 2) scLback_book.nd rfl (Or.inl rfl)) (pgs_cons (pg_name (i := 3) scLback_book.nd rfl (Or.inl rfl)) pgs_nil))))) (fun _ _ _ _ _ => pts_nil) (fun _ _ _ _ _ => (pe_tup (pa_cons (pv 1) (pa_cons (pv 2) (pa_cons (pe_call G_law_back hr rfl R_law_back.m R_law_back.k R_law_back.b .nil pass0 (pa_cons (pv 3) pa_nil)) pa_nil)))))) pa_nil)))), ?_⟩
  refine ⟨_, rfl, p, rfl, ⟨_, SqT.of hB1.1⟩, fun D hD => lc_tup (K := K) (a := p) (xs := us) (fun i H' => Same H H' ∧ ∃ acc, H' D = some (.lst acc) ∧ All2 (ErV H') (backB (es.take i)) acc) ⟨same_new hD _, [], upd_same, by rw [List.take_zero]; trivial⟩ ?_ ?_ ?_⟩
  · rintro i H' _ ⟨s2, _⟩
    exact SqT.of (s2 _ _ hB1.1)
  · rintro i x H2 hx2 ⟨s2, acc, h2, k2⟩
    obtain ⟨e, he, qa, r, b, rfl, g1, g2, g3⟩ := hB1.2.get hx2
    have hee := mem_of_get he
    obtain ⟨hc1, hc3⟩ := hc e hee
    obtain ⟨hj, hj2⟩ := List.getElem?_eq_some_iff.mp he
    have hle := k2.len
    unfold backB at hle
    rw [List.length_map, List.length_take] at hle
    refine ⟨qa, _, rfl, SqT.of (s2 _ _ g1), rfl, _, _, rfl, _, _, rfl, _, _, rfl, rfl, rfl, ?_⟩
    dsimp only [tYes]
    refine iteT ⟨_, rfl, _, rfl, _, rfl, b, e.2.2, rfl, g3.tk (tk_same s2), hc1, hc3, fun b3 H3 s3 hb3 => ?_⟩
    refine ⟨sz (by show 3 ≤ 100000; decide), fun t3 ht3 => ?_⟩
    have s4 := same_new ht3 (.tup [.str e.1, .ref r, .ref b3])
    have s34 := s3.trans s4
    have h4 := s34 _ _ h2
    have tk := tk_put (o := .lst (acc ++ [.ref t3])) h4
    refine ⟨acc, h4, Nat.lt_of_le_of_lt (m := 100) (by omega) (by decide), same_mut (s2.trans s34) hD, _, upd_same, ?_⟩
    have eT : backB (es.take (i + 1)) = backB (es.take i) ++ [(e.1, e.2.1, backT e.2.2)] := by
      unfold backB
      rw [List.take_succ_eq_append_getElem hj, hj2, List.map_append]
      rfl
    rw [eT]
    exact ((k2.imp fun _ _ z => ErV.tk (tk_same s34) z).imp fun _ _ z => z.tk tk).app ⟨⟨t3, r, b3, rfl, tk _ _ upd_same, tk _ _ ((s2.trans s34) _ _ g2), At.tk ((tk_same s4).trans tk) hb3⟩, trivial⟩
  · rintro H2 ⟨s2, acc, h2, k2⟩
    rw [hB1.2.len, List.take_length] at k2
    refine ⟨D, acc, rfl, .inl ⟨SqL.of h2, fun p' hp' => ?_⟩⟩
    have s3 := same_new hp' (.tup acc)
    exact q1 p' acc _ (s2.trans s3) ⟨upd_same, k2.imp fun _ _ z => ErV.tk (tk_same s3) z⟩
/-! ### _law_is_neat -/
def spLNeat : Sp := fun vs H Q _ => ∃ (p : Addr) (es : List TEr) (us : List V), vs = [.ref p] ∧ TBkAt H es us p ∧ (∀ e ∈ es, pcnt e.2.2 ≤ 161 ∧ isW e.1 = true) ∧ ∀ H', Same H H' → Q (.bl (neatB es)) H'
abbrev s_law_is_neat : Stmt := top 66
theorem scLis_neat : FnScope ["other", "name", "names", "part", "place", "one"] ["other"] (defScope s_law_is_neat) := ⟨rfl, rfl, rfl, by decide +kernel, rfl, by decide +kernel, by decide +kernel⟩
theorem ok_Lneat {f f1 f2 : Addr} {fd d1 d2 : FuncData} (F : Fun K "_law_is_neat" "_law_is_neat" s_law_is_neat f fd) (G_law_tplaces : FnOk P w K mg base CX0 162 f1 d1 ["part", "place"] (spTPl 161)) (R_law_tplaces : Ref K mg "_law_tplaces" f1 d1 ["part", "place"])
    (G_law_bent_first : FnOk P w K mg base CX0 163 f2 d2 ["turned"] spLBF) (R_law_bent_first : Ref K mg "_law_bent_first" f2 d2 ["turned"]) : FnOk P w K mg base CX0 164 f fd ["other"] spLNeat := by
  refine F.ok scLis_neat (fun vs H Q E h => ?_) (fun cdv A outer s H vs Q E hr h => ?_)
  · obtain ⟨p, es, us, rfl, _⟩ := h
    rfl
  obtain ⟨p, es, us, rfl, hB, hc, q⟩ := h
  refine ⟨_, (pss_cons (ps_for PassesOwn.never rfl (pi_tup (pv 0)) (pg_tup rfl (pgs_cons (pg_name (i := 1) scLis_neat.nd rfl (Or.inl rfl)) (pgs_cons (pg_name (i := 2) scLis_neat.nd rfl (Or.inl rfl)) (pgs_cons (pg_name (i := 3) scLis_neat.nd rfl (Or.inl rfl)) pgs_nil)))) (pss_one (ps_for PassesOwn.never rfl (pi_list (pe_call G_law_tplaces (hr.mono (by omega)) rfl R_law_tplaces.m R_law_tplaces.k R_law_tplaces.b .nil pass0 (pa_cons (pv 3) (pa_cons (pe_tup pa_nil) pa_nil)))) (pg_tup rfl (pgs_cons (pg_name (i := 4) scLis_neat.nd rfl (Or.inl rfl)) (pgs_cons (pg_name (i := 5) scLis_neat.nd rfl (Or.inl rfl)) pgs_nil))) (pss_one (ps_if (PW.pt (pw_and (pt_cmpR op_eq (pe_ix ix_tup (pv 5) pe_int (fun _ _ => rfl)) pe_str (nomark _)) (pw_and1 (pt_cmpR op_notIn_seq (pe_ix ix_tup (pe_ix ix_tup (pv 5) pe_int (fun _ _ => rfl)) pe_int (fun _ _ => rfl)) (pe_tup (pa_cons pe_str (pa_cons pe_str pa_nil))) rfl)))) (pss_one (ps_ret pe_bl)) pss_nil)))))
    (pss_one (ps_ret (pe_cmpR op_isN (pe_call G_law_bent_first (hr.mono (by omega)) rfl R_law_bent_first.m R_law_bent_first.k R_law_bent_first.b .nil pass0 (pa_cons (pv 0) pa_nil)) pe_non (nomark _))))), ?_⟩
  refine ⟨_, rfl, p, rfl, ⟨_, SqT.of hB.1⟩, for_tup (xs := us) (fun i σ H' => ∃ o1 o2 o3 o4 o5, σ = [some (.ref p), o1, o2, o3, o4, o5] ∧ Same H H' ∧ ((es.take i).all fun e => neatP e.2.2) = true) ?_ ?_ ?_ ?_⟩
  · exact ⟨_, _, _, _, _, rfl, Same.refl H, rfl⟩
  · rintro i σ H' _ ⟨o1, o2, o3, o4, o5, rfl, s2, _⟩
    exact SqT.of (s2 _ _ hB.1)
  · rintro i x σ H2 hx ⟨o1, o2, o3, o4, o5, rfl, s2, hall⟩
    obtain ⟨e, he, qa, r, b, rfl, g1, g2, g3⟩ := hB.2.get hx
    have hee := mem_of_get he
    obtain ⟨hj, hj2⟩ := List.getElem?_eq_some_iff.mp he
    obtain ⟨hc1, hc2⟩ := hc e hee
    refine ⟨qa, _, rfl, SqT.of (s2 _ _ g1), rfl, _, _, rfl, _, _, rfl, _, _, rfl, rfl, ?_⟩
    refine ⟨_, rfl, sz (by show 0 ≤ 100000; decide), fun t0 ht0 => ?_⟩
    have s3 := same_new ht0 (.tup [])
    refine ⟨b, t0, e.2.2, [], rfl, (g3.tk (tk_same s2)).tk (tk_same s3), upd_same, hc1, by show 0 + _ ≤ 2000; omega, fun pl H4 its hpl s4 h4 k4 => ?_⟩
    have s24 := s2.trans (s3.trans s4)
    have fin : ∀ (σ : St) (H' : Hp), neatP e.2.2 = false → Same H H' → Q (.bl false) H' := fun σ H' hn s => by
      have qq := q H' s
      have e9 : neatB es = false := by
        unfold neatB
        have : (es.all fun e => neatP e.2.2) = false := by
          rw [List.all_eq_false]
          exact ⟨e, hee, by rw [hn]; exact Bool.false_ne_true⟩
        rw [this, Bool.and_false]
      rw [e9] at qq
      exact qq
    refine ⟨pl, rfl, ⟨_, SqL.of h4⟩, for_list (K := K) (a := pl) (xs := its) (fun i σ H' => ∃ o4 o5, σ = [some (.ref p), some (.str e.1), some (.ref r), some (.ref b), o4, o5] ∧ Same H4 H' ∧ (((prL e.2.2).take i).all fun m => ntP m.2) = true) ?_ ?_ ?_ ?_⟩
    · exact ⟨_, _, rfl, Same.refl _, rfl⟩
    · rintro i σ H' _ ⟨o4, o5, rfl, s5, _⟩
      exact SqL.of (s5 _ _ h4)
    · rintro i x σ H5 hx2 ⟨o4, o5, rfl, s5, hall2⟩
      obtain ⟨m, hm, q1, r1, b1, rfl, w1, w2, w3⟩ := k4.get hx2
      obtain ⟨hk, hk2⟩ := List.getElem?_eq_some_iff.mp hm
      have hcu : PAt H5 m.2 b1 := PAt.tk (tk_same s5) w3
      obtain ⟨rd, hd⟩ := hcu.head
      refine ⟨q1, _, rfl, SqT.of (s5 _ _ w1), rfl, _, _, rfl, _, _, rfl, rfl, ?_⟩
      refine ⟨_, rfl, b1, _, _, _, rfl, rfl, SqT.of hd, at0, rfl, _, rfl, ?_⟩
      rw [hsP_post]
      have good : ntP m.2 = true → (((prL e.2.2).take (i + 1)).all fun m => ntP m.2) = true := fun z => by
        rw [List.take_succ_eq_append_getElem hk, hk2, List.all_append, hall2, List.all_cons, z]
        rfl
      cases hp : isPost m.2 with
      | false => exact iteF (itF rfl ⟨_, _, rfl, s5, good (by cases hm2 : m.2 <;> first | rfl | (rw [hm2] at hp; cases hp))⟩)
      | true =>
        obtain ⟨mp, mq⟩ := m
        cases mq with
        | post j x p2 u2 =>
          obtain ⟨c1, c2, w4, w5, w6⟩ : PAt H5 (.post j x p2 u2) b1 := hcu
          obtain ⟨rd2, hd2⟩ := PAt.head w6
          refine iteT ⟨_, rfl, b1, _, _, _, rfl, rfl, SqT.of w4, at_of (j := 4) rfl rfl, c2, _, _, _, rfl, rfl, SqT.of hd2, at0, sz (by show 2 ≤ 100000; decide), fun t ht => ?_⟩
          have s6 := same_new ht (.tup [.str "ask", .str "if"])
          refine ⟨t, _, rfl, .inr (SqT.of upd_same), rfl, rfl, _, rfl, ?_⟩
          rw [hsP_ai]
          cases ha : isAI u2 with
          | true => exact itF rfl ⟨_, _, rfl, s5.trans s6, good ha⟩
          | false =>
            refine itT rfl (fin [] _ ?_ (s24.trans (s5.trans s6)))
            rw [← neat_prL, List.all_eq_false]
            exact ⟨_, mem_of_get hm, by show ¬ isAI u2 = true; rw [ha]; exact Bool.false_ne_true⟩
        | _ => cases hp
    · rintro σ H5 ⟨o4, o5, rfl, s5, hall2⟩
      rw [k4.len, List.take_length, neat_prL] at hall2
      refine ⟨_, _, _, _, _, rfl, s24.trans s5, ?_⟩
      rw [List.take_succ_eq_append_getElem hj, hj2, List.all_append, hall, List.all_cons, hall2]
      rfl
  · rintro σ H2 ⟨o1, o2, o3, o4, o5, rfl, s2, hall⟩
    rw [hB.2.len, List.take_length] at hall
    refine ⟨_, rfl, p, es, us, rfl, hB.tk (tk_same s2), hc, fun v H3 s3 hv => ?_⟩
    have qq := q _ (s2.trans s3)
    unfold neatB at qq
    rw [hall, Bool.and_true] at qq
    cases hb : bentB es with
    | none =>
      rw [hb] at hv qq
      have e0 : v = .non := hv
      subst e0
      exact ⟨rfl, qq⟩
    | some x =>
      rw [hb] at hv qq
      obtain ⟨rr, rfl, _⟩ : PlS H3 x v := hv
      refine ⟨rfl, ?_⟩
      rw [decide_eq_false (by intro z; cases z)]
      exact qq
end
end KB

namespace KB
open PySem L2 HT

/-! ### heights and depths -/
theorem le_depthAll {d : PyData} : ∀ {ds : List PyData}, d ∈ ds → d.depth ≤ PySem.PyData.depthAll ds
  | [], h => nomatch h
  | a :: r, h => by
    show d.depth ≤ max a.depth (PySem.PyData.depthAll r)
    rcases List.mem_cons.mp h with z | z
    · rw [z]; exact Nat.le_max_left _ _
    · exact Nat.le_trans (le_depthAll z) (Nat.le_max_right _ _)
theorem depth_in {d : PyData} {ds : List PyData} (h : d ∈ ds) : d.depth + 1 ≤ (PyData.tuple ds).depth := Nat.succ_le_succ (le_depthAll h)
theorem depth_kid {h : Hd} {ds : List PyData} {d : PyData} (hd : d ∈ ds) (ha : arH h ds.length) : d.depth + 1 ≤ (pdH h ds).depth := by
  cases h with
  | num z => have e : ds.length = 0 := ha
             rw [List.length_eq_zero_iff.mp e] at hd
             cases hd
  | nam z => have e : ds.length = 0 := ha
             rw [List.length_eq_zero_iff.mp e] at hd
             cases hd
  | lett x => exact depth_in (List.mem_cons_of_mem _ (List.mem_cons_of_mem _ hd))
  | ask f => exact Nat.le_trans (Nat.le_of_succ_le (Nat.succ_le_succ (depth_in hd))) (depth_in (d := .tuple ds) (by simp))
  | _ => exact depth_in (List.mem_cons_of_mem _ hd)
theorem ht_depth : ∀ {n : Nat} {t : Tm}, arT t → (pd t).depth ≤ n → HtLe n t := by
  intro n
  induction n with
  | zero =>
    intro t _ h
    obtain ⟨hd, m, k⟩ := t
    exfalso
    have h : (pdH hd _).depth ≤ 0 := h
    cases hd <;> exact absurd h (by show ¬ (_ + 1 ≤ 0); omega)
  | succ n ih =>
    intro t ha h
    obtain ⟨hd, m, k⟩ := t
    intro i
    refine ih (ha.2 i) ?_
    have := depth_kid (h := hd) (ds := List.ofFn fun i => pd (k i)) (d := pd (k i)) (List.mem_ofFn.mpr ⟨i, rfl⟩) (by rw [List.length_ofFn]; exact ha.1)
    have h : (pdH hd (List.ofFn fun i => pd (k i))).depth ≤ n + 1 := h
    omega
theorem HtLe.kid {n : Nat} {t u : Tm} (h : HtLe (n + 1) t) (m : u ∈ kidsT t) : HtLe n u := by
  obtain ⟨hd, k, c⟩ := t
  obtain ⟨i, rfl⟩ := List.mem_ofFn.mp m
  exact h i
/-! ### a term with other words -/
def calH (g : Str → Str) : Hd → Hd
  | .nam x => .nam (g x)
  | .lett x => .lett (g x)
  | h => h
def calT (g : Str → Str) : Tm → Tm
  | .mk h n k => mkL (calH g h) (List.ofFn fun i => calT g (k i))
theorem calT_eq (g : Str → Str) (t : Tm) : calT g t = mkL (calH g (hdT t)) ((kidsT t).map (calT g)) := by
  cases t with
  | mk h n k =>
    show mkL (calH g h) (List.ofFn fun i => calT g (k i)) = mkL (calH g h) ((List.ofFn k).map (calT g))
    rw [List.map_ofFn]
    rfl
theorem depthAll_eq : ∀ {ds es : List PyData}, ds.map PyData.depth = es.map PyData.depth → PySem.PyData.depthAll ds = PySem.PyData.depthAll es
  | [], [], _ => rfl
  | d :: ds, e :: es, h => by
    obtain ⟨h1, h2⟩ := List.cons.inj h
    show max d.depth (PySem.PyData.depthAll ds) = max e.depth (PySem.PyData.depthAll es)
    rw [h1, depthAll_eq h2]
  | [], _ :: _, h => nomatch h
  | _ :: _, [], h => nomatch h
theorem depth_tup_eq {ds es : List PyData} (h : ds.map PyData.depth = es.map PyData.depth) : (PyData.tuple ds).depth = (PyData.tuple es).depth := congrArg (· + 1) (depthAll_eq h)
theorem depth_cal {g : Str → Str} : ∀ t : Tm, (pd (calT g t)).depth = (pd t).depth := by
  intro t
  induction t with
  | mk h n k ih =>
    show (pd (mkL (calH g h) (List.ofFn fun i => calT g (k i)))).depth = (pdH h (List.ofFn fun i => pd (k i))).depth
    rw [pd_mkL]
    have e : ((List.ofFn fun i => calT g (k i)).map pd).map PyData.depth = (List.ofFn fun i => pd (k i)).map PyData.depth := by
      rw [List.map_ofFn, List.map_ofFn, List.map_ofFn]
      congr 1
      funext i
      exact ih i
    generalize (List.ofFn fun i => calT g (k i)).map pd = ds at e ⊢
    generalize (List.ofFn fun i => pd (k i)) = es at e ⊢
    cases h with
    | num z => rfl
    | nam z => exact depth_tup_eq rfl
    | lett x => exact depth_tup_eq (by show (0 :: 0 :: ds.map PyData.depth) = (0 :: 0 :: es.map PyData.depth); rw [e])
    | ask f => exact depth_tup_eq (by show [0, 0, (PyData.tuple ds).depth] = [0, 0, (PyData.tuple es).depth]; rw [depth_tup_eq e])
    | plus => exact depth_tup_eq (by show (0 :: ds.map PyData.depth) = (0 :: es.map PyData.depth); rw [e])
    | less => exact depth_tup_eq (by show (0 :: ds.map PyData.depth) = (0 :: es.map PyData.depth); rw [e])
    | tell => exact depth_tup_eq (by show (0 :: ds.map PyData.depth) = (0 :: es.map PyData.depth); rw [e])
    | iff => exact depth_tup_eq (by show (0 :: ds.map PyData.depth) = (0 :: es.map PyData.depth); rw [e])
theorem mem_sm {h : Hd → Nat} {ts : List Tm} {t : Tm} (m : t ∈ ts) : tmH h t ≤ sm (tmH h) ts := by
  induction ts with
  | nil => cases m
  | cons a r ih =>
    rw [sm_cons]
    rcases List.mem_cons.mp m with z | z
    · rw [z]; omega
    · have := ih z; omega
theorem kid_sm {h : Hd → Nat} {t u : Tm} (m : u ∈ kidsT t) : tmH h u ≤ tmH h t := by
  rw [tmH_kids h t]
  have := mem_sm (h := h) m
  omega
/-- y stands in t, as a name or as a let's word -/
def WIn (y : Str) (t : Tm) : Prop := 0 < tmH (hU y) t ∨ 0 < tmH (hB y) t
theorem WIn.kid {y : Str} {t u : Tm} (m : u ∈ kidsT t) (h : WIn y u) : WIn y t := by
  have h1 := kid_sm (h := hU y) m
  have h2 := kid_sm (h := hB y) m
  rcases h with z | z
  · exact .inl (by omega)
  · exact .inr (by omega)
theorem WIn.nam {y : Str} {t : Tm} (h : hdT t = .nam y) : WIn y t := .inl (by
  rw [tmH_kids, h]
  have : hU y (.nam y) = 1 := if_pos rfl
  omega)
theorem WIn.lett {y : Str} {t : Tm} (h : hdT t = .lett y) : WIn y t := .inr (by
  rw [tmH_kids, h]
  have : hB y (.lett y) = 1 := if_pos rfl
  omega)
theorem ok_cal {g : Str → Str} : ∀ {t : Tm}, okT t → (∀ y, WIn y t → isW (g y) = true) → okT (calT g t) := by
  intro t
  induction t with
  | mk h n k ih =>
    intro o hg
    show okT (mkL (calH g h) (List.ofFn fun i => calT g (k i)))
    refine ok_mkL ?_ fun t ht => ?_
    · cases h with
      | nam x => exact hg x (WIn.nam rfl)
      | lett x => exact hg x (WIn.lett rfl)
      | num z => exact o.1
      | ask f => exact o.1
      | _ => trivial
    · obtain ⟨i, rfl⟩ := List.mem_ofFn.mp ht
      exact ih i (o.2 i) fun y hy => hg y (WIn.kid (List.mem_ofFn.mpr ⟨i, rfl⟩) hy)
theorem cnt_cal {g : Str → Str} : ∀ t : Tm, cnt (calT g t) = cnt t := by
  intro t
  induction t with
  | mk h n k ih =>
    show cnt (mkL (calH g h) (List.ofFn fun i => calT g (k i))) = _
    rw [cnt_mkL, cnt_mk]
    congr 1
    show ((List.ofFn fun i => calT g (k i)).map cnt).sum = ((List.ofFn k).map cnt).sum
    rw [List.map_ofFn, List.map_ofFn]
    congr 2
    funext i
    exact ih i
theorem lets_in {y : Str} : ∀ {t : Tm}, 0 < tmH (hB y) t → y ∈ letsOf t := by
  intro t
  induction t with
  | mk h n k ih =>
    intro hp
    rw [lets_mk]
    rw [tmH_kids] at hp
    have hp : 0 < hB y h + sm (tmH (hB y)) (List.ofFn k) := hp
    by_cases c : 0 < hB y h
    · refine List.mem_append_left _ ?_
      cases h with
      | lett x =>
        by_cases e : x = y
        · rw [e]; exact List.mem_singleton.mpr rfl
        · have : hB y (.lett x) = 0 := if_neg e
          omega
      | _ => exact absurd c (Nat.lt_irrefl 0)
    · refine List.mem_append_right _ ?_
      have hs : 0 < sm (tmH (hB y)) (List.ofFn k) := by omega
      obtain ⟨t, ht, h0⟩ : ∃ t ∈ List.ofFn k, 0 < tmH (hB y) t := by
        by_cases d : ∃ t ∈ List.ofFn k, 0 < tmH (hB y) t
        · exact d
        · have : sm (tmH (hB y)) (List.ofFn k) = 0 := sm_zero fun a ha => Nat.eq_zero_of_not_pos fun z => d ⟨a, ha, z⟩
          omega
      obtain ⟨i, rfl⟩ := List.mem_ofFn.mp ht
      exact List.mem_flatten.mpr ⟨_, List.mem_map.mpr ⟨_, ht, rfl⟩, ih i h0⟩
/-! ### words by numbers -/
def numG (ws : List Str) : Nat → Str → Str
  | 0, x => x
  | i + 1, x => if ws[i]? = some x then wordOf i else numG ws i x
theorem numG_is {ws : List Str} {x : Str} : ∀ {n : Nat}, x ∈ ws.take n → ∃ k, k < n ∧ numG ws n x = wordOf k
  | 0, h => by rw [List.take_zero] at h; cases h
  | n + 1, h => by
    by_cases c : ws[n]? = some x
    · exact ⟨n, Nat.lt_succ_self n, if_pos c⟩
    · have h2 : x ∈ ws.take n := by
        rw [List.take_add_one, List.mem_append] at h
        rcases h with z | z
        · exact z
        · cases e : ws[n]? with
          | none => rw [e] at z; cases z
          | some y =>
            rw [e] at z
            have : x = y := by simpa using z
            rw [this] at c
            exact absurd e c
      obtain ⟨k, h3, h4⟩ := numG_is h2
      exact ⟨k, by omega, by show (if ws[n]? = some x then wordOf n else numG ws n x) = _; rw [if_neg c]; exact h4⟩
section
variable {P : Program} {w : World} {K : PySem.W.Frag} {mg : Str → Option Value} {base : Heap}
/-! ### _law_parts -/
abbrev s_law_parts : Stmt := top 49
theorem scLparts : FnScope ["term"] ["term"] (defScope s_law_parts) := ⟨rfl, rfl, rfl, by decide +kernel, rfl, by decide +kernel, by decide +kernel⟩
theorem ok_Lparts (T : Txt K mg) {f : Addr} {fd : FuncData} (F : Fun K "_law_parts" "_law_parts" s_law_parts f fd) : FnOk P w K mg base CX0 1 f fd ["term"] spParts := by
  refine F.ok scLparts (fun vs H Q E h => ?_) (fun cdv A outer s H vs Q E hr h => ?_)
  · obtain ⟨a, h, xs, rfl, _⟩ := h
    rfl
  obtain ⟨a, h, xs, rfl, l, q⟩ := h
  refine ⟨_, (pss_cons (ps_if (pt_cmpR op_in_seq (pe_ix ix_tup (pv 0) pe_int (fun _ _ => rfl)) (pe_tup (pa_cons pe_str (pa_cons pe_str pa_nil))) rfl) (pss_one (ps_ret (pe_tup pa_nil))) pss_nil)
    (pss_cons (ps_if (pt_cmpR op_eq (pe_ix ix_tup (pv 0) pe_int (fun _ _ => rfl)) pe_str (nomark _)) (pss_one (ps_ret (pe_ix ix_tup (pv 0) pe_int (fun _ _ => rfl)))) pss_nil)
    (pss_one (ps_ret (pe_slice sl_tupA (pv 0) (po_some (pe_op op_add pe_int (pe_callTy call_int1 (by rfl) T.m_int (by decide +kernel) (pa_cons (pe_cmpR op_eq (pe_ix ix_tup (pv 0) pe_int (fun _ _ => rfl)) pe_str (nomark _)) pa_nil)))) po_none))))), ?_⟩
  obtain ⟨r, hd⟩ := l.head
  refine ⟨_, rfl, a, _, _, _, rfl, rfl, SqT.of hd, at0, sz (by show 2 ≤ 100000; decide), fun t ht => ?_⟩
  have s1 := same_new ht (.tup [.str "number", .str "name"])
  refine ⟨t, _, rfl, .inr (SqT.of upd_same), rfl, rfl, _, rfl, ?_⟩
  cases h with
  | num z =>
    refine itT rfl ⟨sz (by decide), fun p hp => q p _ (s1.trans (same_new hp _)) ?_⟩
    rw [l.1, upd_same]
  | nam z =>
    refine itT rfl ⟨sz (by decide), fun p hp => q p _ (s1.trans (same_new hp _)) ?_⟩
    rw [l.1, upd_same]
  | ask f =>
    obtain ⟨l1, p, l2, l3⟩ := l
    refine itF rfl ⟨_, rfl, a, _, _, _, rfl, rfl, SqT.of (s1 _ _ l2), at0, rfl, _, rfl, ?_⟩
    refine itT rfl ⟨_, rfl, a, _, _, _, rfl, rfl, SqT.of (s1 _ _ l2), at2, ?_⟩
    exact q p _ s1 (s1 _ _ l3)
  | lett x =>
    refine itF rfl ⟨_, rfl, a, _, _, _, rfl, rfl, SqT.of (s1 _ _ l.2), at0, rfl, _, rfl, ?_⟩
    refine itF rfl ⟨_, rfl, _, rfl, a, _, _, _, rfl, rfl, SqT.of (s1 _ _ l.2), at0, rfl, .inr ⟨_, rfl, _, _, rfl, rfl, _, rfl, a, _, rfl, SqT.of (s1 _ _ l.2), ?_, ?_⟩⟩
    · exact fun z => absurd z (not_whole (i := 2) (by decide) len2)
    · intro _ p hp
      refine q p _ (s1.trans (same_new hp _)) ?_
      rw [upd_same]
      exact congrArg (fun z => some (HO.tup z)) cut2
  | plus | less | tell | iff =>
    refine itF rfl ⟨_, rfl, a, _, _, _, rfl, rfl, SqT.of (s1 _ _ l.2), at0, rfl, _, rfl, ?_⟩
    refine itF rfl ⟨_, rfl, _, rfl, a, _, _, _, rfl, rfl, SqT.of (s1 _ _ l.2), at0, rfl, .inr ⟨_, rfl, _, _, rfl, rfl, _, rfl, a, _, rfl, SqT.of (s1 _ _ l.2), ?_, ?_⟩⟩
    · exact fun z => absurd z (not_whole (i := 1) (by decide) len1)
    · intro _ p hp
      refine q p _ (s1.trans (same_new hp _)) ?_
      rw [upd_same]
      exact congrArg (fun z => some (HO.tup z)) cut1

/-! ### _law_lets -/
def spLLets (n : Nat) : Sp := fun vs H Q _ => ∃ (a : Addr) (t : Tm), vs = [.ref a] ∧ At H t a ∧ HtLe n t ∧ cnt t ≤ 3000 ∧ ∀ p' H', H p' = none → Same H H' → H' p' = some (.lst ((letsOf t).map V.str)) → Q (.ref p') H'
abbrev s_law_lets : Stmt := top 56
theorem scLlets : FnScope ["term", "found", "part"] ["term"] (defScope s_law_lets) := ⟨rfl, rfl, rfl, by decide +kernel, rfl, by decide +kernel, by decide +kernel⟩
theorem ok_Llets {n : Nat} {f g : Addr} {fd gd : FuncData} (F : Fun K "_law_lets" "_law_lets" s_law_lets f fd) (G_law_lets : FnOk P w K mg base CX0 (n + 1) f fd ["term"] (spLLets n)) (R_law_lets : Ref K mg "_law_lets" f fd ["term"])
    (G_law_parts : FnOk P w K mg base CX0 1 g gd ["term"] spParts) (R_law_parts : Ref K mg "_law_parts" g gd ["term"]) : FnOk P w K mg base CX0 (n + 2) f fd ["term"] (spLLets (n + 1)) := by
  refine F.ok scLlets (fun vs H Q E h => ?_) (fun cdv A outer s H vs Q E hr h => ?_)
  · obtain ⟨a, t, rfl, _⟩ := h
    rfl
  obtain ⟨a, t, rfl, hA, hht, hz, q⟩ := h
  refine ⟨_, (pss_cons (ps_set (i := 1) scLlets.nd rfl (Or.inl rfl) (pe_ifExp (pt_cmpR op_eq (pe_ix ix_tup (pv 0) pe_int (fun _ _ => rfl)) pe_str (nomark _)) (pe_lst (pa_cons (pe_ix ix_tup (pv 0) pe_int (fun _ _ => rfl)) pa_nil)) (pe_lst pa_nil)))
    (pss_cons (ps_for PassesOwn.never rfl (pi_tup (pe_call G_law_parts (hr.mono (by omega)) rfl R_law_parts.m R_law_parts.k R_law_parts.b .nil pass0 (pa_cons (pv 0) pa_nil))) (pg_name (i := 2) scLlets.nd rfl (Or.inl rfl)) (pss_one (ps_expr (pe_bm PySem.F.plainAttrs_list PySem.F.slot_list_extend PySem.F.type_list_extend mt_extend (pv 1) (pa_cons (pe_call G_law_lets hr rfl R_law_lets.m R_law_lets.k R_law_lets.b .nil pass0 (pa_cons (pv 2) pa_nil)) pa_nil)))))
    (pss_one (ps_ret (pv 1))))), ?_⟩
  obtain ⟨h, m, k⟩ := t
  obtain ⟨ys, l, hk⟩ := hA
  rw [cnt_mk] at hz
  have kk : Stk H (Rfs ys) (List.ofFn k) := Stk.fn hk
  have rest : ∀ fl, H fl = none → (tSeq (tFor (iTup K (tCall spParts [] E0 (tCons (tVar 0) tNil))) (gName 2) (tDrop (tBM K "list" rExtend (tVar 1) (tCons (tCall (spLLets n) [] E0 (tCons (tVar 2) tNil)) tNil)))) (tRet (tVar 1)))
      { nx := fun x H' => Q V.non H', rt := Q } [some (.ref a), some (.ref fl), none] (upd H fl (.lst ((hdLets h).map V.str))) := by
    intro fl hfl
    have s0 := same_new hfl (.lst ((hdLets h).map V.str))
    refine ⟨_, rfl, a, h, _, rfl, l.mono s0, fun pp H1 s1 h1 => ?_⟩
    have f1 := s1 _ _ (upd_same (H := H) (a := fl) (o := .lst ((hdLets h).map V.str)))
    have s01 := s0.trans s1
    refine ⟨pp, rfl, ⟨_, SqT.of h1⟩, for_tup (xs := Rfs ys) (fun i σ H' => ∃ o, σ = [some (.ref a), some (.ref fl), o] ∧ Same H H' ∧ H' pp = some (.tup (Rfs ys)) ∧ H' fl = some (.lst ((hdLets h ++ letsL ((List.ofFn k).take i)).map V.str))) ?_ ?_ ?_ ?_⟩
    · refine ⟨_, rfl, s01, h1, ?_⟩
      rw [List.take_zero, f1]
      show _ = some (HO.lst ((hdLets h ++ []).map V.str))
      rw [List.append_nil]
    · rintro i σ H' _ ⟨o, rfl, s2, g1, _⟩
      exact SqT.of g1
    · rintro i x σ H2 hx ⟨o, rfl, s2, g1, g2⟩
      obtain ⟨ti, hti, b, rfl, hb⟩ := kk.get hx
      have hmem := mem_of_get hti
      have hct := cnt_mem hmem
      refine ⟨_, rfl, .inl ⟨rfl, _, SqL.of g2⟩, _, rfl, b, ti, rfl, hb.mono s2, (by obtain ⟨ii, e⟩ := List.mem_ofFn.mp hmem; rw [← e]; exact hht ii), by omega, fun p4 H4 hp4 s6 h4 => ?_⟩
      have f4 := s6 _ _ g2
      have e1 := lets_len ti
      have e2 : (letsL ((List.ofFn k).take i)).length ≤ 3000 := by
        have e3 : (letsL ((List.ofFn k).take i)).length ≤ cnts ((List.ofFn k).take i) := by
          generalize (List.ofFn k).take i = zs
          induction zs with
          | nil => exact Nat.le_refl _
          | cons u r ih =>
            have e4 := lets_len u
            have e5 : letsL (u :: r) = letsOf u ++ letsL r := by
              unfold letsL
              rw [List.map_cons, List.flatten_cons]
            rw [e5, List.length_append, cnts_cons]
            omega
        have e4 := cnts_take (List.ofFn k) i
        omega
      have e3 : (hdLets h).length ≤ 1 := hdLets_le h
      refine ⟨fl, p4, _, _, rfl, rfl, f4, h4, sz (by rw [List.length_map, List.length_map, List.length_append]; omega), ?_⟩
      refine ⟨_, rfl, same_mut (s2.trans s6) hfl, tk_put f4 _ _ (s6 _ _ g1), ?_⟩
      rw [upd_same, letsL_take hti, ← List.map_append, List.append_assoc]
    · rintro σ H2 ⟨o, rfl, s2, g1, g2⟩
      refine ⟨_, rfl, q fl H2 hfl s2 ?_⟩
      have e : (Rfs ys).length = (List.ofFn k).length := kk.len
      rw [e, List.take_length] at g2
      rw [lets_mk]
      exact g2
  obtain ⟨r, hd⟩ := l.head
  refine ⟨_, rfl, a, _, _, _, rfl, rfl, SqT.of hd, at0, rfl, _, rfl, ?_⟩
  cases h with
  | lett x =>
    exact itT rfl ⟨_, rfl, a, _, _, _, rfl, rfl, SqT.of l.2, at1, sz (by show 1 ≤ 100000; decide), fun fl hfl => rest fl hfl⟩
  | _ => exact itF rfl ⟨sz (by show 0 ≤ 100000; decide), fun fl hfl => rest fl hfl⟩
theorem no_Llets {f : Addr} {fd : FuncData} : FnOk P w K mg base CX0 1 f fd ["term"] (spLLets 0) := by
  have no : ∀ vs H Q E, ¬ spLLets 0 vs H Q E := fun vs H Q E h => by
    obtain ⟨a, t, _, _, h0, _⟩ := h
    exact h0.elim
  exact ⟨fun vs H Q E h => absurd h (no vs H Q E), fun A outer s H args us vs Q E _ _ _ _ h => absurd h (no vs H Q E)⟩
theorem all_Llets {f g : Addr} {fd gd : FuncData} (F : Fun K "_law_lets" "_law_lets" s_law_lets f fd) (R_law_lets : Ref K mg "_law_lets" f fd ["term"])
    (G_law_parts : FnOk P w K mg base CX0 1 g gd ["term"] spParts) (R_law_parts : Ref K mg "_law_parts" g gd ["term"]) : ∀ n : Nat, FnOk P w K mg base CX0 (n + 1) f fd ["term"] (spLLets n)
  | 0 => no_Llets
  | n + 1 => ok_Llets F (all_Llets F R_law_lets G_law_parts R_law_parts n) R_law_lets G_law_parts R_law_parts

/-! ### _law_called -/
def spCalled (n : Nat) : Sp := fun vs H Q _ => ∃ (a d : Addr) (t : Tm) (kvs : List (Key × V)) (g : Str → Str), vs = [.ref a, .ref d] ∧ At H t a ∧ HtLe n t ∧ H d = some (.dK kvs) ∧ (∀ y, WIn y t → valV kvs (Sum.inr y) = some (.str (g y))) ∧
  ∀ b H', Same H H' → At H' (calT g t) b → Q (.ref b) H'
abbrev s_law_called : Stmt := top 60
theorem scLcalled : FnScope ["term", "words", "parts", "part"] ["term", "words"] (defScope s_law_called) := ⟨rfl, rfl, rfl, by decide +kernel, rfl, by decide +kernel, by decide +kernel⟩
theorem ok_Lcalled (T : Txt K mg) {n : Nat} {f f1 : Addr} {fd d1 : FuncData} (F : Fun K "_law_called" "_law_called" s_law_called f fd) (G_law_called : FnOk P w K mg base CX0 (n + 1) f fd ["term", "words"] (spCalled n)) (R_law_called : Ref K mg "_law_called" f fd ["term", "words"])
    (G_law_parts : FnOk P w K mg base CX0 1 f1 d1 ["term"] spParts) (R_law_parts : Ref K mg "_law_parts" f1 d1 ["term"]) : FnOk P w K mg base CX0 (n + 2) f fd ["term", "words"] (spCalled (n + 1)) := by
  refine F.ok scLcalled (fun vs H Q E h => ?_) (fun cdv A outer s H vs Q E hr h => ?_)
  · obtain ⟨a, d, t, kvs, g, rfl, _⟩ := h
    rfl
  obtain ⟨a, d, t, kvs, g, rfl, hA, hh, hd, hk, q⟩ := h
  refine ⟨_, (pss_cons (ps_if (pt_cmpR op_eq (pe_ix ix_tup (pv 0) pe_int (fun _ _ => rfl)) pe_str (nomark _)) (pss_one (ps_ret (pv 0))) pss_nil)
    (pss_cons (ps_if (pt_cmpR op_eq (pe_ix ix_tup (pv 0) pe_int (fun _ _ => rfl)) pe_str (nomark _)) (pss_one (ps_ret (pe_tup (pa_cons pe_str (pa_cons (pe_dget (hu_of hr) (pv 1) (pe_ix ix_tup (pv 0) pe_int (fun _ _ => rfl)) (fun _ _ => rfl)) pa_nil))))) pss_nil)
    (pss_cons (ps_set (i := 2) scLcalled.nd rfl (Or.inl rfl) (pe_callTy call_tuple_of (by rfl) T.m_tuple (by decide +kernel) (pa_cons (pe_lc (own := [("part", 3)]) (g := gName 3) (tt := tYes) (te := tCall (spCalled n) [] E0 (tCons (tVar 3) (tCons (tVar 1) tNil))) (by rfl) scLcalled.nd (pi_tup (pe_call G_law_parts (hr.mono (by omega)) rfl R_law_parts.m R_law_parts.k R_law_parts.b .nil pass0 (pa_cons (pv 0) pa_nil))) (blkOk_by (own := [("part", 3)]) (N := ["term", "words", "parts", "part"]) (sc := defScope s_law_called) (by decide +kernel)) (fun _ _ _ _ _ => (pg_name (i := 3) scLcalled.nd rfl (Or.inl rfl))) (fun _ _ _ _ _ => pts_nil) (fun _ _ _ _ _ => (pe_call G_law_called hr rfl R_law_called.m R_law_called.k R_law_called.b .nil pass0 (pa_cons (pv 3) (pa_cons (pv 1) pa_nil))))) pa_nil)))
    (pss_cons (ps_if (pt_cmpR op_eq (pe_ix ix_tup (pv 0) pe_int (fun _ _ => rfl)) pe_str (nomark _)) (pss_one (ps_ret (pe_tup (pa_cons pe_str (pa_cons (pe_ix ix_tup (pv 0) pe_int (fun _ _ => rfl)) (pa_cons (pv 2) pa_nil)))))) pss_nil)
    (pss_cons (ps_if (pt_cmpR op_eq (pe_ix ix_tup (pv 0) pe_int (fun _ _ => rfl)) pe_str (nomark _)) (pss_one (ps_ret (pe_op op_catA (pe_tup (pa_cons pe_str (pa_cons (pe_dget (hu_of hr) (pv 1) (pe_ix ix_tup (pv 0) pe_int (fun _ _ => rfl)) (fun _ _ => rfl)) pa_nil))) (pv 2)))) pss_nil)
    (pss_one (ps_ret (pe_op op_catA (pe_slice sl_tupA (pv 0) po_none (po_some pe_int)) (pv 2))))))))), ?_⟩
  obtain ⟨xs, l, kk⟩ := At.kids hA
  obtain ⟨r, hr0⟩ := l.head
  have hlen : (kidsT t).length ≤ 4 := by
    have := hA.arT.here
    unfold arN at this
    cases hh2 : hdT t <;> rw [hh2] at this <;> (have t2 : _ := this; simp only [arH] at t2; omega)
  have ecal := calT_eq g t
  have rest : ∀ (Qn : St → Hp → Prop) (H0 : Hp), Same H H0 → (∀ p H' vs, Same H H' → H' p = some (.tup vs) → All2 (RefV H') ((kidsT t).map (calT g)) vs → Qn [some (.ref a), some (.ref d), some (.ref p), none] H') →
      (tAsg (tCB (fun xs H Q => ∃ p ys, xs = [V.ref p] ∧ ((SqL K H p ys ∧ ∀ l, H l = none → Q (.ref l) (upd H l (.tup ys))) ∨ (SqT K H p ys ∧ Q (.ref p) H))) (tCons (tLc (iTup K (tCall spParts [] E0 (tCons (tVar 0) tNil))) (gName 3) tYes (tCall (spCalled n) [] E0 (tCons (tVar 3) (tCons (tVar 1) tNil))) [3]) tNil)) (gName 2)) { nx := Qn, rt := Q } [some (.ref a), some (.ref d), none, none] H0 := by
    intro Qn H0 s0 hq
    refine ⟨_, rfl, a, hdT t, xs, rfl, l.mono s0, fun pp H1 s01 h1 => ?_⟩
    have s1 := s0.trans s01
    have k1 := kk.imp fun _ _ z => RefV.tk (tk_same s1) z
    refine ⟨pp, rfl, ⟨_, SqT.of h1⟩, fun D hD => lc_tup (K := K) (a := pp) (xs := xs) (fun i H' => Same H1 H' ∧ ∃ acc, H' D = some (.lst acc) ∧ All2 (RefV H') (((kidsT t).take i).map (calT g)) acc) ⟨same_new hD _, [], upd_same, by rw [List.take_zero]; trivial⟩ ?_ ?_ ?_⟩
    · rintro i H' _ ⟨s2, _⟩
      exact SqT.of (s2 _ _ h1)
    · rintro i x H2 hx ⟨s2, acc, h2, k2⟩
      obtain ⟨u, hu, c, rfl, hcu⟩ := k1.get hx
      obtain ⟨hj, hj2⟩ := List.getElem?_eq_some_iff.mp hu
      have hmem := mem_of_get hu
      have hl2 := k2.len
      rw [List.length_map, List.length_take] at hl2
      refine ⟨rfl, ?_⟩
      dsimp only [tYes]
      refine iteT ⟨_, rfl, _, rfl, c, d, u, kvs, g, rfl, hcu.tk (tk_same s2), hh.kid hmem, (s1.trans s2) _ _ hd, fun y hy => hk y (hy.kid hmem), fun b H3 s3 hb => ?_⟩
      have h3 := s3 _ _ h2
      have tk := tk_put (o := .lst (acc ++ [.ref b])) h3
      refine ⟨acc, h3, Nat.lt_of_le_of_lt (m := 100) (by omega) (by decide), same_mut (s2.trans s3) hD, _, upd_same, ?_⟩
      rw [List.take_succ_eq_append_getElem hj, hj2, List.map_append]
      exact ((k2.imp fun _ _ z => RefV.tk (tk_same s3) z).imp fun _ _ z => RefV.tk tk z).app ⟨⟨b, rfl, hb.tk tk⟩, trivial⟩
    rintro H2 ⟨s2, acc, h2, k2⟩
    rw [k1.len, List.take_length] at k2
    refine ⟨D, acc, rfl, .inl ⟨SqL.of h2, fun p' hp' => ?_⟩⟩
    have s3 := same_new hp' (.tup acc)
    exact hq p' _ acc (s1.trans (s2.trans s3)) upd_same (k2.imp fun _ _ z => RefV.tk (tk_same s3) z)
  have word : ∀ {y : Str}, WIn y t → ∀ {H'}, Same H H' → DGet H' d (.str y) (some (.str (g y))) := fun {y} hy _ s => by
    have e := hk _ hy
    have z := DGet.k (k := Sum.inr y) (s _ _ hd)
    rw [e] at z
    exact z
  refine ⟨_, rfl, a, _, _, _, rfl, rfl, SqT.of hr0, at0, rfl, _, rfl, ?_⟩
  rw [ecal] at q
  cases hh2 : hdT t with
  | num z =>
    rw [hh2] at q l
    refine itT rfl ⟨_, rfl, q a H (Same.refl H) (at_mkL (h := .num z) l ?_)⟩
    rw [l.1] at kk ⊢
    cases e : kidsT t with
    | nil => trivial
    | cons u us => rw [e] at kk; exact kk.elim
  | nam y =>
    rw [hh2] at q l
    refine itF rfl ⟨_, rfl, a, _, _, _, rfl, rfl, SqT.of l.2, at0, rfl, _, rfl, itT rfl ?_⟩
    refine ⟨_, rfl, _, rfl, a, _, _, _, rfl, rfl, SqT.of l.2, at1, d, _, rfl, word (WIn.nam hh2) (Same.refl H), sz (by show 2 ≤ 100000; decide), fun p2 hp2 => ?_⟩
    refine q p2 _ (same_new hp2 _) (at_mkL (h := .nam (g y)) (vs := []) ⟨rfl, upd_same⟩ ?_)
    rw [l.1] at kk
    cases e : kidsT t with
    | nil => trivial
    | cons u us => rw [e] at kk; exact kk.elim
  | ask f0 =>
    rw [hh2] at q l
    obtain ⟨l4, pq, l2, l3⟩ := l
    refine itF rfl ⟨_, rfl, a, _, _, _, rfl, rfl, SqT.of l2, at0, rfl, _, rfl, itF rfl ?_⟩
    refine rest _ H (Same.refl H) fun p H' vs s1 hp k => ?_
    refine ⟨_, rfl, a, _, _, _, rfl, rfl, SqT.of (s1 _ _ l2), at0, rfl, _, rfl, itT rfl ?_⟩
    refine ⟨_, rfl, a, _, _, _, rfl, rfl, SqT.of (s1 _ _ l2), at1, _, rfl, sz (by show 3 ≤ 100000; decide), fun p2 hp2 => ?_⟩
    have s2 := same_new hp2 (.tup [.str "ask", .str f0, .ref p])
    have hl := k.len
    rw [List.length_map] at hl
    exact q p2 _ (s1.trans s2) (at_mkL (h := .ask f0) (vs := vs) ⟨by omega, p, upd_same, s2 _ _ hp⟩ (stk_of (k.imp fun _ _ z => RefV.tk (tk_same s2) z)))
  | lett y =>
    rw [hh2] at q l
    refine itF rfl ⟨_, rfl, a, _, _, _, rfl, rfl, SqT.of l.2, at0, rfl, _, rfl, itF rfl ?_⟩
    refine rest _ H (Same.refl H) fun p H' vs s1 hp k => ?_
    refine ⟨_, rfl, a, _, _, _, rfl, rfl, SqT.of (s1 _ _ l.2), at0, rfl, _, rfl, itF rfl ?_⟩
    refine ⟨_, rfl, a, _, _, _, rfl, rfl, SqT.of (s1 _ _ l.2), at0, rfl, _, rfl, itT rfl ?_⟩
    refine ⟨_, rfl, _, rfl, a, _, _, _, rfl, rfl, SqT.of (s1 _ _ l.2), at1, d, _, rfl, word (WIn.lett hh2) s1, sz (by show 2 ≤ 100000; decide), fun p2 hp2 => ?_⟩
    have s2 := same_new hp2 (.tup [.str "let", .str (g y)])
    have hl := k.len
    rw [List.length_map] at hl
    refine ⟨_, rfl, catA_of upd_same (s2 _ _ hp) (by show 2 + _ ≤ 100000; omega) fun p3 H3 s3 h3 => ?_⟩
    have hl2 : vs.length = 2 := by
      have := hA.arT.here
      unfold arN at this
      rw [hh2] at this
      have : (kidsT t).length = 2 := this
      omega
    exact q p3 H3 (s1.trans (s2.trans s3)) (at_mkL (h := .lett (g y)) (vs := vs) ⟨hl2, h3⟩ (stk_of (k.imp fun _ _ z => RefV.tk (tk_same (s2.trans s3)) z)))
  | plus =>
    rw [hh2] at q l
    refine itF rfl ⟨_, rfl, a, _, _, _, rfl, rfl, SqT.of l.2, at0, rfl, _, rfl, itF rfl ?_⟩
    refine rest _ H (Same.refl H) fun p H' vs s1 hp k => ?_
    refine ⟨_, rfl, a, _, _, _, rfl, rfl, SqT.of (s1 _ _ l.2), at0, rfl, _, rfl, itF rfl ?_⟩
    refine ⟨_, rfl, a, _, _, _, rfl, rfl, SqT.of (s1 _ _ l.2), at0, rfl, _, rfl, itF rfl ?_⟩
    have hl := k.len
    rw [List.length_map] at hl
    have hl2 : vs.length = 2 := by
      have := hA.arT.here
      unfold arN at this
      rw [hh2] at this
      have : (kidsT t).length = 2 := this
      omega
    refine ⟨_, rfl, _, rfl, a, _, rfl, SqT.of (s1 _ _ l.2), ?_, ?_⟩
    · intro z
      have z2 : 1 = (V.str "plus" :: xs).length := z.2
      rw [List.length_cons, l.1] at z2
      exact absurd z2 (by decide)
    · intro _ p2 hp2
      have e1 : cutV (V.str "plus" :: xs) none (some 1) = [V.str "plus"] := rfl
      rw [e1]
      have s2 := same_new hp2 (.tup [V.str "plus"])
      refine ⟨_, rfl, catA_of upd_same (s2 _ _ hp) (by show 1 + _ ≤ 100000; omega) fun p3 H3 s3 h3 => ?_⟩
      exact q p3 H3 (s1.trans (s2.trans s3)) (at_mkL (h := .plus) (vs := vs) ⟨hl2, h3⟩ (stk_of (k.imp fun _ _ z => RefV.tk (tk_same (s2.trans s3)) z)))
  | less =>
    rw [hh2] at q l
    refine itF rfl ⟨_, rfl, a, _, _, _, rfl, rfl, SqT.of l.2, at0, rfl, _, rfl, itF rfl ?_⟩
    refine rest _ H (Same.refl H) fun p H' vs s1 hp k => ?_
    refine ⟨_, rfl, a, _, _, _, rfl, rfl, SqT.of (s1 _ _ l.2), at0, rfl, _, rfl, itF rfl ?_⟩
    refine ⟨_, rfl, a, _, _, _, rfl, rfl, SqT.of (s1 _ _ l.2), at0, rfl, _, rfl, itF rfl ?_⟩
    have hl := k.len
    rw [List.length_map] at hl
    have hl2 : vs.length = 2 := by
      have := hA.arT.here
      unfold arN at this
      rw [hh2] at this
      have : (kidsT t).length = 2 := this
      omega
    refine ⟨_, rfl, _, rfl, a, _, rfl, SqT.of (s1 _ _ l.2), ?_, ?_⟩
    · intro z
      have z2 : 1 = (V.str "less" :: xs).length := z.2
      rw [List.length_cons, l.1] at z2
      exact absurd z2 (by decide)
    · intro _ p2 hp2
      have e1 : cutV (V.str "less" :: xs) none (some 1) = [V.str "less"] := rfl
      rw [e1]
      have s2 := same_new hp2 (.tup [V.str "less"])
      refine ⟨_, rfl, catA_of upd_same (s2 _ _ hp) (by show 1 + _ ≤ 100000; omega) fun p3 H3 s3 h3 => ?_⟩
      exact q p3 H3 (s1.trans (s2.trans s3)) (at_mkL (h := .less) (vs := vs) ⟨hl2, h3⟩ (stk_of (k.imp fun _ _ z => RefV.tk (tk_same (s2.trans s3)) z)))
  | tell =>
    rw [hh2] at q l
    refine itF rfl ⟨_, rfl, a, _, _, _, rfl, rfl, SqT.of l.2, at0, rfl, _, rfl, itF rfl ?_⟩
    refine rest _ H (Same.refl H) fun p H' vs s1 hp k => ?_
    refine ⟨_, rfl, a, _, _, _, rfl, rfl, SqT.of (s1 _ _ l.2), at0, rfl, _, rfl, itF rfl ?_⟩
    refine ⟨_, rfl, a, _, _, _, rfl, rfl, SqT.of (s1 _ _ l.2), at0, rfl, _, rfl, itF rfl ?_⟩
    have hl := k.len
    rw [List.length_map] at hl
    have hl2 : vs.length = 1 := by
      have := hA.arT.here
      unfold arN at this
      rw [hh2] at this
      have : (kidsT t).length = 1 := this
      omega
    refine ⟨_, rfl, _, rfl, a, _, rfl, SqT.of (s1 _ _ l.2), ?_, ?_⟩
    · intro z
      have z2 : 1 = (V.str "tell" :: xs).length := z.2
      rw [List.length_cons, l.1] at z2
      exact absurd z2 (by decide)
    · intro _ p2 hp2
      have e1 : cutV (V.str "tell" :: xs) none (some 1) = [V.str "tell"] := rfl
      rw [e1]
      have s2 := same_new hp2 (.tup [V.str "tell"])
      refine ⟨_, rfl, catA_of upd_same (s2 _ _ hp) (by show 1 + _ ≤ 100000; omega) fun p3 H3 s3 h3 => ?_⟩
      exact q p3 H3 (s1.trans (s2.trans s3)) (at_mkL (h := .tell) (vs := vs) ⟨hl2, h3⟩ (stk_of (k.imp fun _ _ z => RefV.tk (tk_same (s2.trans s3)) z)))
  | iff =>
    rw [hh2] at q l
    refine itF rfl ⟨_, rfl, a, _, _, _, rfl, rfl, SqT.of l.2, at0, rfl, _, rfl, itF rfl ?_⟩
    refine rest _ H (Same.refl H) fun p H' vs s1 hp k => ?_
    refine ⟨_, rfl, a, _, _, _, rfl, rfl, SqT.of (s1 _ _ l.2), at0, rfl, _, rfl, itF rfl ?_⟩
    refine ⟨_, rfl, a, _, _, _, rfl, rfl, SqT.of (s1 _ _ l.2), at0, rfl, _, rfl, itF rfl ?_⟩
    have hl := k.len
    rw [List.length_map] at hl
    have hl2 : vs.length = 3 := by
      have := hA.arT.here
      unfold arN at this
      rw [hh2] at this
      have : (kidsT t).length = 3 := this
      omega
    refine ⟨_, rfl, _, rfl, a, _, rfl, SqT.of (s1 _ _ l.2), ?_, ?_⟩
    · intro z
      have z2 : 1 = (V.str "if" :: xs).length := z.2
      rw [List.length_cons, l.1] at z2
      exact absurd z2 (by decide)
    · intro _ p2 hp2
      have e1 : cutV (V.str "if" :: xs) none (some 1) = [V.str "if"] := rfl
      rw [e1]
      have s2 := same_new hp2 (.tup [V.str "if"])
      refine ⟨_, rfl, catA_of upd_same (s2 _ _ hp) (by show 1 + _ ≤ 100000; omega) fun p3 H3 s3 h3 => ?_⟩
      exact q p3 H3 (s1.trans (s2.trans s3)) (at_mkL (h := .iff) (vs := vs) ⟨hl2, h3⟩ (stk_of (k.imp fun _ _ z => RefV.tk (tk_same (s2.trans s3)) z)))
theorem no_Lcalled {f : Addr} {fd : FuncData} : FnOk P w K mg base CX0 1 f fd ["term", "words"] (spCalled 0) := by
  have no : ∀ vs H Q E, ¬ spCalled 0 vs H Q E := fun vs H Q E h => by
    obtain ⟨a, d, t, _, _, _, _, h0, _⟩ := h
    exact h0.elim
  exact ⟨fun vs H Q E h => absurd h (no vs H Q E), fun A outer s H args us vs Q E _ _ _ _ h => absurd h (no vs H Q E)⟩
theorem all_Lcalled (T : Txt K mg) {f f1 : Addr} {fd d1 : FuncData} (F : Fun K "_law_called" "_law_called" s_law_called f fd) (R_law_called : Ref K mg "_law_called" f fd ["term", "words"])
    (G_law_parts : FnOk P w K mg base CX0 1 f1 d1 ["term"] spParts) (R_law_parts : Ref K mg "_law_parts" f1 d1 ["term"]) : ∀ n : Nat, FnOk P w K mg base CX0 (n + 1) f fd ["term", "words"] (spCalled n)
  | 0 => no_Lcalled
  | n + 1 => ok_Lcalled T F (all_Lcalled T F R_law_called G_law_parts R_law_parts n) R_law_called G_law_parts R_law_parts
end
end KB

namespace KB
open PySem L2 HT

theorem len26 : lettersS.length = 26 := by decide +kernel
theorem valV_none_nil {k : Key} : valV ([] : List (Key × V)) k = none := rfl
section
variable {P : Program} {w : World} {K : PySem.W.Frag} {mg : Str → Option Value} {base : Heap}
/-! ### _law_by_numbers -/
def spByN : Sp := fun vs H Q _ => ∃ (l : Addr) (ws : List Str), vs = [.ref l] ∧ H l = some (.lst (ws.map V.str)) ∧ ws.length ≤ 4000 ∧ ∀ d H' kvs, Same H H' → H' d = some (.dK kvs) → (∀ x ∈ ws, valV kvs (Sum.inr x) = some (.str (numG ws ws.length x))) → Q (.ref d) H'
abbrev s_law_by_numbers : Stmt := top 61
theorem scLby_numbers : FnScope ["words", "letters", "found", "k", "word", "left", "told"] ["words"] (defScope s_law_by_numbers) := ⟨rfl, rfl, rfl, by decide +kernel, rfl, by decide +kernel, by decide +kernel⟩
theorem ok_Lbyn (T : Txt K mg) {f : Addr} {fd : FuncData} (F : Fun K "_law_by_numbers" "_law_by_numbers" s_law_by_numbers f fd) : FnOk P w K mg base CX0 1 f fd ["words"] spByN := by
  refine F.ok scLby_numbers (fun vs H Q E h => ?_) (fun cdv A outer s H vs Q E hr h => ?_)
  · obtain ⟨l, ws, rfl, _⟩ := h
    rfl
  obtain ⟨l, ws, rfl, hl, hz, q⟩ := h
  refine ⟨_, (pss_cons (ps_set (i := 1) scLby_numbers.nd rfl (Or.inl rfl) pe_str)
    (pss_cons (ps_set (i := 2) scLby_numbers.nd rfl (Or.inl rfl) pe_dnewK)
    (pss_cons (ps_for PassesOwn.never rfl (pi_enum (by rfl) T.m_enumerate (pa_cons (pv 0) pa_nil)) (pg_tup rfl (pgs_cons (pg_name (i := 3) scLby_numbers.nd rfl (Or.inl rfl)) (pgs_cons (pg_name (i := 4) scLby_numbers.nd rfl (Or.inl rfl)) pgs_nil))) (pss_cons (ps_set (i := 5) scLby_numbers.nd rfl (Or.inl rfl) (pv 3))
    (pss_cons (ps_set (i := 6) scLby_numbers.nd rfl (Or.inl rfl) (pe_ix ix_str (pv 1) (pe_op op_mod (pv 5) pe_int) (fun _ _ => rfl)))
    (pss_cons (ps_while PassesOwn.never (pt_cmpR op_gt (pv 5) pe_int (nomark _)) (pss_cons (ps_set (i := 5) scLby_numbers.nd rfl (Or.inl rfl) (pe_op op_fdivW (pv 5) pe_int))
    (pss_one (ps_set (i := 6) scLby_numbers.nd rfl (Or.inl rfl) (pe_op op_add_str (pe_ix ix_str (pv 1) (pe_op op_mod (pv 5) pe_int) (fun _ _ => rfl)) (pv 6))))))
    (pss_one (ps_dput (hu_of hr) (pv 2) (pv 4) (pe_op op_add_str (pv 6) pe_str) rfl))))))
    (pss_one (ps_ret (pv 2)))))), ?_⟩
  intro d hd
  have s1 := same_new hd (.dK [])
  have d1 : upd H d (.dK []) d = some (.dK []) := upd_same
  generalize upd H d (.dK []) = H1 at s1 d1
  have nld : l ≠ d := ne_of_none hl hd
  refine ⟨_, rfl, l, ws.map V.str, rfl, SqL.of (s1 _ _ hl), for_it (walk_enum (xs := ws.map V.str)) (fun i σ H' => ∃ o3 o4 o5 o6 kvs, σ = [some (.ref l), some (.str lettersS), some (.ref d), o3, o4, o5, o6] ∧ Same H H' ∧ H' d = some (.dK kvs) ∧ kvs.length ≤ i ∧ ∀ x ∈ ws.take i, valV kvs (Sum.inr x) = some (.str (numG ws i x))) ?_ ?_ ?_ ?_⟩
  · exact ⟨none, none, none, none, [], rfl, s1, d1, Nat.le_refl _, fun x hx => by rw [List.take_zero] at hx; cases hx⟩
  · rintro i σ H' _ ⟨o3, o4, o5, o6, kvs, rfl, s2, _⟩
    exact SqL.of (s2 _ _ hl)
  · rintro i x σ H2 H3 hi ⟨o3, o4, o5, o6, kvs, rfl, s2, d2, hkl, hk⟩ ⟨T0, x1, x2, rfl, hT, rfl, e1, e2⟩
    have e1' : x1 = .int (i : Nat) := (Option.some.inj e1).symm
    subst e1'
    have e2' : (ws.map V.str)[i]? = some x2 := e2
    rw [List.getElem?_map] at e2'
    obtain ⟨y, hy, rfl⟩ : ∃ y, ws[i]? = some y ∧ V.str y = x2 := by
      cases e : ws[i]? with
      | none => rw [e] at e2'; cases e2'
      | some y => rw [e] at e2'; exact ⟨y, rfl, Option.some.inj e2'⟩
    obtain ⟨hj, hj2⟩ := List.getElem?_eq_some_iff.mp hy
    have s3 := same_new hT (.tup [.int (i : Nat), .str y])
    refine ⟨T0, _, rfl, SqT.of upd_same, rfl, _, _, rfl, _, _, rfl, rfl, ?_⟩
    have s23 := s2.trans s3
    have d3 := s3 _ _ d2
    generalize upd H2 T0 (.tup [.int (i : Nat), .str y]) = H3 at s3 s23 d3
    refine ⟨_, rfl, ?_⟩
    refine ⟨_, rfl, _, rfl, _, _, rfl, rfl, (by show (0 : Int) < 26; decide), lettersS, _, _, rfl, rfl, (by decide +kernel), letters_at (Int.emod_nonneg _ (by decide)) (Int.emod_lt_of_pos _ (by decide)), ?_⟩
    -- the letters of a number
    have hd8 : (digs i).length ≤ 9 := digs_len 8 i (Nat.lt_of_lt_of_le (show i < 4000 by rw [List.length_map] at hi; omega) (by decide))
    refine ⟨fun m σ H' => ∃ (r : Nat) (c : Nat) (t : List Nat), σ = [some (.ref l), some (.str lettersS), some (.ref d), some (.int (i : Nat)), some (.str y), some (.int (r : Int)), some (.str ⟨(c :: t).toArray⟩)] ∧ H3 = H' ∧ r / 26 = m ∧ digs0 (r / 26) ++ (c :: t) = digs i, ⟨_, i, 97 + i % 26, [], ?_, rfl, rfl, ?_⟩, ?_⟩
    · congr 7
    · exact (digs_digs0 i).symm
    rintro m σ H' ⟨r, c, t, rfl, rfl, rfl, e⟩
    refine ⟨_, rfl, _, _, rfl, rfl, _, rfl, ?_⟩
    have hll : (c :: t).length ≤ 9 := by
      have := congrArg List.length e
      rw [List.length_append] at this
      omega
    by_cases cc : r ≤ 25
    · refine itF (decide_eq_false (by omega)) ?_
      have hr0 : r / 26 = 0 := by omega
      rw [hr0] at e
      have e3 : c :: t = digs i := e
      refine ⟨_, rfl, _, _, rfl, rfl, sz (by show (c :: t).toArray.size + 1 ≤ 100000; rw [List.size_toArray]; omega), ?_⟩
      refine ⟨_, rfl, _, rfl, d, _, rfl, DPut.k (k := Sum.inr y) d3 (Nat.lt_of_le_of_lt (m := 4000) (by rw [List.length_map] at hi; omega) (by decide)), ?_⟩
      have ew : ((⟨(c :: t).toArray⟩ : Str) ++ ("q" : Str)) = wordOf i := by
        rw [e3]
        show (⟨(digs i).toArray ++ (Str.ofString "q").cps⟩ : Str) = ⟨(digs i ++ [113]).toArray⟩
        congr 1
        simp
        decide +kernel
      rw [ew]
      have hlp := length_putK kvs (Sum.inr y) (V.str (wordOf i))
      refine ⟨_, _, _, _, _, rfl, same_mut s23 hd, upd_same, by omega, fun x hx => ?_⟩
      show valV (putK kvs (Sum.inr y) (.str (wordOf i))) (Sum.inr x) = some (.str (if ws[i]? = some x then wordOf i else numG ws i x))
      rw [List.take_succ_eq_append_getElem hj, hj2] at hx
      by_cases exy : x = y
      · subst exy
        rw [valV_put, if_pos rfl, if_pos hy]
      · rw [valV_put, if_neg (fun z => exy (Sum.inr.inj z)), if_neg (by rw [hy]; intro z; exact exy (Option.some.inj z).symm)]
        rcases List.mem_append.mp hx with z | z
        · exact hk x z
        · exact absurd (List.mem_singleton.mp z) exy
    · refine itT (decide_eq_true (by omega)) ⟨fun σ' H' => ∃ m', m' < r / 26 ∧ ∃ (r : Nat) (c : Nat) (t : List Nat), σ' = [some (.ref l), some (.str lettersS), some (.ref d), some (.int (i : Nat)), some (.str y), some (.int (r : Int)), some (.str ⟨(c :: t).toArray⟩)] ∧ H3 = H' ∧ r / 26 = m' ∧ digs0 (r / 26) ++ (c :: t) = digs i, fun _ _ z => z, ?_⟩
      refine ⟨_, rfl, _, _, rfl, rfl, ⟨by decide, log_many (by decide) (by decide)⟩, ?_⟩
      refine ⟨_, rfl, _, rfl, _, _, rfl, rfl, (by show (0 : Int) < 26; decide), lettersS, _, _, rfl, rfl, (by decide +kernel), letters_at (Int.emod_nonneg _ (by decide)) (Int.emod_lt_of_pos _ (by decide)), _, rfl, _, _, rfl, rfl, sz (by show 1 + (c :: t).toArray.size ≤ 100000; rw [List.size_toArray]; omega), ?_⟩
      refine ⟨r / 26 / 26, by omega, r / 26, 97 + r / 26 % 26, c :: t, ?_, rfl, rfl, ?_⟩
      · rw [str_cons]
        congr 8
      · have hne : r / 26 ≠ 0 := by omega
        rw [← e, digs0_eq hne]
        simp
  · rintro σ H2 ⟨o3, o4, o5, o6, kvs, rfl, s2, d2, hkl, hk⟩
    rw [List.length_map, List.take_length] at hk
    exact ⟨_, rfl, q d H2 kvs s2 d2 hk⟩
end
end KB

namespace KB
open PySem L2 HT

/-! ### a book told anew -/
def wsE (e : Er) : List Str := e.2.1 ++ letsOf e.2.2
def gE (e : Er) : Str → Str := numG (wsE e) (wsE e).length
def anewB (es : List Er) : List Er := es.map fun e => (e.1, e.2.1.map (gE e), calT (gE e) e.2.2)
/-- a book that may be told anew -/
structure BkC (es : List Er) : Prop where
  l6 : es.length ≤ 6
  n4 : ∀ e ∈ es, e.2.1.length ≤ 4
  ht : ∀ e ∈ es, HtLe 60 e.2.2
  cn : ∀ e ∈ es, cnt e.2.2 ≤ 2000
  cl : ∀ e ∈ es, ∀ y, 0 < tmH (hU y) e.2.2 → y ∈ e.2.1 ∨ 0 < tmH (hB y) e.2.2
theorem win_ws {e : Er} (h : ∀ y, 0 < tmH (hU y) e.2.2 → y ∈ e.2.1 ∨ 0 < tmH (hB y) e.2.2) {y : Str} (w : WIn y e.2.2) : y ∈ wsE e := by
  unfold wsE
  rcases w with z | z
  · rcases h y z with a | a
    · exact List.mem_append_left _ a
    · exact List.mem_append_right _ (lets_in a)
  · exact List.mem_append_right _ (lets_in z)
theorem gE_isW {e : Er} (hn : e.2.1.length ≤ 4) (hc : cnt e.2.2 ≤ 2000) {y : Str} (hy : y ∈ wsE e) : isW (gE e y) = true := by
  obtain ⟨k, h1, h2⟩ := numG_is (ws := wsE e) (n := (wsE e).length) (x := y) (by rw [List.take_length]; exact hy)
  have hl : (wsE e).length ≤ 2004 := by
    unfold wsE
    rw [List.length_append]
    have := lets_len e.2.2
    omega
  unfold gE
  rw [h2]
  exact isW_wordOf (Nat.lt_of_lt_of_le (show k < 2004 by omega) (by decide))
theorem anew_fit {es : List Er} (f : BkF es) (c : BkC es) : BkF (anewB es) := by
  have mem : ∀ {e'}, e' ∈ anewB es → ∃ e ∈ es, e' = (e.1, e.2.1.map (gE e), calT (gE e) e.2.2) := fun h => by
    obtain ⟨e, he, rfl⟩ := List.mem_map.mp h
    exact ⟨e, he, rfl⟩
  refine ⟨?_, ?_, ?_, ?_, ?_, ?_, ?_⟩
  · unfold anewB
    rw [List.length_map]
    exact f.l6
  · intro e' h
    obtain ⟨e, he, rfl⟩ := mem h
    exact f.w e he
  · intro e' h x hx
    obtain ⟨e, he, rfl⟩ := mem h
    obtain ⟨y, hy, rfl⟩ := List.mem_map.mp hx
    exact gE_isW (f.n4 e he) (f.cn e he) (List.mem_append_left _ hy)
  · intro e' h
    obtain ⟨e, he, rfl⟩ := mem h
    show (e.2.1.map _).length ≤ 4
    rw [List.length_map]
    exact f.n4 e he
  · intro e' h
    obtain ⟨e, he, rfl⟩ := mem h
    exact ok_cal (f.ok e he) fun y hy => gE_isW (f.n4 e he) (f.cn e he) (win_ws (c.cl e he) hy)
  · intro e' h
    obtain ⟨e, he, rfl⟩ := mem h
    show cnt (calT _ _) ≤ 2000
    rw [cnt_cal]
    exact f.cn e he
  · intro e' h
    obtain ⟨e, he, rfl⟩ := mem h
    show (pd (calT _ _)).depth ≤ 60
    rw [depth_cal]
    exact f.dp e he
section
variable {P : Program} {w : World} {K : PySem.W.Frag} {mg : Str → Option Value} {base : Heap}
/-! ### _law_book_anew -/
def spBAnew : Sp := fun vs H Q _ => ∃ (p : Addr) (es : List Er) (us : List V), vs = [.ref p] ∧ BkAt H es us p ∧ BkC es ∧ ∀ p' us' H', Same H H' → BkAt H' (anewB es) us' p' → Q (.ref p') H'
abbrev s_law_book_anew : Stmt := top 62
theorem scLbook_anew : FnScope ["book", "found", "name", "names", "body", "words", "one"] ["book"] (defScope s_law_book_anew) := ⟨rfl, rfl, rfl, by decide +kernel, rfl, by decide +kernel, by decide +kernel⟩
theorem ok_Lbanew (T : Txt K mg) {f f1 f2 f3 : Addr} {fd d1 d2 d3 : FuncData} (F : Fun K "_law_book_anew" "_law_book_anew" s_law_book_anew f fd) (G_law_by_numbers : FnOk P w K mg base CX0 1 f1 d1 ["words"] spByN) (R_law_by_numbers : Ref K mg "_law_by_numbers" f1 d1 ["words"])
    (G_law_lets : FnOk P w K mg base CX0 61 f2 d2 ["term"] (spLLets 60)) (R_law_lets : Ref K mg "_law_lets" f2 d2 ["term"]) (G_law_called : FnOk P w K mg base CX0 61 f3 d3 ["term", "words"] (spCalled 60)) (R_law_called : Ref K mg "_law_called" f3 d3 ["term", "words"]) : FnOk P w K mg base CX0 62 f fd ["book"] spBAnew := by
  refine F.ok scLbook_anew (fun vs H Q E h => ?_) (fun cdv A outer s H vs Q E hr h => ?_)
  · obtain ⟨p, es, us, rfl, _⟩ := h
    rfl
  obtain ⟨p, es, us, rfl, hB, hC, q⟩ := h
  refine ⟨_, (pss_cons (ps_set (i := 1) scLbook_anew.nd rfl (Or.inl rfl) (pe_lst pa_nil))
    (pss_cons (ps_for PassesOwn.never rfl (pi_tup (pv 0)) (pg_tup rfl (pgs_cons (pg_name (i := 2) scLbook_anew.nd rfl (Or.inl rfl)) (pgs_cons (pg_name (i := 3) scLbook_anew.nd rfl (Or.inl rfl)) (pgs_cons (pg_name (i := 4) scLbook_anew.nd rfl (Or.inl rfl)) pgs_nil)))) (pss_cons (ps_set (i := 5) scLbook_anew.nd rfl (Or.inr rfl) (pe_call G_law_by_numbers (hr.mono (by omega)) rfl R_law_by_numbers.m R_law_by_numbers.k R_law_by_numbers.b .nil pass0 (pa_cons (pe_op op_cat (pe_callTy call_list_of (by rfl) T.m_list (by decide +kernel) (pa_cons (pv 3) pa_nil)) (pe_call G_law_lets (hr.mono (by omega)) rfl R_law_lets.m R_law_lets.k R_law_lets.b .nil pass0 (pa_cons (pv 4) pa_nil))) pa_nil)))
    (pss_cons (ps_set (i := 3) scLbook_anew.nd rfl (Or.inl rfl) (pe_callTy call_tuple_of (by rfl) T.m_tuple (by decide +kernel) (pa_cons (pe_lc (own := [("one", 6)]) (g := gName 6) (tt := tYes) (te := tDGet (tVar 5) (tVar 6)) (by rfl) scLbook_anew.nd (pi_tup (pv 3)) (blkOk_by (own := [("one", 6)]) (N := ["book", "found", "name", "names", "body", "words", "one"]) (sc := defScope s_law_book_anew) (by decide +kernel)) (fun _ _ _ _ _ => (pg_name (i := 6) scLbook_anew.nd rfl (Or.inl rfl))) (fun _ _ _ _ _ => pts_nil) (fun _ _ _ _ _ => (pe_dget (hu_of hr) (pv 5) (pv 6) (fun _ _ => rfl)))) pa_nil)))
    (pss_one (ps_expr (pe_bm PySem.F.plainAttrs_list PySem.F.slot_list_append PySem.F.type_list_append mt_append (pv 1) (pa_cons (pe_tup (pa_cons (pv 2) (pa_cons (pv 3) (pa_cons (pe_call G_law_called (hr.mono (by omega)) rfl R_law_called.m R_law_called.k R_law_called.b .nil pass0 (pa_cons (pv 4) (pa_cons (pv 5) pa_nil))) pa_nil)))) pa_nil)))))))
    (pss_one (ps_ret (pe_callTy call_tuple_of (by rfl) T.m_tuple (by decide +kernel) (pa_cons (pv 1) pa_nil)))))), ?_⟩
  refine ⟨sz (by show 0 ≤ 100000; decide), fun fl hfl => ?_⟩
  have s0 := same_new hfl (.lst [])
  have f0 : upd H fl (.lst []) fl = some (.lst []) := upd_same
  generalize upd H fl (.lst []) = H0 at s0 f0
  refine ⟨_, rfl, p, rfl, ⟨_, SqT.of (s0 _ _ hB.1)⟩, for_tup (xs := us) (fun i σ H' => ∃ o2 o3 o4 o5 acc, σ = [some (.ref p), some (.ref fl), o2, o3, o4, o5, none] ∧ Same H H' ∧ H' fl = some (.lst acc) ∧ All2 (ErV H') (anewB (es.take i)) acc) ?_ ?_ ?_ ?_⟩
  · exact ⟨_, _, _, _, [], rfl, s0, f0, by rw [List.take_zero]; trivial⟩
  · rintro i σ H' _ ⟨o2, o3, o4, o5, acc, rfl, s2, _⟩
    exact SqT.of (s2 _ _ hB.1)
  · rintro i x σ H2 hx ⟨o2, o3, o4, o5, acc, rfl, s2, f2, k2⟩
    obtain ⟨e, he, qa, r, b, rfl, g1, g2, g3⟩ := hB.2.get hx
    have hee := mem_of_get he
    obtain ⟨hj, hj2⟩ := List.getElem?_eq_some_iff.mp he
    have h4 := hC.n4 e hee
    have hcn := hC.cn e hee
    have hle := k2.len
    have hl6 := hC.l6
    unfold anewB at hle
    rw [List.length_map, List.length_take] at hle
    refine ⟨qa, _, rfl, SqT.of (s2 _ _ g1), rfl, _, _, rfl, _, _, rfl, _, _, rfl, rfl, ?_⟩
    -- words
    refine ⟨_, rfl, r, _, rfl, .inr (SqT.of (s2 _ _ g2)), fun l1 hl1 => ?_⟩
    have s3 := same_new hl1 (.lst (e.2.1.map V.str))
    have h3 : upd H2 l1 (.lst (e.2.1.map V.str)) l1 = some (.lst (e.2.1.map V.str)) := upd_same
    generalize upd H2 l1 (.lst (e.2.1.map V.str)) = H3 at s3 h3
    refine ⟨_, rfl, b, e.2.2, rfl, (g3.tk (tk_same s2)).tk (tk_same s3), hC.ht e hee, by omega, fun l2 H4 hl2 s4 h4' => ?_⟩
    have hlets := lets_len e.2.2
    refine ⟨l1, l2, _, _, rfl, rfl, s4 _ _ h3, h4', sz (by rw [List.length_map, List.length_map]; omega), fun l3 hl3 => ?_⟩
    have s5 := same_new hl3 (.lst (e.2.1.map V.str ++ (letsOf e.2.2).map V.str))
    have h5 : upd H4 l3 (.lst (e.2.1.map V.str ++ (letsOf e.2.2).map V.str)) l3 = some (.lst ((wsE e).map V.str)) := by
      rw [upd_same]
      unfold wsE
      rw [List.map_append]
    generalize upd H4 l3 (.lst (e.2.1.map V.str ++ (letsOf e.2.2).map V.str)) = H5 at s5 h5
    have hwl : (wsE e).length ≤ 2004 := by
      unfold wsE
      rw [List.length_append]
      omega
    refine ⟨l3, wsE e, rfl, h5, by omega, fun d H6 kvs s6 h6 hk => ?_⟩
    have s26 := s3.trans (s4.trans (s5.trans s6))
    have s06 := s2.trans s26
    -- names
    refine ⟨_, rfl, r, rfl, ⟨_, SqT.of (s06 _ _ g2)⟩, fun D hD => lc_tup (K := K) (a := r) (xs := e.2.1.map V.str) (fun i H' => Same H6 H' ∧ H' D = some (.lst (((e.2.1.take i).map (gE e)).map V.str))) ⟨same_new hD _, by rw [List.take_zero]; exact upd_same⟩ ?_ ?_ ?_⟩
    · rintro i H' _ ⟨s7, _⟩
      exact SqT.of (s7 _ _ (s06 _ _ g2))
    · rintro i x H7 hx7 ⟨s7, h7⟩
      rw [List.getElem?_map] at hx7
      obtain ⟨y, hy, rfl⟩ : ∃ y, e.2.1[i]? = some y ∧ V.str y = x := by
        cases e9 : e.2.1[i]? with
        | none => rw [e9] at hx7; cases hx7
        | some y => rw [e9] at hx7; exact ⟨y, rfl, Option.some.inj hx7⟩
      obtain ⟨hi, hi2⟩ := List.getElem?_eq_some_iff.mp hy
      refine ⟨rfl, ?_⟩
      dsimp only [tYes]
      have hg := DGet.k (k := Sum.inr y) (s7 _ _ h6)
      rw [hk y (List.mem_append_left _ (mem_of_get hy))] at hg
      refine iteT ⟨_, rfl, _, rfl, d, _, rfl, hg, _, h7, Nat.lt_of_le_of_lt (m := 100) (by rw [List.length_map, List.length_map, List.length_take]; omega) (by decide), same_mut s7 hD, ?_⟩
      rw [upd_same, List.take_succ_eq_append_getElem hi, hi2, List.map_append, List.map_append]
      rfl
    rintro H7 ⟨s7, h7⟩
    rw [List.length_map, List.take_length] at h7
    refine ⟨D, _, rfl, .inl ⟨SqL.of h7, fun np hnp => ?_⟩⟩
    have s8 := same_new hnp (.tup ((e.2.1.map (gE e)).map V.str))
    have h8 : upd H7 np (.tup ((e.2.1.map (gE e)).map V.str)) np = some (.tup ((e.2.1.map (gE e)).map V.str)) := upd_same
    generalize upd H7 np (.tup ((e.2.1.map (gE e)).map V.str)) = H8 at s8 h8
    have s28 := s26.trans ((show Same H6 H7 from s7).trans s8)
    have s08 := s2.trans s28
    refine ⟨_, rfl, .inl ⟨rfl, _, SqL.of (s28 _ _ f2)⟩, ?_⟩
    refine ⟨_, rfl, _, rfl, _, rfl, _, rfl, b, d, e.2.2, kvs, gE e, rfl, g3.tk (tk_same s08), hC.ht e hee, s8 _ _ (s7 _ _ h6), fun y hy => hk y (win_ws (hC.cl e hee) hy), fun b9 H9 s9 hb9 => ?_⟩
    refine ⟨sz (by show 3 ≤ 100000; decide), fun t3 ht3 => ?_⟩
    have s10 := same_new ht3 (.tup [.str e.1, .ref np, .ref b9])
    have s910 := s9.trans s10
    have f10 := s910 _ _ (s28 _ _ f2)
    refine ⟨fl, _, _, rfl, rfl, f10, Nat.lt_of_le_of_lt (m := 100) (by omega) (by decide), ?_⟩
    have tk := tk_put (o := .lst (acc ++ [.ref t3])) f10
    refine ⟨_, _, _, _, acc ++ [.ref t3], rfl, same_mut (s08.trans s910) hfl, upd_same, ?_⟩
    have eT : anewB (es.take (i + 1)) = anewB (es.take i) ++ [(e.1, e.2.1.map (gE e), calT (gE e) e.2.2)] := by
      unfold anewB
      rw [List.take_succ_eq_append_getElem hj, hj2, List.map_append]
      rfl
    rw [eT]
    exact ((k2.imp fun _ _ z => ErV.tk (tk_same (s28.trans s910)) z).imp fun _ _ z => z.tk tk).app ⟨⟨t3, np, b9, rfl, tk _ _ upd_same, tk _ _ (s910 _ _ h8), At.tk ((tk_same s10).trans tk) hb9⟩, trivial⟩
  · rintro σ H2 ⟨o2, o3, o4, o5, acc, rfl, s2, f2, k2⟩
    rw [hB.2.len, List.take_length] at k2
    refine ⟨_, rfl, fl, acc, rfl, .inl ⟨SqL.of f2, fun p' hp' => ?_⟩⟩
    have s3 := same_new hp' (.tup acc)
    exact q p' acc _ (s2.trans s3) ⟨upd_same, k2.imp fun _ _ z => ErV.tk (tk_same s3) z⟩
end
/-! ### the turning is one -/
theorem nwr_det {tk : List Str} {m : Nat} {w w' : Str} {m1 m1' : Nat} (h : NwR tk m w m1) (h' : NwR tk m w' m1') : w = w' ∧ m1 = m1' := by
  obtain ⟨k, a1, a2, a3, a4, a5, a6⟩ := h
  obtain ⟨k', b1, b2, b3, b4, b5, b6⟩ := h'
  have e : k = k' := by
    rcases Nat.lt_trichotomy k k' with z | z | z
    · exact absurd (b6 k a1 z) (by rw [← a3]; exact a4)
    · exact z
    · exact absurd (a6 k' b1 z) (by rw [← b3]; exact b4)
  subst e
  exact ⟨by rw [a3, b3], by rw [a5, b5]⟩
end KB

namespace KB
open PySem L2 HT

/-! ### the turning is one -/
theorem fin_ask {j' : Jb} {R Gx R1 G1} (f : Fin j' R Gx R1 G1) : ∀ {f0 : Str} {n : Nat} {j : Str}, j' = .ask f0 n j → ∃ (ts : List Tm) (G : List Gt), n = ts.length ∧ Gx = (ts.map Gt.t).reverse ++ G ∧ R1 = R ∧ G1 = .p (.ask f0 ts j) :: G := by
  cases f with
  | ask => intro f0 n j e; cases e; exact ⟨_, _, rfl, rfl, rfl, rfl⟩
  | _ => intro f0 n j e; cases e
theorem fin_det {j : Jb} {R G R1 G1 R1' G1'} (f : Fin j R G R1 G1) (f' : Fin j R G R1' G1') : R1 = R1' ∧ G1 = G1' := by
  cases f with
  | @ask f0 j ts R G =>
    obtain ⟨ts', G', e1, e2, rfl, rfl⟩ := fin_ask f' rfl
    rw [← List.map_reverse, ← List.map_reverse] at e2
    obtain ⟨e3, e4⟩ := map_t_inj e2 (by rw [List.length_reverse, List.length_reverse, e1])
    have e5 : ts = ts' := List.reverse_inj.mp e3
    subst e5
    subst e4
    exact ⟨rfl, rfl⟩
  | _ => cases f'; exact ⟨rfl, rfl⟩
theorem putJ_w {t : Tm} {x w w' : Str} (ha : arN t) (h : wordH (hdT t) = false) : putJ t x w = putJ t x w' := by
  unfold arN at ha
  unfold putJ
  cases hh : hdT t with
  | ask f => rw [hh] at h; cases h
  | iff => rw [hh] at h; cases h
  | lett y =>
    rw [hh] at ha
    obtain ⟨a, b, e⟩ := two_of (show (kidsT t).length = 2 from ha)
    rw [e]
  | tell =>
    rw [hh] at ha
    obtain ⟨a, e⟩ := one_of (show (kidsT t).length = 1 from ha)
    rw [e]
  | _ => rfl
theorem simpJ_w {t : Tm} {w w' : Str} (ha : arN t) (h : wordS (hdT t) = false) : simpJ t w = simpJ t w' := by
  unfold arN at ha
  unfold simpJ
  cases hh : hdT t with
  | ask f => rw [hh] at h; cases h
  | iff => rw [hh] at h; cases h
  | tell => rw [hh] at h; cases h
  | num z => rfl
  | nam z => rfl
  | plus =>
    rw [hh] at ha
    obtain ⟨a, b, e⟩ := two_of (show (kidsT t).length = 2 from ha)
    rw [e]
  | less =>
    rw [hh] at ha
    obtain ⟨a, b, e⟩ := two_of (show (kidsT t).length = 2 from ha)
    rw [e]
  | lett y =>
    rw [hh] at ha
    obtain ⟨a, b, e⟩ := two_of (show (kidsT t).length = 2 from ha)
    rw [e]
theorem run_det {tk : List Str} {J : List Jb} {R G m R2 G2 m2} (h : Run tk J R G m R2 G2 m2) : (∀ j ∈ J, arJ j) → ∀ {R2' G2' m2'}, Run tk J R G m R2' G2' m2' → R2 = R2' ∧ G2 = G2' ∧ m2 = m2' := by
  induction h with
  | nil => intro _ _ _ _ h'; cases h'; exact ⟨rfl, rfl, rfl⟩
  | @fin j J R G m R1 G1 R2 G2 m2 f h ih =>
    intro ha _ _ _ h'
    have ha' : ∀ x ∈ J, arJ x := fun x hx => ha x (List.mem_cons_of_mem _ hx)
    cases h' with
    | fin f' h'' =>
      obtain ⟨rfl, rfl⟩ := fin_det f f'
      exact ih ha' h''
    | done h'' => cases f
    | put _ _ h'' => cases f
    | simple _ _ h'' => cases f
  | @done t j J R G m R2 G2 m2 h ih =>
    intro ha _ _ _ h'
    have h0 : arT t := ha _ List.mem_cons_self
    cases h' with
    | fin f' h'' => cases f'
    | done h'' => exact ih (ar_app (arD h0) ha) h''
  | @put t x w J R G m m1 R2 G2 m2 n1 n2 h ih =>
    intro ha _ _ _ h'
    have h0 : arT t := ha _ List.mem_cons_self
    cases h' with
    | fin f' h'' => cases f'
    | @put _ _ w' _ _ _ _ m1' _ _ _ n1' n2' h'' =>
      by_cases c : wordH (hdT t) = true
      · obtain ⟨rfl, rfl⟩ := nwr_det (n1 c) (n1' c)
        exact ih (ar_app (arP h0) ha) h''
      · have c' : wordH (hdT t) = false := by simpa using c
        have e1 := n2 c'
        have e2 := n2' c'
        subst e1
        subst e2
        rw [putJ_w (w := w') (w' := w) h0.here c'] at h''
        exact ih (ar_app (arP h0) ha) h''
  | @simple t w J R G m m1 R2 G2 m2 n1 n2 h ih =>
    intro ha _ _ _ h'
    have h0 : arT t := ha _ List.mem_cons_self
    cases h' with
    | fin f' h'' => cases f'
    | @simple _ w' _ _ _ _ m1' _ _ _ n1' n2' h'' =>
      by_cases c : wordS (hdT t) = true
      · obtain ⟨rfl, rfl⟩ := nwr_det (n1 c) (n1' c)
        exact ih (ar_app (arS h0) ha) h''
      · have c' : wordS (hdT t) = false := by simpa using c
        have e1 := n2 c'
        have e2 := n2' c'
        subst e1
        subst e2
        rw [simpJ_w (w := w') (w' := w) h0.here c'] at h''
        exact ih (ar_app (arS h0) ha) h''
theorem ar_two {t : Tm} {j : Str} (h : arT t) : ∀ x ∈ ([.row, .done t j] : List Jb), arJ x := fun x hx => by
  simp only [List.mem_cons, List.not_mem_nil, or_false] at hx
  rcases hx with rfl | rfl
  · trivial
  · exact h
theorem runB_det {xs : List Str} {t : Tm} {p p' : Pt} (ha : arT t) (h : RunB xs t p) (h' : RunB xs t p') : p = p' := by
  obtain ⟨m, h⟩ := h
  obtain ⟨m', h'⟩ := h'
  have e := (run_det h (ar_two ha) h').2.1
  exact Gt.p.inj (List.cons.inj e).1
/-! ### what is turned is neat -/
def nyJ : List Jb → List (Option Bool) → Prop
  | [], g => ∃ b, g = [some b]
  | .row :: J, g => nyJ J g
  | .done _ _ :: J, g => nyJ J (some false :: g)
  | .put _ _ :: J, g => nyJ J g
  | .simple _ :: J, g => nyJ J (none :: g)
  | .known t :: J, g => nyJ J (none :: g)
  | .close :: J, g => ∃ b g', g = some b :: g' ∧ nyJ J (some false :: g')
  | .lett _ :: J, g => ∃ g', g = none :: g' ∧ nyJ J g'
  | .tell _ :: J, g => ∃ g', g = none :: g' ∧ nyJ J g'
  | .post _ _ :: J, g => ∃ g', g = some true :: g' ∧ nyJ J g'
  | .ask _ n _ :: J, g => ∃ g', g = List.replicate n none ++ g' ∧ nyJ J (some true :: g')
  | .give _ :: J, g => ∃ g', g = none :: g' ∧ nyJ J (some false :: g')
  | .iff :: J, g => ∃ b c g', g = some b :: some c :: none :: g' ∧ nyJ J (some true :: g')
  | .op _ :: J, g => ∃ g', g = none :: none :: g' ∧ nyJ J (none :: g')
theorem ny_simples {J : List Jb} : ∀ (ts : List Tm) (g : List (Option Bool)), nyJ J (List.replicate ts.length none ++ g) → nyJ (ts.map Jb.simple ++ J) g
  | [], g, h => h
  | t :: ts, g, h => by
    show nyJ (ts.map Jb.simple ++ J) (none :: g)
    refine ny_simples ts (none :: g) ?_
    have e : List.replicate ts.length (none : Option Bool) ++ none :: g = List.replicate (t :: ts).length none ++ g := by
      rw [List.length_cons, List.replicate_succ']
      simp
    rw [e]
    exact h
theorem ny_end {t : Tm} {j : Str} {J : List Jb} {g : List (Option Bool)} (h : arN t) (o : nyJ J (some (wordH (hdT t)) :: g)) : nyJ (endJ t j ++ J) g := by
  unfold arN at h
  unfold endJ
  cases hh : hdT t with
  | ask f =>
    rw [hh] at o
    show nyJ (((kidsT t).map Jb.simple ++ [.ask f (kidsT t).length j]) ++ J) g
    rw [List.append_assoc]
    exact ny_simples _ g ⟨g, rfl, o⟩
  | iff =>
    rw [hh] at h o
    obtain ⟨a, b, c, e⟩ := three_of (show (kidsT t).length = 3 from h)
    rw [e]
    exact ⟨false, false, g, rfl, o⟩
  | _ => rw [hh] at o; exact ⟨g, rfl, o⟩
theorem ny_done {t : Tm} {j : Str} {J : List Jb} {g : List (Option Bool)} (h : arN t) (o : nyJ (.done t j :: J) g) : nyJ (doneJ t j ++ J) g := by
  have o' : nyJ J (some false :: g) := o
  have he : nyJ ((endJ t j ++ [.close]) ++ J) g := by
    rw [List.append_assoc]
    exact ny_end h ⟨_, g, rfl, o'⟩
  unfold arN at h
  unfold doneJ
  cases hh : hdT t with
  | lett x =>
    rw [hh] at h
    obtain ⟨a, b, e⟩ := two_of (show (kidsT t).length = 2 from h)
    rw [e]
    exact o'
  | _ => exact he
theorem ny_put {t : Tm} {x w : Str} {J : List Jb} {g : List (Option Bool)} (h : arN t) (o : nyJ (.put t x :: J) g) : nyJ (putJ t x w ++ J) g := by
  have o' : nyJ J g := o
  have he : wordH (hdT t) = true → nyJ ((endJ t w ++ [.post w x]) ++ J) g := fun z => by
    rw [List.append_assoc]
    exact ny_end h ⟨g, by rw [z], o'⟩
  unfold arN at h
  unfold putJ
  cases hh : hdT t with
  | lett y =>
    rw [hh] at h
    obtain ⟨a, b, e⟩ := two_of (show (kidsT t).length = 2 from h)
    rw [e]
    exact o'
  | ask f => exact he (by rw [hh]; rfl)
  | iff => exact he (by rw [hh]; rfl)
  | tell =>
    rw [hh] at h
    obtain ⟨a, e⟩ := one_of (show (kidsT t).length = 1 from h)
    rw [e]
    exact ⟨g, rfl, o'⟩
  | _ => exact ⟨g, rfl, o'⟩
theorem ny_simp {t : Tm} {w : Str} {J : List Jb} {g : List (Option Bool)} (h : arN t) (o : nyJ (.simple t :: J) g) : nyJ (simpJ t w ++ J) g := by
  have o' : nyJ J (none :: g) := o
  unfold arN at h
  unfold simpJ
  cases hh : hdT t with
  | num z => exact o'
  | nam z => exact o'
  | plus =>
    rw [hh] at h
    obtain ⟨a, b, e⟩ := two_of (show (kidsT t).length = 2 from h)
    rw [e]
    exact ⟨g, rfl, o'⟩
  | less =>
    rw [hh] at h
    obtain ⟨a, b, e⟩ := two_of (show (kidsT t).length = 2 from h)
    rw [e]
    exact ⟨g, rfl, o'⟩
  | lett y =>
    rw [hh] at h
    obtain ⟨a, b, e⟩ := two_of (show (kidsT t).length = 2 from h)
    rw [e]
    exact o'
  | _ => exact o'
theorem neat_tell (x : Str) (t : Tm) (p : Pt) : neatP (.tell x t p) = neatP p := by
  show ((plP _).map (·.2)).all ntP = ((plP p).map (·.2)).all ntP
  simp only [plP, List.map_cons, List.map_append, List.map_map, List.map_nil, List.all_cons, List.all_append, List.all_nil, Bool.and_true]
  rfl
theorem neat_lett (x : Str) (t : Tm) (p : Pt) : neatP (.lett x t p) = neatP p := by
  show ((plP _).map (·.2)).all ntP = ((plP p).map (·.2)).all ntP
  simp only [plP, List.map_cons, List.map_append, List.map_map, List.map_nil, List.all_cons, List.all_append, List.all_nil, Bool.and_true]
  rfl
theorem neat_iff (t : Tm) (p q : Pt) : neatP (.iff t p q) = (neatP p && neatP q) := by
  show ((plP _).map (·.2)).all ntP = (((plP p).map (·.2)).all ntP && ((plP q).map (·.2)).all ntP)
  simp only [plP, List.map_cons, List.map_append, List.map_map, List.map_nil, List.all_cons, List.all_append, List.all_nil, Bool.and_true]
  rfl
theorem neat_post (j x : Str) (p q : Pt) : neatP (.post j x p q) = (isAI q && (neatP p && neatP q)) := by
  show ((plP _).map (·.2)).all ntP = (isAI q && (((plP p).map (·.2)).all ntP && ((plP q).map (·.2)).all ntP))
  simp only [plP, List.map_cons, List.map_append, List.map_map, List.map_nil, List.all_cons, List.all_append, List.all_nil, Bool.and_true]
  rfl
def gtN : Gt → Option Bool → Prop
  | .t _, none => True
  | .p q, some b => neatP q = true ∧ (b = true → isAI q = true)
  | _, _ => False
def gtsN : List Gt → List (Option Bool) → Prop
  | [], [] => True
  | a :: G, o :: g => gtN a o ∧ gtsN G g
  | _, _ => False
def ldN : Ld → Prop
  | .post _ _ u => neatP u = true ∧ isAI u = true
  | _ => True
def rowsN (R : List (List Ld)) : Prop := ∀ r ∈ R, ∀ l ∈ r, ldN l
theorem put_neat : ∀ {r : List Ld} {q : Pt}, (∀ l ∈ r, ldN l) → neatP q = true → neatP (putAh r q) = true
  | [], q, _, h => h
  | .lett x s :: r, q, hr, h => by
    have ih := put_neat (r := r) (fun l hl => hr l (List.mem_cons_of_mem _ hl)) h
    show neatP (.lett x s (putAh r q)) = true
    rw [neat_lett]
    exact ih
  | .tell x s :: r, q, hr, h => by
    have ih := put_neat (r := r) (fun l hl => hr l (List.mem_cons_of_mem _ hl)) h
    show neatP (.tell x s (putAh r q)) = true
    rw [neat_tell]
    exact ih
  | .post j x u :: r, q, hr, h => by
    have ih := put_neat (r := r) (fun l hl => hr l (List.mem_cons_of_mem _ hl)) h
    have hu : neatP u = true ∧ isAI u = true := hr _ List.mem_cons_self
    show neatP (.post j x (putAh r q) u) = true
    rw [neat_post, ih, hu.1, hu.2]
    rfl
theorem gtsN_rep : ∀ {n : Nat} {G : List Gt} {g : List (Option Bool)}, gtsN G (List.replicate n none ++ g) → ∃ (ts : List Tm) (G' : List Gt), G = ts.map Gt.t ++ G' ∧ ts.length = n ∧ gtsN G' g
  | 0, G, g, h => ⟨[], G, rfl, rfl, h⟩
  | n + 1, [], g, h => by rw [List.replicate_succ, List.cons_append] at h; exact h.elim
  | n + 1, a :: G, g, h => by
    rw [List.replicate_succ, List.cons_append] at h
    obtain ⟨h1, h2⟩ : gtN a none ∧ gtsN G (List.replicate n none ++ g) := h
    obtain ⟨ts, G', e1, e2, e4⟩ := gtsN_rep h2
    cases a with
    | p q => exact h1.elim
    | t s => exact ⟨s :: ts, G', by rw [e1]; rfl, by rw [List.length_cons, e2], e4⟩
theorem fin_ny {j : Jb} {J : List Jb} {R R1 : List (List Ld)} {G G1 : List Gt} {g : List (Option Bool)} (f : Fin j R G R1 G1) (o : nyJ (j :: J) g) (hG : gtsN G g) (hR : rowsN R) : ∃ g1, nyJ J g1 ∧ gtsN G1 g1 ∧ rowsN R1 := by
  have add : ∀ {r : List Ld} {R : List (List Ld)} {l : Ld}, rowsN (r :: R) → ldN l → rowsN ((r ++ [l]) :: R) := fun {r R l} hR hl r' hr l' hl' => by
    rcases List.mem_cons.mp hr with z | z
    · subst z
      rcases List.mem_append.mp hl' with y | y
      · exact hR r List.mem_cons_self l' y
      · rw [List.mem_singleton.mp y]; exact hl
    · exact hR r' (List.mem_cons_of_mem _ z) l' hl'
  cases f with
  | row => exact ⟨g, o, hG, fun r hr => by
      rcases List.mem_cons.mp hr with z | z
      · subst z; intro l hl; cases hl
      · exact hR r z⟩
  | @close r R1 q G1 =>
    obtain ⟨b, g', rfl, o⟩ := o
    obtain ⟨h1, h2⟩ : gtN (.p q) (some b) ∧ gtsN _ g' := hG
    exact ⟨_, o, ⟨⟨put_neat (hR r List.mem_cons_self) h1.1, fun z => by cases z⟩, h2⟩, fun r' hr => hR r' (List.mem_cons_of_mem _ hr)⟩
  | @lett x r R s G =>
    obtain ⟨g', rfl, o⟩ := o
    obtain ⟨h1, h2⟩ : gtN (.t s) none ∧ gtsN _ g' := hG
    exact ⟨_, o, h2, add hR trivial⟩
  | @tell x r R s G =>
    obtain ⟨g', rfl, o⟩ := o
    obtain ⟨h1, h2⟩ : gtN (.t s) none ∧ gtsN _ g' := hG
    exact ⟨_, o, h2, add hR trivial⟩
  | @post j x r R q G =>
    obtain ⟨g', rfl, o⟩ := o
    obtain ⟨h1, h2⟩ : gtN (.p q) (some true) ∧ gtsN _ g' := hG
    exact ⟨_, o, h2, add hR ⟨h1.1, h1.2 rfl⟩⟩
  | known => exact ⟨_, o, ⟨trivial, hG⟩, hR⟩
  | @ask f j ts R G =>
    obtain ⟨g', rfl, o⟩ := o
    rw [← List.map_reverse] at hG
    obtain ⟨us, G', e1, e2, e4⟩ := gtsN_rep hG
    obtain ⟨e5, e6⟩ := map_t_inj e1 (by rw [List.length_reverse, e2])
    subst e6
    exact ⟨_, o, ⟨⟨rfl, fun _ => rfl⟩, e4⟩, hR⟩
  | @give j s R G =>
    obtain ⟨g', rfl, o⟩ := o
    obtain ⟨h1, h2⟩ : gtN (.t s) none ∧ gtsN _ g' := hG
    exact ⟨_, o, ⟨⟨rfl, fun z => by cases z⟩, h2⟩, hR⟩
  | @iff a b c R G =>
    obtain ⟨b1, c1, g', rfl, o⟩ := o
    obtain ⟨h1, h2, h3, h4⟩ : gtN (.p c) (some b1) ∧ gtN (.p b) (some c1) ∧ gtN (.t a) none ∧ gtsN _ g' := hG
    exact ⟨_, o, ⟨⟨by rw [neat_iff, h2.1, h1.1]; rfl, fun _ => rfl⟩, h4⟩, hR⟩
  | @op l a b R G =>
    obtain ⟨g', rfl, o⟩ := o
    obtain ⟨h1, h2, h3⟩ : gtN (.t b) none ∧ gtN (.t a) none ∧ gtsN _ g' := hG
    exact ⟨_, o, ⟨trivial, h3⟩, hR⟩
theorem run_neat {tk : List Str} {J : List Jb} {R G m R2 G2 m2} (h : Run tk J R G m R2 G2 m2) (ha : ∀ j ∈ J, arJ j) {g : List (Option Bool)} (o : nyJ J g) (hG : gtsN G g) (hR : rowsN R) : ∃ b, gtsN G2 [some b] := by
  have e := Run.inv (I := fun J R G _ => (∀ j ∈ J, arJ j) ∧ ∃ g, nyJ J g ∧ gtsN G g ∧ rowsN R) ?_ ?_ ?_ ?_ h ⟨ha, g, o, hG, hR⟩
  · obtain ⟨_, g2, ⟨b, rfl⟩, h2, _⟩ := e
    exact ⟨b, h2⟩
  · rintro j J R G m R1 G1 f ⟨a, g, o, hG, hR⟩
    exact ⟨fun x hx => a x (List.mem_cons_of_mem _ hx), fin_ny f o hG hR⟩
  · rintro t j J R G m ⟨a, g, o, hG, hR⟩
    have h0 : arT t := a _ List.mem_cons_self
    exact ⟨ar_app (arD h0) a, g, ny_done h0.here o, hG, hR⟩
  · rintro t x w J R G m m1 _ _ ⟨a, g, o, hG, hR⟩
    have h0 : arT t := a _ List.mem_cons_self
    exact ⟨ar_app (arP h0) a, g, ny_put h0.here o, hG, hR⟩
  · rintro t w J R G m m1 _ _ ⟨a, g, o, hG, hR⟩
    have h0 : arT t := a _ List.mem_cons_self
    exact ⟨ar_app (arS h0) a, g, ny_simp h0.here o, hG, hR⟩
/-! ### what is told of a turned body -/
theorem hB_okS {hd : Str → Option Nat} {y : Str} : ∀ {t : Tm} {xs : List Str}, okS hd t xs → 0 < tmH (hU y) t → y ∈ xs ∨ 0 < tmH (hB y) t := by
  intro t
  induction t with
  | mk h n k ih =>
    intro xs hs hp
    rw [tmH_kids] at hp ⊢
    have hp : 0 < hU y h + sm (tmH (hU y)) (List.ofFn k) := hp
    show y ∈ xs ∨ 0 < hB y h + sm (tmH (hB y)) (List.ofFn k)
    by_cases c : 0 < hU y h
    · cases h with
      | nam x =>
        by_cases e : x = y
        · subst e; exact .inl hs.1
        · have : hU y (.nam x) = 0 := if_neg e
          omega
      | _ => exact absurd c (Nat.lt_irrefl 0)
    · obtain ⟨t, ht, h0⟩ : ∃ t ∈ List.ofFn k, 0 < tmH (hU y) t := by
        by_cases d : ∃ t ∈ List.ofFn k, 0 < tmH (hU y) t
        · exact d
        · have : sm (tmH (hU y)) (List.ofFn k) = 0 := sm_zero fun a ha => Nat.eq_zero_of_not_pos fun z => d ⟨a, ha, z⟩
          omega
      obtain ⟨i, rfl⟩ := List.mem_ofFn.mp ht
      rcases ih i (hs.2 i) h0 with z | z
      · have inx : y ∈ xs ∨ 0 < hB y h := by
          unfold inn at z
          split at z
          · rcases List.mem_append.mp z with a | a
            · exact .inl a
            · refine .inr ?_
              rw [List.mem_singleton.mp a]
              show 0 < (if _ = _ then 1 else 0)
              rw [if_pos rfl]
              decide
          · exact .inl z
        rcases inx with a | a
        · exact .inl a
        · exact .inr (by omega)
      · have := mem_sm (h := hB y) ht
        exact .inr (by omega)
/-- what holds of a body turned -/
structure TuF (xs : List Str) (p : Pt) : Prop where
  st : bentL p "home" = []
  wf : wfP p
  pc : pcnt p ≤ 161
  nc : ncnt p ≤ 1000
  ne : neatP p = true
  ok : okT (backT p)
  dp : (pd (backT p)).depth ≤ 56
  cl : ∀ y, 0 < tmH (hU y) (backT p) → y ∈ xs ∨ 0 < tmH (hB y) (backT p)
theorem turned_fit {hd : Str → Option Nat} {xs : List Str} {t : Tm} {p : Pt} (h : RunB xs t p) (ha : arT t) (ho : okT t) (hc : cnt t ≤ 40) (hs : okS hd t xs) (hx : xs.length ≤ 4) : TuF xs p := by
  obtain ⟨s1, s2, s3, s4⟩ := turned_straight h ha
  obtain ⟨m, h⟩ := h
  have ar := ar_two (j := "home") ha
  have tl : (wordsIn xs t).length ≤ 200 := by
    have := wordsIn_len xs t
    omega
  have e0 : ∀ h : Hd → Nat, sm (jM h) [.row, .done t "home"] = tmH h t := fun h => by
    rw [sm_cons, sm_cons, sm_nil]
    show 0 + (tmH h t + 0) = _
    omega
  have e1 : ∀ h : Hd → Nat, rgM h [] [.p p] = tmH h (backT p) := fun h => by
    unfold rgM
    rw [sm_nil, sm_cons, sm_nil]
    show 0 + (tmH h (backT p) + 0) = _
    omega
  have e2 : ∀ h : Hd → Nat, rgM h [] [] = 0 := fun _ => rfl
  refine ⟨s1, s2, by omega, by omega, ?_, ?_, ?_, fun y hy => ?_⟩
  · obtain ⟨b, hb⟩ := run_neat h ar (g := []) (show nyJ [.row, .done t "home"] [] from ⟨false, rfl⟩) trivial (fun _ z => nomatch z)
    exact hb.1.1
  · have := run_good tl h ar (by show 0 + 300 * (1 + (20 * cnt t + 5 + 0)) ≤ 700000; omega) (by rw [e0, e2, ok_hX.mpr ho])
    rw [e1] at this
    exact ok_hX.mp this
  · have hw := h2_le ha
    have := run_deep h ar (B := tmH h2W t) (by
      rw [sm_cons, sm_cons, sm_nil]
      show 0 + (tmH h2W t + 0) + 0 ≤ _
      omega)
    rw [e1] at this
    have := depth_back s2
    omega
  · by_cases c : y ∈ xs
    · exact .inl c
    · refine .inr ?_
      have := run_closed (y := y) h ar (by
        rw [e0, e0, e2, e2]
        intro z
        by_cases d : 0 < tmH (hU y) t
        · rcases hB_okS hs d with a | a
          · exact absurd a c
          · omega
        · omega)
      rw [e1, e1] at this
      omega
theorem depth_pd : ∀ {n : Nat} {t : Tm}, HtLe n t → (pd t).depth ≤ 2 * n
  | 0, _, h => h.elim
  | n + 1, .mk h m k, r => by
    refine Nat.le_trans (depth_pdH (h := h) (m := 2 * n) fun d hd => ?_) (by omega)
    obtain ⟨i, rfl⟩ := List.mem_ofFn.mp hd
    exact depth_pd (r i)
theorem depth_pd2 {t : Tm} (h : HtLe 2 t) : (pd t).depth ≤ 4 := depth_pd h
theorem okP_back {hd : Str → Option Nat} : ∀ {p : Pt} {xs hs : List Str}, okP hd p xs hs → okT (backT p) ∧ (pd (backT p)).depth ≤ pcnt p + 5
  | .give j t, _, _, h => ⟨h.2.ok, by
      have := depth_pd2 h.2.ht
      show (pd t).depth ≤ 1 + 5
      omega⟩
  | .ask f ts j, _, _, h => by
    obtain ⟨_, h1, _, _, h2⟩ := h
    refine ⟨ok_mkL h1 fun t ht => (h2 t ht).ok, ?_⟩
    show (pd (mkL (.ask f) ts)).depth ≤ 1 + 5
    rw [pd_mkL]
    refine depth_tup (m := 5) fun d hd => ?_
    have hd : d ∈ [PyData.str "ask", .str f, .tuple (ts.map pd)] := hd
    simp only [List.mem_cons, List.not_mem_nil, or_false] at hd
    rcases hd with rfl | rfl | rfl
    · exact Nat.zero_le _
    · exact Nat.zero_le _
    · refine depth_tup (m := 4) fun d hd => ?_
      obtain ⟨t, ht, rfl⟩ := List.mem_map.mp hd
      exact depth_pd2 (h2 t ht).ht
  | .tell x t p, _, _, h => by
    obtain ⟨h1, h2, h3⟩ := h
    obtain ⟨i1, i2⟩ := okP_back h3
    have d := depth_pd2 h2.ht
    refine ⟨ok_mkL h1 fun u hu => ?_, ?_⟩
    · simp only [List.mem_cons, List.not_mem_nil, or_false] at hu
      rcases hu with rfl | rfl
      · exact ok_mkL trivial fun u hu => by rw [List.mem_singleton.mp hu]; exact h2.ok
      · exact i1
    · show (pd (mkL (.lett x) [mkL .tell [t], backT p])).depth ≤ (1 + pcnt p) + 5
      rw [pd_mkL]
      refine Nat.le_trans (depth_l2 (m := pcnt p + 5) ?_ i2) (by omega)
      rw [pd_mkL]
      refine Nat.le_trans (depth_tup (m := 4) fun d hd => ?_) (by omega)
      have hd : d ∈ [PyData.str "tell", pd t] := hd
      simp only [List.mem_cons, List.not_mem_nil, or_false] at hd
      rcases hd with rfl | rfl
      · exact Nat.zero_le _
      · exact d
  | .lett x t p, _, _, h => by
    obtain ⟨h1, h2, h3⟩ := h
    obtain ⟨i1, i2⟩ := okP_back h3
    have d := depth_pd2 h2.ht
    refine ⟨ok_mkL h1 fun u hu => ?_, ?_⟩
    · simp only [List.mem_cons, List.not_mem_nil, or_false] at hu
      rcases hu with rfl | rfl
      · exact h2.ok
      · exact i1
    · show (pd (mkL (.lett x) [t, backT p])).depth ≤ (1 + pcnt p) + 5
      rw [pd_mkL]
      exact Nat.le_trans (depth_l2 (m := pcnt p + 5) (by omega) i2) (by omega)
  | .post j x p q, _, _, h => by
    obtain ⟨_, h1, h2, h3⟩ := h
    obtain ⟨i1, i2⟩ := okP_back h2
    obtain ⟨i3, i4⟩ := okP_back h3
    refine ⟨ok_mkL h1 fun u hu => ?_, ?_⟩
    · simp only [List.mem_cons, List.not_mem_nil, or_false] at hu
      rcases hu with rfl | rfl
      · exact i3
      · exact i1
    · show (pd (mkL (.lett x) [backT q, backT p])).depth ≤ (1 + pcnt p + pcnt q) + 5
      rw [pd_mkL]
      exact Nat.le_trans (depth_l2 (m := pcnt p + pcnt q + 5) (by omega) (by omega)) (by omega)
  | .iff t p q, _, _, h => by
    obtain ⟨h1, h2, h3⟩ := h
    obtain ⟨i1, i2⟩ := okP_back h2
    obtain ⟨i3, i4⟩ := okP_back h3
    have d := depth_pd2 h1.ht
    refine ⟨ok_mkL trivial fun u hu => ?_, ?_⟩
    · simp only [List.mem_cons, List.not_mem_nil, or_false] at hu
      rcases hu with rfl | rfl | rfl
      · exact h1.ok
      · exact i1
      · exact i3
    · show (pd (mkL .iff [t, backT p, backT q])).depth ≤ (1 + pcnt p + pcnt q) + 5
      rw [pd_mkL]
      refine Nat.le_trans (depth_tup (m := pcnt p + pcnt q + 5) fun d hd => ?_) (by omega)
      have hd : d ∈ [PyData.str "if", pd t, pd (backT p), pd (backT q)] := hd
      simp only [List.mem_cons, List.not_mem_nil, or_false] at hd
      rcases hd with rfl | rfl | rfl | rfl
      · exact Nat.zero_le _
      · omega
      · omega
      · omega
end KB

namespace KB
open PySem L2
theorem kit_ref {K : PySem.W.Frag} {D c : Addr} {b : Bool} (hc : PySem.W.isClsIn K c = true) (ht : PySem.W.typeIn K (.ref c) = some (.type "type")) (hs : PySem.W.subIn K (.ref D) (.ref c) = some b) (hm : PySem.W.subIn K (.ref c) (.ref c) = some true) : PySem.W.kitOne K (.ref D) (.ref c) = some b := by
  unfold PySem.W.kitOne
  by_cases h : D = c
  · subst h
    rw [hm] at hs
    have e : ((Value.ref D : Value) == .ref D) = true := beq_self_eq_true _
    rw [if_pos e]
    exact hs
  · have e : ¬ ((Value.ref D : Value) == .ref c) = true := fun z => h (Value.ref.inj (beq_iff_eq.mp z))
    rw [if_neg e]
    have e2 : ((PySem.W.clsIn K c).isSome && PySem.W.typeIn K (.ref c) == some (.type "type")) = true := by
      have h2' : (PySem.W.clsIn K c).isSome = true := hc
      rw [h2', ht] <;> rfl
    show (if ((PySem.W.clsIn K c).isSome && PySem.W.typeIn K (.ref c) == some (.type "type")) = true then PySem.W.subIn K (.ref D) (.ref c) else none) = some b
    rw [if_pos e2]
    exact hs
theorem kit_ve {K : PySem.W.Frag} {D : Addr} (hs : PySem.W.subIn K (.ref D) (.type "ValueError") = some true) : PySem.W.kitOne K (.ref D) (.type "ValueError") = some true := by
  unfold PySem.W.kitOne
  have e : ¬ ((Value.ref D : Value) == .type "ValueError") = true := fun z => by
    cases (beq_iff_eq.mp z)
  rw [if_neg e]
  have e2 : PySem.W.kitMeta "ValueError" = true := by decide +kernel
  show (if PySem.W.kitMeta "ValueError" = true then PySem.W.subIn K (.ref D) (.type "ValueError") else none) = some true
  rw [if_pos e2]
  exact hs
end KB

namespace KB
open PySem L2 HT

/-! ### books turned, as data -/
def TR : List Er → List TEr → Prop
  | [], [] => True
  | e :: es, t :: ts => (t.1 = e.1 ∧ t.2.1 = e.2.1 ∧ RunB e.2.1 e.2.2 t.2.2) ∧ TR es ts
  | _, _ => False
theorem turned_TR {H : Hp} : ∀ {es : List Er} {vs : List V}, All2 (TurV H) es vs → ∃ ts : List TEr, All2 (TErV H) ts vs ∧ TR es ts
  | [], [], _ => ⟨[], trivial, trivial⟩
  | e :: es, v :: vs, h => by
    obtain ⟨⟨q, r, b, p, e1, g1, g2, g3, g4⟩, h1'⟩ := h
    obtain ⟨ts, k1, k2⟩ := turned_TR h1'
    exact ⟨(e.1, e.2.1, p) :: ts, ⟨⟨q, r, b, e1, g1, g2, g4⟩, k1⟩, ⟨rfl, rfl, g3⟩, k2⟩
  | [], _ :: _, h => h.elim
  | _ :: _, [], h => h.elim
theorem TR_det : ∀ {es : List Er} {ts ts' : List TEr}, TR es ts → TR es ts' → (∀ e ∈ es, arT e.2.2) → ts = ts'
  | [], [], [], _, _, _ => rfl
  | e :: es, t :: ts, t' :: ts', h, h', ha => by
    obtain ⟨⟨a1, a2, a3⟩, h2⟩ := h
    obtain ⟨⟨b1, b2, b3⟩, h2'⟩ := h'
    have e1 := TR_det h2 h2' fun x hx => ha x (List.mem_cons_of_mem _ hx)
    have e2 := runB_det (ha e List.mem_cons_self) a3 b3
    obtain ⟨t1, t2, t3⟩ := t
    obtain ⟨u1, u2, u3⟩ := t'
    have a1 : t1 = e.1 := a1
    have a2 : t2 = e.2.1 := a2
    have b1 : u1 = e.1 := b1
    have b2 : u2 = e.2.1 := b2
    have e2 : t3 = u3 := e2
    rw [e1, a1, a2, b1, b2, e2]
  | [], [], _ :: _, _, h, _ => h.elim
  | [], _ :: _, _, h, _, _ => h.elim
  | _ :: _, [], _, h, _, _ => h.elim
  | _ :: _, _ :: _, [], _, h, _ => h.elim
theorem TR_fit {hF : Str → Option Nat} : ∀ {es : List Er} {ts : List TEr}, TR es ts → (∀ e ∈ es, GdE hF e ∧ arT e.2.2) → ts.length = es.length ∧ ∀ t ∈ ts, ∃ e ∈ es, t.1 = e.1 ∧ t.2.1 = e.2.1 ∧ TuF e.2.1 t.2.2
  | [], [], _, _ => ⟨rfl, fun _ z => nomatch z⟩
  | e :: es, t :: ts, h, ha => by
    obtain ⟨⟨a1, a2, a3⟩, h2⟩ := h
    obtain ⟨k1, k2⟩ := TR_fit h2 fun x hx => ha x (List.mem_cons_of_mem _ hx)
    obtain ⟨g, ar⟩ := ha e List.mem_cons_self
    refine ⟨by rw [List.length_cons, List.length_cons, k1], fun u hu => ?_⟩
    rcases List.mem_cons.mp hu with z | z
    · rw [z]
      exact ⟨e, List.mem_cons_self, a1, a2, turned_fit a3 ar g.ok g.cn g.sc g.n4⟩
    · obtain ⟨e', m, r⟩ := k2 u z
      exact ⟨e', List.mem_cons_of_mem _ m, r⟩
  | [], _ :: _, h, _ => h.elim
  | _ :: _, [], h, _ => h.elim
theorem bk_ar {H : Hp} : ∀ {es : List Er} {vs : List V}, All2 (ErV H) es vs → ∀ e ∈ es, arT e.2.2
  | [], [], _, _, h => nomatch h
  | e :: es, v :: vs, h, x, hx => by
    rcases List.mem_cons.mp hx with z | z
    · rw [z]
      obtain ⟨_, _, _, _, _, _, hA⟩ := h.1
      exact hA.arT
    · exact bk_ar h.2 x z
  | [], _ :: _, h, _, _ => h.elim
  | _ :: _, [], h, _, _ => h.elim
theorem ar_mkL {h : Hd} {ts : List Tm} (a : arH h ts.length) (b : ∀ t ∈ ts, arT t) : arT (mkL h ts) := ⟨a, fun i => b _ (List.get_mem ts i)⟩
theorem all2_ar {H : Hp} : ∀ {ts : List Tm} {vs : List V}, All2 (RefV H) ts vs → ∀ t ∈ ts, arT t
  | [], [], _, _, h => nomatch h
  | e :: es, v :: vs, h, x, hx => by
    rcases List.mem_cons.mp hx with z | z
    · rw [z]
      obtain ⟨_, _, hA⟩ := h.1
      exact hA.arT
    · exact all2_ar h.2 x z
  | [], _ :: _, h, _, _ => h.elim
  | _ :: _, [], h, _, _ => h.elim
theorem two_ar {a b : Tm} (h1 : arT a) (h2 : arT b) : ∀ t ∈ [a, b], arT t := fun t ht => by
  rcases List.mem_cons.mp ht with z | z
  · rw [z]; exact h1
  · rw [List.mem_singleton.mp z]; exact h2
theorem back_ar {H : Hp} : ∀ {p : Pt} {a : Addr}, PAt H p a → wfP p → arT (backT p)
  | .give j t, _, ⟨_, _, h⟩, _ => h.arT
  | .ask f ts j, _, ⟨_, _, _, _, h⟩, w => ar_mkL w.1 (all2_ar h)
  | .tell x t p, _, ⟨_, _, _, h1, h2⟩, w => ar_mkL rfl (two_ar (ar_mkL rfl fun u hu => by rw [List.mem_singleton.mp hu]; exact h1.arT) (back_ar h2 w.2))
  | .lett x t p, _, ⟨_, _, _, h1, h2⟩, w => ar_mkL rfl (two_ar h1.arT (back_ar h2 w.2))
  | .post j x p q, _, ⟨_, _, _, h1, h2⟩, w => ar_mkL rfl (two_ar (back_ar h2 w.2) (back_ar h1 w.1))
  | .iff t p q, _, ⟨_, _, _, _, h1, h2, h3⟩, w => ar_mkL rfl fun u hu => by
    rcases List.mem_cons.mp hu with z | z
    · rw [z]; exact h1.arT
    · exact two_ar (back_ar h2 w.2.1) (back_ar h3 w.2.2) u z
theorem tbk_at {H : Hp} : ∀ {ts : List TEr} {vs : List V}, All2 (TErV H) ts vs → ∀ t ∈ ts, ∃ a, PAt H t.2.2 a
  | [], [], _, _, h => nomatch h
  | e :: es, v :: vs, h, x, hx => by
    rcases List.mem_cons.mp hx with z | z
    · rw [z]
      obtain ⟨_, _, b, _, _, _, hA⟩ := h.1
      exact ⟨b, hA⟩
    · exact tbk_at h.2 x z
  | [], _ :: _, h, _, _ => h.elim
  | _ :: _, [], h, _, _ => h.elim
/-- a turned book that is looked at -/
structure TkO (es : List TEr) : Prop where
  l6 : es.length ≤ 6
  ok : ∀ e ∈ es, OkE e
  bf : BkF (backB es)
theorem mem_backB {es : List TEr} {e' : Er} (h : e' ∈ backB es) : ∃ e ∈ es, e' = (e.1, e.2.1, backT e.2.2) := by
  obtain ⟨e, he, rfl⟩ := List.mem_map.mp h
  exact ⟨e, he, rfl⟩
theorem drawn_tk {es : List TEr} (h : GdTB es) : TkO es := by
  have ok := drawn_ok h
  obtain ⟨hF, hE, _⟩ := h.er
  refine ⟨h.len.2, ok, ?_, ?_, ?_, ?_, ?_, ?_, ?_⟩
  · unfold backB; rw [List.length_map]; exact h.len.2
  all_goals intro e' he'
  all_goals obtain ⟨e, he, rfl⟩ := mem_backB he'
  · exact (hE e he).w
  · exact (hE e he).ws
  · exact (hE e he).n4
  · exact (okP_back (hE e he).ok).1
  · have := cnt_back e.2.2
    have := (ok e he).nc
    show cnt (backT e.2.2) ≤ 2000
    omega
  · have := (okP_back (hE e he).ok).2
    have := (hE e he).cn
    show (pd (backT e.2.2)).depth ≤ 60
    omega
theorem turned_tk {H : Hp} {vs : List V} {hF : Str → Option Nat} {es : List Er} {ts : List TEr} (hat : All2 (TErV H) ts vs) (h : TR es ts) (hl : es.length ≤ 6) (ha : ∀ e ∈ es, GdE hF e ∧ arT e.2.2) : TkO ts ∧ bentB ts = none ∧ neatB ts = true ∧ BkC (backB ts) := by
  obtain ⟨k1, k2⟩ := TR_fit h ha
  have fit : ∀ t ∈ ts, isW t.1 = true ∧ (∀ x ∈ t.2.1, isW x = true) ∧ t.2.1.length ≤ 4 ∧ TuF t.2.1 t.2.2 := fun t ht => by
    obtain ⟨e, he, e1, e2, f⟩ := k2 t ht
    have g := (ha e he).1
    rw [e1, e2]
    exact ⟨g.w, g.ws, g.n4, f⟩
  have hbent : bentB ts = none := bentB_str fun t ht => (fit t ht).2.2.2.st
  refine ⟨⟨by omega, fun t ht => ?_, ?_, ?_, ?_, ?_, ?_, ?_, ?_⟩, hbent, ?_, ?_, ?_, ?_, ?_, ?_⟩
  · obtain ⟨f1, f2, f3, f⟩ := fit t ht
    exact ⟨f1, f.pc, f.nc, f.wf⟩
  · unfold backB; rw [List.length_map]; omega
  · intro e' he'
    obtain ⟨e, he, rfl⟩ := mem_backB he'
    exact (fit e he).1
  · intro e' he'
    obtain ⟨e, he, rfl⟩ := mem_backB he'
    exact (fit e he).2.1
  · intro e' he'
    obtain ⟨e, he, rfl⟩ := mem_backB he'
    exact (fit e he).2.2.1
  · intro e' he'
    obtain ⟨e, he, rfl⟩ := mem_backB he'
    exact (fit e he).2.2.2.ok
  · intro e' he'
    obtain ⟨e, he, rfl⟩ := mem_backB he'
    have := cnt_back e.2.2
    have := (fit e he).2.2.2.nc
    show cnt (backT e.2.2) ≤ 2000
    omega
  · intro e' he'
    obtain ⟨e, he, rfl⟩ := mem_backB he'
    exact Nat.le_trans (fit e he).2.2.2.dp (by decide)
  · unfold neatB
    rw [hbent]
    show (true && ts.all fun e => neatP e.2.2) = true
    rw [Bool.true_and, List.all_eq_true]
    exact fun t ht => (fit t ht).2.2.2.ne
  · unfold backB; rw [List.length_map]; omega
  · intro e' he'
    obtain ⟨e, he, rfl⟩ := mem_backB he'
    exact (fit e he).2.2.1
  · intro e' he'
    obtain ⟨e, he, rfl⟩ := mem_backB he'
    have f := (fit e he).2.2.2
    refine ht_depth ?_ (Nat.le_trans f.dp (by decide))
    obtain ⟨a, hA⟩ := tbk_at hat e he
    exact back_ar hA f.wf
  · intro e' he'
    obtain ⟨e, he, rfl⟩ := mem_backB he'
    have := cnt_back e.2.2
    have := (fit e he).2.2.2.nc
    show cnt (backT e.2.2) ≤ 2000
    omega
  · intro e' he'
    obtain ⟨e, he, rfl⟩ := mem_backB he'
    exact (fit e he).2.2.2.cl
section
variable {P : Program} {w : World} {K : PySem.W.Frag} {mg : Str → Option Value} {base : Heap} {CB : Addr}
/-! ### named_book -/
def spNamed : Sp := fun vs H Q _ => ∃ (p : Addr) (es : List Er) (us : List V) (hF : Str → Option Nat), vs = [.ref p] ∧ BkAt H es us p ∧ es.length ≤ 6 ∧ (∀ e ∈ es, GdE hF e) ∧ ∀ ts H' p' us', Same H H' → TR es ts → BkAt H' (backB ts) us' p' → Q (.ref p') H'
abbrev snamed_book : Stmt := top 35
theorem scnamed_book : FnScope ["book"] ["book"] (defScope snamed_book) := ⟨rfl, rfl, rfl, by decide +kernel, rfl, by decide +kernel, by decide +kernel⟩
theorem ok_named {k : Nat} {f f1 f2 : Addr} {fd d1 d2 : FuncData} (F : Fun K "named_book" "named_book" snamed_book f fd) (Gturn_book : FnOk P w K mg base CX0 7 f1 d1 ["book"] spTBook) (Rturn_book : Ref K mg "turn_book" f1 d1 ["book"])
    (Gback : FnOk P w K mg base (L2.CX P w) k f2 d2 ["turned"] (spBack CB)) (Rback : Ref K mg "back" f2 d2 ["turned"]) : FnOk P w K mg base CX0 (k + 8) f fd ["book"] spNamed := by
  refine F.ok scnamed_book (fun vs H Q E h => ?_) (fun cdv A outer s H vs Q E hr h => ?_)
  · obtain ⟨p, es, us, hF, rfl, _⟩ := h
    rfl
  obtain ⟨p, es, us, hF, rfl, hB, hl6, hE, q⟩ := h
  refine ⟨_, (pss_one (ps_ret (pe_call Gback (hr.mono (by omega)) rfl Rback.m Rback.k Rback.b .nil passX (pa_cons (pe_call Gturn_book (hr.mono (by omega)) rfl Rturn_book.m Rturn_book.k Rturn_book.b .nil pass0 (pa_cons (pv 0) pa_nil)) pa_nil)))), ?_⟩
  have har := bk_ar hB.2
  refine ⟨_, rfl, p, es, us, rfl, hB, hl6, fun e he => ⟨by have := (hE e he).cn; omega, by have := (hE e he).n4; omega⟩, fun H2 p2 vs2 s2 h2 k2 => ?_⟩
  obtain ⟨ts, k3, tr⟩ := turned_TR k2
  obtain ⟨o, hb, _, _⟩ := turned_tk k3 tr hl6 fun e he => ⟨hE e he, har e he⟩
  refine ⟨p2, ts, vs2, rfl, ⟨h2, k3⟩, o.l6, fun e he => ⟨by have := (o.ok e he).pc; omega, by have := (o.ok e he).nc; omega, (o.ok e he).wf⟩, fun _ p' us' H' s3 hk => q ts H' p' us' (s2.trans s3) tr hk, fun x hx => ?_⟩
  rw [hb] at hx
  cases hx
/-! ### _law_right -/
def spRight : Sp := fun vs H Q _ => ∃ (p : Addr) (es : List TEr) (us : List V), vs = [.ref p] ∧ TBkAt H es us p ∧ TkO es ∧ ∀ H', Same H H' → Q (.bl true) H'
abbrev s_law_right : Stmt := top 68
theorem scLright : FnScope ["other", "told"] ["other"] (defScope s_law_right) := ⟨rfl, rfl, rfl, by decide +kernel, rfl, by decide +kernel, by decide +kernel⟩
theorem ok_right (T : Txt K mg) (mrepr : mg "repr" = none) {k : Nat} {f f1 f2 f3 f4 f5 : Addr} {fd d1 d2 d3 d4 d5 : FuncData} (F : Fun K "_law_right" "_law_right" s_law_right f fd) (Gis_neat : FnOk P w K mg base CX0 4 f1 d1 ["turned"] spNeat) (Ris_neat : Ref K mg "is_neat" f1 d1 ["turned"])
    (G_law_is_neat : FnOk P w K mg base CX0 164 f2 d2 ["other"] spLNeat) (R_law_is_neat : Ref K mg "_law_is_neat" f2 d2 ["other"]) (G_law_bent_first : FnOk P w K mg base CX0 163 f3 d3 ["turned"] spLBF) (R_law_bent_first : Ref K mg "_law_bent_first" f3 d3 ["turned"])
    (Gback : FnOk P w K mg base (L2.CX P w) k f4 d4 ["turned"] (spBack CB)) (Rback : Ref K mg "back" f4 d4 ["turned"]) (G_law_back_book : FnOk P w K mg base CX0 163 f5 d5 ["other"] spLBackB) (R_law_back_book : Ref K mg "_law_back_book" f5 d5 ["other"]) : FnG P w K mg base CX0 (k + 165) f fd ["other"] spRight := by
  refine okG F scLright (fun vs H Q E h => ?_) (fun cdv A outer s H vs Q E gd hr h => ?_)
  · obtain ⟨p, es, us, rfl, _⟩ := h
    rfl
  obtain ⟨p, es, us, rfl, hB, hT, q⟩ := h
  refine ⟨_, (pss_cons (ps_set (i := 1) scLright.nd rfl (Or.inl rfl) (pe_call Gis_neat (hr.mono (by omega)) rfl Ris_neat.m Ris_neat.k Ris_neat.b .nil pass0 (pa_cons (pv 0) pa_nil)))
    (pss_cons (ps_if (PW.pt (pw_or (pt_not (pt_val (pe_callB call_isi (by rfl) T.m_isinstance (by decide +kernel) (pa_cons (pv 1) (pa_cons (pe_bltn (v := .ty "bool") rfl T.m_bool (by decide +kernel) rfl) pa_nil))))) (pw_or1 (pt_cmpR op_ne (pv 1) (pe_call G_law_is_neat (hr.mono (by omega)) rfl R_law_is_neat.m R_law_is_neat.k R_law_is_neat.b .nil pass0 (pa_cons (pv 0) pa_nil)) (nomark _))))) (pss_one (ps_ret pe_bl)) pss_nil)
    (pss_one (ps_ret (pe_or (pe_cmpR op_notN (pe_call G_law_bent_first (hr.mono (by omega)) rfl R_law_bent_first.m R_law_bent_first.k R_law_bent_first.b .nil pass0 (pa_cons (pv 0) pa_nil)) pe_non (nomark _)) (pe_one (pe_cmpR op_eq (pe_callB (call_repr6 gd (u66 hr)) (by rfl) mrepr (by decide +kernel) (pa_cons (pe_call Gback (hr.mono (by omega)) rfl Rback.m Rback.k Rback.b .nil passX (pa_cons (pv 0) pa_nil)) pa_nil)) (pe_callB (call_repr6 gd (u66 hr)) (by rfl) mrepr (by decide +kernel) (pa_cons (pe_call G_law_back_book (hr.mono (by omega)) rfl R_law_back_book.m R_law_back_book.k R_law_back_book.b .nil pass0 (pa_cons (pv 0) pa_nil)) pa_nil)) (nomark _)))))))), ?_⟩
  refine ⟨_, rfl, p, es, us, rfl, hB, fun e he => by have := (hT.ok e he).pc; omega, fun H1 s1 => ?_⟩
  have hB1 := hB.tk (tk_same s1)
  refine ⟨_, rfl, .bl (neatB es), .ty "bool", .type "bool", .type "bool", true, rfl, .ty "bool", .base (.bl _), kit_ty (by decide +kernel), _, rfl, ?_⟩
  refine iteF ⟨_, rfl, _, rfl, p, es, us, rfl, hB1, fun e he => ⟨(hT.ok e he).pc, (hT.ok e he).w⟩, fun H2 s2 => ?_⟩
  have hB2 := hB1.tk (tk_same s2)
  refine ⟨rfl, _, rfl, itF (by simp) ?_⟩
  refine ⟨_, rfl, p, es, us, rfl, hB2, fun e he => ⟨(hT.ok e he).pc, (hT.ok e he).w⟩, fun v3 H3 s3 hv3 => ?_⟩
  have hB3 := hB2.tk (tk_same s3)
  have s13 := s1.trans (s2.trans s3)
  cases hb : bentB es with
  | some x =>
    rw [hb] at hv3
    obtain ⟨rr, rfl, _⟩ : PlS H3 x v3 := hv3
    refine ⟨rfl, ?_⟩
    refine ⟨_, rfl, itT (by rw [decide_eq_false (by intro z; cases z)]; rfl) ?_⟩
    exact q _ s13
  | none =>
    rw [hb] at hv3
    have e0 : v3 = .non := hv3
    subst e0
    refine ⟨rfl, _, rfl, itF rfl ?_⟩
    have ft := bk_fit hT.bf
    refine ⟨_, rfl, p, es, us, rfl, hB3, hT.l6, fun e he => ⟨by have := (hT.ok e he).pc; omega, by have := (hT.ok e he).nc; omega, (hT.ok e he).wf⟩, fun _ p4 us4 H4 s4 k4 => ?_, fun x hx => ?_⟩
    · refine ⟨p4, pdB (backB es), rfl, dp_bk k4, ft, _, rfl, p, es, us, rfl, hB3.tk (tk_same s4), hT.l6, fun e he => ⟨(hT.ok e he).pc, (hT.ok e he).wf⟩, fun p5 us5 H5 s5 k5 => ?_⟩
      refine ⟨p5, pdB (backB es), rfl, dp_bk k5, ft, rfl, ?_⟩
      have e : decide (V.str (pdB (backB es)).shown = V.str (pdB (backB es)).shown) = true := decide_eq_true rfl
      rw [e]
      exact q _ (s13.trans (s4.trans s5))
    · rw [hb] at hx
      cases hx
/-! ### law -/
def BkW (H : Hp) (es : List TEr) (v : V) : Prop := ∃ p us, v = .ref p ∧ TBkAt H es us p ∧ TkO es
theorem BkW.tk {H H' : Hp} (k : TK H H') {es : List TEr} {v : V} (h : BkW H es v) : BkW H' es v := let ⟨p, us, e1, h1, h2⟩ := h; ⟨p, us, e1, h1.tk k, h2⟩
def spLaw (K : PySem.W.Frag) : Sp := fun vs H Q _ => ∃ (a : Addr) (ns : List Int), vs = [.ref a] ∧ SqL K H a (ns.map V.int) ∧ ns.length ≤ 63 ∧ ∀ H', Q (.bl true) H'
abbrev slaw : Stmt := top 69
theorem sclaw : FnScope ["script", "book", "other", "some", "start", "one", "named", "errand"] ["script"] (defScope slaw) := ⟨rfl, rfl, rfl, by decide +kernel, rfl, by decide +kernel, by decide +kernel⟩
theorem ok_law (T : Txt K mg) {f : Addr} {fd : FuncData} (F : Fun K "law" "law" slaw f fd) {k k1 k2 k3 k4 k5 k6 k7 : Nat} (hk : k1 ≤ k ∧ k2 ≤ k ∧ k3 ≤ k ∧ k4 ≤ k ∧ k5 ≤ k ∧ k6 ≤ k ∧ k7 ≤ k)
    (c1 : Cal P w K mg base CX0 "_law_book" ["script", "start"] k1 (spBook K)) (c2 : Cal P w K mg base CX0 "turn_book" ["book"] k2 spTBook) (c3 : Cal P w K mg base CX0 "_law_turned_book" ["script", "start", "straight"] k3 (spLTBook K))
    (c4 : Cal P w K mg base CX0 "is_neat" ["turned"] k4 spNeat) (c5 : Cal P w K mg base CX0 "named_book" ["book"] k5 spNamed) (c6 : Cal P w K mg base CX0 "_law_book_anew" ["book"] k6 spBAnew) (c7 : Cal P w K mg base CX0 "_law_back_book" ["other"] k7 spLBackB)
    {f8 : Addr} {d8 : FuncData} (G8 : FnG P w K mg base CX0 k f8 d8 ["other"] spRight) (R8 : Ref K mg "_law_right" f8 d8 ["other"]) : FnG P w K mg base CX0 (k + 1) f fd ["script"] (spLaw K) := by
  obtain ⟨hk1, hk2, hk3, hk4, hk5, hk6, hk7⟩ := hk
  obtain ⟨f1, d1, G_law_book, R_law_book⟩ := c1.c
  obtain ⟨f2, d2, Gturn_book, Rturn_book⟩ := c2.c
  obtain ⟨f3, d3, G_law_turned_book, R_law_turned_book⟩ := c3.c
  obtain ⟨f4, d4, Gis_neat, Ris_neat⟩ := c4.c
  obtain ⟨f5, d5, Gnamed_book, Rnamed_book⟩ := c5.c
  obtain ⟨f6, d6, G_law_book_anew, R_law_book_anew⟩ := c6.c
  obtain ⟨f7, d7, G_law_back_book, R_law_back_book⟩ := c7.c
  refine okG F sclaw (fun vs H Q E h => ?_) (fun cdv A outer s H vs Q E gd hr h => ?_)
  · obtain ⟨a, ns, rfl, _⟩ := h
    rfl
  obtain ⟨sc, ns, rfl, hS, hn63, q⟩ := h
  refine ⟨_, (pss_cons (ps_set (i := 1) sclaw.nd rfl (Or.inl rfl) (pe_call G_law_book (hr.mono (by omega)) rfl R_law_book.m R_law_book.k R_law_book.b .nil pass0 (pa_cons (pv 0) (pa_cons pe_int pa_nil))))
    (pss_cons (ps_set (i := 2) sclaw.nd rfl (Or.inl rfl) (pe_call Gturn_book (hr.mono (by omega)) rfl Rturn_book.m Rturn_book.k Rturn_book.b .nil pass0 (pa_cons (pv 1) pa_nil)))
    (pss_cons (ps_setLc (i := 3) (own := [("start", 4)]) (g := gName 4) (tt := tYes) (te := tCall (spLTBook K) [] E0 (tCons (tVar 0) (tCons (tVar 4) (tCons (tOp (rI0 fun i j => .bl (decide (i < j))) (tVar 4) (tC (.int 14))) tNil)))) (by rfl) sclaw.nd rfl rfl (sw_true rfl rfl rfl (by decide +kernel)) (pi_tup (pe_tup (pa_cons pe_int (pa_cons pe_int (pa_cons pe_int pa_nil))))) (blkOk_by (own := [("start", 4)]) (N := ["script", "book", "other", "some", "start", "one", "named", "errand"]) (sc := defScope slaw) (by decide +kernel)) (fun _ _ _ _ _ => (pg_name (i := 4) sclaw.nd rfl (Or.inl rfl))) (fun _ _ _ _ _ => pts_nil) (fun _ _ _ _ _ => (pe_call G_law_turned_book (hr.mono (by omega)) rfl R_law_turned_book.m R_law_turned_book.k R_law_turned_book.b .nil pass0 (pa_cons (pv 0) (pa_cons (pv 4) (pa_cons (pe_cmpR op_lt (pv 4) pe_int (nomark _)) pa_nil))))))
    (pss_cons (ps_expr (pe_bm PySem.F.plainAttrs_list PySem.F.slot_list_append PySem.F.type_list_append mt_append (pv 3) (pa_cons (pv 2) pa_nil)))
    (pss_cons (ps_if (PW.pt (pw_or (pt_not (pt_val (pe_callB (cr_all rfl) (by rfl) T.m_all (by decide +kernel) (pa_cons (pe_lc (own := [("one", 5)]) (g := gName 5) (by rfl) sclaw.nd (pi_list (pv 3)) (blkOk_by (own := [("one", 5)]) (N := ["script", "book", "other", "some", "start", "one", "named", "errand"]) (sc := defScope slaw) (by decide +kernel)) (fun _ _ _ _ _ => (pg_name (i := 5) sclaw.nd rfl (Or.inl rfl))) (fun _ _ _ _ _ => pts_nil) (fun _ _ _ _ _ => (pe_cr G8 gd hr R8.b rfl R8.m R8.k (pa_cons (pv 5) pa_nil)))) pa_nil)))) (pw_or1 (pt_cmpR op_notBl (pe_call Gis_neat (hr.mono (by omega)) rfl Ris_neat.m Ris_neat.k Ris_neat.b .nil pass0 (pa_cons (pv 2) pa_nil)) pe_bl (nomark _))))) (pss_one (ps_ret pe_bl)) pss_nil)
    (pss_cons (ps_set (i := 6) sclaw.nd rfl (Or.inl rfl) (pe_call Gnamed_book (hr.mono (by omega)) rfl Rnamed_book.m Rnamed_book.k Rnamed_book.b .nil pass0 (pa_cons (pv 1) pa_nil)))
    (pss_cons (ps_if (PW.pt (pw_or (pt_not (pt_val (pe_callB call_isi (by rfl) T.m_isinstance (by decide +kernel) (pa_cons (pv 6) (pa_cons (pe_bltn (v := .ty "tuple") rfl T.m_tuple (by decide +kernel) rfl) pa_nil))))) (pw_or1 (pt_not (pt_val (pe_callB (cr_all rfl) (by rfl) T.m_all (by decide +kernel) (pa_cons (pe_lc (own := [("errand", 7)]) (g := gName 7) (te := tCB (rIsi K) (tCons (tVar 7) (tCons (tC (.ty "tuple")) tNil))) (by rfl) sclaw.nd (pi_tup (pv 6)) (blkOk_by (own := [("errand", 7)]) (N := ["script", "book", "other", "some", "start", "one", "named", "errand"]) (sc := defScope slaw) (by decide +kernel)) (fun _ _ _ _ _ => (pg_name (i := 7) sclaw.nd rfl (Or.inl rfl))) (fun _ _ _ _ _ => pts_nil) (fun _ _ _ _ _ => (pe_callB call_isi (by rfl) T.m_isinstance (by decide +kernel) (pa_cons (pv 7) (pa_cons (pe_bltn (v := .ty "tuple") rfl T.m_tuple (by decide +kernel) rfl) pa_nil))))) pa_nil))))))) (pss_one (ps_ret pe_bl)) pss_nil)
    (pss_one (ps_ret (pe_cmpR (op_eqD hr.units) (pe_call G_law_book_anew (hr.mono (by omega)) rfl R_law_book_anew.m R_law_book_anew.k R_law_book_anew.b .nil pass0 (pa_cons (pv 6) pa_nil)) (pe_call G_law_book_anew (hr.mono (by omega)) rfl R_law_book_anew.m R_law_book_anew.k R_law_book_anew.b .nil pass0 (pa_cons (pe_call G_law_back_book (hr.mono (by omega)) rfl R_law_back_book.m R_law_back_book.k R_law_back_book.b .nil pass0 (pa_cons (pv 2) pa_nil)) pa_nil)) (nomark _))))))))))), ?_⟩
  -- the book, turned
  refine ⟨_, rfl, sc, ns, 0, rfl, hS, by decide, by decide, fun p1 es us1 H1 s1 hB1 hG1 => ?_⟩
  obtain ⟨hF, hE, _⟩ := hG1.er
  have hl6 := hG1.len.2
  have har := bk_ar hB1.2
  refine ⟨_, rfl, p1, es, us1, rfl, hB1, hl6, fun e he => ⟨by have := (hE e he).cn; omega, by have := (hE e he).n4; omega⟩, fun H2 p2 vs2 s2 h2 k2 => ?_⟩
  obtain ⟨ts, k3, tr⟩ := turned_TR k2
  obtain ⟨o, hb, hne, hC⟩ := turned_tk k3 tr hl6 fun e he => ⟨hE e he, har e he⟩
  have hB2 : TBkAt H2 ts vs2 p2 := ⟨h2, k3⟩
  have s12 := s1.trans s2
  -- some
  refine ⟨sz (by show 3 ≤ 100000; decide), fun t3 ht3 => ?_⟩
  have s3 := same_new ht3 (.tup [.int 0, .int 7, .int 14])
  have h3 : upd H2 t3 (.tup [.int 0, .int 7, .int 14]) t3 = some (.tup [.int 0, .int 7, .int 14]) := upd_same
  generalize upd H2 t3 (.tup [.int 0, .int 7, .int 14]) = H3 at s3 h3
  refine ⟨t3, rfl, ⟨_, SqT.of h3⟩, fun D hD => lc_tup (K := K) (a := t3) (xs := [.int 0, .int 7, .int 14]) (fun i H' => Same H3 H' ∧ ∃ acc bs, H' D = some (.lst acc) ∧ All2 (BkW H') bs acc ∧ acc.length = i) ⟨same_new hD _, [], [], upd_same, trivial, rfl⟩ ?_ ?_ ?_⟩
  · rintro i H' _ ⟨s4, _⟩
    exact SqT.of (s4 _ _ h3)
  · rintro i x H4 hx ⟨s4, acc, bs, h4, k4, hl4⟩
    obtain ⟨st, rfl, hst0, hst1⟩ : ∃ st : Int, x = .int st ∧ 0 ≤ st ∧ st ≤ 100 := by
      have hm := List.mem_of_getElem? hx
      simp only [List.mem_cons, List.not_mem_nil, or_false] at hm
      rcases hm with z | z | z <;> subst z <;> exact ⟨_, rfl, by decide, by decide⟩
    have hi3 : i < 3 := (List.getElem?_eq_some_iff.mp hx).1
    refine ⟨rfl, ?_⟩
    dsimp only [tYes]
    refine iteT ⟨_, rfl, _, rfl, _, rfl, _, _, rfl, rfl, sc, ns, st, _, rfl, (s12.trans (s3.trans s4)).seq hS, hst0, hst1, fun p5 es5 us5 H5 s5 hB5 hG5 => ?_⟩
    have h5 := s5 _ _ h4
    have tk := tk_put (o := .lst (acc ++ [.ref p5])) h5
    refine ⟨acc, h5, Nat.lt_of_le_of_lt (m := 100) (by omega) (by decide), same_mut (s4.trans s5) hD, _, bs ++ [es5], upd_same, ((k4.imp fun _ _ z => BkW.tk (tk_same s5) z).imp fun _ _ z => BkW.tk tk z).app ⟨⟨p5, us5, rfl, hB5.tk tk, drawn_tk hG5⟩, trivial⟩, by rw [List.length_append, hl4]; rfl⟩
  rintro H4 ⟨s4, acc, bs, h4, k4, hl4⟩
  have hl4 : acc.length = 3 := hl4
  have s34 := s3.trans (show Same H3 H4 from s4)
  have hD2 : H2 D = none := s3.free hD
  -- append
  refine ⟨_, rfl, .inl ⟨rfl, _, SqL.of h4⟩, _, rfl, D, _, _, rfl, rfl, h4, Nat.lt_of_le_of_lt (m := 100) (by omega) (by decide), ?_⟩
  have tk := tk_put (o := .lst (acc ++ [.ref p2])) h4
  have s25 : Same H2 (upd H4 D (.lst (acc ++ [.ref p2]))) := same_mut s34 hD2
  have h5 : upd H4 D (.lst (acc ++ [.ref p2])) D = some (.lst (acc ++ [.ref p2])) := upd_same
  have k5 : All2 (BkW (upd H4 D (.lst (acc ++ [.ref p2])))) (bs ++ [ts]) (acc ++ [.ref p2]) := (k4.imp fun _ _ z => BkW.tk tk z).app ⟨⟨p2, vs2, rfl, hB2.tk (tk_same s25), o⟩, trivial⟩
  generalize upd H4 D (.lst (acc ++ [.ref p2])) = H5 at s25 h5 k5
  -- all
  refine ⟨_, rfl, D, rfl, ⟨_, SqL.of h5⟩, fun D2 hD2' => lc_list (K := K) (a := D) (xs := acc ++ [.ref p2]) (fun i H' => Same H5 H' ∧ H' D2 = some (.lst ((List.replicate i true).map V.bl))) ⟨same_new hD2' _, upd_same⟩ ?_ ?_ ?_⟩
  · rintro i H' _ ⟨s6, _⟩
    exact SqL.of (s6 _ _ h5)
  · rintro i x H6 hx ⟨s6, h6⟩
    obtain ⟨es6, _, p6, us6, rfl, hB6, hO6⟩ := k5.get hx
    have hil := (List.getElem?_eq_some_iff.mp hx).1
    rw [List.length_append, hl4] at hil
    have hil : i < 4 := hil
    refine ⟨rfl, ?_⟩
    dsimp only [tYes]
    refine iteT ⟨_, rfl, p6, es6, us6, rfl, hB6.tk (tk_same s6), hO6, fun H7 s7 => ?_⟩
    refine ⟨_, s7 _ _ h6, Nat.lt_of_le_of_lt (m := 100) (by rw [List.length_map, List.length_replicate]; omega) (by decide), same_mut (s6.trans s7) hD2', ?_⟩
    rw [upd_same, List.replicate_succ', List.map_append]
    rfl
  rintro H6 ⟨s6, h6⟩
  have e6 : (List.replicate (acc ++ [V.ref p2]).length true).all id = true := by
    rw [List.all_eq_true]
    intro x hx
    rw [(List.mem_replicate.mp hx).2]
    rfl
  refine ⟨D2, _, rfl, SqL.of h6, _, rfl, ?_⟩
  rw [e6]
  have s26 := s25.trans (show Same H5 H6 from s6)
  have hB6 := hB2.tk (tk_same s26)
  refine iteF ⟨_, rfl, p2, ts, vs2, rfl, hB6, fun e he => by have := (o.ok e he).pc; omega, fun H7 s7 => ?_⟩
  have s27 := s26.trans s7
  rw [hne]
  refine ⟨true, true, rfl, rfl, _, rfl, itF rfl ?_⟩
  -- named
  have hB1' : BkAt H7 es us1 p1 := hB1.tk (tk_same (s2.trans s27))
  refine ⟨_, rfl, p1, es, us1, hF, rfl, hB1', hl6, hE, fun ts8 H8 p8 us8 s8 tr8 hB8 => ?_⟩
  have ets := TR_det tr8 tr har
  subst ets
  refine ⟨_, rfl, .ref p8, .ty "tuple", .type "tuple", .type "tuple", true, rfl, .ty "tuple", .base (.tup hB8.1), kit_ty (by decide +kernel), _, rfl, ?_⟩
  refine iteF ⟨_, rfl, p8, rfl, ⟨_, SqT.of hB8.1⟩, fun D3 hD3 => lc_tup (K := K) (a := p8) (xs := us8) (fun i H' => Same H8 H' ∧ H' D3 = some (.lst ((List.replicate i true).map V.bl))) ⟨same_new hD3 _, upd_same⟩ ?_ ?_ ?_⟩
  · rintro i H' _ ⟨s9, _⟩
    exact SqT.of (s9 _ _ hB8.1)
  · rintro i x H9 hx ⟨s9, h9⟩
    obtain ⟨e9, _, q9, r9, b9, rfl, g9, _⟩ := hB8.2.get hx
    have hil := (List.getElem?_eq_some_iff.mp hx).1
    have hul := hB8.2.len
    have hbl : (backB ts8).length ≤ 6 := o.bf.l6
    refine ⟨rfl, ?_⟩
    dsimp only [tYes]
    refine iteT ⟨_, rfl, .ref q9, .ty "tuple", .type "tuple", .type "tuple", true, rfl, .ty "tuple", .base (.tup (s9 _ _ g9)), kit_ty (by decide +kernel), ?_⟩
    refine ⟨_, h9, Nat.lt_of_le_of_lt (m := 100) (by rw [List.length_map, List.length_replicate]; omega) (by decide), same_mut s9 hD3, ?_⟩
    rw [upd_same, List.replicate_succ', List.map_append]
    rfl
  rintro H9 ⟨s9, h9⟩
  have e9 : (List.replicate us8.length true).all id = true := by
    rw [List.all_eq_true]
    intro x hx
    rw [(List.mem_replicate.mp hx).2]
    rfl
  refine ⟨D3, _, rfl, SqL.of h9, _, rfl, ?_⟩
  rw [e9]
  refine itF rfl ?_
  have s89 : Same H8 H9 := s9
  -- told anew
  refine ⟨_, rfl, p8, _, us8, rfl, hB8.tk (tk_same s89), hC, fun pa ua Ha sa hBa => ?_⟩
  have s2a := s27.trans (s8.trans (s89.trans sa))
  refine ⟨_, rfl, p2, ts8, vs2, rfl, hB2.tk (tk_same s2a), o.l6, fun e he => ⟨(o.ok e he).pc, (o.ok e he).wf⟩, fun pb ub Hb sb hBb => ?_⟩
  refine ⟨pb, _, ub, rfl, hBb, hC, fun pc uc Hc sc' hBc => ?_⟩
  have ft := bk_fit (anew_fit o.bf hC)
  refine ⟨_, _, dp_bk (hBa.tk (tk_same (sb.trans sc'))), dp_bk hBc, ft.sh, ft.sh, ?_⟩
  rw [eqv_self ft.sh]
  exact q _
end
end KB

namespace KB
open PySem L2
theorem all_mk {l : PySem.W.OpenLaw} {w : World} {K : PySem.W.Frag} {h : Heap} {mg : Str → Option Value} {fa : Addr} (X : K.In h) (G : h.Ns mainGlobals mg) (hfa : mg "law" = some (.ref fa))
    {f1 f2 f3 f4 f5 f6 f7 f8 f9 f10 f11 f12 f13 f14 f15 f16 f17 f18 f19 f20 f21 f22 f23 f24 f25 f26 f27 f28 f29 f30 f31 f32 f33 f34 f35 f36 f37 f38 f39 f40 f41 f42 f43 f44 f45 f46 f47 f48 f49 f50 f51 f52 f53 m1 m2 m3 m4 m5 m6 m7 m8 m9 m10 CN CT tuSIMPLE_HEADS CB : Addr}
    {od1 an1 od2 an2 od3 an3 od4 an4 od5 an5 od6 an6 od7 an7 od8 an8 od9 an9 od10 an10 od11 an11 od12 an12 od13 an13 od14 an14 od15 an15 od16 an16 od17 an17 od18 an18 od19 an19 od20 an20 od21 an21 od22 an22 od23 an23 od24 an24 od25 an25 od26 an26 od27 an27 od28 an28 od29 an29 od30 an30 od31 an31 od32 an32 od33 an33 od34 an34 od35 an35 od36 an36 od37 an37 od38 an38 od39 an39 od40 an40 od41 an41 od42 an42 od43 an43 od44 an44 od45 an45 od46 an46 od47 an47 od48 an48 od49 an49 od50 an50 od51 an51 od52 an52 od53 an53 mod1 man1 mod2 man2 mod3 man3 mod4 man4 mod5 man5 mod6 man6 mod7 man7 mod8 man8 mod9 man9 mod10 man10 : Option Addr}
    {sl1 sl2 sl3 sl4 sl5 sl6 sl7 sl8 sl9 sl10 sl11 sl12 sl13 sl14 sl15 sl16 sl17 sl18 sl19 sl20 sl21 sl22 sl23 sl24 sl25 sl26 sl27 sl28 sl29 sl30 sl31 sl32 sl33 sl34 sl35 sl36 sl37 sl38 sl39 sl40 sl41 sl42 sl43 sl44 sl45 sl46 sl47 sl48 sl49 sl50 sl51 sl52 sl53 msl1 msl2 msl3 msl4 msl5 msl6 msl7 msl8 msl9 msl10 : Array (Option Value)}
    {oc1 kV1 dc1 pm1 cd1 ct1 oc2 kV2 dc2 pm2 cd2 ct2 oc3 kV3 dc3 pm3 cd3 ct3 oc4 kV4 dc4 pm4 cd4 ct4 oc5 kV5 dc5 pm5 cd5 ct5 oc6 kV6 dc6 pm6 cd6 ct6 oc7 kV7 dc7 pm7 cd7 ct7 oc8 kV8 dc8 pm8 cd8 ct8 oc9 kV9 dc9 pm9 cd9 ct9 oc10 kV10 dc10 pm10 cd10 ct10 oc11 kV11 dc11 pm11 cd11 ct11 oc12 kV12 dc12 pm12 cd12 ct12 oc13 kV13 dc13 pm13 cd13 ct13 oc14 kV14 dc14 pm14 cd14 ct14 oc15 kV15 dc15 pm15 cd15 ct15 oc16 kV16 dc16 pm16 cd16 ct16 oc17 kV17 dc17 pm17 cd17 ct17 oc18 kV18 dc18 pm18 cd18 ct18 oc19 kV19 dc19 pm19 cd19 ct19 oc20 kV20 dc20 pm20 cd20 ct20 oc21 kV21 dc21 pm21 cd21 ct21 oc22 kV22 dc22 pm22 cd22 ct22 oc23 kV23 dc23 pm23 cd23 ct23 oc24 kV24 dc24 pm24 cd24 ct24 oc25 kV25 dc25 pm25 cd25 ct25 oc26 kV26 dc26 pm26 cd26 ct26 oc27 kV27 dc27 pm27 cd27 ct27 oc28 kV28 dc28 pm28 cd28 ct28 oc29 kV29 dc29 pm29 cd29 ct29 oc30 kV30 dc30 pm30 cd30 ct30 oc31 kV31 dc31 pm31 cd31 ct31 oc32 kV32 dc32 pm32 cd32 ct32 oc33 kV33 dc33 pm33 cd33 ct33 oc34 kV34 dc34 pm34 cd34 ct34 oc35 kV35 dc35 pm35 cd35 ct35 oc36 kV36 dc36 pm36 cd36 ct36 oc37 kV37 dc37 pm37 cd37 ct37 oc38 kV38 dc38 pm38 cd38 ct38 oc39 kV39 dc39 pm39 cd39 ct39 oc40 kV40 dc40 pm40 cd40 ct40 oc41 kV41 dc41 pm41 cd41 ct41 oc42 kV42 dc42 pm42 cd42 ct42 oc43 kV43 dc43 pm43 cd43 ct43 oc44 kV44 dc44 pm44 cd44 ct44 oc45 kV45 dc45 pm45 cd45 ct45 oc46 kV46 dc46 pm46 cd46 ct46 oc47 kV47 dc47 pm47 cd47 ct47 oc48 kV48 dc48 pm48 cd48 ct48 oc49 kV49 dc49 pm49 cd49 ct49 oc50 kV50 dc50 pm50 cd50 ct50 oc51 kV51 dc51 pm51 cd51 ct51 oc52 kV52 dc52 pm52 cd52 ct52 oc53 kV53 dc53 pm53 cd53 ct53 moc1 mkV1 mdc1 mpm1 mcd1 mct1 moc2 mkV2 mdc2 mpm2 mcd2 mct2 moc3 mkV3 mdc3 mpm3 mcd3 mct3 moc4 mkV4 mdc4 mpm4 mcd4 mct4 moc5 mkV5 mdc5 mpm5 mcd5 mct5 moc6 mkV6 mdc6 mpm6 mcd6 mct6 moc7 mkV7 mdc7 mpm7 mcd7 mct7 moc8 mkV8 mdc8 mpm8 mcd8 mct8 moc9 mkV9 mdc9 mpm9 mcd9 mct9 moc10 mkV10 mdc10 mpm10 mcd10 mct10 : Value}
    (a1 : PySem.W.nsIn K mainGlobals "met" = some (some (.ref f1)))
    (l1 : K.lookup f1 = some ⟨oc1, od1, .func (PySem.W.fnOf "met" "met" (defArgs smet) (defBody smet) (defScope smet) .none kV1 dc1 pm1 an1 cd1 ct1), sl1⟩)
    (c1 : PySem.W.codeIn K cd1 "met" = true)
    (k1 : PySem.W.keepIn K (.ref f1) = true)
    (a2 : PySem.W.nsIn K mainGlobals "remade" = some (some (.ref f2)))
    (l2 : K.lookup f2 = some ⟨oc2, od2, .func (PySem.W.fnOf "remade" "remade" (defArgs sremade) (defBody sremade) (defScope sremade) .none kV2 dc2 pm2 an2 cd2 ct2), sl2⟩)
    (c2 : PySem.W.codeIn K cd2 "remade" = true)
    (k2 : PySem.W.keepIn K (.ref f2) = true)
    (a3 : PySem.W.nsIn K mainGlobals "last_taken" = some (some (.ref f3)))
    (l3 : K.lookup f3 = some ⟨oc3, od3, .func (PySem.W.fnOf "last_taken" "last_taken" (defArgs slast_taken) (defBody slast_taken) (defScope slast_taken) .none kV3 dc3 pm3 an3 cd3 ct3), sl3⟩)
    (c3 : PySem.W.codeIn K cd3 "last_taken" = true)
    (k3 : PySem.W.keepIn K (.ref f3) = true)
    (a4 : PySem.W.nsIn K mainGlobals "parts_of" = some (some (.ref f4)))
    (l4 : K.lookup f4 = some ⟨oc4, od4, .func (PySem.W.fnOf "parts_of" "parts_of" (defArgs sparts_of) (defBody sparts_of) (defScope sparts_of) .none kV4 dc4 pm4 an4 cd4 ct4), sl4⟩)
    (c4 : PySem.W.codeIn K cd4 "parts_of" = true)
    (k4 : PySem.W.keepIn K (.ref f4) = true)
    (a5 : PySem.W.nsIn K mainGlobals "words_in" = some (some (.ref f5)))
    (l5 : K.lookup f5 = some ⟨oc5, od5, .func (PySem.W.fnOf "words_in" "words_in" (defArgs swords_in) (defBody swords_in) (defScope swords_in) .none kV5 dc5 pm5 an5 cd5 ct5), sl5⟩)
    (c5 : PySem.W.codeIn K cd5 "words_in" = true)
    (k5 : PySem.W.keepIn K (.ref f5) = true)
    (a6 : PySem.W.nsIn K mainGlobals "terms_in" = some (some (.ref f6)))
    (l6 : K.lookup f6 = some ⟨oc6, od6, .func (PySem.W.fnOf "terms_in" "terms_in" (defArgs sterms_in) (defBody sterms_in) (defScope sterms_in) .none kV6 dc6 pm6 an6 cd6 ct6), sl6⟩)
    (c6 : PySem.W.codeIn K cd6 "terms_in" = true)
    (k6 : PySem.W.keepIn K (.ref f6) = true)
    (a7 : PySem.W.nsIn K mainGlobals "rest_of" = some (some (.ref f7)))
    (l7 : K.lookup f7 = some ⟨oc7, od7, .func (PySem.W.fnOf "rest_of" "rest_of" (defArgs srest_of) (defBody srest_of) (defScope srest_of) .none kV7 dc7 pm7 an7 cd7 ct7), sl7⟩)
    (c7 : PySem.W.codeIn K cd7 "rest_of" = true)
    (k7 : PySem.W.keepIn K (.ref f7) = true)
    (a8 : PySem.W.nsIn K mainGlobals "turned_parts" = some (some (.ref f8)))
    (l8 : K.lookup f8 = some ⟨oc8, od8, .func (PySem.W.fnOf "turned_parts" "turned_parts" (defArgs sturned_parts) (defBody sturned_parts) (defScope sturned_parts) .none kV8 dc8 pm8 an8 cd8 ct8), sl8⟩)
    (c8 : PySem.W.codeIn K cd8 "turned_parts" = true)
    (k8 : PySem.W.keepIn K (.ref f8) = true)
    (a9 : PySem.W.nsIn K mainGlobals "hand_of" = some (some (.ref f9)))
    (l9 : K.lookup f9 = some ⟨oc9, od9, .func (PySem.W.fnOf "hand_of" "hand_of" (defArgs shand_of) (defBody shand_of) (defScope shand_of) .none kV9 dc9 pm9 an9 cd9 ct9), sl9⟩)
    (c9 : PySem.W.codeIn K cd9 "hand_of" = true)
    (k9 : PySem.W.keepIn K (.ref f9) = true)
    (a10 : PySem.W.nsIn K mainGlobals "word_of" = some (some (.ref f10)))
    (l10 : K.lookup f10 = some ⟨oc10, od10, .func (PySem.W.fnOf "word_of" "word_of" (defArgs sword_of) (defBody sword_of) (defScope sword_of) .none kV10 dc10 pm10 an10 cd10 ct10), sl10⟩)
    (c10 : PySem.W.codeIn K cd10 "word_of" = true)
    (k10 : PySem.W.keepIn K (.ref f10) = true)
    (a11 : PySem.W.nsIn K mainGlobals "turn_book" = some (some (.ref f11)))
    (l11 : K.lookup f11 = some ⟨oc11, od11, .func (PySem.W.fnOf "turn_book" "turn_book" (defArgs sturn_book) (defBody sturn_book) (defScope sturn_book) .none kV11 dc11 pm11 an11 cd11 ct11), sl11⟩)
    (c11 : PySem.W.codeIn K cd11 "turn_book" = true)
    (k11 : PySem.W.keepIn K (.ref f11) = true)
    (a12 : PySem.W.nsIn K mainGlobals "turned_body" = some (some (.ref f12)))
    (l12 : K.lookup f12 = some ⟨oc12, od12, .func (PySem.W.fnOf "turned_body" "turned_body" (defArgs sturned_body) (defBody sturned_body) (defScope sturned_body) .none kV12 dc12 pm12 an12 cd12 ct12), sl12⟩)
    (c12 : PySem.W.codeIn K cd12 "turned_body" = true)
    (k12 : PySem.W.keepIn K (.ref f12) = true)
    (a13 : PySem.W.nsIn K mainGlobals "jobs_to_end" = some (some (.ref f13)))
    (l13 : K.lookup f13 = some ⟨oc13, od13, .func (PySem.W.fnOf "jobs_to_end" "jobs_to_end" (defArgs sjobs_to_end) (defBody sjobs_to_end) (defScope sjobs_to_end) .none kV13 dc13 pm13 an13 cd13 ct13), sl13⟩)
    (c13 : PySem.W.codeIn K cd13 "jobs_to_end" = true)
    (k13 : PySem.W.keepIn K (.ref f13) = true)
    (a14 : PySem.W.nsIn K mainGlobals "put_ahead" = some (some (.ref f14)))
    (l14 : K.lookup f14 = some ⟨oc14, od14, .func (PySem.W.fnOf "put_ahead" "put_ahead" (defArgs sput_ahead) (defBody sput_ahead) (defScope sput_ahead) .none kV14 dc14 pm14 an14 cd14 ct14), sl14⟩)
    (c14 : PySem.W.codeIn K cd14 "put_ahead" = true)
    (k14 : PySem.W.keepIn K (.ref f14) = true)
    (a15 : PySem.W.nsIn K mainGlobals "bent_at" = some (some (.ref f15)))
    (l15 : K.lookup f15 = some ⟨oc15, od15, .func (PySem.W.fnOf "bent_at" "bent_at" (defArgs sbent_at) (defBody sbent_at) (defScope sbent_at) .none kV15 dc15 pm15 an15 cd15 ct15), sl15⟩)
    (c15 : PySem.W.codeIn K cd15 "bent_at" = true)
    (k15 : PySem.W.keepIn K (.ref f15) = true)
    (a16 : PySem.W.nsIn K mainGlobals "bent_in" = some (some (.ref f16)))
    (l16 : K.lookup f16 = some ⟨oc16, od16, .func (PySem.W.fnOf "bent_in" "bent_in" (defArgs sbent_in) (defBody sbent_in) (defScope sbent_in) .none kV16 dc16 pm16 an16 cd16 ct16), sl16⟩)
    (c16 : PySem.W.codeIn K cd16 "bent_in" = true)
    (k16 : PySem.W.keepIn K (.ref f16) = true)
    (a17 : PySem.W.nsIn K mainGlobals "back" = some (some (.ref f17)))
    (l17 : K.lookup f17 = some ⟨oc17, od17, .func (PySem.W.fnOf "back" "back" (defArgs sback) (defBody sback) (defScope sback) .none kV17 dc17 pm17 an17 cd17 ct17), sl17⟩)
    (c17 : PySem.W.codeIn K cd17 "back" = true)
    (k17 : PySem.W.keepIn K (.ref f17) = true)
    (a18 : PySem.W.nsIn K mainGlobals "part_back" = some (some (.ref f18)))
    (l18 : K.lookup f18 = some ⟨oc18, od18, .func (PySem.W.fnOf "part_back" "part_back" (defArgs spart_back) (defBody spart_back) (defScope spart_back) .none kV18 dc18 pm18 an18 cd18 ct18), sl18⟩)
    (c18 : PySem.W.codeIn K cd18 "part_back" = true)
    (k18 : PySem.W.keepIn K (.ref f18) = true)
    (a19 : PySem.W.nsIn K mainGlobals "is_neat" = some (some (.ref f19)))
    (l19 : K.lookup f19 = some ⟨oc19, od19, .func (PySem.W.fnOf "is_neat" "is_neat" (defArgs sis_neat) (defBody sis_neat) (defScope sis_neat) .none kV19 dc19 pm19 an19 cd19 ct19), sl19⟩)
    (c19 : PySem.W.codeIn K cd19 "is_neat" = true)
    (k19 : PySem.W.keepIn K (.ref f19) = true)
    (a20 : PySem.W.nsIn K mainGlobals "named_book" = some (some (.ref f20)))
    (l20 : K.lookup f20 = some ⟨oc20, od20, .func (PySem.W.fnOf "named_book" "named_book" (defArgs snamed_book) (defBody snamed_book) (defScope snamed_book) .none kV20 dc20 pm20 an20 cd20 ct20), sl20⟩)
    (c20 : PySem.W.codeIn K cd20 "named_book" = true)
    (k20 : PySem.W.keepIn K (.ref f20) = true)
    (a21 : PySem.W.nsIn K mainGlobals "_law_cell_at" = some (some (.ref f21)))
    (l21 : K.lookup f21 = some ⟨oc21, od21, .func (PySem.W.fnOf "_law_cell_at" "_law_cell_at" (defArgs s_law_cell_at) (defBody s_law_cell_at) (defScope s_law_cell_at) .none kV21 dc21 pm21 an21 cd21 ct21), sl21⟩)
    (c21 : PySem.W.codeIn K cd21 "_law_cell_at" = true)
    (k21 : PySem.W.keepIn K (.ref f21) = true)
    (a22 : PySem.W.nsIn K mainGlobals "_law_tape" = some (some (.ref f22)))
    (l22 : K.lookup f22 = some ⟨oc22, od22, .func (PySem.W.fnOf "_law_tape" "_law_tape" (defArgs s_law_tape) (defBody s_law_tape) (defScope s_law_tape) .none kV22 dc22 pm22 an22 cd22 ct22), sl22⟩)
    (c22 : PySem.W.codeIn K cd22 "_law_tape" = true)
    (k22 : PySem.W.keepIn K (.ref f22) = true)
    (a23 : PySem.W.nsIn K mainGlobals "_law_digit" = some (some (.ref f23)))
    (l23 : K.lookup f23 = some ⟨oc23, od23, .func (PySem.W.fnOf "_law_digit" "_law_digit" (defArgs s_law_digit) (defBody s_law_digit) (defScope s_law_digit) .none kV23 dc23 pm23 an23 cd23 ct23), sl23⟩)
    (c23 : PySem.W.codeIn K cd23 "_law_digit" = true)
    (k23 : PySem.W.keepIn K (.ref f23) = true)
    (a24 : PySem.W.nsIn K mainGlobals "_law_words" = some (some (.ref f24)))
    (l24 : K.lookup f24 = some ⟨oc24, od24, .func (PySem.W.fnOf "_law_words" "_law_words" (defArgs s_law_words) (defBody s_law_words) (defScope s_law_words) .none kV24 dc24 pm24 an24 cd24 ct24), sl24⟩)
    (c24 : PySem.W.codeIn K cd24 "_law_words" = true)
    (k24 : PySem.W.keepIn K (.ref f24) = true)
    (a25 : PySem.W.nsIn K mainGlobals "_law_number" = some (some (.ref f25)))
    (l25 : K.lookup f25 = some ⟨oc25, od25, .func (PySem.W.fnOf "_law_number" "_law_number" (defArgs s_law_number) (defBody s_law_number) (defScope s_law_number) .none kV25 dc25 pm25 an25 cd25 ct25), sl25⟩)
    (c25 : PySem.W.codeIn K cd25 "_law_number" = true)
    (k25 : PySem.W.keepIn K (.ref f25) = true)
    (a26 : PySem.W.nsIn K mainGlobals "_law_leaf" = some (some (.ref f26)))
    (l26 : K.lookup f26 = some ⟨oc26, od26, .func (PySem.W.fnOf "_law_leaf" "_law_leaf" (defArgs s_law_leaf) (defBody s_law_leaf) (defScope s_law_leaf) .none kV26 dc26 pm26 an26 cd26 ct26), sl26⟩)
    (c26 : PySem.W.codeIn K cd26 "_law_leaf" = true)
    (k26 : PySem.W.keepIn K (.ref f26) = true)
    (a27 : PySem.W.nsIn K mainGlobals "_law_shares" = some (some (.ref f27)))
    (l27 : K.lookup f27 = some ⟨oc27, od27, .func (PySem.W.fnOf "_law_shares" "_law_shares" (defArgs s_law_shares) (defBody s_law_shares) (defScope s_law_shares) .none kV27 dc27 pm27 an27 cd27 ct27), sl27⟩)
    (c27 : PySem.W.codeIn K cd27 "_law_shares" = true)
    (k27 : PySem.W.keepIn K (.ref f27) = true)
    (a28 : PySem.W.nsIn K mainGlobals "_law_less_one" = some (some (.ref f28)))
    (l28 : K.lookup f28 = some ⟨oc28, od28, .func (PySem.W.fnOf "_law_less_one" "_law_less_one" (defArgs s_law_less_one) (defBody s_law_less_one) (defScope s_law_less_one) .none kV28 dc28 pm28 an28 cd28 ct28), sl28⟩)
    (c28 : PySem.W.codeIn K cd28 "_law_less_one" = true)
    (k28 : PySem.W.keepIn K (.ref f28) = true)
    (a29 : PySem.W.nsIn K mainGlobals "_law_ask" = some (some (.ref f29)))
    (l29 : K.lookup f29 = some ⟨oc29, od29, .func (PySem.W.fnOf "_law_ask" "_law_ask" (defArgs s_law_ask) (defBody s_law_ask) (defScope s_law_ask) .none kV29 dc29 pm29 an29 cd29 ct29), sl29⟩)
    (c29 : PySem.W.codeIn K cd29 "_law_ask" = true)
    (k29 : PySem.W.keepIn K (.ref f29) = true)
    (a30 : PySem.W.nsIn K mainGlobals "_law_term" = some (some (.ref f30)))
    (l30 : K.lookup f30 = some ⟨oc30, od30, .func (PySem.W.fnOf "_law_term" "_law_term" (defArgs s_law_term) (defBody s_law_term) (defScope s_law_term) .none kV30 dc30 pm30 an30 cd30 ct30), sl30⟩)
    (c30 : PySem.W.codeIn K cd30 "_law_term" = true)
    (k30 : PySem.W.keepIn K (.ref f30) = true)
    (a31 : PySem.W.nsIn K mainGlobals "_law_body" = some (some (.ref f31)))
    (l31 : K.lookup f31 = some ⟨oc31, od31, .func (PySem.W.fnOf "_law_body" "_law_body" (defArgs s_law_body) (defBody s_law_body) (defScope s_law_body) .none kV31 dc31 pm31 an31 cd31 ct31), sl31⟩)
    (c31 : PySem.W.codeIn K cd31 "_law_body" = true)
    (k31 : PySem.W.keepIn K (.ref f31) = true)
    (a32 : PySem.W.nsIn K mainGlobals "_law_book" = some (some (.ref f32)))
    (l32 : K.lookup f32 = some ⟨oc32, od32, .func (PySem.W.fnOf "_law_book" "_law_book" (defArgs s_law_book) (defBody s_law_book) (defScope s_law_book) .none kV32 dc32 pm32 an32 cd32 ct32), sl32⟩)
    (c32 : PySem.W.codeIn K cd32 "_law_book" = true)
    (k32 : PySem.W.keepIn K (.ref f32) = true)
    (a33 : PySem.W.nsIn K mainGlobals "_law_parts" = some (some (.ref f33)))
    (l33 : K.lookup f33 = some ⟨oc33, od33, .func (PySem.W.fnOf "_law_parts" "_law_parts" (defArgs s_law_parts) (defBody s_law_parts) (defScope s_law_parts) .none kV33 dc33 pm33 an33 cd33 ct33), sl33⟩)
    (c33 : PySem.W.codeIn K cd33 "_law_parts" = true)
    (k33 : PySem.W.keepIn K (.ref f33) = true)
    (a34 : PySem.W.nsIn K mainGlobals "_law_simple" = some (some (.ref f34)))
    (l34 : K.lookup f34 = some ⟨oc34, od34, .func (PySem.W.fnOf "_law_simple" "_law_simple" (defArgs s_law_simple) (defBody s_law_simple) (defScope s_law_simple) .none kV34 dc34 pm34 an34 cd34 ct34), sl34⟩)
    (c34 : PySem.W.codeIn K cd34 "_law_simple" = true)
    (k34 : PySem.W.keepIn K (.ref f34) = true)
    (a35 : PySem.W.nsIn K mainGlobals "_law_some_hand" = some (some (.ref f35)))
    (l35 : K.lookup f35 = some ⟨oc35, od35, .func (PySem.W.fnOf "_law_some_hand" "_law_some_hand" (defArgs s_law_some_hand) (defBody s_law_some_hand) (defScope s_law_some_hand) .none kV35 dc35 pm35 an35 cd35 ct35), sl35⟩)
    (c35 : PySem.W.codeIn K cd35 "_law_some_hand" = true)
    (k35 : PySem.W.keepIn K (.ref f35) = true)
    (a36 : PySem.W.nsIn K mainGlobals "_law_end" = some (some (.ref f36)))
    (l36 : K.lookup f36 = some ⟨oc36, od36, .func (PySem.W.fnOf "_law_end" "_law_end" (defArgs s_law_end) (defBody s_law_end) (defScope s_law_end) .none kV36 dc36 pm36 an36 cd36 ct36), sl36⟩)
    (c36 : PySem.W.codeIn K cd36 "_law_end" = true)
    (k36 : PySem.W.keepIn K (.ref f36) = true)
    (a37 : PySem.W.nsIn K mainGlobals "_law_part" = some (some (.ref f37)))
    (l37 : K.lookup f37 = some ⟨oc37, od37, .func (PySem.W.fnOf "_law_part" "_law_part" (defArgs s_law_part) (defBody s_law_part) (defScope s_law_part) .none kV37 dc37 pm37 an37 cd37 ct37), sl37⟩)
    (c37 : PySem.W.codeIn K cd37 "_law_part" = true)
    (k37 : PySem.W.keepIn K (.ref f37) = true)
    (a38 : PySem.W.nsIn K mainGlobals "_law_turned_body" = some (some (.ref f38)))
    (l38 : K.lookup f38 = some ⟨oc38, od38, .func (PySem.W.fnOf "_law_turned_body" "_law_turned_body" (defArgs s_law_turned_body) (defBody s_law_turned_body) (defScope s_law_turned_body) .none kV38 dc38 pm38 an38 cd38 ct38), sl38⟩)
    (c38 : PySem.W.codeIn K cd38 "_law_turned_body" = true)
    (k38 : PySem.W.keepIn K (.ref f38) = true)
    (a39 : PySem.W.nsIn K mainGlobals "_law_turned_book" = some (some (.ref f39)))
    (l39 : K.lookup f39 = some ⟨oc39, od39, .func (PySem.W.fnOf "_law_turned_book" "_law_turned_book" (defArgs s_law_turned_book) (defBody s_law_turned_book) (defScope s_law_turned_book) .none kV39 dc39 pm39 an39 cd39 ct39), sl39⟩)
    (c39 : PySem.W.codeIn K cd39 "_law_turned_book" = true)
    (k39 : PySem.W.keepIn K (.ref f39) = true)
    (a40 : PySem.W.nsIn K mainGlobals "_law_lets" = some (some (.ref f40)))
    (l40 : K.lookup f40 = some ⟨oc40, od40, .func (PySem.W.fnOf "_law_lets" "_law_lets" (defArgs s_law_lets) (defBody s_law_lets) (defScope s_law_lets) .none kV40 dc40 pm40 an40 cd40 ct40), sl40⟩)
    (c40 : PySem.W.codeIn K cd40 "_law_lets" = true)
    (k40 : PySem.W.keepIn K (.ref f40) = true)
    (a41 : PySem.W.nsIn K mainGlobals "_law_inner" = some (some (.ref f41)))
    (l41 : K.lookup f41 = some ⟨oc41, od41, .func (PySem.W.fnOf "_law_inner" "_law_inner" (defArgs s_law_inner) (defBody s_law_inner) (defScope s_law_inner) .none kV41 dc41 pm41 an41 cd41 ct41), sl41⟩)
    (c41 : PySem.W.codeIn K cd41 "_law_inner" = true)
    (k41 : PySem.W.keepIn K (.ref f41) = true)
    (a42 : PySem.W.nsIn K mainGlobals "_law_simples" = some (some (.ref f42)))
    (l42 : K.lookup f42 = some ⟨oc42, od42, .func (PySem.W.fnOf "_law_simples" "_law_simples" (defArgs s_law_simples) (defBody s_law_simples) (defScope s_law_simples) .none kV42 dc42 pm42 an42 cd42 ct42), sl42⟩)
    (c42 : PySem.W.codeIn K cd42 "_law_simples" = true)
    (k42 : PySem.W.keepIn K (.ref f42) = true)
    (a43 : PySem.W.nsIn K mainGlobals "_law_tplaces" = some (some (.ref f43)))
    (l43 : K.lookup f43 = some ⟨oc43, od43, .func (PySem.W.fnOf "_law_tplaces" "_law_tplaces" (defArgs s_law_tplaces) (defBody s_law_tplaces) (defScope s_law_tplaces) .none kV43 dc43 pm43 an43 cd43 ct43), sl43⟩)
    (c43 : PySem.W.codeIn K cd43 "_law_tplaces" = true)
    (k43 : PySem.W.keepIn K (.ref f43) = true)
    (a44 : PySem.W.nsIn K mainGlobals "_law_called" = some (some (.ref f44)))
    (l44 : K.lookup f44 = some ⟨oc44, od44, .func (PySem.W.fnOf "_law_called" "_law_called" (defArgs s_law_called) (defBody s_law_called) (defScope s_law_called) .none kV44 dc44 pm44 an44 cd44 ct44), sl44⟩)
    (c44 : PySem.W.codeIn K cd44 "_law_called" = true)
    (k44 : PySem.W.keepIn K (.ref f44) = true)
    (a45 : PySem.W.nsIn K mainGlobals "_law_by_numbers" = some (some (.ref f45)))
    (l45 : K.lookup f45 = some ⟨oc45, od45, .func (PySem.W.fnOf "_law_by_numbers" "_law_by_numbers" (defArgs s_law_by_numbers) (defBody s_law_by_numbers) (defScope s_law_by_numbers) .none kV45 dc45 pm45 an45 cd45 ct45), sl45⟩)
    (c45 : PySem.W.codeIn K cd45 "_law_by_numbers" = true)
    (k45 : PySem.W.keepIn K (.ref f45) = true)
    (a46 : PySem.W.nsIn K mainGlobals "_law_book_anew" = some (some (.ref f46)))
    (l46 : K.lookup f46 = some ⟨oc46, od46, .func (PySem.W.fnOf "_law_book_anew" "_law_book_anew" (defArgs s_law_book_anew) (defBody s_law_book_anew) (defScope s_law_book_anew) .none kV46 dc46 pm46 an46 cd46 ct46), sl46⟩)
    (c46 : PySem.W.codeIn K cd46 "_law_book_anew" = true)
    (k46 : PySem.W.keepIn K (.ref f46) = true)
    (a47 : PySem.W.nsIn K mainGlobals "_law_bent_places" = some (some (.ref f47)))
    (l47 : K.lookup f47 = some ⟨oc47, od47, .func (PySem.W.fnOf "_law_bent_places" "_law_bent_places" (defArgs s_law_bent_places) (defBody s_law_bent_places) (defScope s_law_bent_places) .none kV47 dc47 pm47 an47 cd47 ct47), sl47⟩)
    (c47 : PySem.W.codeIn K cd47 "_law_bent_places" = true)
    (k47 : PySem.W.keepIn K (.ref f47) = true)
    (a48 : PySem.W.nsIn K mainGlobals "_law_bent_first" = some (some (.ref f48)))
    (l48 : K.lookup f48 = some ⟨oc48, od48, .func (PySem.W.fnOf "_law_bent_first" "_law_bent_first" (defArgs s_law_bent_first) (defBody s_law_bent_first) (defScope s_law_bent_first) .none kV48 dc48 pm48 an48 cd48 ct48), sl48⟩)
    (c48 : PySem.W.codeIn K cd48 "_law_bent_first" = true)
    (k48 : PySem.W.keepIn K (.ref f48) = true)
    (a49 : PySem.W.nsIn K mainGlobals "_law_back" = some (some (.ref f49)))
    (l49 : K.lookup f49 = some ⟨oc49, od49, .func (PySem.W.fnOf "_law_back" "_law_back" (defArgs s_law_back) (defBody s_law_back) (defScope s_law_back) .none kV49 dc49 pm49 an49 cd49 ct49), sl49⟩)
    (c49 : PySem.W.codeIn K cd49 "_law_back" = true)
    (k49 : PySem.W.keepIn K (.ref f49) = true)
    (a50 : PySem.W.nsIn K mainGlobals "_law_is_neat" = some (some (.ref f50)))
    (l50 : K.lookup f50 = some ⟨oc50, od50, .func (PySem.W.fnOf "_law_is_neat" "_law_is_neat" (defArgs s_law_is_neat) (defBody s_law_is_neat) (defScope s_law_is_neat) .none kV50 dc50 pm50 an50 cd50 ct50), sl50⟩)
    (c50 : PySem.W.codeIn K cd50 "_law_is_neat" = true)
    (k50 : PySem.W.keepIn K (.ref f50) = true)
    (a51 : PySem.W.nsIn K mainGlobals "_law_back_book" = some (some (.ref f51)))
    (l51 : K.lookup f51 = some ⟨oc51, od51, .func (PySem.W.fnOf "_law_back_book" "_law_back_book" (defArgs s_law_back_book) (defBody s_law_back_book) (defScope s_law_back_book) .none kV51 dc51 pm51 an51 cd51 ct51), sl51⟩)
    (c51 : PySem.W.codeIn K cd51 "_law_back_book" = true)
    (k51 : PySem.W.keepIn K (.ref f51) = true)
    (a52 : PySem.W.nsIn K mainGlobals "_law_right" = some (some (.ref f52)))
    (l52 : K.lookup f52 = some ⟨oc52, od52, .func (PySem.W.fnOf "_law_right" "_law_right" (defArgs s_law_right) (defBody s_law_right) (defScope s_law_right) .none kV52 dc52 pm52 an52 cd52 ct52), sl52⟩)
    (c52 : PySem.W.codeIn K cd52 "_law_right" = true)
    (k52 : PySem.W.keepIn K (.ref f52) = true)
    (a53 : PySem.W.nsIn K mainGlobals "law" = some (some (.ref f53)))
    (l53 : K.lookup f53 = some ⟨oc53, od53, .func (PySem.W.fnOf "law" "law" (defArgs slaw) (defBody slaw) (defScope slaw) .none kV53 dc53 pm53 an53 cd53 ct53), sl53⟩)
    (c53 : PySem.W.codeIn K cd53 "law" = true)
    (k53 : PySem.W.keepIn K (.ref f53) = true)
    (gCN : PySem.W.nsIn K mainGlobals "NewWords" = some (some (.ref CN)))
    (gCT : PySem.W.nsIn K mainGlobals "Turning" = some (some (.ref CT)))
    (gCB : PySem.W.nsIn K mainGlobals "Bent" = some (some (.ref CB)))
    (ma1 : PySem.W.findIn K (.ref CN) "__init__" = some (some (.ref m1)))
    (mi1 : PySem.W.isFn K (.ref m1) = true)
    (ml1 : K.lookup m1 = some ⟨moc1, mod1, .func (PySem.W.fnOf "__init__" "NewWords.__init__" (defArgs sNew0) (defBody sNew0) (defScope sNew0) .none mkV1 mdc1 mpm1 man1 mcd1 mct1), msl1⟩)
    (mc1 : PySem.W.codeIn K mcd1 "NewWords.__init__" = true)
    (mk1 : PySem.W.keepIn K (.ref m1) = true)
    (ma2 : PySem.W.findIn K (.ref CN) "one_more" = some (some (.ref m2)))
    (mi2 : PySem.W.isFn K (.ref m2) = true)
    (ml2 : K.lookup m2 = some ⟨moc2, mod2, .func (PySem.W.fnOf "one_more" "NewWords.one_more" (defArgs sMore) (defBody sMore) (defScope sMore) .none mkV2 mdc2 mpm2 man2 mcd2 mct2), msl2⟩)
    (mc2 : PySem.W.codeIn K mcd2 "NewWords.one_more" = true)
    (mk2 : PySem.W.keepIn K (.ref m2) = true)
    (ma3 : PySem.W.findIn K (.ref CT) "__init__" = some (some (.ref m3)))
    (mi3 : PySem.W.isFn K (.ref m3) = true)
    (ml3 : K.lookup m3 = some ⟨moc3, mod3, .func (PySem.W.fnOf "__init__" "Turning.__init__" (defArgs sT0) (defBody sT0) (defScope sT0) .none mkV3 mdc3 mpm3 man3 mcd3 mct3), msl3⟩)
    (mc3 : PySem.W.codeIn K mcd3 "Turning.__init__" = true)
    (mk3 : PySem.W.keepIn K (.ref m3) = true)
    (ma4 : PySem.W.findIn K (.ref CT) "go" = some (some (.ref m4)))
    (mi4 : PySem.W.isFn K (.ref m4) = true)
    (ml4 : K.lookup m4 = some ⟨moc4, mod4, .func (PySem.W.fnOf "go" "Turning.go" (defArgs sGo) (defBody sGo) (defScope sGo) .none mkV4 mdc4 mpm4 man4 mcd4 mct4), msl4⟩)
    (mc4 : PySem.W.codeIn K mcd4 "Turning.go" = true)
    (mk4 : PySem.W.keepIn K (.ref m4) = true)
    (ma5 : PySem.W.findIn K (.ref CT) "jobs_of" = some (some (.ref m5)))
    (mi5 : PySem.W.isFn K (.ref m5) = true)
    (ml5 : K.lookup m5 = some ⟨moc5, mod5, .func (PySem.W.fnOf "jobs_of" "Turning.jobs_of" (defArgs sJof) (defBody sJof) (defScope sJof) .none mkV5 mdc5 mpm5 man5 mcd5 mct5), msl5⟩)
    (mc5 : PySem.W.codeIn K mcd5 "Turning.jobs_of" = true)
    (mk5 : PySem.W.keepIn K (.ref m5) = true)
    (ma6 : PySem.W.findIn K (.ref CT) "jobs_done" = some (some (.ref m6)))
    (mi6 : PySem.W.isFn K (.ref m6) = true)
    (ml6 : K.lookup m6 = some ⟨moc6, mod6, .func (PySem.W.fnOf "jobs_done" "Turning.jobs_done" (defArgs sJdone) (defBody sJdone) (defScope sJdone) .none mkV6 mdc6 mpm6 man6 mcd6 mct6), msl6⟩)
    (mc6 : PySem.W.codeIn K mcd6 "Turning.jobs_done" = true)
    (mk6 : PySem.W.keepIn K (.ref m6) = true)
    (ma7 : PySem.W.findIn K (.ref CT) "jobs_put" = some (some (.ref m7)))
    (mi7 : PySem.W.isFn K (.ref m7) = true)
    (ml7 : K.lookup m7 = some ⟨moc7, mod7, .func (PySem.W.fnOf "jobs_put" "Turning.jobs_put" (defArgs sJput) (defBody sJput) (defScope sJput) .none mkV7 mdc7 mpm7 man7 mcd7 mct7), msl7⟩)
    (mc7 : PySem.W.codeIn K mcd7 "Turning.jobs_put" = true)
    (mk7 : PySem.W.keepIn K (.ref m7) = true)
    (ma8 : PySem.W.findIn K (.ref CT) "jobs_simple" = some (some (.ref m8)))
    (mi8 : PySem.W.isFn K (.ref m8) = true)
    (ml8 : K.lookup m8 = some ⟨moc8, mod8, .func (PySem.W.fnOf "jobs_simple" "Turning.jobs_simple" (defArgs sJsimp) (defBody sJsimp) (defScope sJsimp) .none mkV8 mdc8 mpm8 man8 mcd8 mct8), msl8⟩)
    (mc8 : PySem.W.codeIn K mcd8 "Turning.jobs_simple" = true)
    (mk8 : PySem.W.keepIn K (.ref m8) = true)
    (ma9 : PySem.W.findIn K (.ref CT) "finish" = some (some (.ref m9)))
    (mi9 : PySem.W.isFn K (.ref m9) = true)
    (ml9 : K.lookup m9 = some ⟨moc9, mod9, .func (PySem.W.fnOf "finish" "Turning.finish" (defArgs sFin) (defBody sFin) (defScope sFin) .none mkV9 mdc9 mpm9 man9 mcd9 mct9), msl9⟩)
    (mc9 : PySem.W.codeIn K mcd9 "Turning.finish" = true)
    (mk9 : PySem.W.keepIn K (.ref m9) = true)
    (ma10 : PySem.W.findIn K (.ref CB) "__init__" = some (some (.ref m10)))
    (mi10 : PySem.W.isFn K (.ref m10) = true)
    (ml10 : K.lookup m10 = some ⟨moc10, mod10, .func (PySem.W.fnOf "__init__" "Bent.__init__" (defArgs sBent0) (defBody sBent0) (defScope sBent0) .none mkV10 mdc10 mpm10 man10 mcd10 mct10), msl10⟩)
    (mc10 : PySem.W.codeIn K mcd10 "Bent.__init__" = true)
    (mk10 : PySem.W.keepIn K (.ref m10) = true)
    (pgCN : PySem.W.plainGet K CN Str.empty = true)
    (hdCN : PySem.W.hasDictIn K CN = true)
    (poCN : PySem.W.plainOver K CN = true)
    (saCN : PySem.W.findIn K (.ref CN) "__setattr__" = some (some (.builtin "object.__setattr__")))
    (msCN : PySem.W.makesIn K CN = true)
    (kcCN : PySem.W.keepIn K (.ref CN) = true)
    (nCNtaken : PySem.W.findIn K (.ref CN) "taken" = some none)
    (nCNmany : PySem.W.findIn K (.ref CN) "many" = some none)
    (pgCT : PySem.W.plainGet K CT Str.empty = true)
    (hdCT : PySem.W.hasDictIn K CT = true)
    (poCT : PySem.W.plainOver K CT = true)
    (saCT : PySem.W.findIn K (.ref CT) "__setattr__" = some (some (.builtin "object.__setattr__")))
    (msCT : PySem.W.makesIn K CT = true)
    (kcCT : PySem.W.keepIn K (.ref CT) = true)
    (nCTnew_words : PySem.W.findIn K (.ref CT) "new_words" = some none)
    (nCTjobs : PySem.W.findIn K (.ref CT) "jobs" = some none)
    (nCTrows : PySem.W.findIn K (.ref CT) "rows" = some none)
    (nCTgot : PySem.W.findIn K (.ref CT) "got" = some none)
    (z_len : PySem.W.nsIn K mainGlobals "len" = some none)
    (z_isinstance : PySem.W.nsIn K mainGlobals "isinstance" = some none)
    (z_int : PySem.W.nsIn K mainGlobals "int" = some none)
    (z_tuple : PySem.W.nsIn K mainGlobals "tuple" = some none)
    (z_list : PySem.W.nsIn K mainGlobals "list" = some none)
    (z_str : PySem.W.nsIn K mainGlobals "str" = some none)
    (z_bool : PySem.W.nsIn K mainGlobals "bool" = some none)
    (z_max : PySem.W.nsIn K mainGlobals "max" = some none)
    (z_all : PySem.W.nsIn K mainGlobals "all" = some none)
    (z_dict : PySem.W.nsIn K mainGlobals "dict" = some none)
    (z_range : PySem.W.nsIn K mainGlobals "range" = some none)
    (z_enumerate : PySem.W.nsIn K mainGlobals "enumerate" = some none)
    (z_reversed : PySem.W.nsIn K mainGlobals "reversed" = some none)
    (z_any : PySem.W.nsIn K mainGlobals "any" = some none)
    (z_min : PySem.W.nsIn K mainGlobals "min" = some none)
    (z_repr : PySem.W.nsIn K mainGlobals "repr" = some none)
    (z_ValueError : PySem.W.nsIn K mainGlobals "ValueError" = some none)
    {tSIGNS : Tok}
    (qSIGNS : PySem.W.nsIn K mainGlobals "SIGNS" = some (some (.str lettersS tSIGNS)))
    {tBEHIND : Tok}
    (qBEHIND : PySem.W.nsIn K mainGlobals "BEHIND" = some (some (.str "q" tBEHIND)))
    {tHOME : Tok}
    (qHOME : PySem.W.nsIn K mainGlobals "HOME" = some (some (.str "home" tHOME)))
    {obCB : Obj}
    (olCB : K.lookup CB = some obCB)
    (oqCB : oexObj CB obCB = true)
    (saCB : PySem.W.findIn K (.ref CB) "__setattr__" = some (some (.builtin "object.__setattr__")))
    (bCB : PySem.W.subIn K (.ref CB) (.type "BaseException") = some true)
    (tCB : PySem.W.typeIn K (.ref CB) = some (.type "type"))
    (kCB : PySem.W.keepIn K (.ref CB) = true)
    (noCB : PySem.W.findIn K (.ref CB) "place" = some none)
    (egCB : PySem.W.findIn K (.ref CB) "__getattribute__" = some (some (.builtin "BaseException.__getattribute__")))
    (ekCB : PySem.W.findIn K (.ref CB) "__getattr__" = some none)
    (edCB : PySem.W.hasDictIn K CB = true)
    (tyCB : PySem.W.typeIn K (.ref m10) = some (.type "function"))
    (taSIMPLE_HEADS : PySem.W.nsIn K mainGlobals "SIMPLE_HEADS" = some (some (.ref tuSIMPLE_HEADS)))
    {tdSIMPLE_HEADS : Option Addr} {tnSIMPLE_HEADS : Nat} {tsSIMPLE_HEADS : Array (Option Value)} {tvSIMPLE_HEADS : Array Value}
    (tlSIMPLE_HEADS : K.lookup tuSIMPLE_HEADS = some ⟨.type "tuple", tdSIMPLE_HEADS, .seq tvSIMPLE_HEADS tnSIMPLE_HEADS, tsSIMPLE_HEADS⟩)
    (twSIMPLE_HEADS : Vals heads tvSIMPLE_HEADS.toList)
    : ∃ fd : FuncData, (∀ (s : Shared) (v : Value), BindsTo s fd ⟨[v], []⟩ [("script", v)]) ∧ ∀ base : Heap, K.In base → base.Ns mainGlobals mg → FnG l.prog w K mg base CX0 175 fa fd ["script"] (spLaw K) := by
  have e := hfa.symm.trans (PySem.W.mg_of X G a53)
  cases e
  have T : Txt K mg := ⟨PySem.W.mg_none_of X G z_len, PySem.W.mg_none_of X G z_isinstance, PySem.W.mg_none_of X G z_int, PySem.W.mg_none_of X G z_tuple, PySem.W.mg_none_of X G z_list, PySem.W.mg_none_of X G z_str, PySem.W.mg_none_of X G z_bool, PySem.W.mg_none_of X G z_max, PySem.W.mg_none_of X G z_all, PySem.W.mg_none_of X G z_dict, PySem.W.mg_none_of X G z_range, PySem.W.mg_none_of X G z_enumerate, PySem.W.mg_none_of X G z_reversed⟩
  have hSIMPLE_HEADS : ∃ a, mg "SIMPLE_HEADS" = some (.ref a) ∧ ∀ H, SqT K H a heads := ⟨tuSIMPLE_HEADS, PySem.W.mg_of X G taSIMPLE_HEADS, fun H => .inr ⟨_, tvSIMPLE_HEADS, tnSIMPLE_HEADS, tlSIMPLE_HEADS, rfl, rfl, by
    have e9 := twSIMPLE_HEADS.length
    have e10 : heads.length = 4 := rfl
    rw [e10] at e9
    have e8 : tvSIMPLE_HEADS.size = 4 := by
      rw [← Array.length_toList]
      exact e9.symm
    rw [e8]
    decide, twSIMPLE_HEADS⟩⟩
  have XN : TxN K mg CN CT := ⟨⟨pgCN, hdCN, poCN, saCN⟩, nCNtaken, nCNmany, ⟨pgCT, hdCT, poCT, saCT⟩, nCTnew_words, nCTjobs, nCTrows, nCTgot, PySem.W.mg_of X G gCN, PySem.W.mg_of X G gCT⟩
  have SX : TxS K mg := ⟨⟨_, PySem.W.mg_of X G qSIGNS⟩, ⟨_, PySem.W.mg_of X G qBEHIND⟩, ⟨_, PySem.W.mg_of X G qHOME⟩⟩
  have F1 := fun_mk (st := smet) l1 c1 k1
  have R1 : Ref K mg "met" f1 _ ["body", "parts"] := ⟨PySem.W.mg_of X G a1, k1, F1.binds (ps := ["body", "parts"]) fun _ _ _ _ _ _ us hl => match us, hl with | [_, _], _ => rfl⟩
  have F2 := fun_mk (st := sremade) l2 c2 k2
  have R2 : Ref K mg "remade" f2 _ ["body", "parts", "made"] := ⟨PySem.W.mg_of X G a2, k2, F2.binds (ps := ["body", "parts", "made"]) fun _ _ _ _ _ _ us hl => match us, hl with | [_, _, _], _ => rfl⟩
  have F3 := fun_mk (st := slast_taken) l3 c3 k3
  have R3 : Ref K mg "last_taken" f3 _ ["got", "many"] := ⟨PySem.W.mg_of X G a3, k3, F3.binds (ps := ["got", "many"]) fun _ _ _ _ _ _ us hl => match us, hl with | [_, _], _ => rfl⟩
  have F4 := fun_mk (st := sparts_of) l4 c4 k4
  have R4 : Ref K mg "parts_of" f4 _ ["term"] := ⟨PySem.W.mg_of X G a4, k4, F4.binds (ps := ["term"]) fun _ _ _ _ _ _ us hl => match us, hl with | [_], _ => rfl⟩
  have F5 := fun_mk (st := swords_in) l5 c5 k5
  have R5 : Ref K mg "words_in" f5 _ ["names", "body"] := ⟨PySem.W.mg_of X G a5, k5, F5.binds (ps := ["names", "body"]) fun _ _ _ _ _ _ us hl => match us, hl with | [_, _], _ => rfl⟩
  have F6 := fun_mk (st := sterms_in) l6 c6 k6
  have R6 : Ref K mg "terms_in" f6 _ ["part"] := ⟨PySem.W.mg_of X G a6, k6, F6.binds (ps := ["part"]) fun _ _ _ _ _ _ us hl => match us, hl with | [_], _ => rfl⟩
  have F7 := fun_mk (st := srest_of) l7 c7 k7
  have R7 : Ref K mg "rest_of" f7 _ ["part"] := ⟨PySem.W.mg_of X G a7, k7, F7.binds (ps := ["part"]) fun _ _ _ _ _ _ us hl => match us, hl with | [_], _ => rfl⟩
  have F8 := fun_mk (st := sturned_parts) l8 c8 k8
  have R8 : Ref K mg "turned_parts" f8 _ ["part"] := ⟨PySem.W.mg_of X G a8, k8, F8.binds (ps := ["part"]) fun _ _ _ _ _ _ us hl => match us, hl with | [_], _ => rfl⟩
  have F9 := fun_mk (st := shand_of) l9 c9 k9
  have R9 : Ref K mg "hand_of" f9 _ ["part"] := ⟨PySem.W.mg_of X G a9, k9, F9.binds (ps := ["part"]) fun _ _ _ _ _ _ us hl => match us, hl with | [_], _ => rfl⟩
  have F10 := fun_mk (st := sword_of) l10 c10 k10
  have R10 : Ref K mg "word_of" f10 _ ["k"] := ⟨PySem.W.mg_of X G a10, k10, F10.binds (ps := ["k"]) fun _ _ _ _ _ _ us hl => match us, hl with | [_], _ => rfl⟩
  have F11 := fun_mk (st := sturn_book) l11 c11 k11
  have R11 : Ref K mg "turn_book" f11 _ ["book"] := ⟨PySem.W.mg_of X G a11, k11, F11.binds (ps := ["book"]) fun _ _ _ _ _ _ us hl => match us, hl with | [_], _ => rfl⟩
  have F12 := fun_mk (st := sturned_body) l12 c12 k12
  have R12 : Ref K mg "turned_body" f12 _ ["names", "body"] := ⟨PySem.W.mg_of X G a12, k12, F12.binds (ps := ["names", "body"]) fun _ _ _ _ _ _ us hl => match us, hl with | [_, _], _ => rfl⟩
  have F13 := fun_mk (st := sjobs_to_end) l13 c13 k13
  have R13 : Ref K mg "jobs_to_end" f13 _ ["term", "j"] := ⟨PySem.W.mg_of X G a13, k13, F13.binds (ps := ["term", "j"]) fun _ _ _ _ _ _ us hl => match us, hl with | [_, _], _ => rfl⟩
  have F14 := fun_mk (st := sput_ahead) l14 c14 k14
  have R14 : Ref K mg "put_ahead" f14 _ ["leads", "part"] := ⟨PySem.W.mg_of X G a14, k14, F14.binds (ps := ["leads", "part"]) fun _ _ _ _ _ _ us hl => match us, hl with | [_, _], _ => rfl⟩
  have F15 := fun_mk (st := sbent_at) l15 c15 k15
  have R15 : Ref K mg "bent_at" f15 _ ["turned"] := ⟨PySem.W.mg_of X G a15, k15, F15.binds (ps := ["turned"]) fun _ _ _ _ _ _ us hl => match us, hl with | [_], _ => rfl⟩
  have F16 := fun_mk (st := sbent_in) l16 c16 k16
  have R16 : Ref K mg "bent_in" f16 _ ["name", "body"] := ⟨PySem.W.mg_of X G a16, k16, F16.binds (ps := ["name", "body"]) fun _ _ _ _ _ _ us hl => match us, hl with | [_, _], _ => rfl⟩
  have F17 := fun_mk (st := sback) l17 c17 k17
  have R17 : Ref K mg "back" f17 _ ["turned"] := ⟨PySem.W.mg_of X G a17, k17, F17.binds (ps := ["turned"]) fun _ _ _ _ _ _ us hl => match us, hl with | [_], _ => rfl⟩
  have F18 := fun_mk (st := spart_back) l18 c18 k18
  have R18 : Ref K mg "part_back" f18 _ ["part", "own"] := ⟨PySem.W.mg_of X G a18, k18, F18.binds (ps := ["part", "own"]) fun _ _ _ _ _ _ us hl => match us, hl with | [_, _], _ => rfl⟩
  have F19 := fun_mk (st := sis_neat) l19 c19 k19
  have R19 : Ref K mg "is_neat" f19 _ ["turned"] := ⟨PySem.W.mg_of X G a19, k19, F19.binds (ps := ["turned"]) fun _ _ _ _ _ _ us hl => match us, hl with | [_], _ => rfl⟩
  have F20 := fun_mk (st := snamed_book) l20 c20 k20
  have R20 : Ref K mg "named_book" f20 _ ["book"] := ⟨PySem.W.mg_of X G a20, k20, F20.binds (ps := ["book"]) fun _ _ _ _ _ _ us hl => match us, hl with | [_], _ => rfl⟩
  have F21 := fun_mk (st := s_law_cell_at) l21 c21 k21
  have R21 : Ref K mg "_law_cell_at" f21 _ ["script", "k"] := ⟨PySem.W.mg_of X G a21, k21, F21.binds (ps := ["script", "k"]) fun _ _ _ _ _ _ us hl => match us, hl with | [_, _], _ => rfl⟩
  have F22 := fun_mk (st := s_law_tape) l22 c22 k22
  have R22 : Ref K mg "_law_tape" f22 _ ["script", "k"] := ⟨PySem.W.mg_of X G a22, k22, F22.binds (ps := ["script", "k"]) fun _ _ _ _ _ _ us hl => match us, hl with | [_, _], _ => rfl⟩
  have F23 := fun_mk (st := s_law_digit) l23 c23 k23
  have R23 : Ref K mg "_law_digit" f23 _ ["tape", "many"] := ⟨PySem.W.mg_of X G a23, k23, F23.binds (ps := ["tape", "many"]) fun _ _ _ _ _ _ us hl => match us, hl with | [_, _], _ => rfl⟩
  have F24 := fun_mk (st := s_law_words) l24 c24 k24
  have R24 : Ref K mg "_law_words" f24 _ ["tape", "many"] := ⟨PySem.W.mg_of X G a24, k24, F24.binds (ps := ["tape", "many"]) fun _ _ _ _ _ _ us hl => match us, hl with | [_, _], _ => rfl⟩
  have F25 := fun_mk (st := s_law_number) l25 c25 k25
  have R25 : Ref K mg "_law_number" f25 _ ["tape"] := ⟨PySem.W.mg_of X G a25, k25, F25.binds (ps := ["tape"]) fun _ _ _ _ _ _ us hl => match us, hl with | [_], _ => rfl⟩
  have F26 := fun_mk (st := s_law_leaf) l26 c26 k26
  have R26 : Ref K mg "_law_leaf" f26 _ ["tape", "known", "around"] := ⟨PySem.W.mg_of X G a26, k26, F26.binds (ps := ["tape", "known", "around"]) fun _ _ _ _ _ _ us hl => match us, hl with | [_, _, _], _ => rfl⟩
  have F27 := fun_mk (st := s_law_shares) l27 c27 k27
  have R27 : Ref K mg "_law_shares" f27 _ ["tape", "room", "many"] := ⟨PySem.W.mg_of X G a27, k27, F27.binds (ps := ["tape", "room", "many"]) fun _ _ _ _ _ _ us hl => match us, hl with | [_, _, _], _ => rfl⟩
  have F28 := fun_mk (st := s_law_less_one) l28 c28 k28
  have R28 : Ref K mg "_law_less_one" f28 _ ["around"] := ⟨PySem.W.mg_of X G a28, k28, F28.binds (ps := ["around"]) fun _ _ _ _ _ _ us hl => match us, hl with | [_], _ => rfl⟩
  have F29 := fun_mk (st := s_law_ask) l29 c29 k29
  have R29 : Ref K mg "_law_ask" f29 _ ["tape", "known", "around", "room", "deep"] := ⟨PySem.W.mg_of X G a29, k29, F29.binds (ps := ["tape", "known", "around", "room", "deep"]) fun _ _ _ _ _ _ us hl => match us, hl with | [_, _, _, _, _], _ => rfl⟩
  have F30 := fun_mk (st := s_law_term) l30 c30 k30
  have R30 : Ref K mg "_law_term" f30 _ ["tape", "known", "around", "room", "deep"] := ⟨PySem.W.mg_of X G a30, k30, F30.binds (ps := ["tape", "known", "around", "room", "deep"]) fun _ _ _ _ _ _ us hl => match us, hl with | [_, _, _, _, _], _ => rfl⟩
  have F31 := fun_mk (st := s_law_body) l31 c31 k31
  have R31 : Ref K mg "_law_body" f31 _ ["tape", "known", "names", "room"] := ⟨PySem.W.mg_of X G a31, k31, F31.binds (ps := ["tape", "known", "names", "room"]) fun _ _ _ _ _ _ us hl => match us, hl with | [_, _, _, _], _ => rfl⟩
  have F32 := fun_mk (st := s_law_book) l32 c32 k32
  have R32 : Ref K mg "_law_book" f32 _ ["script", "start"] := ⟨PySem.W.mg_of X G a32, k32, F32.binds (ps := ["script", "start"]) fun _ _ _ _ _ _ us hl => match us, hl with | [_, _], _ => rfl⟩
  have F33 := fun_mk (st := s_law_parts) l33 c33 k33
  have R33 : Ref K mg "_law_parts" f33 _ ["term"] := ⟨PySem.W.mg_of X G a33, k33, F33.binds (ps := ["term"]) fun _ _ _ _ _ _ us hl => match us, hl with | [_], _ => rfl⟩
  have F34 := fun_mk (st := s_law_simple) l34 c34 k34
  have R34 : Ref K mg "_law_simple" f34 _ ["tape", "around", "deep"] := ⟨PySem.W.mg_of X G a34, k34, F34.binds (ps := ["tape", "around", "deep"]) fun _ _ _ _ _ _ us hl => match us, hl with | [_, _, _], _ => rfl⟩
  have F35 := fun_mk (st := s_law_some_hand) l35 c35 k35
  have R35 : Ref K mg "_law_some_hand" f35 _ ["tape", "known", "hands"] := ⟨PySem.W.mg_of X G a35, k35, F35.binds (ps := ["tape", "known", "hands"]) fun _ _ _ _ _ _ us hl => match us, hl with | [_, _, _], _ => rfl⟩
  have F36 := fun_mk (st := s_law_end) l36 c36 k36
  have R36 : Ref K mg "_law_end" f36 _ ["tape", "known", "around", "hands"] := ⟨PySem.W.mg_of X G a36, k36, F36.binds (ps := ["tape", "known", "around", "hands"]) fun _ _ _ _ _ _ us hl => match us, hl with | [_, _, _, _], _ => rfl⟩
  have F37 := fun_mk (st := s_law_part) l37 c37 k37
  have R37 : Ref K mg "_law_part" f37 _ ["tape", "known", "around", "hands", "room", "deep"] := ⟨PySem.W.mg_of X G a37, k37, F37.binds (ps := ["tape", "known", "around", "hands", "room", "deep"]) fun _ _ _ _ _ _ us hl => match us, hl with | [_, _, _, _, _, _], _ => rfl⟩
  have F38 := fun_mk (st := s_law_turned_body) l38 c38 k38
  have R38 : Ref K mg "_law_turned_body" f38 _ ["tape", "known", "names"] := ⟨PySem.W.mg_of X G a38, k38, F38.binds (ps := ["tape", "known", "names"]) fun _ _ _ _ _ _ us hl => match us, hl with | [_, _, _], _ => rfl⟩
  have F39 := fun_mk (st := s_law_turned_book) l39 c39 k39
  have R39 : Ref K mg "_law_turned_book" f39 _ ["script", "start", "straight"] := ⟨PySem.W.mg_of X G a39, k39, F39.binds (ps := ["script", "start", "straight"]) fun _ _ _ _ _ _ us hl => match us, hl with | [_, _, _], _ => rfl⟩
  have F40 := fun_mk (st := s_law_lets) l40 c40 k40
  have R40 : Ref K mg "_law_lets" f40 _ ["term"] := ⟨PySem.W.mg_of X G a40, k40, F40.binds (ps := ["term"]) fun _ _ _ _ _ _ us hl => match us, hl with | [_], _ => rfl⟩
  have F41 := fun_mk (st := s_law_inner) l41 c41 k41
  have R41 : Ref K mg "_law_inner" f41 _ ["part"] := ⟨PySem.W.mg_of X G a41, k41, F41.binds (ps := ["part"]) fun _ _ _ _ _ _ us hl => match us, hl with | [_], _ => rfl⟩
  have F42 := fun_mk (st := s_law_simples) l42 c42 k42
  have R42 : Ref K mg "_law_simples" f42 _ ["part"] := ⟨PySem.W.mg_of X G a42, k42, F42.binds (ps := ["part"]) fun _ _ _ _ _ _ us hl => match us, hl with | [_], _ => rfl⟩
  have F43 := fun_mk (st := s_law_tplaces) l43 c43 k43
  have R43 : Ref K mg "_law_tplaces" f43 _ ["part", "place"] := ⟨PySem.W.mg_of X G a43, k43, F43.binds (ps := ["part", "place"]) fun _ _ _ _ _ _ us hl => match us, hl with | [_, _], _ => rfl⟩
  have F44 := fun_mk (st := s_law_called) l44 c44 k44
  have R44 : Ref K mg "_law_called" f44 _ ["term", "words"] := ⟨PySem.W.mg_of X G a44, k44, F44.binds (ps := ["term", "words"]) fun _ _ _ _ _ _ us hl => match us, hl with | [_, _], _ => rfl⟩
  have F45 := fun_mk (st := s_law_by_numbers) l45 c45 k45
  have R45 : Ref K mg "_law_by_numbers" f45 _ ["words"] := ⟨PySem.W.mg_of X G a45, k45, F45.binds (ps := ["words"]) fun _ _ _ _ _ _ us hl => match us, hl with | [_], _ => rfl⟩
  have F46 := fun_mk (st := s_law_book_anew) l46 c46 k46
  have R46 : Ref K mg "_law_book_anew" f46 _ ["book"] := ⟨PySem.W.mg_of X G a46, k46, F46.binds (ps := ["book"]) fun _ _ _ _ _ _ us hl => match us, hl with | [_], _ => rfl⟩
  have F47 := fun_mk (st := s_law_bent_places) l47 c47 k47
  have R47 : Ref K mg "_law_bent_places" f47 _ ["part", "place", "due"] := ⟨PySem.W.mg_of X G a47, k47, F47.binds (ps := ["part", "place", "due"]) fun _ _ _ _ _ _ us hl => match us, hl with | [_, _, _], _ => rfl⟩
  have F48 := fun_mk (st := s_law_bent_first) l48 c48 k48
  have R48 : Ref K mg "_law_bent_first" f48 _ ["turned"] := ⟨PySem.W.mg_of X G a48, k48, F48.binds (ps := ["turned"]) fun _ _ _ _ _ _ us hl => match us, hl with | [_], _ => rfl⟩
  have F49 := fun_mk (st := s_law_back) l49 c49 k49
  have R49 : Ref K mg "_law_back" f49 _ ["part"] := ⟨PySem.W.mg_of X G a49, k49, F49.binds (ps := ["part"]) fun _ _ _ _ _ _ us hl => match us, hl with | [_], _ => rfl⟩
  have F50 := fun_mk (st := s_law_is_neat) l50 c50 k50
  have R50 : Ref K mg "_law_is_neat" f50 _ ["other"] := ⟨PySem.W.mg_of X G a50, k50, F50.binds (ps := ["other"]) fun _ _ _ _ _ _ us hl => match us, hl with | [_], _ => rfl⟩
  have F51 := fun_mk (st := s_law_back_book) l51 c51 k51
  have R51 : Ref K mg "_law_back_book" f51 _ ["other"] := ⟨PySem.W.mg_of X G a51, k51, F51.binds (ps := ["other"]) fun _ _ _ _ _ _ us hl => match us, hl with | [_], _ => rfl⟩
  have F52 := fun_mk (st := s_law_right) l52 c52 k52
  have R52 : Ref K mg "_law_right" f52 _ ["other"] := ⟨PySem.W.mg_of X G a52, k52, F52.binds (ps := ["other"]) fun _ _ _ _ _ _ us hl => match us, hl with | [_], _ => rfl⟩
  have F53 := fun_mk (st := slaw) l53 c53 k53
  have MF1 := fun_mk (st := sNew0) ml1 mc1 mk1
  have Mb1 := MF1.binds (ps := ["self", "taken"]) fun _ _ _ _ _ _ us hl => match us, hl with | [_, _], _ => rfl
  have MF2 := fun_mk (st := sMore) ml2 mc2 mk2
  have Mb2 := MF2.binds (ps := ["self"]) fun _ _ _ _ _ _ us hl => match us, hl with | [_], _ => rfl
  have MF3 := fun_mk (st := sT0) ml3 mc3 mk3
  have Mb3 := MF3.binds (ps := ["self", "new_words"]) fun _ _ _ _ _ _ us hl => match us, hl with | [_, _], _ => rfl
  have MF4 := fun_mk (st := sGo) ml4 mc4 mk4
  have Mb4 := MF4.binds (ps := ["self", "jobs"]) fun _ _ _ _ _ _ us hl => match us, hl with | [_, _], _ => rfl
  have MF5 := fun_mk (st := sJof) ml5 mc5 mk5
  have Mb5 := MF5.binds (ps := ["self", "job"]) fun _ _ _ _ _ _ us hl => match us, hl with | [_, _], _ => rfl
  have MF6 := fun_mk (st := sJdone) ml6 mc6 mk6
  have Mb6 := MF6.binds (ps := ["self", "term", "j"]) fun _ _ _ _ _ _ us hl => match us, hl with | [_, _, _], _ => rfl
  have MF7 := fun_mk (st := sJput) ml7 mc7 mk7
  have Mb7 := MF7.binds (ps := ["self", "term", "x"]) fun _ _ _ _ _ _ us hl => match us, hl with | [_, _, _], _ => rfl
  have MF8 := fun_mk (st := sJsimp) ml8 mc8 mk8
  have Mb8 := MF8.binds (ps := ["self", "term"]) fun _ _ _ _ _ _ us hl => match us, hl with | [_, _], _ => rfl
  have MF9 := fun_mk (st := sFin) ml9 mc9 mk9
  have Mb9 := MF9.binds (ps := ["self", "job"]) fun _ _ _ _ _ _ us hl => match us, hl with | [_, _], _ => rfl
  have MF10 := fun_mk (st := sBent0) ml10 mc10 mk10
  have Mb10 := MF10.binds (ps := ["self", "place"]) fun _ _ _ _ _ _ us hl => match us, hl with | [_, _], _ => rfl
  refine ⟨PySem.W.fnOf "law" "law" (defArgs slaw) (defBody slaw) (defScope slaw) .none kV53 dc53 pm53 an53 cd53 ct53, fun s v => .of_eq rfl, fun base _ _ => ?_⟩
  have G_law_cell_at := ok_cell (P := l.prog) (w := w) (mg := mg) (base := base) T F21
  have G_law_tape := ok_tape (P := l.prog) (w := w) (mg := mg) (base := base) T F22 G_law_cell_at R21
  have G_law_digit := ok_dig (P := l.prog) (w := w) (mg := mg) (base := base) F23
  have G_law_words := ok_words (P := l.prog) (w := w) (mg := mg) (base := base) T F24 G_law_digit R23
  have G_law_number := ok_num (P := l.prog) (w := w) (mg := mg) (base := base) F25 G_law_digit R23
  have G_law_leaf := ok_leaf (P := l.prog) (w := w) (mg := mg) (base := base) T F26 G_law_digit R23 G_law_number R25
  have G_law_shares := ok_shares (P := l.prog) (w := w) (mg := mg) (base := base) T F27 G_law_digit R23
  have G_law_less_one := ok_less (P := l.prog) (w := w) (mg := mg) (base := base) F28
  have G_law_term := all_term (P := l.prog) (w := w) (mg := mg) (base := base) T F30 F29 G_law_digit R23 G_law_leaf R26 G_law_shares R27 G_law_less_one R28 R30 R29 12
  have G_law_body := ok_body (P := l.prog) (w := w) (mg := mg) (base := base) T F31 G_law_digit R23 G_law_shares R27 G_law_term R30
  have G_law_book := ok_book (P := l.prog) (w := w) (mg := mg) (base := base) T F32 G_law_digit R23 G_law_tape R22 G_law_words R24 G_law_body R31
  have Gparts_of := ok_parts (P := l.prog) (w := w) (mg := mg) (base := base) F4
  have Gmet := ok_met (P := l.prog) (w := w) (mg := mg) (base := base) TrT F1 (parts_kids Gparts_of) R4.k R4.b
  have Gwords_in := ok_wordsIn (P := l.prog) (w := w) (mg := mg) (base := base) F5 Gmet R1 R4
  have Gword_of := ok_wordOf (P := l.prog) (w := w) (mg := mg) (base := base) T SX F10
  have GNewWords___init__ := ok_new0 (P := l.prog) (w := w) (mg := mg) (base := base) XN MF1
  have GNewWords_one_more := ok_more (P := l.prog) (w := w) (mg := mg) (base := base) XN MF2 Gword_of R10
  have Gjobs_to_end := ok_jend (P := l.prog) (w := w) (mg := mg) (base := base) T F13
  have Gput_ahead := ok_ahead (P := l.prog) (w := w) (mg := mg) (base := base) T F14
  have GTurning_jobs_done := ok_jdone (P := l.prog) (w := w) (mg := mg) (base := base) MF6 Gjobs_to_end R13
  have GTurning_jobs_put := ok_jput (P := l.prog) (w := w) (mg := mg) (base := base) XN MF7 Gjobs_to_end R13 GNewWords_one_more Mb2 ⟨ma2, mi2, mk2⟩
  have GTurning_jobs_simple := ok_jsimp (P := l.prog) (w := w) (mg := mg) (base := base) XN MF8 GNewWords_one_more Mb2 ⟨ma2, mi2, mk2⟩
  have GTurning_jobs_of := ok_jof (P := l.prog) (w := w) (mg := mg) (base := base) XN MF5 GTurning_jobs_done Mb6 ⟨ma6, mi6, mk6⟩ GTurning_jobs_put Mb7 ⟨ma7, mi7, mk7⟩ GTurning_jobs_simple Mb8 ⟨ma8, mi8, mk8⟩
  have Glast_taken := ok_last (P := l.prog) (w := w) (mg := mg) (base := base) T F3
  have GTurning_finish := ok_fin (P := l.prog) (w := w) (mg := mg) (base := base) T XN MF9 Gput_ahead R14 Glast_taken R3
  have GTurning_go := ok_go (P := l.prog) (w := w) (mg := mg) (base := base) XN MF4 GTurning_jobs_of Mb5 ⟨ma5, mi5, mk5⟩ GTurning_finish Mb9 ⟨ma9, mi9, mk9⟩
  have GTurning___init__ := ok_t0 (P := l.prog) (w := w) (mg := mg) (base := base) XN MF3
  have Gturned_body := ok_tbody (P := l.prog) (w := w) (mg := mg) (base := base) XN SX F12 Gwords_in R5 GNewWords___init__ Mb1 ⟨msCN, ma1, mi1, kcCN⟩ GTurning___init__ Mb3 ⟨msCT, ma3, mi3, kcCT⟩ GTurning_go Mb4 ⟨ma4, mi4, mk4⟩
  have Gturn_book := ok_tbook (P := l.prog) (w := w) (mg := mg) (base := base) T F11 Gturned_body R12
  have G_law_simple := all_simple (P := l.prog) (w := w) (mg := mg) (base := base) T F34 G_law_digit R23 G_law_leaf R26 R34
  have G_law_some_hand := ok_hand (P := l.prog) (w := w) (mg := mg) (base := base) T F35 G_law_digit R23
  have G_law_end := ok_gend (P := l.prog) (w := w) (mg := mg) (base := base) T F36 G_law_digit R23 G_law_some_hand R35 G_law_less_one R28 G_law_simple R34
  have G_law_part := all_part (P := l.prog) (w := w) (mg := mg) (base := base) T F37 G_law_digit R23 G_law_some_hand R35 G_law_end R36 G_law_simple R34 G_law_shares R27 R37 8
  have G_law_turned_body := ok_ltbody (P := l.prog) (w := w) (mg := mg) (base := base) T F38 G_law_digit R23 G_law_part R37
  have G_law_turned_book := ok_ltbook (P := l.prog) (w := w) (mg := mg) (base := base) T F39 G_law_digit R23 G_law_tape R22 G_law_words R24 G_law_turned_body R38
  have OXCB : OexC K CB := oex_of olCB oqCB saCB bCB tCB kCB
  have GBent___init__ := ok_bent0 (P := l.prog) (w := w) (mg := mg) (base := base) OXCB noCB MF10
  have XB : OwnX l.prog w K mg base "Bent" "place" CB _ _ := ⟨OXCB, PySem.W.mg_of X G gCB, ma10, tyCB, Mb10, noCB, ⟨egCB, ekCB, bCB, edCB⟩, GBent___init__⟩
  have Gterms_in := ok_tin (P := l.prog) (w := w) (mg := mg) (base := base) F6
  have Grest_of := ok_rest (P := l.prog) (w := w) (mg := mg) (base := base) F7
  have Gturned_parts := ok_tparts (P := l.prog) (w := w) (mg := mg) (base := base) hSIMPLE_HEADS F8 Gparts_of R4 Gterms_in R6 Grest_of R7
  have Ghand_of := ok_handof (P := l.prog) (w := w) (mg := mg) (base := base) F9
  have Gbent_in := ok_bentin (P := l.prog) (w := w) (mg := mg) (base := base) T (PySem.W.mg_of X G qHOME) ⟨_, rfl⟩ F16 Ghand_of R9 Gterms_in R6 Grest_of R7
  have Gbent_at := ok_bentat (P := l.prog) (w := w) (mg := mg) (base := base) F15 Gbent_in R16
  have Gpart_back := ok_pback (P := l.prog) (w := w) (mg := mg) (base := base) F18
  have Gremade := ok_remade (P := l.prog) (w := w) (mg := mg) (base := base) TrN RefV backG backF backF_eq (fun k z => z.tk k) T F2 Gturned_parts R8.k R8.b Gpart_back R18.k R18.b Glast_taken R3
  have Gback := ok_back (P := l.prog) (w := w) (mg := mg) (base := base) T XB F17 Gbent_at R15 R8 R18 Gremade R2
  have G_law_inner := ok_inn (P := l.prog) (w := w) (mg := mg) (base := base) T F41
  have G_law_simples := ok_smp (P := l.prog) (w := w) (mg := mg) (base := base) T F42
  have G_law_tplaces := all_Tpl (P := l.prog) (w := w) (mg := mg) (base := base) T F43 R43 G_law_simples R42 G_law_inner R41 161
  have G_law_bent_places := all_lbp (P := l.prog) (w := w) (mg := mg) (base := base) T F47 R47 G_law_simples R42 G_law_inner R41 161
  have G_law_bent_first := ok_lbf (P := l.prog) (w := w) (mg := mg) (base := base) (PySem.W.mg_none_of X G z_min) F48 G_law_bent_places R47
  have Gmet2 := ok_met (P := l.prog) (w := w) (mg := mg) (base := base) TrP F1 Grest_of R7.k R7.b
  have Gis_neat := ok_isneat (P := l.prog) (w := w) (mg := mg) (base := base) T F19 Gbent_at R15 Gmet2 R1 R7
  have Gnamed_book := ok_named (P := l.prog) (w := w) (mg := mg) (base := base) F20 Gturn_book R11 Gback R17
  have G_law_parts := ok_Lparts (P := l.prog) (w := w) (mg := mg) (base := base) T F33
  have G_law_lets := all_Llets (P := l.prog) (w := w) (mg := mg) (base := base) F40 R40 G_law_parts R33 60
  have G_law_called := all_Lcalled (P := l.prog) (w := w) (mg := mg) (base := base) T F44 R44 G_law_parts R33 60
  have G_law_by_numbers := ok_Lbyn (P := l.prog) (w := w) (mg := mg) (base := base) T F45
  have G_law_book_anew := ok_Lbanew (P := l.prog) (w := w) (mg := mg) (base := base) T F46 G_law_by_numbers R45 G_law_lets R40 G_law_called R44
  have G_law_back := all_Lback (P := l.prog) (w := w) (mg := mg) (base := base) T F49 R49 G_law_inner R41 161
  have G_law_back_book := ok_Lbackb (P := l.prog) (w := w) (mg := mg) (base := base) T F51 G_law_back R49
  have G_law_is_neat := ok_Lneat (P := l.prog) (w := w) (mg := mg) (base := base) F50 G_law_tplaces R43 G_law_bent_first R48
  have G_law_right := ok_right (P := l.prog) (w := w) (mg := mg) (base := base) T (PySem.W.mg_none_of X G z_repr) F52 Gis_neat R19 G_law_is_neat R50 G_law_bent_first R48 Gback R17 G_law_back_book R51
  exact ok_law T F53 (by decide) ⟨_, _, G_law_book, R32⟩ ⟨_, _, Gturn_book, R11⟩ ⟨_, _, G_law_turned_book, R39⟩ ⟨_, _, Gis_neat, R19⟩ ⟨_, _, Gnamed_book, R20⟩ ⟨_, _, G_law_book_anew, R46⟩ ⟨_, _, G_law_back_book, R51⟩ G_law_right R52
theorem walk {l : PySem.W.OpenLaw} {q : Program} {loose : List Str} {XP : (Str → Option Value) → Heap → Prop} {YP : World → Heap → Prop} {d : DefRec} {K : Params → PySem.W.Frag} (hn : l.most = some 63) (hdf : d.params.defaults = [])
    (hY : ∀ (w : World) (h : Heap), YP w h → (K w.params).In h)
    (F : ∀ (w : World) (mg : Str → Option Value) (fa : Addr) (h : Heap), (K w.params).In h → h.Ns mainGlobals mg → mg d.name = some (.ref fa) →
      ∃ fd : FuncData, (∀ (s : Shared) (u : Value), BindsTo s fd ⟨[u], []⟩ [("script", u)]) ∧ ∀ base : Heap, (K w.params).In base → base.Ns mainGlobals mg → FnG l.prog w (K w.params) mg base CX0 175 fa fd ["script"] (spLaw (K w.params))) :
    PySem.W.WalkO q loose XP YP l.row.toRowW d [] (fun f vs => PySem.call f vs) :=
  walk_G (n := 63) (k := 175) (x := "script") (sp := fun w => spLaw (K w.params)) hn (by decide) hdf ⟨rfl, by decide, by decide⟩ hY F (fun _ _ a ns hl hS => ⟨a, ns, rfl, hS, hl, fun _ => rfl⟩)
end KB

open PySem PySem.W PyProof.Rows in
set_option maxRecDepth 100000 in
set_option maxHeartbeats 0 in
theorem PySem.Challenge.cw_whatnext_k21_turned_back_holds : PySem.Challenge.rw_whatnext_k21_turned_back.Holds := by
  w_on; o_law; k_head; (case hw => w_witness2)
  k_fill
  refine KB.walk (l := PySem.Challenge.rw_whatnext_k21_turned_back) rfl rfl (fun w h Y => PySem.W.kIn_of Y) ?F
  case F =>
    intro w mg fa h KX G hmg
    refine' KB.all_mk KX G hmg ?a1 ?l1 ?c1 ?k1 ?a2 ?l2 ?c2 ?k2 ?a3 ?l3 ?c3 ?k3 ?a4 ?l4 ?c4 ?k4 ?a5 ?l5 ?c5 ?k5 ?a6 ?l6 ?c6 ?k6 ?a7 ?l7 ?c7 ?k7 ?a8 ?l8 ?c8 ?k8 ?a9 ?l9 ?c9 ?k9 ?a10 ?l10 ?c10 ?k10 ?a11 ?l11 ?c11 ?k11 ?a12 ?l12 ?c12 ?k12 ?a13 ?l13 ?c13 ?k13 ?a14 ?l14 ?c14 ?k14 ?a15 ?l15 ?c15 ?k15 ?a16 ?l16 ?c16 ?k16 ?a17 ?l17 ?c17 ?k17 ?a18 ?l18 ?c18 ?k18 ?a19 ?l19 ?c19 ?k19 ?a20 ?l20 ?c20 ?k20 ?a21 ?l21 ?c21 ?k21 ?a22 ?l22 ?c22 ?k22 ?a23 ?l23 ?c23 ?k23 ?a24 ?l24 ?c24 ?k24 ?a25 ?l25 ?c25 ?k25 ?a26 ?l26 ?c26 ?k26 ?a27 ?l27 ?c27 ?k27 ?a28 ?l28 ?c28 ?k28 ?a29 ?l29 ?c29 ?k29 ?a30 ?l30 ?c30 ?k30 ?a31 ?l31 ?c31 ?k31 ?a32 ?l32 ?c32 ?k32 ?a33 ?l33 ?c33 ?k33 ?a34 ?l34 ?c34 ?k34 ?a35 ?l35 ?c35 ?k35 ?a36 ?l36 ?c36 ?k36 ?a37 ?l37 ?c37 ?k37 ?a38 ?l38 ?c38 ?k38 ?a39 ?l39 ?c39 ?k39 ?a40 ?l40 ?c40 ?k40 ?a41 ?l41 ?c41 ?k41 ?a42 ?l42 ?c42 ?k42 ?a43 ?l43 ?c43 ?k43 ?a44 ?l44 ?c44 ?k44 ?a45 ?l45 ?c45 ?k45 ?a46 ?l46 ?c46 ?k46 ?a47 ?l47 ?c47 ?k47 ?a48 ?l48 ?c48 ?k48 ?a49 ?l49 ?c49 ?k49 ?a50 ?l50 ?c50 ?k50 ?a51 ?l51 ?c51 ?k51 ?a52 ?l52 ?c52 ?k52 ?a53 ?l53 ?c53 ?k53 ?gCN ?gCT ?gCB ?ma1 ?mi1 ?ml1 ?mc1 ?mk1 ?ma2 ?mi2 ?ml2 ?mc2 ?mk2 ?ma3 ?mi3 ?ml3 ?mc3 ?mk3 ?ma4 ?mi4 ?ml4 ?mc4 ?mk4 ?ma5 ?mi5 ?ml5 ?mc5 ?mk5 ?ma6 ?mi6 ?ml6 ?mc6 ?mk6 ?ma7 ?mi7 ?ml7 ?mc7 ?mk7 ?ma8 ?mi8 ?ml8 ?mc8 ?mk8 ?ma9 ?mi9 ?ml9 ?mc9 ?mk9 ?ma10 ?mi10 ?ml10 ?mc10 ?mk10 ?pgCN ?hdCN ?poCN ?saCN ?msCN ?kcCN ?nCNtaken ?nCNmany ?pgCT ?hdCT ?poCT ?saCT ?msCT ?kcCT ?nCTnew_words ?nCTjobs ?nCTrows ?nCTgot ?z_len ?z_isinstance ?z_int ?z_tuple ?z_list ?z_str ?z_bool ?z_max ?z_all ?z_dict ?z_range ?z_enumerate ?z_reversed ?z_any ?z_min ?z_repr ?z_ValueError ?qSIGNS ?qBEHIND ?qHOME ?olCB ?oqCB ?saCB ?bCB ?tCB ?kCB ?noCB ?egCB ?ekCB ?edCB ?tyCB ?taSIMPLE_HEADS ?tlSIMPLE_HEADS ?twSIMPLE_HEADS
    (case a1 => k_is)
    (case l1 => k_is)
    (case c1 => k_is)
    (case k1 => k_is)
    (case a2 => k_is)
    (case l2 => k_is)
    (case c2 => k_is)
    (case k2 => k_is)
    (case a3 => k_is)
    (case l3 => k_is)
    (case c3 => k_is)
    (case k3 => k_is)
    (case a4 => k_is)
    (case l4 => k_is)
    (case c4 => k_is)
    (case k4 => k_is)
    (case a5 => k_is)
    (case l5 => k_is)
    (case c5 => k_is)
    (case k5 => k_is)
    (case a6 => k_is)
    (case l6 => k_is)
    (case c6 => k_is)
    (case k6 => k_is)
    (case a7 => k_is)
    (case l7 => k_is)
    (case c7 => k_is)
    (case k7 => k_is)
    (case a8 => k_is)
    (case l8 => k_is)
    (case c8 => k_is)
    (case k8 => k_is)
    (case a9 => k_is)
    (case l9 => k_is)
    (case c9 => k_is)
    (case k9 => k_is)
    (case a10 => k_is)
    (case l10 => k_is)
    (case c10 => k_is)
    (case k10 => k_is)
    (case a11 => k_is)
    (case l11 => k_is)
    (case c11 => k_is)
    (case k11 => k_is)
    (case a12 => k_is)
    (case l12 => k_is)
    (case c12 => k_is)
    (case k12 => k_is)
    (case a13 => k_is)
    (case l13 => k_is)
    (case c13 => k_is)
    (case k13 => k_is)
    (case a14 => k_is)
    (case l14 => k_is)
    (case c14 => k_is)
    (case k14 => k_is)
    (case a15 => k_is)
    (case l15 => k_is)
    (case c15 => k_is)
    (case k15 => k_is)
    (case a16 => k_is)
    (case l16 => k_is)
    (case c16 => k_is)
    (case k16 => k_is)
    (case a17 => k_is)
    (case l17 => k_is)
    (case c17 => k_is)
    (case k17 => k_is)
    (case a18 => k_is)
    (case l18 => k_is)
    (case c18 => k_is)
    (case k18 => k_is)
    (case a19 => k_is)
    (case l19 => k_is)
    (case c19 => k_is)
    (case k19 => k_is)
    (case a20 => k_is)
    (case l20 => k_is)
    (case c20 => k_is)
    (case k20 => k_is)
    (case a21 => k_is)
    (case l21 => k_is)
    (case c21 => k_is)
    (case k21 => k_is)
    (case a22 => k_is)
    (case l22 => k_is)
    (case c22 => k_is)
    (case k22 => k_is)
    (case a23 => k_is)
    (case l23 => k_is)
    (case c23 => k_is)
    (case k23 => k_is)
    (case a24 => k_is)
    (case l24 => k_is)
    (case c24 => k_is)
    (case k24 => k_is)
    (case a25 => k_is)
    (case l25 => k_is)
    (case c25 => k_is)
    (case k25 => k_is)
    (case a26 => k_is)
    (case l26 => k_is)
    (case c26 => k_is)
    (case k26 => k_is)
    (case a27 => k_is)
    (case l27 => k_is)
    (case c27 => k_is)
    (case k27 => k_is)
    (case a28 => k_is)
    (case l28 => k_is)
    (case c28 => k_is)
    (case k28 => k_is)
    (case a29 => k_is)
    (case l29 => k_is)
    (case c29 => k_is)
    (case k29 => k_is)
    (case a30 => k_is)
    (case l30 => k_is)
    (case c30 => k_is)
    (case k30 => k_is)
    (case a31 => k_is)
    (case l31 => k_is)
    (case c31 => k_is)
    (case k31 => k_is)
    (case a32 => k_is)
    (case l32 => k_is)
    (case c32 => k_is)
    (case k32 => k_is)
    (case a33 => k_is)
    (case l33 => k_is)
    (case c33 => k_is)
    (case k33 => k_is)
    (case a34 => k_is)
    (case l34 => k_is)
    (case c34 => k_is)
    (case k34 => k_is)
    (case a35 => k_is)
    (case l35 => k_is)
    (case c35 => k_is)
    (case k35 => k_is)
    (case a36 => k_is)
    (case l36 => k_is)
    (case c36 => k_is)
    (case k36 => k_is)
    (case a37 => k_is)
    (case l37 => k_is)
    (case c37 => k_is)
    (case k37 => k_is)
    (case a38 => k_is)
    (case l38 => k_is)
    (case c38 => k_is)
    (case k38 => k_is)
    (case a39 => k_is)
    (case l39 => k_is)
    (case c39 => k_is)
    (case k39 => k_is)
    (case a40 => k_is)
    (case l40 => k_is)
    (case c40 => k_is)
    (case k40 => k_is)
    (case a41 => k_is)
    (case l41 => k_is)
    (case c41 => k_is)
    (case k41 => k_is)
    (case a42 => k_is)
    (case l42 => k_is)
    (case c42 => k_is)
    (case k42 => k_is)
    (case a43 => k_is)
    (case l43 => k_is)
    (case c43 => k_is)
    (case k43 => k_is)
    (case a44 => k_is)
    (case l44 => k_is)
    (case c44 => k_is)
    (case k44 => k_is)
    (case a45 => k_is)
    (case l45 => k_is)
    (case c45 => k_is)
    (case k45 => k_is)
    (case a46 => k_is)
    (case l46 => k_is)
    (case c46 => k_is)
    (case k46 => k_is)
    (case a47 => k_is)
    (case l47 => k_is)
    (case c47 => k_is)
    (case k47 => k_is)
    (case a48 => k_is)
    (case l48 => k_is)
    (case c48 => k_is)
    (case k48 => k_is)
    (case a49 => k_is)
    (case l49 => k_is)
    (case c49 => k_is)
    (case k49 => k_is)
    (case a50 => k_is)
    (case l50 => k_is)
    (case c50 => k_is)
    (case k50 => k_is)
    (case a51 => k_is)
    (case l51 => k_is)
    (case c51 => k_is)
    (case k51 => k_is)
    (case a52 => k_is)
    (case l52 => k_is)
    (case c52 => k_is)
    (case k52 => k_is)
    (case a53 => k_is)
    (case l53 => k_is)
    (case c53 => k_is)
    (case k53 => k_is)
    (case gCN => k_is)
    (case gCT => k_is)
    (case gCB => k_is)
    (case ma1 => k_is)
    (case mi1 => k_is)
    (case ml1 => k_is)
    (case mc1 => k_is)
    (case mk1 => k_is)
    (case ma2 => k_is)
    (case mi2 => k_is)
    (case ml2 => k_is)
    (case mc2 => k_is)
    (case mk2 => k_is)
    (case ma3 => k_is)
    (case mi3 => k_is)
    (case ml3 => k_is)
    (case mc3 => k_is)
    (case mk3 => k_is)
    (case ma4 => k_is)
    (case mi4 => k_is)
    (case ml4 => k_is)
    (case mc4 => k_is)
    (case mk4 => k_is)
    (case ma5 => k_is)
    (case mi5 => k_is)
    (case ml5 => k_is)
    (case mc5 => k_is)
    (case mk5 => k_is)
    (case ma6 => k_is)
    (case mi6 => k_is)
    (case ml6 => k_is)
    (case mc6 => k_is)
    (case mk6 => k_is)
    (case ma7 => k_is)
    (case mi7 => k_is)
    (case ml7 => k_is)
    (case mc7 => k_is)
    (case mk7 => k_is)
    (case ma8 => k_is)
    (case mi8 => k_is)
    (case ml8 => k_is)
    (case mc8 => k_is)
    (case mk8 => k_is)
    (case ma9 => k_is)
    (case mi9 => k_is)
    (case ml9 => k_is)
    (case mc9 => k_is)
    (case mk9 => k_is)
    (case ma10 => k_is)
    (case mi10 => k_is)
    (case ml10 => k_is)
    (case mc10 => k_is)
    (case mk10 => k_is)
    (case pgCN => k_is)
    (case hdCN => k_is)
    (case poCN => k_is)
    (case saCN => k_is)
    (case msCN => k_is)
    (case kcCN => k_is)
    (case nCNtaken => k_is)
    (case nCNmany => k_is)
    (case pgCT => k_is)
    (case hdCT => k_is)
    (case poCT => k_is)
    (case saCT => k_is)
    (case msCT => k_is)
    (case kcCT => k_is)
    (case nCTnew_words => k_is)
    (case nCTjobs => k_is)
    (case nCTrows => k_is)
    (case nCTgot => k_is)
    (case z_len => k_is)
    (case z_isinstance => k_is)
    (case z_int => k_is)
    (case z_tuple => k_is)
    (case z_list => k_is)
    (case z_str => k_is)
    (case z_bool => k_is)
    (case z_max => k_is)
    (case z_all => k_is)
    (case z_dict => k_is)
    (case z_range => k_is)
    (case z_enumerate => k_is)
    (case z_reversed => k_is)
    (case z_any => k_is)
    (case z_min => k_is)
    (case z_repr => k_is)
    (case z_ValueError => k_is)
    (case qSIGNS => k_is)
    (case qBEHIND => k_is)
    (case qHOME => k_is)
    (case olCB => k_is)
    (case oqCB => rfl)
    (case saCB => k_is)
    (case bCB => k_is)
    (case tCB => k_is)
    (case kCB => k_is)
    (case noCB => k_is)
    (case egCB => k_is)
    (case ekCB => k_is)
    (case edCB => k_is)
    (case tyCB => k_is)
    (case taSIMPLE_HEADS => k_is)
    (case tlSIMPLE_HEADS => k_is)
    (case twSIMPLE_HEADS => exact .cons ⟨_, rfl⟩ (.cons ⟨_, rfl⟩ (.cons ⟨_, rfl⟩ (.cons ⟨_, rfl⟩ (.nil)))))
#print axioms PySem.Challenge.cw_whatnext_k21_turned_back_holds
