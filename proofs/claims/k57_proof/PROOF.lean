import PyProof.Rows.All
import Wide.All
import OpenK.AllK
import Wide.FinOn
import HandS.ForMost
import HandS.TupAny
import HandS.Style
import HandS.IsInst
import HandS.Star
import HandS.RevRange
import HandS.Wide
import HandS.Conv
import PyProof.StrOps2
import HandS.Evl
import HandS.CallLocal
import HandS.Lambda
import HandS.Nested
import HandS.EndTab
import KE.KNestM
import HandS.More
import KE.KDictZip
import HandS.Zip
import HandS.ForExc
import HandS.DictComp
import HandS.DictTup
import HandS.Walk
import KE.KDictKeyed
import HandS.Iter
import HandS.Flow
import PySem.Challenge.RW_whatnext_k57_whole_never_above_the_most
set_option Elab.async false
set_option maxRecDepth 100000
set_option maxHeartbeats 8000000
set_option linter.unusedVariables false
namespace KB
open PySem L2
open PySem.AutoSeq1 PySem.MeetsSeq PySem.MeetsSeq2 PySem.MeetsSeq3

def top (i : Nat) : Stmt := (PySem.Challenge.pw_whatnext_k57_whole_never_above_the_most).main.body.getD i (.Pass ⟨0, 0, 0, 0⟩)

/-! ### two rules that the layer lacks: a list extended by a tuple, a text times a number -/
theorem ext_lt (l b : Addr) (us ws : Array Value) (n m : Nat) (dd : Option Addr) (sl : Array (Option Value))
    (h0 : ¬(!us.isEmpty && Builtin.List.listTooLong (us.size + ws.size)) = true) (h1 : us.size ≤ sizeLine) (h2 : us.size + ws.size ≤ sizeLine + 1) :
    Meets (Builtin.«list.extend» ⟨[.ref l, .ref b], []⟩) (fun _ R s => s.heap.get? l = some { cls := .type "list", dict := none, data := .seq us n, slots := #[] } ∧
      s.heap.get? b = some { cls := .type "tuple", dict := dd, data := .seq ws m, slots := sl } ∧
      R (.ok (.ret Value.none)) { s with heap := s.heap.update l (Obj.mapSeq fun x => x ++ ws), toks := s.toks }) := by
  refine .of_wp fun prog w A R s h => ?_
  obtain ⟨hp, g, d, tk, os⟩ := s
  obtain ⟨hl, hb, h⟩ := h
  have f1 := idx_int; have f2 := sub_tuple_tuple; have f3 := sub_list_list; have f4 := sub_tuple_list; have f5 := sub_list_tuple
  have hz' : (us ++ ws).size ≤ sizeLine + 1 := by
    rw [Array.size_append]
    exact h2
  wp_walk using (wpAny_updateSeq hl rfl (hz := h1) (_hz' := hz')), wpAny_loadPart' hl, wpAny_loadPart' hb
  exact ⟨_, rfl, h⟩
section
variable {X : Cx}
def rExtT (K : PySem.W.Frag) : V → List V → Hp → VK → Prop := fun x vs H Q => ∃ l b xs zs, x = .ref l ∧ vs = [.ref b] ∧ H l = some (.lst xs) ∧ SqT K H b zs ∧ xs.length + zs.length ≤ sizeLine ∧ Q .non (upd H l (.lst (xs ++ zs)))
theorem mt_extT : MtR X "list.extend" (rExtT X.K) := by
  intro pins s σ H x vs v us Q I rx rv h
  obtain ⟨l, b, xs, zs, rfl, rfl, hH, hB, hz, q⟩ := h
  cases rx
  obtain ⟨u, rfl, ru⟩ := rv.one
  cases ru
  obtain ⟨z, its, n, r, hl, e⟩ := I.lstM hH
  obtain ⟨its2, r2, ⟨⟨c2, d2, a2, s2⟩, e2, hc, n2, hd⟩, _⟩ := I.tuple hB
  cases hc
  cases hd
  have hl2 := r2.length
  have hsz : its.toArray.size + its2.toArray.size ≤ sizeLine := by
    rw [List.size_toArray, List.size_toArray]
    omega
  have hlong : ¬ (!its.toArray.isEmpty && Builtin.List.listTooLong (its.toArray.size + its2.toArray.size)) = true := by
    rw [notLongL hsz, Bool.and_false]
    exact Bool.false_ne_true
  refine call_meets F.slot_list_extend ⟨_, e, rfl⟩ F.entry_list_extend (F.args_list_extend_2 _ _)
    (ext_lt l b its.toArray its2.toArray n n2 d2 s2 hlong (by rw [List.size_toArray]; omega) (by omega)) ⟨e, e2, ?_⟩
  exact ⟨.non, _, I.lset (its' := its ++ its2) hH e (by simp) (r.append r2) (by rw [List.length_append]; exact hz), rfl, q⟩
end
end KB

namespace KB
open PySem L2

/-! ### terms as data -/
inductive Hd | num (z : Int) | nam (x : Str) | plus | less | tell | lett (x : Str) | iff | ask (f : Str)
inductive Tm | mk (h : Hd) (n : Nat) (k : Fin n → Tm)
def hs : Hd → Str
  | .num _ => "number" | .nam _ => "name" | .plus => "plus" | .less => "less" | .tell => "tell" | .lett _ => "let" | .iff => "if" | .ask _ => "ask"
/-- what stands at a, xs being its parts -/
def Lay (H : Hp) (a : Addr) : Hd → List V → Prop
  | .num z, xs => xs = [] ∧ H a = some (.tup [.str "number", .int z])
  | .nam x, xs => xs = [] ∧ H a = some (.tup [.str "name", .str x])
  | .plus, xs => xs.length = 2 ∧ H a = some (.tup (.str "plus" :: xs))
  | .less, xs => xs.length = 2 ∧ H a = some (.tup (.str "less" :: xs))
  | .tell, xs => xs.length = 1 ∧ H a = some (.tup (.str "tell" :: xs))
  | .lett x, xs => xs.length = 2 ∧ H a = some (.tup (.str "let" :: .str x :: xs))
  | .iff, xs => xs.length = 3 ∧ H a = some (.tup (.str "if" :: xs))
  | .ask f, xs => xs.length ≤ 4 ∧ ∃ p, H a = some (.tup [.str "ask", .str f, .ref p]) ∧ H p = some (.tup xs)
def Rfs {n : Nat} (ys : Fin n → Addr) : List V := List.ofFn fun i => V.ref (ys i)
def At (H : Hp) : Tm → Addr → Prop
  | .mk h n k, a => ∃ ys : Fin n → Addr, Lay H a h (Rfs ys) ∧ ∀ i, At H (k i) (ys i)
def cnt : Tm → Nat
  | .mk _ _ k => 1 + (List.ofFn fun i => cnt (k i)).sum
def places : Tm → List (List Int)
  | .mk _ n k => [] :: (List.ofFn fun i : Fin n => (places (k i)).map ((i.val : Int) :: ·)).flatten
def flatHd : Hd → Bool
  | .num _ | .nam _ | .plus | .less => true
  | _ => false
def simple : Tm → Bool
  | .mk h _ k => flatHd h && (List.ofFn fun i => simple (k i)).all id
def letsOf : Tm → List Str
  | .mk h _ k => (match h with | .lett x => [x] | _ => []) ++ (List.ofFn fun i => letsOf (k i)).flatten

theorem Lay.mono {H H' : Hp} (e : Same H H') {a : Addr} {h : Hd} {xs : List V} (l : Lay H a h xs) : Lay H' a h xs := by
  cases h with
  | ask f => obtain ⟨z, p, h1, h2⟩ := l; exact ⟨z, p, e _ _ h1, e _ _ h2⟩
  | _ => exact ⟨l.1, e _ _ l.2⟩
theorem At.mono {H H' : Hp} (e : Same H H') : ∀ {t : Tm} {a : Addr}, At H t a → At H' t a := by
  intro t
  induction t with
  | mk h n k ih =>
    rintro a ⟨ys, l, r⟩
    exact ⟨ys, l.mono e, fun i => ih i (r i)⟩
/-- every node begins with its word -/
theorem Lay.head {H : Hp} {a : Addr} {h : Hd} {xs : List V} (l : Lay H a h xs) : ∃ r, H a = some (.tup (.str (hs h) :: r)) := by
  cases h with
  | ask f => obtain ⟨z, p, h1, h2⟩ := l; exact ⟨_, h1⟩
  | _ => exact ⟨_, l.2⟩

theorem same_new {H : Hp} {p : Addr} (h : H p = none) (o : HO) : Same H (upd H p o) := fun b u q => by
  rw [upd_ne (ne_of_none q h)]
  exact q
theorem sIx_at {n d : Nat} {i : Int} (h0 : 0 ≤ i) (h : i.toNat ≤ n) : HT.sIx n d (some i) = i.toNat := by
  show (if i < 0 then (i + (n : Int)).toNat else min i.toNat n) = i.toNat
  rw [if_neg (by omega)]
  omega
theorem sIx_no {n d : Nat} : HT.sIx n d none = d := rfl
theorem not_whole {xs : List V} {i : Int} (h0 : 0 < i) (h : i.toNat ≤ xs.length) : ¬ (HT.sIx xs.length 0 (some i) = 0 ∧ HT.sIx xs.length xs.length none = xs.length) := by
  rw [sIx_at (by omega) h]
  omega
theorem cut_from {xs : List V} {i : Int} (h0 : 0 ≤ i) (h : i.toNat ≤ xs.length) : cutV xs (some i) none = xs.drop i.toNat := by
  unfold cutV
  rw [sIx_at h0 h, sIx_no, List.take_of_length_le (by rw [List.length_drop]; exact Nat.le_refl _)]
theorem len1 {α : Type} {x : α} {r : List α} : 1 ≤ (x :: r).length := Nat.succ_le_succ (Nat.zero_le _)
theorem len2 {α : Type} {x y : α} {r : List α} : 2 ≤ (x :: y :: r).length := Nat.succ_le_succ len1
theorem cut1 {x : V} {r : List V} : cutV (x :: r) (some 1) none = r := cut_from (i := 1) (by decide) len1
theorem cut2 {x y : V} {r : List V} : cutV (x :: y :: r) (some 2) none = r := cut_from (i := 2) (by decide) len2
theorem itT {b : Bool} {A B : Prop} (e : b = true) (h : A) : if b = true then A else B := by
  rw [if_pos e]
  exact h
theorem itF {b : Bool} {A B : Prop} (e : b = false) (h : B) : if b = true then A else B := by
  rw [if_neg (by rw [e]; exact Bool.false_ne_true)]
  exact h
theorem at0 {x : V} {r : List V} : atI (x :: r) 0 = some x := at_of (j := 0) rfl rfl
theorem at1 {x y : V} {r : List V} : atI (x :: y :: r) 1 = some y := at_of (j := 1) rfl rfl
theorem at2 {x y z : V} {r : List V} : atI (x :: y :: z :: r) 2 = some z := at_of (j := 2) rfl rfl
theorem sz {n : Nat} (h : n ≤ 100000) : n ≤ sizeLine := Nat.le_trans h (by decide)
/-- the facts of the top -/
structure Ref (K : PySem.W.Frag) (mg : Str → Option Value) (x : Str) (f : Addr) (fd : FuncData) (ps : List Str) : Prop where
  m : mg x = some (.ref f)
  k : PySem.W.keepIn K (.ref f) = true
  b : Binds K fd ps []
structure Txt (K : PySem.W.Frag) (mg : Str → Option Value) : Prop where
  m_len : mg "len" = none
  m_isinstance : mg "isinstance" = none
  m_int : mg "int" = none
  m_tuple : mg "tuple" = none
  m_list : mg "list" = none
  m_str : mg "str" = none
  m_bool : mg "bool" = none
  m_max : mg "max" = none
  m_all : mg "all" = none
  m_dict : mg "dict" = none
  m_range : mg "range" = none
  m_enumerate : mg "enumerate" = none
  m_reversed : mg "reversed" = none

section
variable {P : Program} {w : World} {K : PySem.W.Frag} {mg : Str → Option Value} {base : Heap}
/-! ### parts_of and _law_parts -/
def spParts : Sp := fun vs H Q _ => ∃ a h xs, vs = [.ref a] ∧ Lay H a h xs ∧ ∀ p H', Same H H' → H' p = some (.tup xs) → Q (.ref p) H'
abbrev sparts_of : Stmt := top 11
theorem scparts_of : FnScope ["term"] ["term"] (defScope sparts_of) := ⟨rfl, rfl, rfl, by decide +kernel, rfl, by decide +kernel, by decide +kernel⟩
theorem ok_parts {f : Addr} {fd : FuncData} (F : Fun K "parts_of" "parts_of" sparts_of f fd) : FnOk P w K mg base CX0 1 f fd ["term"] spParts := by
  refine F.ok scparts_of (fun vs H Q E h => ?_) (fun cdv A outer s H vs Q E hr h => ?_)
  · obtain ⟨a, h, xs, rfl, _⟩ := h
    rfl
  obtain ⟨a, h, xs, rfl, l, q⟩ := h
  refine ⟨_, (pss_cons (ps_if (pt_cmpR op_in_seq (pe_ix ix_tup (pv 0) pe_int (fun _ _ => rfl)) (pe_tup (pa_cons pe_str (pa_cons pe_str pa_nil))) rfl) (pss_one (ps_ret (pe_tup pa_nil))) pss_nil)
    (pss_cons (ps_if (pt_cmpR op_eq (pe_ix ix_tup (pv 0) pe_int (fun _ _ => rfl)) pe_str (nomark _)) (pss_one (ps_ret (pe_ix ix_tup (pv 0) pe_int (fun _ _ => rfl)))) pss_nil)
    (pss_cons (ps_if (pt_cmpR op_eq (pe_ix ix_tup (pv 0) pe_int (fun _ _ => rfl)) pe_str (nomark _)) (pss_one (ps_ret (pe_slice sl_tupA (pv 0) (po_some pe_int) po_none))) pss_nil)
    (pss_one (ps_ret (pe_slice sl_tupA (pv 0) (po_some pe_int) po_none)))))), ?_⟩
  obtain ⟨r, hd⟩ := l.head
  refine ⟨_, rfl, a, _, _, _, rfl, rfl, SqT.of hd, at0, sz (by show 2 ≤ 100000; decide), fun t ht => ?_⟩
  have s1 := same_new ht (.tup [.str "number", .str "name"])
  have l1 := l.mono s1
  refine ⟨t, _, rfl, .inr (SqT.of upd_same), rfl, rfl, _, rfl, ?_⟩
  cases h with
  | num z =>
    refine itT rfl ⟨sz (by decide), fun p hp => q p _ (s1.trans (same_new hp _)) ?_⟩
    rw [l.1, upd_same]
  | nam z =>
    refine itT rfl ⟨sz (by decide), fun p hp => q p _ (s1.trans (same_new hp _)) ?_⟩
    rw [l.1, upd_same]
  | ask f =>
    obtain ⟨l1, p, l2, l3⟩ := l
    refine itF rfl ⟨_, rfl, a, _, _, _, rfl, rfl, SqT.of (s1 _ _ l2), at0, rfl, _, rfl, ?_⟩
    refine itT rfl ⟨_, rfl, a, _, _, _, rfl, rfl, SqT.of (s1 _ _ l2), at2, ?_⟩
    exact q p _ s1 (s1 _ _ l3)
  | lett x =>
    refine itF rfl ⟨_, rfl, a, _, _, _, rfl, rfl, SqT.of (s1 _ _ l.2), at0, rfl, _, rfl, ?_⟩
    refine itF rfl ⟨_, rfl, a, _, _, _, rfl, rfl, SqT.of (s1 _ _ l.2), at0, rfl, _, rfl, ?_⟩
    refine itT rfl ⟨_, rfl, _, rfl, a, _, rfl, SqT.of (s1 _ _ l.2), ?_, ?_⟩
    · exact fun z => absurd z (not_whole (by decide) len2)
    · intro _ p hp
      refine q p _ (s1.trans (same_new hp _)) ?_
      rw [upd_same, cut2]
  | plus | less | tell | iff =>
    refine itF rfl ⟨_, rfl, a, _, _, _, rfl, rfl, SqT.of (s1 _ _ l.2), at0, rfl, _, rfl, ?_⟩
    refine itF rfl ⟨_, rfl, a, _, _, _, rfl, rfl, SqT.of (s1 _ _ l.2), at0, rfl, _, rfl, ?_⟩
    refine itF rfl ⟨_, rfl, _, rfl, a, _, rfl, SqT.of (s1 _ _ l.2), ?_, ?_⟩
    · exact fun z => absurd z (not_whole (by decide) len1)
    · intro _ p hp
      refine q p _ (s1.trans (same_new hp _)) ?_
      rw [upd_same, cut1]
end
end KB

namespace KB
open PySem L2

/-! ### rules and small facts -/
def repS (z : Str) (k : Int) : Str := ⟨(List.replicate k.toNat z.cps).foldl (· ++ ·) #[]⟩
def rMulS : R2 := fun x y H Q => ∃ z k, x = .str z ∧ y = .int k ∧ 1 ≤ k ∧ k ≤ 1000 ∧ 1 ≤ z.length ∧ z.length ≤ 1000 ∧ Q (.str (repS z k)) H
theorem repS_one (z : Str) : repS z 1 = z := by
  unfold repS
  show (⟨#[] ++ z.cps⟩ : Str) = z
  rw [Array.empty_append]
theorem size_rep (xs : Array Nat) : ∀ (k : Nat) (acc : Array Nat), ((List.replicate k xs).foldl (· ++ ·) acc).size = acc.size + k * xs.size
  | 0, acc => by
    rw [Nat.zero_mul]
    rfl
  | k + 1, acc => by
    rw [List.replicate_succ, List.foldl_cons, size_rep xs k, Array.size_append, Nat.succ_mul]
    omega
theorem op_mul_str {X : Cx} : OpR X (binaryOp .Mult) rMulS := by
  intro pins s σ H x y v u Q I rx ry h
  obtain ⟨z, k, rfl, rfl, h1, h2, h3, h4, q⟩ := h
  obtain ⟨t, rfl⟩ := rx
  obtain ⟨t', rfl⟩ := ry
  refine PySem.P.mul_str ?_ ?_ ?_ ?_
  · rw [decide_eq_false (by omega), decide_eq_false (by omega)]
    rfl
  · intro _ _
    have e1 : (1000 : Int) * k ≤ 1000000 := by omega
    have e2 : (9223372036854775807 : Int) / k ≥ 9223372036854775 := by
      have e3 : (9223372036854775807 : Int) / k ≥ 9223372036854775807 / 1000 := by
        refine Int.le_ediv_of_mul_le (by omega) ?_
        have : (9223372036854775807 / 1000 : Int) = 9223372036854775 := by decide
        rw [this]
        have : (9223372036854775 : Int) * k ≤ 9223372036854775 * 1000 := Int.mul_le_mul_of_nonneg_left h2 (by decide)
        omega
      have : (9223372036854775807 / 1000 : Int) = 9223372036854775 := by decide
      omega
    have e4 : ((2 : Int) ^ 63 - 1) = 9223372036854775807 := by decide
    rw [e4]
    omega
  · intro _ _
    have e : z.length * k.toNat ≤ 1000 * 1000 := Nat.mul_le_mul h4 (by omega)
    exact decide_eq_false (by show ¬ _ > sizeLine; exact Nat.not_lt.mpr (Nat.le_trans e (by decide)))
  · rw [if_neg (by omega)]
    have hz : (z.length == 0) = false := by
      rw [beq_eq_false_iff_ne]
      omega
    by_cases hk : k = 1
    · subst hk
      rw [if_pos (by rfl)]
      rw [repS_one] at q
      exact ⟨.str z, H, I, ⟨t, rfl⟩, q⟩
    · have hk2 : (k == 1) = false := by
        rw [beq_eq_false_iff_ne]
        exact hk
      rw [if_neg (by rw [hk2, hz]; decide)]
      have e : z.length * k.toNat ≤ 1000 * 1000 := Nat.mul_le_mul h4 (by omega)
      have e2 := size_rep z.cps k.toNat #[]
      refine ⟨?_, .str (repS z k), H, I.tok _, ⟨_, rfl⟩, q⟩
      show (List.foldl (fun x1 x2 => x1 ++ x2) #[] (List.replicate k.toNat z.cps)).size ≤ sizeLine
      rw [e2, Nat.mul_comm]
      show 0 + z.length * k.toNat ≤ sizeLine
      rw [Nat.zero_add]
      exact Nat.le_trans e (by decide)

/-! ### stacks of terms -/
def Stk (H : Hp) : List V → List Tm → Prop
  | [], [] => True
  | v :: vs, t :: ts => (∃ b, v = .ref b ∧ At H t b) ∧ Stk H vs ts
  | _, _ => False
theorem Stk.mono {H H' : Hp} (e : Same H H') : ∀ {vs : List V} {ts : List Tm}, Stk H vs ts → Stk H' vs ts
  | [], [], _ => trivial
  | _ :: _, _ :: _, h => ⟨let ⟨b, e1, h1⟩ := h.1; ⟨b, e1, h1.mono e⟩, Stk.mono e h.2⟩
  | [], _ :: _, h => h.elim
  | _ :: _, [], h => h.elim
theorem Stk.app {H : Hp} : ∀ {vs us : List V} {ts ss : List Tm}, Stk H vs ts → Stk H us ss → Stk H (vs ++ us) (ts ++ ss)
  | [], _, [], _, _, k => k
  | _ :: _, _, _ :: _, _, h, k => ⟨h.1, Stk.app h.2 k⟩
  | [], _, _ :: _, _, h, _ => h.elim
  | _ :: _, _, [], _, h, _ => h.elim
theorem Stk.rev {H : Hp} : ∀ {vs : List V} {ts : List Tm}, Stk H vs ts → Stk H vs.reverse ts.reverse
  | [], [], _ => trivial
  | v :: vs, t :: ts, h => by
    rw [List.reverse_cons, List.reverse_cons]
    exact Stk.app (Stk.rev h.2) ⟨h.1, trivial⟩
  | [], _ :: _, h => h.elim
  | _ :: _, [], h => h.elim
theorem Stk.len {H : Hp} : ∀ {vs : List V} {ts : List Tm}, Stk H vs ts → vs.length = ts.length
  | [], [], _ => rfl
  | _ :: _, _ :: _, h => congrArg (· + 1) (Stk.len h.2)
  | [], _ :: _, h => h.elim
  | _ :: _, [], h => h.elim
theorem Stk.fn {H : Hp} : ∀ {n : Nat} {ys : Fin n → Addr} {k : Fin n → Tm}, (∀ i, At H (k i) (ys i)) → Stk H (Rfs ys) (List.ofFn k)
  | 0, _, _, _ => trivial
  | n + 1, ys, k, h => by
    unfold Rfs
    rw [List.ofFn_succ, List.ofFn_succ]
    exact ⟨⟨_, rfl, h 0⟩, Stk.fn (ys := fun i => ys i.succ) (k := fun i => k i.succ) fun i => h i.succ⟩
def cnts (ts : List Tm) : Nat := (ts.map cnt).sum
theorem cnts_app (a b : List Tm) : cnts (a ++ b) = cnts a + cnts b := by
  unfold cnts
  rw [List.map_append, List.sum_append]
theorem cnts_rev (a : List Tm) : cnts a.reverse = cnts a := by
  induction a with
  | nil => rfl
  | cons x r ih =>
    rw [List.reverse_cons, cnts_app, ih]
    unfold cnts
    simp only [List.map_cons, List.map_nil, List.sum_cons, List.sum_nil]
    omega
theorem cnt_mk {h : Hd} {n : Nat} {k : Fin n → Tm} : cnt (.mk h n k) = 1 + cnts (List.ofFn k) := by
  show 1 + (List.ofFn fun i => cnt (k i)).sum = 1 + ((List.ofFn k).map cnt).sum
  rw [List.map_ofFn]
  rfl
theorem cnts_cons {t : Tm} {r : List Tm} : cnts (t :: r) = cnt t + cnts r := rfl
theorem cnt_pos : ∀ t : Tm, 1 ≤ cnt t
  | .mk _ _ _ => by rw [cnt_mk]; omega
theorem len_cnts : ∀ ts : List Tm, ts.length ≤ cnts ts
  | [] => Nat.le_refl _
  | t :: r => by
    have h1 := cnt_pos t
    have h2 := len_cnts r
    rw [cnts_cons, List.length_cons]
    omega

section
variable {P : Program} {w : World} {K : PySem.W.Frag} {mg : Str → Option Value} {base : Heap}
theorem same_mut {H H' : Hp} {p : Addr} {o : HO} (e : Same H H') (h : H p = none) : Same H (upd H' p o) := fun a u ha => by
  rw [upd_ne (ne_of_none ha h)]
  exact e _ _ ha
/-- a list rewritten leaves the terms -/
theorem Lay.put {H : Hp} {l : Addr} {xs ys : List V} (hl : H l = some (.lst xs)) {a : Addr} {h : Hd} {us : List V} (q : Lay H a h us) : Lay (upd H l (.lst ys)) a h us := by
  have go : ∀ {b : Addr} {zs : List V}, H b = some (.tup zs) → upd H l (.lst ys) b = some (.tup zs) := fun {b zs} z => by
    rw [upd_ne (ne_of z hl (by intro e; cases e))]
    exact z
  cases h with
  | ask f => obtain ⟨z, p, h1, h2⟩ := q; exact ⟨z, p, go h1, go h2⟩
  | _ => exact ⟨q.1, go q.2⟩
theorem At.put {H : Hp} {l : Addr} {xs ys : List V} (hl : H l = some (.lst xs)) : ∀ {t : Tm} {a : Addr}, At H t a → At (upd H l (.lst ys)) t a := by
  intro t
  induction t with
  | mk h n k ih =>
    rintro a ⟨zs, q, r⟩
    exact ⟨zs, q.put hl, fun i => ih i (r i)⟩
theorem Stk.put {H : Hp} {l : Addr} {xs ys : List V} (hl : H l = some (.lst xs)) : ∀ {vs : List V} {ts : List Tm}, Stk H vs ts → Stk (upd H l (.lst ys)) vs ts
  | [], [], _ => trivial
  | _ :: _, _ :: _, h => ⟨let ⟨b, e1, h1⟩ := h.1; ⟨b, e1, h1.put hl⟩, Stk.put hl h.2⟩
  | [], _ :: _, h => h.elim
  | _ :: _, [], h => h.elim
end
end KB

namespace KB
open PySem L2

/-! ### what leaves the tuples -/
def TK (H H' : Hp) : Prop := ∀ a xs, H a = some (.tup xs) → H' a = some (.tup xs)
theorem TK.refl (H : Hp) : TK H H := fun _ _ h => h
theorem TK.trans {H H1 H2 : Hp} (a : TK H H1) (b : TK H1 H2) : TK H H2 := fun x o h => b x o (a x o h)
theorem tk_same {H H' : Hp} (e : Same H H') : TK H H' := fun a _ h => e a _ h
theorem tk_put {H : Hp} {l : Addr} {xs : List V} {o : HO} (hl : H l = some (.lst xs)) : TK H (upd H l o) := fun a zs z => by
  rw [upd_ne (ne_of z hl (by intro e; cases e))]
  exact z
theorem Lay.tk {H H' : Hp} (e : TK H H') {a : Addr} {h : Hd} {xs : List V} (l : Lay H a h xs) : Lay H' a h xs := by
  cases h with
  | ask f => obtain ⟨z, p, h1, h2⟩ := l; exact ⟨z, p, e _ _ h1, e _ _ h2⟩
  | _ => exact ⟨l.1, e _ _ l.2⟩
theorem At.tk {H H' : Hp} (e : TK H H') : ∀ {t : Tm} {a : Addr}, At H t a → At H' t a := by
  intro t
  induction t with
  | mk h n k ih =>
    rintro a ⟨ys, l, r⟩
    exact ⟨ys, l.tk e, fun i => ih i (r i)⟩

theorem Stk.tk {H H' : Hp} (e : TK H H') : ∀ {vs : List V} {ts : List Tm}, Stk H vs ts → Stk H' vs ts
  | [], [], _ => trivial
  | _ :: _, _ :: _, h => ⟨let ⟨b, e1, h1⟩ := h.1; ⟨b, e1, h1.tk e⟩, Stk.tk e h.2⟩
  | [], _ :: _, h => h.elim
  | _ :: _, [], h => h.elim
theorem Stk.get {H : Hp} : ∀ {vs : List V} {ts : List Tm} {i : Nat} {v : V}, Stk H vs ts → vs[i]? = some v → ∃ t, ts[i]? = some t ∧ ∃ b, v = .ref b ∧ At H t b
  | [], [], _, _, _, e => by simp at e
  | x :: vs, t :: ts, 0, v, h, e => ⟨t, rfl, by
    have e' : x = v := by simpa using e
    subst e'
    exact h.1⟩
  | x :: vs, t :: ts, i + 1, v, h, e => by
    obtain ⟨b, h1, h2⟩ := Stk.get (i := i) (v := v) h.2 (by simpa using e)
    exact ⟨b, by simpa using h1, h2⟩
  | [], _ :: _, _, _, h, _ => h.elim
  | _ :: _, [], _, _, h, _ => h.elim

/-! ### two lists, item by item -/
def All2 {α : Type} (R : α → V → Prop) : List α → List V → Prop
  | [], [] => True
  | a :: as, v :: vs => R a v ∧ All2 R as vs
  | _, _ => False
theorem All2.imp {α : Type} {R S : α → V → Prop} (e : ∀ a v, R a v → S a v) : ∀ {as : List α} {vs : List V}, All2 R as vs → All2 S as vs
  | [], [], _ => trivial
  | _ :: _, _ :: _, h => ⟨e _ _ h.1, All2.imp e h.2⟩
  | [], _ :: _, h => h.elim
  | _ :: _, [], h => h.elim
theorem All2.app {α : Type} {R : α → V → Prop} : ∀ {as bs : List α} {vs ws : List V}, All2 R as vs → All2 R bs ws → All2 R (as ++ bs) (vs ++ ws)
  | [], _, [], _, _, k => k
  | _ :: _, _, _ :: _, _, h, k => ⟨h.1, All2.app h.2 k⟩
  | [], _, _ :: _, _, h, _ => h.elim
  | _ :: _, _, [], _, h, _ => h.elim
theorem All2.len {α : Type} {R : α → V → Prop} : ∀ {as : List α} {vs : List V}, All2 R as vs → vs.length = as.length
  | [], [], _ => rfl
  | _ :: _, _ :: _, h => congrArg (· + 1) (All2.len h.2)
  | [], _ :: _, h => h.elim
  | _ :: _, [], h => h.elim
theorem All2.get {α : Type} {R : α → V → Prop} : ∀ {as : List α} {vs : List V} {i : Nat} {v : V}, All2 R as vs → vs[i]? = some v → ∃ a, as[i]? = some a ∧ R a v
  | [], [], _, _, _, e => by simp at e
  | a :: as, x :: vs, 0, v, h, e => ⟨a, rfl, by
    have e' : x = v := by simpa using e
    subst e'
    exact h.1⟩
  | a :: as, x :: vs, i + 1, v, h, e => by
    obtain ⟨b, h1, h2⟩ := All2.get (i := i) (v := v) h.2 (by simpa using e)
    exact ⟨b, by simpa using h1, h2⟩
  | [], _ :: _, _, _, h, _ => h.elim
  | _ :: _, [], _, _, h, _ => h.elim

end KB

namespace KB
open PySem L2

/-! ### books -/
abbrev Er := Str × List Str × Tm
def ErV (H : Hp) (e : Er) (v : V) : Prop := ∃ q r b, v = .ref q ∧ H q = some (.tup [.str e.1, .ref r, .ref b]) ∧ H r = some (.tup (e.2.1.map V.str)) ∧ At H e.2.2 b
theorem ErV.tk {H H' : Hp} (t : TK H H') {e : Er} {v : V} (h : ErV H e v) : ErV H' e v :=
  let ⟨q, r, b, e1, h1, h2, h3⟩ := h; ⟨q, r, b, e1, t _ _ h1, t _ _ h2, h3.tk t⟩
def BkAt (H : Hp) (es : List Er) (vs : List V) (p : Addr) : Prop := H p = some (.tup vs) ∧ All2 (ErV H) es vs
theorem BkAt.tk {H H' : Hp} (t : TK H H') {es : List Er} {vs : List V} {p : Addr} (h : BkAt H es vs p) : BkAt H' es vs p := ⟨t _ _ h.1, h.2.imp fun _ _ z => z.tk t⟩
theorem All2.map {α β : Type} {R : β → V → Prop} {f : α → β} : ∀ {as : List α} {vs : List V}, All2 (fun a v => R (f a) v) as vs → All2 R (as.map f) vs
  | [], [], _ => trivial
  | _ :: _, _ :: _, h => ⟨h.1, All2.map h.2⟩
  | [], _ :: _, h => h.elim
  | _ :: _, [], h => h.elim

section
variable {P : Program} {w : World} {K : PySem.W.Frag} {mg : Str → Option Value} {base : Heap}
theorem mem_of_get {α : Type} {l : List α} {i : Nat} {a : α} (h : l[i]? = some a) : a ∈ l := List.mem_of_getElem? h
end
end KB

namespace KB
open PySem L2

theorem catA_of {K : PySem.W.Frag} {H : Hp} {a b : Addr} {xs ys : List V} {Q : VK} (ha : H a = some (.tup xs)) (hb : H b = some (.tup ys)) (hl : xs.length + ys.length ≤ 100000)
    (q : ∀ p H', Same H H' → H' p = some (.tup (xs ++ ys)) → Q (.ref p) H') : rCatA K (.ref a) (.ref b) H Q := by
  refine ⟨a, b, xs, ys, rfl, rfl, SqT.of ha, SqT.of hb, sz hl, fun z => ?_, fun _ z => ?_, fun _ _ p hp => ?_⟩
  · refine q b H (Same.refl H) ?_
    rw [z]
    exact hb
  · refine q a H (Same.refl H) ?_
    rw [z, List.append_nil]
    exact ha
  · exact q p _ (same_new hp _) upd_same
theorem cnt_mem {t : Tm} {ts : List Tm} (h : t ∈ ts) : cnt t ≤ cnts ts := by
  induction ts with
  | nil => cases h
  | cons a r ih =>
    rw [cnts_cons]
    rcases List.mem_cons.mp h with z | z
    · subst z
      omega
    · have := ih z
      omega
theorem cnts_take (ts : List Tm) (i : Nat) : cnts (ts.take i) ≤ cnts ts := by
  have e : cnts ts = cnts (ts.take i) + cnts (ts.drop i) := by rw [← cnts_app, List.take_append_drop]
  omega
def letsL (ts : List Tm) : List Str := (ts.map letsOf).flatten
def hdLets : Hd → List Str
  | .lett x => [x]
  | _ => []
theorem hdLets_le (h : Hd) : (hdLets h).length ≤ 1 := by
  cases h with
  | lett x => exact Nat.le_refl 1
  | _ => exact Nat.zero_le 1
theorem lets_mk {h : Hd} {n : Nat} {k : _root_.Fin n → Tm} : letsOf (.mk h n k) = hdLets h ++ letsL (List.ofFn k) := by
  have e : (List.ofFn fun i => letsOf (k i)) = (List.ofFn k).map letsOf := (List.map_ofFn ..).symm
  unfold letsL
  rw [← e]
  cases h <;> rfl
theorem lets_len : ∀ t : Tm, (letsOf t).length ≤ cnt t := by
  have go : ∀ ts : List Tm, (∀ t ∈ ts, (letsOf t).length ≤ cnt t) → (letsL ts).length ≤ cnts ts := by
    intro ts
    induction ts with
    | nil => intro _; exact Nat.le_refl _
    | cons a r ih =>
      intro h
      have h1 := h a List.mem_cons_self
      have h2 := ih fun u hu => h u (List.mem_cons_of_mem _ hu)
      have e : letsL (a :: r) = letsOf a ++ letsL r := by
        unfold letsL
        rw [List.map_cons, List.flatten_cons]
      rw [e, List.length_append, cnts_cons]
      omega
  intro t
  induction t with
  | mk h n k ih =>
    have := go (List.ofFn k) fun t ht => by
      obtain ⟨i, rfl⟩ := List.mem_ofFn.mp ht
      exact ih i
    rw [lets_mk, cnt_mk, List.length_append]
    have : (hdLets h).length ≤ 1 := hdLets_le h
    omega
theorem letsL_take {ts : List Tm} {i : Nat} {t : Tm} (h : ts[i]? = some t) : letsL (ts.take (i + 1)) = letsL (ts.take i) ++ letsOf t := by
  obtain ⟨hi, he⟩ := List.getElem?_eq_some_iff.mp h
  unfold letsL
  rw [List.take_succ_eq_append_getElem hi, List.map_append, List.flatten_append, he]
  simp

end KB

namespace KB
open PySem L2

/-! ### words as the program has them -/
def keptW : List Str := ["let", "be", "in", "tell", "if", "then", "else", "home", "zyzzyva", "xja", "xjb", "xjc", "xjd", "xje", "xjf", "xva", "xvb", "xvc", "xvd", "xve", "xvf"]
/-- the words that idle posts get -/
def idleW : List Str := ["xja", "xjb", "xjc", "xjd", "xje", "xjf", "xva", "xvb", "xvc", "xvd", "xve", "xvf"]
def small (c : Nat) : Bool := decide (97 ≤ c) && decide (c ≤ 122)
def isW (z : Str) : Bool := !keptW.contains z && (decide (1 ≤ z.length) && decide (z.length ≤ 8)) && z.cps.toList.all small
theorem isW_ok {z : Str} (h : isW z = true) : PySem.PyData.strOk z = true := by
  unfold isW at h
  rw [Bool.and_eq_true] at h
  have h2 := h.2
  rw [List.all_eq_true] at h2
  unfold PySem.PyData.strOk
  rw [← Array.all_toList, List.all_eq_true]
  intro c hc
  have := h2 c hc
  unfold small at this
  rw [Bool.and_eq_true] at this
  have := of_decide_eq_true this.2
  exact decide_eq_true (by omega)
def isV (z : Str) : Bool := isW z || idleW.contains z
theorem isV_of {z : Str} (h : isW z = true) : isV z = true := by
  unfold isV
  rw [h]
  rfl
theorem idle_ok : ∀ z ∈ idleW, PySem.PyData.strOk z = true := by decide +kernel
theorem isV_ok {z : Str} (h : isV z = true) : PySem.PyData.strOk z = true := by
  unfold isV at h
  rcases Bool.or_eq_true_iff.mp h with h | h
  · exact isW_ok h
  · exact idle_ok z (by simpa using h)
theorem idle_not : ∀ z ∈ idleW, isW z = false := by decide +kernel
theorem isW_len {z : Str} (h : isW z = true) : z.length ≤ 8 := by
  unfold isW at h
  rw [Bool.and_eq_true, Bool.and_eq_true, Bool.and_eq_true] at h
  exact of_decide_eq_true h.1.2.2
/-! ### the tape and lists of words -/
def But1 (tp : Addr) (H H' : Hp) : Prop := ∀ b o, b ≠ tp → H b = some o → H' b = some o
def Tp (H : Hp) (tp : Addr) : Prop := ∃ z, H tp = some (.lst [.int z])
theorem But1.refl (tp : Addr) (H : Hp) : But1 tp H H := fun _ _ _ h => h
theorem But1.trans {tp : Addr} {H H1 H2 : Hp} (a : But1 tp H H1) (b : But1 tp H1 H2) : But1 tp H H2 := fun x o n h => b x o n (a x o n h)
theorem but_same {tp : Addr} {H H' : Hp} (e : Same H H') : But1 tp H H' := fun b o _ h => e b o h
theorem But1.tk {tp : Addr} {H H' : Hp} (ht : Tp H tp) (e : But1 tp H H') : TK H H' := fun a xs h => by
  obtain ⟨z, hz⟩ := ht
  exact e a _ (ne_of h hz (by intro q; cases q)) h
/-- a list of words -/
def Wls (H : Hp) (a : Addr) (xs : List Str) : Prop := H a = some (.lst (xs.map V.str)) ∧ ∀ x ∈ xs, isW x = true
theorem wls_tp {H : Hp} {a tp : Addr} {xs : List Str} (h : H a = some (.lst (xs.map V.str))) (t : Tp H tp) : a ≠ tp := by
  rintro rfl
  obtain ⟨z, hz⟩ := t
  rw [h] at hz
  have e := HO.lst.inj (Option.some.inj hz)
  cases xs with
  | nil => cases e
  | cons x r =>
    rw [List.map_cons] at e
    cases (List.cons.inj e).1
theorem Wls.but {tp a : Addr} {H H' : Hp} {xs : List Str} (e : But1 tp H H') (t : Tp H tp) (h : Wls H a xs) : Wls H' a xs := ⟨e _ _ (wls_tp h.1 t) h.1, h.2⟩
theorem dp_strs {K : PySem.W.Frag} {H : Hp} : ∀ xs : List Str, DpAll K H (xs.map V.str) (xs.map PyData.str)
  | [] => .nil
  | x :: r => .cons (.str x) (dp_strs r)
theorem lay_strs : ∀ {xs : List Str}, (∀ x ∈ xs, PySem.PyData.strOk x = true) → PySem.PyData.canLayAll0 (xs.map PyData.str) = true
  | [], _ => rfl
  | x :: r, h => by
    show (PySem.PyData.strOk x && PySem.PyData.canLayAll0 (r.map PyData.str)) = true
    rw [h x List.mem_cons_self, lay_strs fun y hy => h y (List.mem_cons_of_mem _ hy)]
    rfl
theorem shaped_of {d : PyData} (h1 : d.canLay0 = true) (h2 : d.depth ≤ 64) : SeqAt.shaped d = true := Bool.and_eq_true_iff.mpr ⟨h1, decide_eq_true h2⟩
theorem depth_strs : ∀ xs : List Str, PySem.PyData.depthAll (xs.map PyData.str) = 0
  | [] => rfl
  | x :: r => by
    show max (PySem.PyData.depth (.str x)) (PySem.PyData.depthAll (r.map PyData.str)) = 0
    rw [depth_strs r]
    rfl
theorem shaped_strs {xs : List Str} (h : ∀ x ∈ xs, isW x = true) : SeqAt.shaped (.list (xs.map PyData.str)) = true := by
  refine shaped_of (lay_strs fun x hx => isW_ok (h x hx)) ?_
  show PySem.PyData.depthAll (xs.map PyData.str) + 1 ≤ 64
  rw [depth_strs]
  decide
theorem eqv_nil (xs : List Str) : PyData.eqv (.list (xs.map PyData.str)) (.list []) = xs.isEmpty := by
  cases xs <;> rfl

section
variable {P : Program} {w : World} {K : PySem.W.Frag} {mg : Str → Option Value} {base : Heap}
/-! ### _law_cell_at -/
def spCell (K : PySem.W.Frag) : Sp := fun vs H Q _ => ∃ (a : Addr) (ns : List Int) (k : Int), vs = [.ref a, .int k] ∧ SqL K H a (ns.map V.int) ∧ 0 ≤ k ∧ ∀ z, Q (.int z) H
abbrev s_law_cell_at : Stmt := top 44
theorem scLcell_at : FnScope ["script", "k"] ["script", "k"] (defScope s_law_cell_at) := ⟨rfl, rfl, rfl, by decide +kernel, rfl, by decide +kernel, by decide +kernel⟩
theorem ok_cell (T : Txt K mg) {f : Addr} {fd : FuncData} (F : Fun K "_law_cell_at" "_law_cell_at" s_law_cell_at f fd) : FnOk P w K mg base CX0 1 f fd ["script", "k"] (spCell K) := by
  refine F.ok scLcell_at (fun vs H Q E h => ?_) (fun cdv A outer s H vs Q E hr h => ?_)
  · obtain ⟨a, ns, k, rfl, _⟩ := h
    rfl
  obtain ⟨a, ns, k, rfl, hS, h0, q⟩ := h
  refine ⟨_, (pss_cons (ps_if (pt_cmpR op_lt (pv 1) (pe_callB call_len_seq (by rfl) T.m_len PySem.boot_len (pa_cons (pv 0) pa_nil)) (nomark _)) (pss_one (ps_ret (pe_ix ix_list (pv 0) (pv 1) (fun _ _ => rfl)))) pss_nil)
    (pss_one (ps_ret pe_int))), ?_⟩
  refine ⟨_, rfl, _, rfl, a, _, rfl, .inl hS, _, _, rfl, rfl, _, rfl, ?_⟩
  refine ite2 (fun c => ?_) (fun c => ?_)
  · have c' : k < (((ns.map V.int).length : Nat) : Int) := of_decide_eq_true c
    rw [List.length_map] at c'
    have hk : k.toNat < ns.length := by omega
    refine ⟨_, rfl, _, rfl, a, _, _, .int ns[k.toNat], rfl, rfl, hS, at_of (j := k.toNat) (by omega) ?_, q _⟩
    rw [List.getElem?_map, List.getElem?_eq_getElem hk]
    rfl
  · exact q 0
/-! ### _law_tape -/
def spTape (K : PySem.W.Frag) : Sp := fun vs H Q _ => ∃ (a : Addr) (ns : List Int) (k : Int), vs = [.ref a, .int k] ∧ SqL K H a (ns.map V.int) ∧ 0 ≤ k ∧ k ≤ 1000 ∧ ∀ p z, H p = none → Q (.ref p) (upd H p (.lst [.int z]))
abbrev s_law_tape : Stmt := top 45
theorem scLtape : FnScope ["script", "k", "cell", "p", "one", "found", "turn"] ["script", "k"] (defScope s_law_tape) := ⟨rfl, rfl, rfl, by decide +kernel, rfl, by decide +kernel, by decide +kernel⟩
theorem ok_tape (T : Txt K mg) {f g : Addr} {fd gd : FuncData} (F : Fun K "_law_tape" "_law_tape" s_law_tape f fd) (G_law_cell_at : FnOk P w K mg base CX0 1 g gd ["script", "k"] (spCell K)) (R_law_cell_at : Ref K mg "_law_cell_at" g gd ["script", "k"]) : FnOk P w K mg base CX0 2 f fd ["script", "k"] (spTape K) := by
  refine F.ok scLtape (fun vs H Q E h => ?_) (fun cdv A outer s H vs Q E hr h => ?_)
  · obtain ⟨a, ns, k, rfl, _⟩ := h
    rfl
  obtain ⟨a, ns, k, rfl, hS, h0, h1, q⟩ := h
  refine ⟨_, (pss_cons (ps_set (i := 2) scLtape.nd rfl (Or.inl rfl) (pe_call G_law_cell_at hr rfl R_law_cell_at.m R_law_cell_at.k R_law_cell_at.b .nil pass0 (pa_cons (pv 0) (pa_cons (pv 1) pa_nil))))
    (pss_cons (ps_if (pt_cmpR op_eq (pv 2) pe_int (nomark _)) (pss_one (ps_ret (pe_lst (pa_cons pe_int pa_nil)))) pss_nil)
    (pss_cons (ps_if (pt_cmpR op_ge (pv 2) (pe_op op_pow pe_int pe_int) (nomark _)) (pss_one (ps_ret (pe_lst (pa_cons (pe_op op_sub (pv 2) (pe_op op_pow pe_int pe_int)) pa_nil)))) pss_nil)
    (pss_cons (ps_set (i := 3) scLtape.nd rfl (Or.inl rfl) pe_int)
    (pss_cons (ps_set (i := 4) scLtape.nd rfl (Or.inl rfl) (pe_op op_mod (pe_op op_add (pe_op op_add (pe_op op_mul (pv 2) pe_int) (pe_op op_mul pe_int (pv 1))) pe_int) (pv 3)))
    (pss_cons (ps_set (i := 5) scLtape.nd rfl (Or.inl rfl) (pv 4))
    (pss_cons (ps_for PassesOwn.never rfl (pi_range1 rfl T.m_range (pa_cons pe_int pa_nil)) (pg_name (i := 6) scLtape.nd rfl (Or.inl rfl)) (pss_cons (ps_set (i := 4) scLtape.nd rfl (Or.inl rfl) (pe_op op_mod (pe_op op_add (pe_op op_add (pe_op op_add (pe_op op_mul (pv 4) (pv 4)) (pe_op op_mul pe_int (pv 6))) (pv 2)) pe_int) (pv 3)))
    (pss_one (ps_set (i := 5) scLtape.nd rfl (Or.inl rfl) (pe_op op_add (pe_op op_mul (pv 5) (pv 3)) (pv 4))))))
    (pss_one (ps_ret (pe_lst (pa_cons (pv 5) pa_nil))))))))))), ?_⟩
  have b1 : ∀ x : Int, 0 ≤ x → x < 2305843009213693951 → -(2 ^ 64) < x ∧ x < 2 ^ 64 := fun x h1 h2 => by
    have e : (2 : Int) ^ 64 = 18446744073709551616 := by decide
    rw [e]
    omega
  refine ⟨_, rfl, _, rfl, a, ns, k, rfl, hS, h0, fun z => ?_⟩
  refine ⟨_, rfl, rfl, _, rfl, ?_⟩
  refine ite2 (fun c => ?_) (fun c => ?_)
  · exact ⟨sz (by show 1 ≤ 100000; decide), fun p hp => q p 0 hp⟩
  refine ⟨_, rfl, _, _, rfl, rfl, ⟨by decide, by decide, by decide⟩, _, _, rfl, rfl, _, rfl, ?_⟩
  refine ite2 (fun c => ?_) (fun c => ?_)
  · exact ⟨_, rfl, _, _, rfl, rfl, ⟨by decide, by decide, by decide⟩, _, _, rfl, rfl, sz (by show 1 ≤ 100000; decide), fun p hp => q p _ hp⟩
  refine ⟨_, rfl, _, _, rfl, rfl, .inr ⟨by decide, by decide⟩, _, rfl, _, _, rfl, rfl, .inl ⟨by decide, by decide⟩, _, _, rfl, rfl, _, _, rfl, rfl, _, rfl, _, _, rfl, rfl, (by show (0 : Int) < 2305843009213693951; decide), ?_⟩
  refine ⟨_, rfl, ?_⟩
  refine ⟨20, rfl, by decide, by decide, for_range (lo := 0) (n := 20) (fun i σ H' => ∃ one found o, σ = [some (.ref a), some (.int k), some (.int z), some (.int 2305843009213693951), some (.int one), some (.int found), o] ∧ H' = H ∧ 0 ≤ one ∧ one < 2305843009213693951) ?_ ?_ ?_⟩
  · exact ⟨_, _, _, rfl, rfl, Int.emod_nonneg _ (by decide), Int.emod_lt_of_pos _ (by decide)⟩
  · rintro i σ H' hi ⟨one, found, o, rfl, rfl, g0, g1⟩
    refine ⟨_, rfl, _, rfl, _, _, rfl, rfl, .inl (b1 one g0 g1), _, rfl, _, _, rfl, rfl, .inl ⟨by decide, by decide⟩, _, _, rfl, rfl, _, rfl, _, _, rfl, rfl, _, _, rfl, rfl, _, rfl, _, _, rfl, rfl, (by show (0 : Int) < 2305843009213693951; decide), ?_⟩
    refine ⟨_, rfl, _, rfl, _, _, rfl, rfl, .inr ⟨by decide, by decide⟩, _, rfl, _, _, rfl, rfl, ?_⟩
    exact ⟨_, _, _, rfl, rfl, Int.emod_nonneg _ (by decide), Int.emod_lt_of_pos _ (by decide)⟩
  · rintro σ H' ⟨one, found, o, rfl, rfl, g0, g1⟩
    exact ⟨_, rfl, sz (by show 1 ≤ 100000; decide), fun p hp => q p _ hp⟩
/-! ### _law_digit -/
def spDig : Sp := fun vs H Q _ => ∃ (tp : Addr) (many : Int), vs = [.ref tp, .int many] ∧ Tp H tp ∧ 0 < many ∧ many ≤ 100000000000000000000000000000000000000000000000000000000000 ∧ ∀ r H', 0 ≤ r → r < many → But1 tp H H' → Tp H' tp → Q (.int r) H'
theorem log_many {m : Int} (h0 : 0 < m) (h1 : m ≤ 100000000000000000000000000000000000000000000000000000000000) : m.natAbs.log2 < 9000 := by
  refine PySem.Flt.log2_lt_of (by decide) (Nat.lt_of_le_of_lt (m := 100000000000000000000000000000000000000000000000000000000000) (by omega) ?_)
  exact Nat.lt_of_lt_of_le (m := 2 ^ 200) (by decide) (Nat.pow_le_pow_right (by decide) (by decide))
abbrev s_law_digit : Stmt := top 46
theorem scLdigit : FnScope ["tape", "many", "found"] ["tape", "many"] (defScope s_law_digit) := ⟨rfl, rfl, rfl, by decide +kernel, rfl, by decide +kernel, by decide +kernel⟩
theorem ok_dig {f : Addr} {fd : FuncData} (F : Fun K "_law_digit" "_law_digit" s_law_digit f fd) : FnOk P w K mg base CX0 1 f fd ["tape", "many"] spDig := by
  refine F.ok scLdigit (fun vs H Q E h => ?_) (fun cdv A outer s H vs Q E hr h => ?_)
  · obtain ⟨tp, many, rfl, _⟩ := h
    rfl
  obtain ⟨tp, many, rfl, ⟨z, hz⟩, h0, h1, q⟩ := h
  refine ⟨_, (pss_cons (ps_set (i := 2) scLdigit.nd rfl (Or.inl rfl) (pe_op op_mod (pe_ix ix_list (pv 0) pe_int (fun _ _ => rfl)) (pv 1)))
    (pss_cons (ps_asg (pe_op op_fdivW (pe_ix ix_list (pv 0) pe_int (fun _ _ => rfl)) (pv 1)) (pg_sub (pv 0) pe_int set_list))
    (pss_one (ps_ret (pv 2))))), ?_⟩
  refine ⟨_, rfl, tp, _, _, _, rfl, rfl, SqL.of hz, at0, _, rfl, _, _, rfl, rfl, h0, ?_⟩
  refine ⟨_, rfl, tp, _, _, _, rfl, rfl, SqL.of hz, at0, _, rfl, _, _, rfl, rfl, ⟨h0, log_many h0 h1⟩, ?_⟩
  refine ⟨_, rfl, tp, _, _, 0, rfl, rfl, hz, rfl, ?_⟩
  refine ⟨_, rfl, q _ _ (Int.emod_nonneg _ (by omega)) (Int.emod_lt_of_pos _ h0) (fun b o n h => ?_) ⟨_, upd_same⟩⟩
  rw [upd_ne n]
  exact h
/-! ### _law_number -/
def spNum : Sp := fun vs H Q _ => ∃ (tp : Addr), vs = [.ref tp] ∧ Tp H tp ∧ ∀ r H', But1 tp H H' → Tp H' tp → 0 ≤ r → r < 1000 → Q (.int r) H'
abbrev s_law_number : Stmt := top 48
theorem scLnumber : FnScope ["tape", "way"] ["tape"] (defScope s_law_number) := ⟨rfl, rfl, rfl, by decide +kernel, rfl, by decide +kernel, by decide +kernel⟩
theorem at_some {xs : List V} {i : Int} (h0 : 0 ≤ i) (h1 : i < (xs.length : Int)) : ∃ v, atI xs i = some v ∧ v ∈ xs := by
  have h : i.toNat < xs.length := by omega
  exact ⟨xs[i.toNat], at_of (j := i.toNat) (by omega) (List.getElem?_eq_getElem h), List.getElem_mem h⟩
theorem ok_num {f g : Addr} {fd gd : FuncData} (F : Fun K "_law_number" "_law_number" s_law_number f fd) (G_law_digit : FnOk P w K mg base CX0 1 g gd ["tape", "many"] spDig) (R_law_digit : Ref K mg "_law_digit" g gd ["tape", "many"]) : FnOk P w K mg base CX0 2 f fd ["tape"] spNum := by
  refine F.ok scLnumber (fun vs H Q E h => ?_) (fun cdv A outer s H vs Q E hr h => ?_)
  · obtain ⟨tp, rfl, _⟩ := h
    rfl
  obtain ⟨tp, rfl, ht, q⟩ := h
  refine ⟨_, (pss_cons (ps_set (i := 1) scLnumber.nd rfl (Or.inl rfl) (pe_call G_law_digit hr rfl R_law_digit.m R_law_digit.k R_law_digit.b .nil pass0 (pa_cons (pv 0) (pa_cons pe_int pa_nil))))
    (pss_cons (ps_if (pt_cmpR op_eq (pv 1) pe_int (nomark _)) (pss_one (ps_ret (pe_call G_law_digit hr rfl R_law_digit.m R_law_digit.k R_law_digit.b .nil pass0 (pa_cons (pv 0) (pa_cons pe_int pa_nil))))) pss_nil)
    (pss_one (ps_ret (pe_ix ix_list (pe_lst (pa_cons pe_int (pa_cons pe_int (pa_cons pe_int (pa_cons pe_int (pa_cons pe_int pa_nil)))))) (pv 1) (fun _ _ => rfl)))))), ?_⟩
  refine ⟨_, rfl, tp, 6, rfl, ht, by decide, by decide, fun r H1 r0 r1 k1 t1 => ?_⟩
  refine ⟨_, rfl, rfl, _, rfl, ?_⟩
  refine ite2 (fun c => ?_) (fun c => ?_)
  · exact ⟨_, rfl, tp, 1000, rfl, t1, by decide, by decide, fun r2 H2 z0 z1 k2 t2 => q r2 H2 (k1.trans k2) t2 z0 z1⟩
  · have c' : r ≠ 5 := fun z => c (decide_eq_true (congrArg V.int z))
    refine ⟨sz (by show 5 ≤ 100000; decide), fun p hp => ?_⟩
    have np : tp ≠ p := by
      obtain ⟨z, hz⟩ := t1
      exact ne_of_none hz hp
    obtain ⟨v, hv, hm⟩ := at_some (xs := [V.int 0, .int 1, .int 1, .int 2, .int 3]) (i := r) r0 (by show r < 5; omega)
    have hi : ∃ n : Int, v = V.int n ∧ 0 ≤ n ∧ n < 1000 := by
      simp only [List.mem_cons, List.not_mem_nil, or_false] at hm
      rcases hm with z | z | z | z | z <;> exact ⟨_, z, by decide, by decide⟩
    obtain ⟨n, rfl, z0, z1⟩ := hi
    refine ⟨_, rfl, p, _, _, _, rfl, rfl, SqL.of upd_same, hv, ?_⟩
    refine q n _ (k1.trans (but_same (same_new hp _))) ?_ z0 z1
    obtain ⟨z, hz⟩ := t1
    exact ⟨z, same_new hp _ _ _ hz⟩
end
end KB

namespace KB
open PySem L2

/-! ### good terms -/
def okH : Hd → Prop
  | .nam x => isV x = true
  | .lett x | .ask x => isW x = true
  | .num z => 0 ≤ z ∧ z < 1000
  | _ => True
def okT : Tm → Prop
  | .mk h _ k => okH h ∧ ∀ i, okT (k i)
def HtLe : Nat → Tm → Prop
  | 0, _ => False
  | n + 1, .mk _ _ k => ∀ i, HtLe n (k i)
theorem HtLe.up : ∀ {n : Nat} {t : Tm}, HtLe n t → HtLe (n + 1) t
  | 0, _, h => h.elim
  | n + 1, .mk _ _ _, h => fun i => HtLe.up (n := n) (h i)
theorem HtLe.le {n m : Nat} {t : Tm} (h : HtLe n t) (e : n ≤ m) : HtLe m t := by
  induction e with
  | refl => exact h
  | step _ ih => exact ih.up
/-- each name within its word's reach, each ask with as many terms as hd says -/
def okN (hd : Str → Option Nat) : Hd → Nat → List Str → Prop
  | .nam x, _, xs => x ∈ xs
  | .ask f, n, _ => hd f = some n
  | _, _, _ => True
def inn : Hd → Nat → List Str → List Str
  | .lett x, 1, xs => xs ++ [x]
  | _, _, xs => xs
def okS (hd : Str → Option Nat) : Tm → List Str → Prop
  | .mk h n k, xs => okN hd h n xs ∧ ∀ i, okS hd (k i) (inn h i.val xs)
def mkL (h : Hd) (ts : List Tm) : Tm := .mk h ts.length fun i => ts.get i
theorem ofFn_get (ts : List Tm) : List.ofFn (fun i => ts.get i) = ts := by
  refine List.ext_getElem (by simp) fun i h1 h2 => ?_
  simp
theorem cnt_mkL {h : Hd} {ts : List Tm} : cnt (mkL h ts) = 1 + cnts ts := by
  unfold mkL
  rw [cnt_mk, ofFn_get]
theorem ok_mkL {h : Hd} {ts : List Tm} (a : okH h) (b : ∀ t ∈ ts, okT t) : okT (mkL h ts) := ⟨a, fun i => b _ (List.get_mem ts i)⟩
theorem ht_mkL {n : Nat} {h : Hd} {ts : List Tm} (b : ∀ t ∈ ts, HtLe n t) : HtLe (n + 1) (mkL h ts) := fun i => b _ (List.get_mem ts i)
theorem sc_mkL {hd : Str → Option Nat} {h : Hd} {ts : List Tm} {xs : List Str} (a : okN hd h ts.length xs) (b : ∀ i t, ts[i]? = some t → okS hd t (inn h i xs)) : okS hd (mkL h ts) xs :=
  ⟨a, fun i => b i.val _ (by rw [List.getElem?_eq_getElem i.isLt]; rfl)⟩
theorem lt_mkL {h : Hd} {ts : List Tm} : letsOf (mkL h ts) = hdLets h ++ letsL ts := by
  unfold mkL
  rw [lets_mk, ofFn_get]
theorem letsL_app (a b : List Tm) : letsL (a ++ b) = letsL a ++ letsL b := by
  unfold letsL
  rw [List.map_append, List.flatten_append]
theorem letsL_cons (t : Tm) (r : List Tm) : letsL (t :: r) = letsOf t ++ letsL r := by
  unfold letsL
  rw [List.map_cons, List.flatten_cons]
theorem stk_fn {H : Hp} : ∀ {vs : List V} {ts : List Tm}, Stk H vs ts → ∃ ys : _root_.Fin ts.length → Addr, Rfs ys = vs ∧ ∀ i, At H (ts.get i) (ys i)
  | [], [], _ => ⟨fun i => i.elim0, rfl, fun i => i.elim0⟩
  | v :: vs, t :: ts, h => by
    obtain ⟨⟨b, e, hb⟩, hr⟩ := h
    subst e
    obtain ⟨ys, e1, e2⟩ := stk_fn hr
    refine ⟨fun i => match i with | ⟨0, _⟩ => b | ⟨j + 1, hj⟩ => ys ⟨j, Nat.lt_of_succ_lt_succ hj⟩, ?_, ?_⟩
    · unfold Rfs
      show List.ofFn (n := ts.length + 1) _ = _
      rw [List.ofFn_succ, ← e1]
      rfl
    · rintro ⟨j, hj⟩
      cases j with
      | zero => exact hb
      | succ j => exact e2 ⟨j, Nat.lt_of_succ_lt_succ hj⟩
  | [], _ :: _, h => h.elim
  | _ :: _, [], h => h.elim
theorem at_mkL {H : Hp} {a : Addr} {h : Hd} {vs : List V} {ts : List Tm} (l : Lay H a h vs) (s : Stk H vs ts) : At H (mkL h ts) a := by
  obtain ⟨ys, e1, e2⟩ := stk_fn s
  refine ⟨ys, ?_, e2⟩
  rw [e1]
  exact l
/-- a new good term at a, of at most n terms, within at most d -/
structure Gd (H : Hp) (a : Addr) (n d : Nat) (hd : Str → Option Nat) (xs ls : List Str) (t : Tm) : Prop where
  at_ : At H t a
  ok : okT t
  cn : cnt t ≤ n
  dp : HtLe d t
  sc : okS hd t xs
  lt : letsOf t = ls
theorem Gd.tk {H H' : Hp} {a : Addr} {n d : Nat} {hd : Str → Option Nat} {xs ls : List Str} {t : Tm} (e : TK H H') (g : Gd H a n d hd xs ls t) : Gd H' a n d hd xs ls t := ⟨g.at_.tk e, g.ok, g.cn, g.dp, g.sc, g.lt⟩
theorem Gd.le {H : Hp} {a : Addr} {n d m e : Nat} {hd : Str → Option Nat} {xs ls : List Str} {t : Tm} (g : Gd H a n d hd xs ls t) (h1 : n ≤ m) (h2 : d ≤ e) : Gd H a m e hd xs ls t := ⟨g.at_, g.ok, Nat.le_trans g.cn h1, g.dp.le h2, g.sc, g.lt⟩
theorem gd_num {H : Hp} {a : Addr} {z : Int} {hd : Str → Option Nat} {xs : List Str} (l : Lay H a (.num z) []) (o : 0 ≤ z ∧ z < 1000) : Gd H a 1 1 hd xs [] (mkL (.num z) []) :=
  ⟨at_mkL l trivial, ok_mkL o (fun _ z => nomatch z), (by rw [cnt_mkL]; exact Nat.le_refl 1), ht_mkL (n := 0) (fun _ z => nomatch z), sc_mkL trivial (fun _ _ z => by simp at z), lt_mkL⟩
theorem gd_nam {H : Hp} {a : Addr} {x : Str} {hd : Str → Option Nat} {xs : List Str} (l : Lay H a (.nam x) []) (o : isW x = true) (m : x ∈ xs) : Gd H a 1 1 hd xs [] (mkL (.nam x) []) :=
  ⟨at_mkL l trivial, ok_mkL (isV_of o) (fun _ z => nomatch z), (by rw [cnt_mkL]; exact Nat.le_refl 1), ht_mkL (n := 0) (fun _ z => nomatch z), sc_mkL m (fun _ _ z => by simp at z), lt_mkL⟩

section
variable {P : Program} {w : World} {K : PySem.W.Frag} {mg : Str → Option Value} {base : Heap}
/-! ### _law_leaf -/
def spLeaf : Sp := fun vs H Q _ => ∃ (tp : Addr) (kv : V) (ar : Addr) (xs : List Str), vs = [.ref tp, kv, .ref ar] ∧ Tp H tp ∧ Wls H ar xs ∧ xs.length ≤ 1000 ∧ ∀ a t H', But1 tp H H' → Tp H' tp → (∀ hd, Gd H' a 1 1 hd xs [] t) → Q (.ref a) H'
abbrev s_law_leaf : Stmt := top 49
theorem scLleaf : FnScope ["tape", "known", "around"] ["tape", "known", "around"] (defScope s_law_leaf) := ⟨rfl, rfl, rfl, by decide +kernel, rfl, by decide +kernel, by decide +kernel⟩
theorem Tp.same {H H' : Hp} {tp : Addr} (e : Same H H') (t : Tp H tp) : Tp H' tp := let ⟨z, h⟩ := t; ⟨z, e _ _ h⟩
theorem ok_leaf (T : Txt K mg) {f g h : Addr} {fd gd hd : FuncData} (F : Fun K "_law_leaf" "_law_leaf" s_law_leaf f fd) (G_law_digit : FnOk P w K mg base CX0 1 g gd ["tape", "many"] spDig) (R_law_digit : Ref K mg "_law_digit" g gd ["tape", "many"])
    (G_law_number : FnOk P w K mg base CX0 2 h hd ["tape"] spNum) (R_law_number : Ref K mg "_law_number" h hd ["tape"]) : FnOk P w K mg base CX0 3 f fd ["tape", "known", "around"] spLeaf := by
  refine F.ok scLleaf (fun vs H Q E h => ?_) (fun cdv A outer s H vs Q E hr h => ?_)
  · obtain ⟨tp, kv, ar, xs, rfl, _⟩ := h
    rfl
  obtain ⟨tp, kv, ar, xs, rfl, ht, hw, hl, q⟩ := h
  refine ⟨_, (pss_cons (ps_if (PW.pt (pw_and (pt_cmpR (op_neD hr.units) (pv 2) (pe_lst pa_nil) (nomark _)) (pw_and1 (pt_cmpR op_gt (pe_call G_law_digit (hr.mono (by omega)) rfl R_law_digit.m R_law_digit.k R_law_digit.b .nil pass0 (pa_cons (pv 0) (pa_cons pe_int pa_nil))) pe_int (nomark _))))) (pss_one (ps_ret (pe_tup (pa_cons pe_str (pa_cons (pe_ix ix_list (pv 2) (pe_call G_law_digit (hr.mono (by omega)) rfl R_law_digit.m R_law_digit.k R_law_digit.b .nil pass0 (pa_cons (pv 0) (pa_cons (pe_callB call_len_seq (by rfl) T.m_len PySem.boot_len (pa_cons (pv 2) pa_nil)) pa_nil))) (fun _ _ => rfl)) pa_nil))))) pss_nil)
    (pss_one (ps_ret (pe_tup (pa_cons pe_str (pa_cons (pe_call G_law_number hr rfl R_law_number.m R_law_number.k R_law_number.b .nil pass0 (pa_cons (pv 0) pa_nil)) pa_nil)))))), ?_⟩
  have numW : ∀ H1, But1 tp H H1 → Tp H1 tp → (tRet (tTup (tCons (tC (.str "number")) (tCons (tCall spNum [] E0 (tCons (tVar 0) tNil)) tNil)))) { nx := fun x H' => Q V.non H', rt := Q } [some (.ref tp), some kv, some (.ref ar)] H1 := by
    intro H1 k1 t1
    refine ⟨_, rfl, tp, rfl, t1, fun r H2 k2 t2 r0 r1 => ⟨sz (by show 2 ≤ 100000; decide), fun p hp => ?_⟩⟩
    have s := same_new hp (.tup [.str "number", .int r])
    exact q p (mkL (.num r) []) _ ((k1.trans k2).trans (but_same s)) (t2.same s) (fun _ => gd_num ⟨rfl, upd_same⟩ ⟨r0, r1⟩)
  refine ⟨_, rfl, sz (by show 0 ≤ 100000; decide), fun p0 hp0 => ?_⟩
  have s0 := same_new hp0 (.lst [])
  refine ⟨.list (xs.map PyData.str), .list [], .lst (SqL.of (s0 _ _ hw.1)) (dp_strs xs), .lst (SqL.of upd_same) .nil, shaped_strs hw.2, rfl, _, rfl, ?_⟩
  rw [eqv_nil]
  cases xs with
  | nil => exact iteF (numW _ (but_same s0) (ht.same s0))
  | cons x0 xr =>
    refine iteT ⟨_, rfl, tp, 3, rfl, ht.same s0, by decide, by decide, fun r H1 r0 r1 k1 t1 => ?_⟩
    have k01 := (but_same s0).trans k1
    refine ⟨_, _, rfl, rfl, _, rfl, ?_⟩
    refine ite2 (fun c => ?_) (fun c => ?_)
    · have w1 := hw.but k01 ht
      refine ⟨_, rfl, _, rfl, _, rfl, ar, _, rfl, .inl (SqL.of w1.1), tp, _, rfl, t1, ?_, ?_, fun r2 H2 r3 r4 k2 t2 => ?_⟩
      · show (0 : Int) < (((x0 :: xr).map V.str).length : Nat)
        rw [List.length_map, List.length_cons]
        omega
      · rw [List.length_map]
        omega
      have w2 := w1.but k2 t1
      obtain ⟨v, hv, hm⟩ := at_some r3 r4
      obtain ⟨z, hz, rfl⟩ := List.mem_map.mp hm
      refine ⟨ar, _, _, _, rfl, rfl, SqL.of w2.1, hv, sz (by show 2 ≤ 100000; decide), fun p hp => ?_⟩
      have s := same_new hp (.tup [.str "name", .str z])
      exact q p (mkL (.nam z) []) _ ((k01.trans k2).trans (but_same s)) (t2.same s) (fun _ => gd_nam ⟨rfl, upd_same⟩ (hw.2 z hz) hz)
    · exact numW _ k01 t1
/-! ### _law_shares -/
def spShr : Sp := fun vs H Q _ => ∃ (tp : Addr) (room many : Int), vs = [.ref tp, .int room, .int many] ∧ Tp H tp ∧ 0 ≤ many ∧ many ≤ room ∧ room ≤ 1000 ∧
  ∀ (p : Addr) (xs : List Int) (H' : Hp), But1 tp H H' → Tp H' tp → H p = none → H' p = some (.lst (xs.map V.int)) → (xs.length : Int) = many → (∀ x ∈ xs, (1 : Int) ≤ x) → xs.sum ≤ room → Q (.ref p) H'
abbrev s_law_shares : Stmt := top 50
theorem scLshares : FnScope ["tape", "room", "many", "found", "left", "k", "more"] ["tape", "room", "many"] (defScope s_law_shares) := ⟨rfl, rfl, rfl, by decide +kernel, rfl, by decide +kernel, by decide +kernel⟩
theorem rep1 (n : Nat) : (List.replicate n [V.int 1]).flatten = (List.replicate n (1 : Int)).map V.int := by
  induction n with
  | zero => rfl
  | succ n ih =>
    rw [List.replicate_succ, List.flatten_cons, ih, List.replicate_succ]
    rfl
theorem sum1 (n : Nat) : (List.replicate n (1 : Int)).sum = n := by
  induction n with
  | zero => rfl
  | succ n ih =>
    rw [List.replicate_succ, List.sum_cons, ih]
    omega
theorem ok_shares (T : Txt K mg) {f g : Addr} {fd gd : FuncData} (F : Fun K "_law_shares" "_law_shares" s_law_shares f fd) (G_law_digit : FnOk P w K mg base CX0 1 g gd ["tape", "many"] spDig) (R_law_digit : Ref K mg "_law_digit" g gd ["tape", "many"]) : FnOk P w K mg base CX0 2 f fd ["tape", "room", "many"] spShr := by
  refine F.ok scLshares (fun vs H Q E h => ?_) (fun cdv A outer s H vs Q E hr h => ?_)
  · obtain ⟨tp, room, many, rfl, _⟩ := h
    rfl
  obtain ⟨tp, room, many, rfl, ht, h0, h1, h2, q⟩ := h
  refine ⟨_, (pss_cons (ps_set (i := 3) scLshares.nd rfl (Or.inl rfl) (pe_op op_rep (pe_lst (pa_cons pe_int pa_nil)) (pv 2)))
    (pss_cons (ps_set (i := 4) scLshares.nd rfl (Or.inl rfl) (pe_op op_sub (pv 1) (pv 2)))
    (pss_cons (ps_for PassesOwn.never rfl (pi_range1 rfl T.m_range (pa_cons (pv 2) pa_nil)) (pg_name (i := 5) scLshares.nd rfl (Or.inl rfl)) (pss_cons (ps_set (i := 6) scLshares.nd rfl (Or.inl rfl) (pe_call G_law_digit hr rfl R_law_digit.m R_law_digit.k R_law_digit.b .nil pass0 (pa_cons (pv 0) (pa_cons (pe_op op_add (pv 4) pe_int) pa_nil))))
    (pss_cons (ps_asg (pe_op op_add (pe_ix ix_list (pv 3) (pv 5) (fun _ _ => rfl)) (pv 6)) (pg_sub (pv 3) (pv 5) set_list))
    (pss_one (ps_set (i := 4) scLshares.nd rfl (Or.inl rfl) (pe_op op_sub (pv 4) (pv 6)))))))
    (pss_one (ps_ret (pv 3)))))), ?_⟩
  refine ⟨sz (by show 1 ≤ 100000; decide), fun p1 hp1 => ?_⟩
  have s1 := same_new hp1 (.lst [.int 1])
  refine ⟨_, rfl, p1, _, _, rfl, rfl, upd_same, by omega, by omega, sz (by show 1 * many.toNat ≤ 100000; omega), fun fl hfl => ?_⟩
  have s2 := same_new hfl (.lst (List.replicate many.toNat [V.int 1]).flatten)
  have s12 := s1.trans s2
  have hfl0 : H fl = none := s1.free hfl
  have f1 : upd (upd H p1 (.lst [.int 1])) fl (.lst (List.replicate many.toNat [V.int 1]).flatten) fl = some (.lst ((List.replicate many.toNat (1 : Int)).map V.int)) := by
    rw [upd_same, rep1]
  refine ⟨_, rfl, _, rfl, _, _, rfl, rfl, ?_⟩
  refine ⟨_, rfl, many, rfl, by omega, by omega, ?_⟩
  have ntp : fl ≠ tp := by
    obtain ⟨z, hz⟩ := ht
    exact (ne_of_none hz hfl0).symm
  refine for_range (lo := 0) (n := many.toNat) (fun i σ H' => ∃ left o5 o6 xs, σ = [some (.ref tp), some (.int room), some (.int many), some (.ref fl), some (.int left), o5, o6] ∧ But1 tp H H' ∧ Tp H' tp ∧ H' fl = some (.lst ((xs : List Int).map V.int)) ∧
    (xs.length : Int) = many ∧ (∀ x ∈ xs, (1 : Int) ≤ x) ∧ xs.sum + left = room ∧ 0 ≤ left) ?_ ?_ ?_
  · refine ⟨_, _, _, List.replicate many.toNat 1, rfl, but_same s12, ht.same s12, f1, ?_, ?_, ?_, by omega⟩
    · rw [List.length_replicate]
      omega
    · intro x hx
      rw [(List.mem_replicate.mp hx).2]
      decide
    · rw [sum1]
      omega
  · rintro i σ H1 hi ⟨left, o5, o6, xs, rfl, k1, t1, g1, g2, g3, g4, g5⟩
    refine ⟨_, rfl, _, rfl, _, _, rfl, rfl, tp, _, rfl, t1, by omega, ?_, fun r H2 r0 r1 k2 t2 => ?_⟩
    · have : xs.sum ≥ 0 := by
        clear g1 g2 g4
        induction xs with
        | nil => decide
        | cons x r ih =>
          have e1 := g3 x List.mem_cons_self
          have e2 := ih fun y hy => g3 y (List.mem_cons_of_mem _ hy)
          rw [List.sum_cons]
          omega
      omega
    have g6 := k2 _ _ ntp g1
    have hi2 : i < xs.length := by omega
    have hx : xs[i]? = some xs[i] := List.getElem?_eq_getElem hi2
    have e0 : (0 : Int) + (i : Nat) = ((i : Nat) : Int) := by omega
    refine ⟨_, rfl, _, rfl, fl, _, _, .int xs[i], rfl, rfl, SqL.of g6, ?_, _, rfl, _, _, rfl, rfl, ?_⟩
    · rw [e0]
      exact atI_nat (by rw [List.getElem?_map, hx]; rfl)
    refine ⟨_, rfl, _, rfl, fl, _, _, i, rfl, rfl, g6, ?_, ?_⟩
    · rw [e0, List.length_map]
      unfold ixN
      rw [if_pos (by omega), if_pos (by omega)]
      rfl
    refine ⟨_, rfl, _, rfl, _, _, rfl, rfl, ?_⟩
    refine ⟨_, _, _, xs.set i (xs[i] + r), rfl, fun b o n h => ?_, ?_, ?_, ?_, ?_, ?_, by omega⟩
    · by_cases e : b = fl
      · subst e
        rw [hfl0] at h
        cases h
      · rw [upd_ne e]
        exact k2 _ _ n (k1 _ _ n h)
    · obtain ⟨z, hz⟩ := t2
      exact ⟨z, by rw [upd_ne (Ne.symm ntp)]; exact hz⟩
    · rw [upd_same, List.map_set]
    · rw [List.length_set]
      exact g2
    · intro x hx'
      rcases List.mem_or_eq_of_mem_set hx' with z | z
      · exact g3 x z
      · have := g3 _ (List.getElem_mem hi2)
        omega
    · rw [sum_set hx]
      omega
  · rintro σ H1 ⟨left, o5, o6, xs, rfl, k1, t1, g1, g2, g3, g4, g5⟩
    exact ⟨_, rfl, q fl xs H1 k1 t1 hfl0 g1 g2 g3 (by omega)⟩
/-! ### _law_less_one -/
theorem simple_mkL {h : Hd} {ts : List Tm} (a : flatHd h = true) (b : ∀ t ∈ ts, simple t = true) : simple (mkL h ts) = true := by
  unfold mkL simple
  rw [a, Bool.true_and, List.all_eq_true]
  intro x hx
  obtain ⟨i, rfl⟩ := List.mem_ofFn.mp hx
  exact b _ (List.get_mem ts i)
def spLess : Sp := fun vs H Q _ => ∃ (ar : Addr) (xs : List Str), vs = [.ref ar] ∧ Wls H ar xs ∧ ∀ a t H', Same H H' → (∀ hd, Gd H' a 3 2 hd xs [] t) → simple t = true → Q (.ref a) H'
abbrev s_law_less_one : Stmt := top 51
theorem scLless_one : FnScope ["around"] ["around"] (defScope s_law_less_one) := ⟨rfl, rfl, rfl, by decide +kernel, rfl, by decide +kernel, by decide +kernel⟩
theorem ok_less {f : Addr} {fd : FuncData} (F : Fun K "_law_less_one" "_law_less_one" s_law_less_one f fd) : FnOk P w K mg base CX0 1 f fd ["around"] spLess := by
  refine F.ok scLless_one (fun vs H Q E h => ?_) (fun cdv A outer s H vs Q E hr h => ?_)
  · obtain ⟨ar, xs, rfl, _⟩ := h
    rfl
  obtain ⟨ar, xs, rfl, hw, q⟩ := h
  refine ⟨_, (pss_cons (ps_if (pt_cmpR (op_eqD hr.units) (pv 0) (pe_lst pa_nil) (nomark _)) (pss_one (ps_ret (pe_tup (pa_cons pe_str (pa_cons pe_int pa_nil))))) pss_nil)
    (pss_one (ps_ret (pe_tup (pa_cons pe_str (pa_cons (pe_tup (pa_cons pe_str (pa_cons (pe_ix ix_list (pv 0) pe_int (fun _ _ => rfl)) pa_nil))) (pa_cons (pe_tup (pa_cons pe_str (pa_cons pe_int pa_nil))) pa_nil))))))), ?_⟩
  refine ⟨_, rfl, sz (by show 0 ≤ 100000; decide), fun p0 hp0 => ?_⟩
  have s0 := same_new hp0 (.lst [])
  refine ⟨.list (xs.map PyData.str), .list [], .lst (SqL.of (s0 _ _ hw.1)) (dp_strs xs), .lst (SqL.of upd_same) .nil, shaped_strs hw.2, rfl, _, rfl, ?_⟩
  rw [eqv_nil]
  cases xs with
  | nil =>
    refine iteT ⟨sz (by show 2 ≤ 100000; decide), fun p hp => ?_⟩
    exact q p (mkL (.num 0) []) _ (s0.trans (same_new hp _)) (fun _ => (gd_num ⟨rfl, upd_same⟩ (by decide)).le (by decide) (by decide)) (simple_mkL rfl (fun _ z => nomatch z))
  | cons x0 xr =>
    refine iteF ⟨_, rfl, ar, _, _, _, rfl, rfl, SqL.of (s0 _ _ hw.1), at0, sz (by show 2 ≤ 100000; decide), fun p1 hp1 => ?_⟩
    have s1 := same_new hp1 (.tup [.str "name", .str x0])
    refine ⟨sz (by show 2 ≤ 100000; decide), fun p2 hp2 => ?_⟩
    have s2 := same_new hp2 (.tup [.str "number", .int 1])
    refine ⟨sz (by show 3 ≤ 100000; decide), fun p3 hp3 => ?_⟩
    have s3 := same_new hp3 (.tup [.str "less", .ref p1, .ref p2])
    have s23 := s2.trans s3
    have l1 : Lay _ p1 (.nam x0) [] := ⟨rfl, s23 _ _ upd_same⟩
    have l2 : Lay _ p2 (.num 1) [] := ⟨rfl, s3 _ _ upd_same⟩
    refine q p3 (mkL .less [mkL (.nam x0) [], mkL (.num 1) []]) _ (s0.trans (s1.trans s23)) (fun hd => ?_) (simple_mkL rfl fun t ht => by
      simp only [List.mem_cons, List.not_mem_nil, or_false] at ht
      rcases ht with z | z <;> subst z <;> exact simple_mkL rfl (fun _ z => nomatch z))
    have g1 := gd_nam (hd := hd) (xs := x0 :: xr) l1 (hw.2 x0 List.mem_cons_self) List.mem_cons_self
    have g2 := gd_num (hd := hd) (xs := x0 :: xr) l2 (by decide)
    refine ⟨?_, ?_, ?_, ?_, ?_, ?_⟩
    · exact at_mkL (vs := [.ref p1, .ref p2]) ⟨rfl, upd_same⟩ ⟨⟨p1, rfl, g1.at_⟩, ⟨p2, rfl, g2.at_⟩, trivial⟩
    · refine ok_mkL trivial fun t ht => ?_
      simp only [List.mem_cons, List.not_mem_nil, or_false] at ht
      rcases ht with z | z
      · subst z
        exact g1.ok
      · subst z
        exact g2.ok
    · have c1 := g1.cn
      have c2 := g2.cn
      rw [cnt_mkL, cnts_cons, cnts_cons]
      show 1 + (_ + (_ + 0)) ≤ 3
      omega
    · refine ht_mkL fun t ht => ?_
      simp only [List.mem_cons, List.not_mem_nil, or_false] at ht
      rcases ht with z | z
      · subst z
        exact g1.dp
      · subst z
        exact g2.dp
    · refine sc_mkL trivial fun i t hi => ?_
      match i, hi with
      | 0, hi =>
        cases (Option.some.inj hi)
        exact g1.sc
      | 1, hi =>
        cases (Option.some.inj hi)
        exact g2.sc
      | i + 2, hi => simp at hi
    · rw [lt_mkL, letsL_cons, letsL_cons, g1.lt, g2.lt]
      rfl
end
end KB

namespace KB
open PySem L2

/-! ### parts of turned books as data -/
inductive Pt
  | give (j : Str) (t : Tm)
  | ask (f : Str) (ts : List Tm) (j : Str)
  | tell (x : Str) (t : Tm) (p : Pt)
  | lett (x : Str) (t : Tm) (p : Pt)
  | iff (t : Tm) (p q : Pt)
  | post (j x : Str) (p q : Pt)
def RefV (H : Hp) (t : Tm) (v : V) : Prop := ∃ b, v = .ref b ∧ At H t b
def PAt (H : Hp) : Pt → Addr → Prop
  | .give j t, a => ∃ b, H a = some (.tup [.str "give", .str j, .ref b]) ∧ At H t b
  | .ask f ts j, a => ∃ q vs, H a = some (.tup [.str "ask", .str f, .ref q, .str j]) ∧ H q = some (.tup vs) ∧ All2 (RefV H) ts vs
  | .tell x t p, a => ∃ b c, H a = some (.tup [.str "tell", .str x, .ref b, .ref c]) ∧ At H t b ∧ PAt H p c
  | .lett x t p, a => ∃ b c, H a = some (.tup [.str "let", .str x, .ref b, .ref c]) ∧ At H t b ∧ PAt H p c
  | .iff t p q, a => ∃ b c d, H a = some (.tup [.str "if", .ref b, .ref c, .ref d]) ∧ At H t b ∧ PAt H p c ∧ PAt H q d
  | .post j x p q, a => ∃ c d, H a = some (.tup [.str "post", .str j, .str x, .ref c, .ref d]) ∧ PAt H p c ∧ PAt H q d
theorem RefV.tk {H H' : Hp} (k : TK H H') {t : Tm} {v : V} (h : RefV H t v) : RefV H' t v := let ⟨b, e, g⟩ := h; ⟨b, e, g.tk k⟩
theorem PAt.tk {H H' : Hp} (k : TK H H') : ∀ {p : Pt} {a : Addr}, PAt H p a → PAt H' p a
  | .give j t, a, ⟨b, h1, h2⟩ => ⟨b, k _ _ h1, h2.tk k⟩
  | .ask f ts j, a, ⟨q, vs, h1, h2, h3⟩ => ⟨q, vs, k _ _ h1, k _ _ h2, h3.imp fun _ _ z => z.tk k⟩
  | .tell x t p, a, ⟨b, c, h1, h2, h3⟩ => ⟨b, c, k _ _ h1, h2.tk k, PAt.tk k h3⟩
  | .lett x t p, a, ⟨b, c, h1, h2, h3⟩ => ⟨b, c, k _ _ h1, h2.tk k, PAt.tk k h3⟩
  | .iff t p q, a, ⟨b, c, d, h1, h2, h3, h4⟩ => ⟨b, c, d, k _ _ h1, h2.tk k, PAt.tk k h3, PAt.tk k h4⟩
  | .post j x p q, a, ⟨c, d, h1, h2, h3⟩ => ⟨c, d, k _ _ h1, PAt.tk k h2, PAt.tk k h3⟩
/-- a simple term within words -/
structure SmT (hd : Str → Option Nat) (xs : List Str) (t : Tm) : Prop where
  ok : okT t
  si : simple t = true
  sc : okS hd t xs
  cn : cnt t ≤ 3
  ht : HtLe 2 t
def okP (hd : Str → Option Nat) : Pt → List Str → List Str → Prop
  | .give j t, xs, hs => j ∈ hs ∧ SmT hd xs t
  | .ask f ts j, xs, hs => j ∈ hs ∧ isW f = true ∧ hd f = some ts.length ∧ ts.length ≤ 4 ∧ ∀ t ∈ ts, SmT hd xs t
  | .tell x t p, xs, hs => isW x = true ∧ SmT hd xs t ∧ okP hd p (xs ++ [x]) hs
  | .lett x t p, xs, hs => isW x = true ∧ SmT hd xs t ∧ okP hd p (xs ++ [x]) hs
  | .iff t p q, xs, hs => SmT hd xs t ∧ okP hd p xs hs ∧ okP hd q xs hs
  | .post j x p q, xs, hs => isW j = true ∧ isW x = true ∧ okP hd p (xs ++ [x]) hs ∧ okP hd q xs (hs ++ [j])
def pcnt : Pt → Nat
  | .give _ _ => 1
  | .ask _ _ _ => 1
  | .tell _ _ p => 1 + pcnt p
  | .lett _ _ p => 1 + pcnt p
  | .iff _ p q => 1 + pcnt p + pcnt q
  | .post _ _ p q => 1 + pcnt p + pcnt q
/-- the words and the posts' words that a part binds, as they are met -/
def wP : Pt → List Str
  | .give _ _ => []
  | .ask _ _ _ => []
  | .tell x _ p => x :: wP p
  | .lett x _ p => x :: wP p
  | .iff _ p q => wP p ++ wP q
  | .post _ x p q => x :: (wP p ++ wP q)
def jP : Pt → List Str
  | .give _ _ => []
  | .ask _ _ _ => []
  | .tell _ _ p => jP p
  | .lett _ _ p => jP p
  | .iff _ p q => jP p ++ jP q
  | .post j _ p q => j :: (jP p ++ jP q)

/-! ### what the generator of parts has at hand -/
def But3 (tp wl pl : Addr) (H H' : Hp) : Prop := ∀ b o, b ≠ tp → b ≠ wl → b ≠ pl → H b = some o → H' b = some o
theorem But3.refl (tp wl pl : Addr) (H : Hp) : But3 tp wl pl H H := fun _ _ _ _ _ h => h
theorem But3.trans {tp wl pl : Addr} {H H1 H2 : Hp} (a : But3 tp wl pl H H1) (b : But3 tp wl pl H1 H2) : But3 tp wl pl H H2 := fun x o n m l h => b x o n m l (a x o n m l h)
theorem But1.three {tp wl pl : Addr} {H H' : Hp} (a : But1 tp H H') : But3 tp wl pl H H' := fun x o n _ _ h => a x o n h
theorem but3_same {tp wl pl : Addr} {H H' : Hp} (e : Same H H') : But3 tp wl pl H H' := fun b o _ _ _ h => e b o h
abbrev kgE : Key := Sum.inr "errands"
abbrev kgH : Key := Sum.inr "heads"
abbrev kgW : Key := Sum.inr "words"
abbrev kgR : Key := Sum.inr "room"
abbrev kgP : Key := Sum.inr "posts"
abbrev kgS : Key := Sum.inr "straight"
def knT (el hd wl pl : Addr) (room : Int) (st : Bool) : List (Key × V) := [(kgE, .ref el), (kgH, .ref hd), (kgW, .ref wl), (kgR, .int room), (kgP, .ref pl), (kgS, .bl st)]
structure GT (H : Hp) (tp kd wl pl : Addr) (hF : Str → Option Nat) (ws js : List Str) : Prop where
  t : Tp H tp
  w : Wls H wl ws
  p : Wls H pl js
  wn : ws.length ≤ 100
  pn : js.length ≤ 100
  wp : wl ≠ pl
  k : ∃ el hd fs kvs room st, H kd = some (.dK (knT el hd wl pl room st)) ∧ 1 ≤ room ∧ room ≤ 9 ∧ el ≠ wl ∧ el ≠ pl ∧ Wls H el fs ∧ 0 < fs.length ∧ fs.length ≤ 100 ∧ H hd = some (.dK kvs) ∧ ∀ f ∈ fs, ∃ n : Int, valV kvs (Sum.inr f) = some (.int n) ∧ 0 ≤ n ∧ n ≤ 4 ∧ hF f = some n.toNat
section
variable {H H' : Hp} {tp kd wl pl : Addr} {hF : Str → Option Nat} {ws js ws' js' : List Str}
theorem GT.ntk (g : GT H tp kd wl pl hF ws js) {a : Addr} {o : HO} (h : H a = some o) (hn : ∀ xs, o ≠ .lst xs) : a ≠ tp ∧ a ≠ wl ∧ a ≠ pl := by
  obtain ⟨z, hz⟩ := g.t
  exact ⟨ne_of h hz (hn _), ne_of h g.w.1 (hn _), ne_of h g.p.1 (hn _)⟩
theorem GT.tk (g : GT H tp kd wl pl hF ws js) (b : But3 tp wl pl H H') : TK H H' := fun a _ h => by
  obtain ⟨n1, n2, n3⟩ := g.ntk h (fun _ z => nomatch z)
  exact b a _ n1 n2 n3 h
theorem GT.step (g : GT H tp kd wl pl hF ws js) (b : But3 tp wl pl H H') (t : Tp H' tp) (w : Wls H' wl ws') (p : Wls H' pl js') (wn : ws'.length ≤ 100) (pn : js'.length ≤ 100) : GT H' tp kd wl pl hF ws' js' := by
  obtain ⟨el, hd, fs, kvs, room, st, k1, r1, r2, k2, k2', k3, k4, k5, k6, k7⟩ := g.k
  refine ⟨t, w, p, wn, pn, g.wp, el, hd, fs, kvs, room, st, ?_, r1, r2, k2, k2', ⟨b _ _ (wls_tp k3.1 g.t) k2 k2' k3.1, k3.2⟩, k4, k5, ?_, k7⟩
  · obtain ⟨n1, n2, n3⟩ := g.ntk k1 (fun _ z => nomatch z)
    exact b _ _ n1 n2 n3 k1
  · obtain ⟨n1, n2, n3⟩ := g.ntk k6 (fun _ z => nomatch z)
    exact b _ _ n1 n2 n3 k6
theorem GT.one (g : GT H tp kd wl pl hF ws js) (b : But1 tp H H') (t : Tp H' tp) : GT H' tp kd wl pl hF ws js := g.step b.three t (g.w.but b g.t) (g.p.but b g.t) g.wn g.pn
theorem GT.same (g : GT H tp kd wl pl hF ws js) (e : Same H H') : GT H' tp kd wl pl hF ws js := g.one (but_same e) (g.t.same e)
theorem Wls.three {a : Addr} {xs : List Str} (e : But3 tp wl pl H H') (g : GT H tp kd wl pl hF ws js) (n : a ≠ wl) (m : a ≠ pl) (h : Wls H a xs) : Wls H' a xs := ⟨e _ _ (wls_tp h.1 g.t) n m h.1, h.2⟩
theorem GT.new (g : GT H tp kd wl pl hF ws js) {p : Addr} (h : H p = none) : p ≠ tp ∧ p ≠ wl ∧ p ≠ pl := by
  obtain ⟨z, hz⟩ := g.t
  exact ⟨(ne_of_none hz h).symm, (ne_of_none g.w.1 h).symm, (ne_of_none g.p.1 h).symm⟩
variable {el hd : Addr} {room : Int} {st : Bool}
theorem gt_errands (h : H kd = some (.dK (knT el hd wl pl room st))) : DGet H kd (.str "errands") (some (.ref el)) := DGet.k (k := kgE) h
theorem gt_heads (h : H kd = some (.dK (knT el hd wl pl room st))) : DGet H kd (.str "heads") (some (.ref hd)) := DGet.k (k := kgH) h
theorem gt_words (h : H kd = some (.dK (knT el hd wl pl room st))) : DGet H kd (.str "words") (some (.ref wl)) := DGet.k (k := kgW) h
theorem gt_room (h : H kd = some (.dK (knT el hd wl pl room st))) : DGet H kd (.str "room") (some (.int room)) := DGet.k (k := kgR) h
theorem gt_posts (h : H kd = some (.dK (knT el hd wl pl room st))) : DGet H kd (.str "posts") (some (.ref pl)) := DGet.k (k := kgP) h
theorem gt_straight (h : H kd = some (.dK (knT el hd wl pl room st))) : DGet H kd (.str "straight") (some (.bl st)) := DGet.k (k := kgS) h
end
theorem get_of {H : Hp} {hd : Addr} {kvs : List (Key × V)} {f : Str} {v : V} (h : H hd = some (.dK kvs)) (e : valV kvs (Sum.inr f) = some v) : DGet H hd (.str f) (some v) := by
  have := DGet.k (k := Sum.inr f) h
  rw [e] at this
  exact this
/-- the hand-ons around -/
def Hls (H : Hp) (a : Addr) (hs : List Str) : Prop := H a = some (.lst (hs.map V.str))
end KB

namespace KB
open PySem L2

section
variable {P : Program} {w : World} {K : PySem.W.Frag} {mg : Str → Option Value} {base : Heap}
/-! ### _law_simple -/
/-- a simple term at a, of at most n terms, within d -/
structure GdS (H : Hp) (a : Addr) (n d : Nat) (hd : Str → Option Nat) (xs : List Str) (t : Tm) : Prop where
  g : Gd H a n d hd xs [] t
  s : simple t = true
def spSimple (n : Nat) : Sp := fun vs H Q _ => ∃ (tp ar : Addr) (xs : List Str), vs = [.ref tp, .ref ar, .int n] ∧ Tp H tp ∧ Wls H ar xs ∧ xs.length ≤ 1000 ∧ n ≤ 1 ∧ ∀ a t H', But1 tp H H' → Tp H' tp → (∀ hd, GdS H' a (2 * n + 1) (n + 1) hd xs t) → Q (.ref a) H'
abbrev s_law_simple : Stmt := top 56
theorem scLsimple : FnScope ["tape", "around", "deep", "one"] ["tape", "around", "deep"] (defScope s_law_simple) := ⟨rfl, rfl, rfl, by decide +kernel, rfl, by decide +kernel, by decide +kernel⟩
theorem leaf_simple {H : Hp} {a : Addr} {xs : List Str} {t : Tm} (g : ∀ hd, Gd H a 1 1 hd xs [] t) : simple t = true := by
  have g0 := g fun _ => none
  cases t with
  | mk h n k =>
    have hc := g0.cn
    rw [cnt_mk] at hc
    have hn : n = 0 := by
      cases n with
      | zero => rfl
      | succ m =>
        exfalso
        rw [List.ofFn_succ, cnts_cons] at hc
        have := cnt_pos (k 0)
        omega
    subst hn
    obtain ⟨ys, l, _⟩ := g0.at_
    have hl : (Rfs ys).length = 0 := by
      unfold Rfs
      rw [List.length_ofFn]
    have hs := g0.sc.1
    cases h with
    | num z => rfl
    | nam x => rfl
    | plus => rfl
    | less => rfl
    | tell =>
      have := l.1
      omega
    | lett x =>
      have := l.1
      omega
    | iff =>
      have := l.1
      omega
    | ask f => cases hs
def spPrev : Nat → Sp
  | 0 => fun _ _ _ _ => False
  | n + 1 => spSimple n
theorem two_simple {H : Hp} {p a b : Addr} {hd : Str → Option Nat} {xs : List Str} {h : Hd} {t u : Tm} (hh : h = .plus ∨ h = .less) (g1 : GdS H a 1 1 hd xs t) (g2 : GdS H b 1 1 hd xs u) (hp : H p = some (.tup [.str (hs h), .ref a, .ref b])) : GdS H p 3 2 hd xs (mkL h [t, u]) := by
  have both : ∀ (Pr : Tm → Prop), Pr t → Pr u → ∀ x ∈ [t, u], Pr x := fun Pr h1 h2 x hx => by
    rcases List.mem_cons.mp hx with z | z
    · rw [z]
      exact h1
    · rw [List.mem_singleton.mp z]
      exact h2
  have lay : Lay H p h [.ref a, .ref b] := by
    rcases hh with rfl | rfl
    · exact ⟨rfl, hp⟩
    · exact ⟨rfl, hp⟩
  have c1 := g1.g.cn
  have c2 := g2.g.cn
  refine ⟨⟨at_mkL lay ⟨⟨a, rfl, g1.g.at_⟩, ⟨b, rfl, g2.g.at_⟩, trivial⟩, ok_mkL (by rcases hh with rfl | rfl <;> trivial) (both _ g1.g.ok g2.g.ok), ?_, ht_mkL (both _ g1.g.dp g2.g.dp), ?_, ?_⟩, simple_mkL (by rcases hh with rfl | rfl <;> rfl) (both _ g1.s g2.s)⟩
  · rw [cnt_mkL, cnts_cons, cnts_cons]
    show 1 + (_ + (_ + 0)) ≤ 3
    omega
  · refine sc_mkL (by rcases hh with rfl | rfl <;> trivial) fun i x hi => ?_
    have hin : inn h i xs = xs := by rcases hh with rfl | rfl <;> rfl
    rw [hin]
    exact both (fun y => okS hd y xs) g1.g.sc g2.g.sc x (List.mem_of_getElem? hi)
  · have e1 := g1.g.lt
    have e2 := g2.g.lt
    have : letsOf (mkL h [t, u]) = hdLets h ++ letsL [t, u] := by
      unfold mkL
      rw [lets_mk, ofFn_get]
    rw [this]
    show hdLets h ++ (letsOf t ++ (letsOf u ++ [])) = []
    rw [e1, e2]
    rcases hh with rfl | rfl <;> rfl
theorem GdS.tk {H H' : Hp} {a : Addr} {n d : Nat} {hd : Str → Option Nat} {xs : List Str} {t : Tm} (k : TK H H') (g : GdS H a n d hd xs t) : GdS H' a n d hd xs t := ⟨g.g.tk k, g.s⟩
theorem tp_tk {tp : Addr} {H H' : Hp} (t : Tp H tp) (b : But1 tp H H') : TK H H' := b.tk t
theorem ok_simple (T : Txt K mg) (n : Nat) {f fg fh : Addr} {fd gd hd : FuncData} (F : Fun K "_law_simple" "_law_simple" s_law_simple f fd) (G_law_digit : FnOk P w K mg base CX0 1 fg gd ["tape", "many"] spDig) (R_law_digit : Ref K mg "_law_digit" fg gd ["tape", "many"])
    (G_law_leaf : FnOk P w K mg base CX0 3 fh hd ["tape", "known", "around"] spLeaf) (R_law_leaf : Ref K mg "_law_leaf" fh hd ["tape", "known", "around"])
    (G_law_simple : FnOk P w K mg base CX0 (n + 3) f fd ["tape", "around", "deep"] (spPrev n)) (R_law_simple : Ref K mg "_law_simple" f fd ["tape", "around", "deep"]) : FnOk P w K mg base CX0 (n + 4) f fd ["tape", "around", "deep"] (spSimple n) := by
  refine F.ok scLsimple (fun vs H Q E h => ?_) (fun cdv A outer s H vs Q E hr h => ?_)
  · obtain ⟨tp, ar, xs, rfl, _⟩ := h
    rfl
  obtain ⟨tp, ar, xs, rfl, ht, hw, hx, hn1, q⟩ := h
  refine ⟨_, (pss_cons (ps_if (PW.pt (pw_or (pt_cmpR op_eq (pv 2) pe_int (nomark _)) (pw_or1 (pt_cmpR op_gt (pe_call G_law_digit (hr.mono (by omega)) rfl R_law_digit.m R_law_digit.k R_law_digit.b .nil pass0 (pa_cons (pv 0) (pa_cons pe_int pa_nil))) pe_int (nomark _))))) (pss_one (ps_ret (pe_call G_law_leaf (hr.mono (by omega)) rfl R_law_leaf.m R_law_leaf.k R_law_leaf.b .nil pass0 (pa_cons (pv 0) (pa_cons pe_dnewK (pa_cons (pv 1) pa_nil)))))) pss_nil)
    (pss_cons (ps_set (i := 3) scLsimple.nd rfl (Or.inl rfl) (pe_call G_law_simple (hr.mono (by omega)) rfl R_law_simple.m R_law_simple.k R_law_simple.b .nil pass0 (pa_cons (pv 0) (pa_cons (pv 1) (pa_cons (pe_op op_sub (pv 2) pe_int) pa_nil)))))
    (pss_one (ps_ret (pe_tup (pa_cons (pe_ix ix_list (pe_lst (pa_cons pe_str (pa_cons pe_str pa_nil))) (pe_call G_law_digit (hr.mono (by omega)) rfl R_law_digit.m R_law_digit.k R_law_digit.b .nil pass0 (pa_cons (pv 0) (pa_cons pe_int pa_nil))) (fun _ _ => rfl)) (pa_cons (pv 3) (pa_cons (pe_call G_law_simple (hr.mono (by omega)) rfl R_law_simple.m R_law_simple.k R_law_simple.b .nil pass0 (pa_cons (pv 0) (pa_cons (pv 1) (pa_cons (pe_op op_sub (pv 2) pe_int) pa_nil)))) pa_nil)))))))), ?_⟩
  have leafW : ∀ H1, But1 tp H H1 → Tp H1 tp → (tRet (tCall spLeaf [] E0 (tCons (tVar 0) (tCons tDNewK (tCons (tVar 1) tNil))))) { nx := fun x H' => Q V.non H', rt := Q } [some (.ref tp), some (.ref ar), some (.int n), none] H1 := by
    intro H1 b1 t1
    have w1 := hw.but b1 ht
    refine ⟨_, rfl, fun kv hkv => ⟨_, rfl, ?_⟩⟩
    have s2 := same_new hkv (.dK [])
    refine ⟨tp, .ref kv, ar, xs, rfl, t1.same s2, w1.but (but_same s2) t1, hx, fun a t H3 b3 t3 gd => ?_⟩
    exact q a t H3 ((b1.trans (but_same s2)).trans b3) t3 fun hd => ⟨(gd hd).le (by omega) (by omega), leaf_simple gd⟩
  refine ⟨_, rfl, rfl, _, rfl, ?_⟩
  cases n with
  | zero => exact itT rfl (iteT (leafW H (But1.refl _ _) ht))
  | succ n =>
    have hn0 : n = 0 := by omega
    subst hn0
    refine itF rfl ⟨_, rfl, tp, 3, rfl, ht, by decide, by decide, fun r H1 r0 r1 b1 t1 => ?_⟩
    refine ⟨_, _, rfl, rfl, _, rfl, ?_⟩
    refine ite2 (fun c => leafW H1 b1 t1) (fun c => ?_)
    have w1 := hw.but b1 ht
    refine ⟨_, rfl, _, rfl, _, rfl, _, _, rfl, rfl, tp, ar, xs, rfl, t1, w1, hx, Nat.zero_le _, fun a1 u1 H2 b2 t2 g1 => ?_⟩
    have w2 := w1.but b2 t1
    refine ⟨sz (by show 2 ≤ 100000; decide), fun p3 hp3 => ?_⟩
    have s3 := same_new hp3 (.lst [V.str "plus", .str "less"])
    have np : p3 ≠ tp := by
      obtain ⟨z, hz⟩ := t2
      exact (ne_of_none hz hp3).symm
    have h3 : upd H2 p3 (.lst [V.str "plus", .str "less"]) p3 = some (.lst [V.str "plus", .str "less"]) := upd_same
    have t3 := t2.same s3
    have w3 := w2.but (but_same s3) t2
    refine ⟨_, rfl, tp, 2, rfl, t3, by decide, by decide, fun r4 H4 r40 r41 b4 t4 => ?_⟩
    obtain ⟨v, hv, hm⟩ := at_some (xs := [V.str "plus", .str "less"]) r40 r41
    obtain ⟨h, hh, rfl⟩ : ∃ h : Hd, (h = .plus ∨ h = .less) ∧ v = .str (hs h) := by
      rcases List.mem_cons.mp hm with z | z
      · exact ⟨.plus, .inl rfl, z⟩
      · exact ⟨.less, .inr rfl, List.mem_singleton.mp z⟩
    have w4 := w3.but b4 t3
    refine ⟨p3, _, _, _, rfl, rfl, SqL.of (b4 _ _ np h3), hv, _, rfl, _, rfl, _, rfl, _, rfl, _, _, rfl, rfl, tp, ar, xs, rfl, t4, w4, hx, Nat.zero_le _, fun a2 u2 H5 b5 t5 g2 => ?_⟩
    refine ⟨sz (by show 3 ≤ 100000; decide), fun p6 hp6 => ?_⟩
    have s6 := same_new hp6 (.tup [V.str (hs h), .ref a1, .ref a2])
    have k25 : TK H2 H5 := (tp_tk t2 (but_same s3)).trans ((tp_tk t3 b4).trans (tp_tk t4 b5))
    refine q p6 (mkL h [u1, u2]) _ (((((b1.trans b2).trans (but_same s3)).trans b4).trans b5).trans (but_same s6)) (t5.same s6) fun hd => ?_
    exact two_simple hh ((g1 hd).tk (k25.trans (tk_same s6))) ((g2 hd).tk (tk_same s6)) upd_same
theorem no_sp {k : Nat} {f : Addr} {fd : FuncData} {ps : List Str} : FnOk P w K mg base CX0 k f fd ps (fun _ _ _ _ => False) := ⟨fun _ _ _ _ z => z.elim, fun _ _ _ _ _ _ _ _ _ _ _ _ _ z => z.elim⟩
theorem all_simple (T : Txt K mg) {f fg fh : Addr} {fd gd hd : FuncData} (F : Fun K "_law_simple" "_law_simple" s_law_simple f fd) (G_law_digit : FnOk P w K mg base CX0 1 fg gd ["tape", "many"] spDig) (R_law_digit : Ref K mg "_law_digit" fg gd ["tape", "many"])
    (G_law_leaf : FnOk P w K mg base CX0 3 fh hd ["tape", "known", "around"] spLeaf) (R_law_leaf : Ref K mg "_law_leaf" fh hd ["tape", "known", "around"]) (R_law_simple : Ref K mg "_law_simple" f fd ["tape", "around", "deep"]) : FnOk P w K mg base CX0 5 f fd ["tape", "around", "deep"] (spSimple 1) :=
  ok_simple T 1 F G_law_digit R_law_digit G_law_leaf R_law_leaf (ok_simple T 0 F G_law_digit R_law_digit G_law_leaf R_law_leaf no_sp R_law_simple) R_law_simple
end
end KB

namespace KB
open PySem L2

section
variable {P : Program} {w : World} {K : PySem.W.Frag} {mg : Str → Option Value} {base : Heap}
/-! ### _law_some_hand -/
def spHand : Sp := fun vs H Q _ => ∃ (tp kd wl pl hl : Addr) (hF : Str → Option Nat) (ws js hs : List Str), vs = [.ref tp, .ref kd, .ref hl] ∧ GT H tp kd wl pl hF ws js ∧ Hls H hl hs ∧ hs ≠ [] ∧ hs.length ≤ 1000 ∧ hl ≠ tp ∧
  ∀ j H', But1 tp H H' → Tp H' tp → j ∈ hs → Q (.str j) H'
abbrev s_law_some_hand : Stmt := top 57
theorem scLsome_hand : FnScope ["tape", "known", "hands"] ["tape", "known", "hands"] (defScope s_law_some_hand) := ⟨rfl, rfl, rfl, by decide +kernel, rfl, by decide +kernel, by decide +kernel⟩
theorem ok_hand (T : Txt K mg) {f fg : Addr} {fd gd : FuncData} (F : Fun K "_law_some_hand" "_law_some_hand" s_law_some_hand f fd) (G_law_digit : FnOk P w K mg base CX0 1 fg gd ["tape", "many"] spDig) (R_law_digit : Ref K mg "_law_digit" fg gd ["tape", "many"]) :
    FnOk P w K mg base CX0 2 f fd ["tape", "known", "hands"] spHand := by
  refine F.ok scLsome_hand (fun vs H Q E h => ?_) (fun cdv A outer s H vs Q E hr h => ?_)
  · obtain ⟨tp, kd, wl, pl, hl, hF, ws, js, hs, rfl, _⟩ := h
    rfl
  obtain ⟨tp, kd, wl, pl, hl, hF, ws, js, hs, rfl, g, hh, hne, hlen, hn, q⟩ := h
  refine ⟨_, (pss_cons (ps_if (PW.pt (pw_or (pt_truth (pe_dget (hu_of hr) (pv 1) pe_str (fun _ _ => rfl)) (by intro _; rfl)) (pw_or1 (pt_cmpR op_gt (pe_call G_law_digit (hr.mono (by omega)) rfl R_law_digit.m R_law_digit.k R_law_digit.b .nil pass0 (pa_cons (pv 0) (pa_cons pe_int pa_nil))) pe_int (nomark _))))) (pss_one (ps_ret (pe_ix ix_list (pv 2) (pe_un un_neg pe_int) (fun _ _ => rfl)))) pss_nil)
    (pss_one (ps_ret (pe_ix ix_list (pv 2) (pe_call G_law_digit (hr.mono (by omega)) rfl R_law_digit.m R_law_digit.k R_law_digit.b .nil pass0 (pa_cons (pv 0) (pa_cons (pe_callB call_len_seq (by rfl) T.m_len PySem.boot_len (pa_cons (pv 2) pa_nil)) pa_nil))) (fun _ _ => rfl))))), ?_⟩
  obtain ⟨el, hd, fs, kvs, room, st, k1, _⟩ := g.k
  obtain ⟨r, j, rfl⟩ : ∃ r j, hs = r ++ [j] := ⟨hs.dropLast, hs.getLast hne, (List.dropLast_concat_getLast hne).symm⟩
  have em : (r ++ [j]).map V.str = r.map V.str ++ [V.str j] := by
    rw [List.map_append]
    rfl
  have lastW : ∀ H1, But1 tp H H1 → Tp H1 tp → (tRet (tOp (rIxL K) (tVar 2) (tUn (rU fun i => .int (-i)) (tC (.int 1))))) { nx := fun x H' => Q V.non H', rt := Q } [some (.ref tp), some (.ref kd), some (.ref hl)] H1 := by
    intro H1 b1 t1
    have h1 : H1 hl = some (.lst (r.map V.str ++ [V.str j])) := by
      rw [← em]
      exact b1 _ _ hn hh
    exact ⟨_, rfl, _, rfl, hl, _, _, _, rfl, rfl, SqL.of h1, atI_last _ _, q j H1 b1 t1 (List.mem_append_right _ List.mem_cons_self)⟩
  refine ⟨_, rfl, kd, _, rfl, gt_straight k1, st, rfl, ?_⟩
  cases st with
  | true => exact itT rfl (iteT (lastW H (But1.refl _ _) g.t))
  | false =>
    refine itF rfl ⟨_, rfl, tp, 3, rfl, g.t, by decide, by decide, fun r1 H1 r10 r11 b1 t1 => ?_⟩
    refine ⟨_, _, rfl, rfl, _, rfl, ?_⟩
    refine ite2 (fun c => lastW H1 b1 t1) (fun c => ?_)
    have h1 : H1 hl = some (.lst ((r ++ [j]).map V.str)) := b1 _ _ hn hh
    have el1 : (((r ++ [j]).map V.str).length : Int) = ((r ++ [j]).length : Int) := by rw [List.length_map]
    have pos : 0 < (r ++ [j]).length := by simp
    refine ⟨_, rfl, _, rfl, _, rfl, hl, _, rfl, .inl (SqL.of h1), tp, _, rfl, t1, by rw [el1]; omega, by rw [el1]; omega, fun r2 H2 r20 r21 b2 t2 => ?_⟩
    obtain ⟨v, hv, hm⟩ := at_some r20 r21
    obtain ⟨z, hz, rfl⟩ := List.mem_map.mp hm
    exact ⟨hl, _, _, _, rfl, rfl, SqL.of (b2 _ _ hn h1), hv, q z H2 (b1.trans b2) t2 hz⟩
end
end KB

namespace KB
open PySem L2

theorem GdS.sm {H : Hp} {a : Addr} {hd : Str → Option Nat} {xs : List Str} {t : Tm} (g : GdS H a 3 2 hd xs t) : SmT hd xs t := ⟨g.g.ok, g.s, g.g.sc, g.g.cn, g.g.dp⟩
section
variable {P : Program} {w : World} {K : PySem.W.Frag} {mg : Str → Option Value} {base : Heap}
/-! ### _law_end -/
def spEnd : Sp := fun vs H Q _ => ∃ (tp kd wl pl ar hl : Addr) (hF : Str → Option Nat) (ws js xs hs : List Str), vs = [.ref tp, .ref kd, .ref ar, .ref hl] ∧ GT H tp kd wl pl hF ws js ∧ Wls H ar xs ∧ xs.length ≤ 1000 ∧ Hls H hl hs ∧ hs ≠ [] ∧ hs.length ≤ 1000 ∧ hl ≠ tp ∧
  ∀ a p H', But1 tp H H' → Tp H' tp → PAt H' p a → okP hF p xs hs → pcnt p = 1 → wP p = [] → jP p = [] → Q (.ref a) H'
abbrev s_law_end : Stmt := top 58
theorem scLend : FnScope ["tape", "known", "around", "hands", "f", "hand", "some", "k"] ["tape", "known", "around", "hands"] (defScope s_law_end) := ⟨rfl, rfl, rfl, by decide +kernel, rfl, by decide +kernel, by decide +kernel⟩
theorem ok_end (T : Txt K mg) {f fg fh fl fs : Addr} {fd gd hd ld sd : FuncData} (F : Fun K "_law_end" "_law_end" s_law_end f fd) (G_law_digit : FnOk P w K mg base CX0 1 fg gd ["tape", "many"] spDig) (R_law_digit : Ref K mg "_law_digit" fg gd ["tape", "many"])
    (G_law_some_hand : FnOk P w K mg base CX0 2 fh hd ["tape", "known", "hands"] spHand) (R_law_some_hand : Ref K mg "_law_some_hand" fh hd ["tape", "known", "hands"]) (G_law_less_one : FnOk P w K mg base CX0 1 fl ld ["around"] spLess) (R_law_less_one : Ref K mg "_law_less_one" fl ld ["around"])
    (G_law_simple : FnOk P w K mg base CX0 5 fs sd ["tape", "around", "deep"] (spSimple 1)) (R_law_simple : Ref K mg "_law_simple" fs sd ["tape", "around", "deep"]) : FnOk P w K mg base CX0 6 f fd ["tape", "known", "around", "hands"] spEnd := by
  refine F.ok scLend (fun vs H Q E h => ?_) (fun cdv A outer s H vs Q E hr h => ?_)
  · obtain ⟨tp, kd, wl, pl, ar, hl, hF, ws, js, xs, hs, rfl, _⟩ := h
    rfl
  obtain ⟨tp, kd, wl, pl, ar, hl, hF, ws, js, xs, hs, rfl, g, hw, hx, hh, hne, hhl, hnt, q⟩ := h
  refine ⟨_, (pss_cons (ps_set (i := 4) scLend.nd rfl (Or.inl rfl) (pe_ix ix_list (pe_dget (hu_of hr) (pv 1) pe_str (fun _ _ => rfl)) (pe_call G_law_digit (hr.mono (by omega)) rfl R_law_digit.m R_law_digit.k R_law_digit.b .nil pass0 (pa_cons (pv 0) (pa_cons (pe_callB call_len_seq (by rfl) T.m_len PySem.boot_len (pa_cons (pe_dget (hu_of hr) (pv 1) pe_str (fun _ _ => rfl)) pa_nil)) pa_nil))) (fun _ _ => rfl)))
    (pss_cons (ps_set (i := 5) scLend.nd rfl (Or.inl rfl) (pe_call G_law_some_hand (hr.mono (by omega)) rfl R_law_some_hand.m R_law_some_hand.k R_law_some_hand.b .nil pass0 (pa_cons (pv 0) (pa_cons (pv 1) (pa_cons (pv 3) pa_nil)))))
    (pss_cons (ps_if (pt_cmpR op_eq (pe_call G_law_digit (hr.mono (by omega)) rfl R_law_digit.m R_law_digit.k R_law_digit.b .nil pass0 (pa_cons (pv 0) (pa_cons pe_int pa_nil))) pe_int (nomark _)) (pss_one (ps_ret (pe_tup (pa_cons pe_str (pa_cons (pv 5) (pa_cons (pe_call G_law_simple (hr.mono (by omega)) rfl R_law_simple.m R_law_simple.k R_law_simple.b .nil pass0 (pa_cons (pv 0) (pa_cons (pv 2) (pa_cons pe_int pa_nil)))) pa_nil)))))) pss_nil)
    (pss_cons (ps_set (i := 6) scLend.nd rfl (Or.inl rfl) (pe_lst pa_nil))
    (pss_cons (ps_for PassesOwn.never rfl (pi_range1 rfl T.m_range (pa_cons (pe_dget (hu_of hr) (pe_dget (hu_of hr) (pv 1) pe_str (fun _ _ => rfl)) (pv 4) (fun _ _ => rfl)) pa_nil)) (pg_name (i := 7) scLend.nd rfl (Or.inl rfl)) (pss_one (ps_if (PW.pt (pw_and (pt_cmpR op_eq (pv 7) pe_int (nomark _)) (pw_and1 (pt_cmpR op_gt (pe_call G_law_digit (hr.mono (by omega)) rfl R_law_digit.m R_law_digit.k R_law_digit.b .nil pass0 (pa_cons (pv 0) (pa_cons pe_int pa_nil))) pe_int (nomark _))))) (pss_one (ps_expr (pe_bm PySem.F.plainAttrs_list PySem.F.slot_list_append PySem.F.type_list_append mt_append (pv 6) (pa_cons (pe_call G_law_less_one (hr.mono (by omega)) rfl R_law_less_one.m R_law_less_one.k R_law_less_one.b .nil pass0 (pa_cons (pv 2) pa_nil)) pa_nil)))) (pss_one (ps_expr (pe_bm PySem.F.plainAttrs_list PySem.F.slot_list_append PySem.F.type_list_append mt_append (pv 6) (pa_cons (pe_call G_law_simple (hr.mono (by omega)) rfl R_law_simple.m R_law_simple.k R_law_simple.b .nil pass0 (pa_cons (pv 0) (pa_cons (pv 2) (pa_cons pe_int pa_nil)))) pa_nil)))))))
    (pss_one (ps_ret (pe_tup (pa_cons pe_str (pa_cons (pv 4) (pa_cons (pe_callTy call_tuple_of (by rfl) T.m_tuple (by decide +kernel) (pa_cons (pv 6) pa_nil)) (pa_cons (pv 5) pa_nil)))))))))))), ?_⟩
  obtain ⟨el, hd', fs, kvs, room, st, k1, _, _, _, _, k3, k4, k5, k6, k7⟩ := g.k
  refine ⟨_, rfl, kd, _, rfl, gt_errands k1, _, rfl, _, rfl, kd, _, rfl, gt_errands k1, el, _, rfl, .inl (SqL.of k3.1), tp, _, rfl, g.t, ?_, ?_, fun r H1 r0 r1 b1 t1 => ?_⟩
  · rw [List.length_map]
    omega
  · rw [List.length_map]
    omega
  have g1 := g.one b1 t1
  have k3' := k3.but b1 g.t
  have nkt := (g.ntk k1 (fun _ z => nomatch z)).1
  have nht := (g.ntk k6 (fun _ z => nomatch z)).1
  obtain ⟨v, hv, hm⟩ := at_some r0 r1
  obtain ⟨fn, hfn, rfl⟩ := List.mem_map.mp hm
  obtain ⟨many, hmany, m0, m4, mF⟩ := k7 fn hfn
  have hwfn := k3.2 fn hfn
  refine ⟨el, _, _, _, rfl, rfl, SqL.of k3'.1, hv, ?_⟩
  -- the hand
  refine ⟨_, rfl, _, rfl, _, rfl, tp, kd, wl, pl, hl, hF, ws, js, hs, rfl, g1, b1 _ _ hnt hh, hne, hhl, hnt, fun j H2 b2 t2 hj => ?_⟩
  have b12 := b1.trans b2
  refine ⟨_, rfl, tp, 2, rfl, t2, by decide, by decide, fun r3 H3 r30 r31 b3 t3 => ⟨rfl, _, rfl, ?_⟩⟩
  have b13 := b12.trans b3
  have w3 := hw.but b13 g.t
  refine ite2 (fun c => ?_) (fun c => ?_)
  · -- a give
    refine ⟨_, rfl, _, rfl, _, rfl, tp, ar, xs, rfl, t3, w3, hx, Nat.le_refl _, fun a t H4 b4 t4 gs => ⟨sz (by show 3 ≤ 100000; decide), fun p5 hp5 => ?_⟩⟩
    have s5 := same_new hp5 (.tup [V.str "give", .str j, .ref a])
    exact q p5 (.give j t) _ ((b13.trans b4).trans (but_same s5)) (t4.same s5) ⟨a, upd_same, (gs hF).g.at_.mono s5⟩ ⟨hj, (gs hF).sm⟩ rfl rfl rfl
  · -- an ask
    refine ⟨sz (by show 0 ≤ 100000; decide), fun sl hsl => ?_⟩
    have s4 := same_new hsl (.lst [])
    have nst : sl ≠ tp := by
      obtain ⟨z, hz⟩ := t3
      exact (ne_of_none hz hsl).symm
    have b14 := b13.trans (but_same s4)
    have t4 := t3.same s4
    have h4 : upd H3 sl (.lst []) sl = some (.lst []) := upd_same
    have frS : H3 sl = none := hsl
    have w4 := w3.but (but_same s4) t3
    have sH4 : Same H3 (upd H3 sl (.lst [])) := s4
    generalize upd H3 sl (.lst []) = H4 at b14 t4 h4 w4 sH4 ⊢
    have nsar : ar ≠ sl := ne_of_none w3.1 frS
    refine ⟨_, rfl, kd, _, rfl, gt_heads (b14 _ _ nkt k1), _, rfl, hd', _, rfl, get_of (b14 _ _ nht k6) hmany, _, rfl, by omega, by omega, ?_⟩
    refine for_range (lo := 0) (n := many.toNat) (fun i σ H' => ∃ o7 vs ts, σ = [some (.ref tp), some (.ref kd), some (.ref ar), some (.ref hl), some (.str fn), some (.str j), some (.ref sl), o7] ∧ (∀ b o, b ≠ tp → b ≠ sl → H4 b = some o → H' b = some o) ∧ Tp H' tp ∧
      H' sl = some (.lst vs) ∧ All2 (RefV H') ts vs ∧ ts.length = i ∧ ∀ t ∈ ts, SmT hF xs t) ⟨_, [], [], rfl, fun _ _ _ _ z => z, t4, h4, trivial, rfl, fun _ z => nomatch z⟩ ?_ ?_
    · rintro i σ H5 hi ⟨o7, vs, ts, rfl, b5, t5, h5, k5s, hlen, hts⟩
      have w5 : Wls H5 ar xs := ⟨b5 _ _ (wls_tp w4.1 t4) nsar w4.1, w4.2⟩
      have hvl := k5s.len
      have put : ∀ (a : Addr) (t : Tm) (H6 : Hp), But1 tp H5 H6 → Tp H6 tp → At H6 t a → SmT hF xs t →
          ∃ l zs y, V.ref sl = .ref l ∧ [V.ref a] = [y] ∧ H6 l = some (.lst zs) ∧ zs.length < sizeLine ∧ ∃ o7 vs ts, ([some (.ref tp), some (.ref kd), some (.ref ar), some (.ref hl), some (.str fn), some (.str j), some (.ref sl), some (.int (0 + (i : Nat)))] : St) = [some (.ref tp), some (.ref kd), some (.ref ar), some (.ref hl), some (.str fn), some (.str j), some (.ref sl), o7] ∧
            (∀ b o, b ≠ tp → b ≠ sl → H4 b = some o → upd H6 l (.lst (zs ++ [y])) b = some o) ∧ Tp (upd H6 l (.lst (zs ++ [y]))) tp ∧ upd H6 l (.lst (zs ++ [y])) sl = some (.lst vs) ∧ All2 (RefV (upd H6 l (.lst (zs ++ [y])))) ts vs ∧ ts.length = i + 1 ∧ ∀ t ∈ ts, SmT hF xs t := by
        intro a t H6 b6 t6 at6 sm
        have h6 := b6 _ _ nst h5
        have tk6 := b6.tk t5
        have tkp : TK H6 (upd H6 sl (.lst (vs ++ [V.ref a]))) := tk_put h6
        refine ⟨sl, vs, .ref a, rfl, rfl, h6, Nat.lt_of_le_of_lt (m := 1000) (by omega) (by decide), _, vs ++ [.ref a], ts ++ [t], rfl, fun b o n1 n2 hb => ?_, ?_, upd_same, ?_, ?_, fun u hu => ?_⟩
        · rw [upd_ne n2]
          exact b6 _ _ n1 (b5 _ _ n1 n2 hb)
        · obtain ⟨z, hz⟩ := t6
          exact ⟨z, by rw [upd_ne nst.symm]; exact hz⟩
        · exact All2.app (k5s.imp fun _ _ z => (z.tk tk6).tk tkp) ⟨⟨a, rfl, at6.tk tkp⟩, trivial⟩
        · rw [List.length_append, hlen]
          rfl
        · rcases List.mem_append.mp hu with z | z
          · exact hts u z
          · rw [List.mem_singleton.mp z]
            exact sm
      refine ⟨_, rfl, rfl, _, rfl, ?_⟩
      by_cases c0 : V.int (0 + (i : Nat)) = V.int 0
      · refine itT (decide_eq_true c0) ⟨_, rfl, tp, 4, rfl, t5, by decide, by decide, fun r6 H6 r60 r61 b6 t6 => ?_⟩
        have h6 := b6 _ _ nst h5
        have w6 := w5.but b6 t5
        refine ⟨_, _, rfl, rfl, _, rfl, ?_⟩
        refine ite2 (fun c2 => ?_) (fun c2 => ?_)
        · refine ⟨_, rfl, .inl ⟨rfl, _, SqL.of h6⟩, _, rfl, ar, xs, rfl, w6, fun a t H7 s7 gd smp => ?_⟩
          exact put a t H7 (b6.trans (but_same s7)) (t6.same s7) (gd hF).at_ ⟨(gd hF).ok, smp, (gd hF).sc, (gd hF).cn, (gd hF).dp⟩
        · exact ⟨_, rfl, .inl ⟨rfl, _, SqL.of h6⟩, _, rfl, _, rfl, tp, ar, xs, rfl, t6, w6, hx, Nat.le_refl _, fun a t H7 b7 t7 gs => put a t H7 (b6.trans b7) t7 (gs hF).g.at_ (gs hF).sm⟩
      · refine itF (decide_eq_false c0) (iteF ?_)
        exact ⟨_, rfl, .inl ⟨rfl, _, SqL.of h5⟩, _, rfl, _, rfl, tp, ar, xs, rfl, t5, w5, hx, Nat.le_refl _, fun a t H7 b7 t7 gs => put a t H7 b7 t7 (gs hF).g.at_ (gs hF).sm⟩
    · rintro σ H5 ⟨o7, vs, ts, rfl, b5, t5, h5, k5s, hlen, hts⟩
      refine ⟨_, rfl, _, rfl, sl, _, rfl, .inl ⟨SqL.of h5, fun p6 hp6 => ⟨_, rfl, sz (by show 4 ≤ 100000; decide), fun p7 hp7 => ?_⟩⟩⟩
      have s6 := same_new hp6 (.tup vs)
      have s7 := same_new hp7 (.tup [V.str "ask", .str fn, .ref p6, .str j])
      have bE : But1 tp H (upd (upd H5 p6 (.tup vs)) p7 (.tup [V.str "ask", .str fn, .ref p6, .str j])) := fun b o nb hb => by
        have h3 := b13 b o nb hb
        exact s7 _ _ (s6 _ _ (b5 b o nb (ne_of_none h3 frS) (sH4 _ _ h3)))
      have hF4 : hF fn = some ts.length := by rw [mF, hlen]
      refine q p7 (.ask fn ts j) _ bE ((t5.same s6).same s7) ⟨p6, vs, upd_same, s7 _ _ upd_same, k5s.imp fun _ _ z => z.tk (tk_same (s6.trans s7))⟩ ⟨hj, hwfn, hF4, by omega, hts⟩ rfl rfl rfl
end
end KB

namespace KB
open PySem L2

theorem lastV {xs : List V} {y : V} : (xs ++ [y])[(xs ++ [y]).length - 1]? = some y := by
  rw [List.length_append, List.length_singleton, Nat.add_sub_cancel, List.getElem?_append_right (Nat.le_refl _), Nat.sub_self]
  rfl
theorem dropV {xs : List V} {y : V} : (xs ++ [y]).dropLast = xs := List.dropLast_concat
theorem GT.popW {H : Hp} {tp kd wl pl : Addr} {hF : Str → Option Nat} {ws js : List Str} {x : Str} (g : GT H tp kd wl pl hF (ws ++ [x]) js) : GT (upd H wl (.lst (ws.map V.str))) tp kd wl pl hF ws js ∧ But3 tp wl pl H (upd H wl (.lst (ws.map V.str))) := by
  have b : But3 tp wl pl H (upd H wl (.lst (ws.map V.str))) := fun b o _ n _ h => by rw [upd_ne n]; exact h
  have hn := wls_tp g.w.1 g.t
  obtain ⟨z, hz⟩ := g.t
  have wn := g.wn
  rw [List.length_append] at wn
  exact ⟨g.step b ⟨z, by rw [upd_ne hn.symm]; exact hz⟩ ⟨upd_same, fun y hy => g.w.2 y (List.mem_append_left _ hy)⟩ ⟨by rw [upd_ne g.wp.symm]; exact g.p.1, g.p.2⟩ (by omega) g.pn, b⟩
theorem GT.popP {H : Hp} {tp kd wl pl : Addr} {hF : Str → Option Nat} {ws js : List Str} {x : Str} (g : GT H tp kd wl pl hF ws (js ++ [x])) : GT (upd H pl (.lst (js.map V.str))) tp kd wl pl hF ws js ∧ But3 tp wl pl H (upd H pl (.lst (js.map V.str))) := by
  have b : But3 tp wl pl H (upd H pl (.lst (js.map V.str))) := fun b o _ _ n h => by rw [upd_ne n]; exact h
  have hn := wls_tp g.p.1 g.t
  obtain ⟨z, hz⟩ := g.t
  have pn := g.pn
  rw [List.length_append] at pn
  exact ⟨g.step b ⟨z, by rw [upd_ne hn.symm]; exact hz⟩ ⟨by rw [upd_ne g.wp]; exact g.w.1, g.w.2⟩ ⟨upd_same, fun y hy => g.p.2 y (List.mem_append_left _ hy)⟩ g.wn (by omega), b⟩
theorem snoc_of {ws : List Str} (h : ws ≠ []) : ∃ r x, ws = r ++ [x] := ⟨ws.dropLast, ws.getLast h, (List.dropLast_concat_getLast h).symm⟩
theorem mapS {ws : List Str} {x : Str} : (ws ++ [x]).map V.str = ws.map V.str ++ [V.str x] := by
  rw [List.map_append]
  rfl
section
variable {P : Program} {w : World} {K : PySem.W.Frag} {mg : Str → Option Value} {base : Heap}
/-! ### _law_part -/
/-- what stands around a part that is to be drawn -/
structure PtIn (H : Hp) (tp kd wl pl ar hl : Addr) (hF : Str → Option Nat) (ws js xs hs : List Str) : Prop where
  g : GT H tp kd wl pl hF ws js
  w : Wls H ar xs
  a1 : ar ≠ wl
  a2 : ar ≠ pl
  h : Hls H hl hs
  h0 : hl ≠ tp
  h1 : hl ≠ wl
  h2 : hl ≠ pl
  ne : hs ≠ []
  wj : ws.length ≤ js.length
  l1 : xs.length + ws.length ≤ 200
  l2 : hs.length + js.length ≤ 200
/-- what is told of a part that was drawn -/
structure PtOut (H H' : Hp) (tp kd wl pl : Addr) (hF : Str → Option Nat) (ws js xs hs : List Str) (n : Nat) (a : Addr) (p : Pt) (ws' js' ls ms : List Str) : Prop where
  b : But3 tp wl pl H H'
  g : GT H' tp kd wl pl hF ws' js'
  wj : ws'.length ≤ js'.length
  e1 : ws = ws' ++ ls.reverse
  e2 : js = js' ++ ms.reverse
  at_ : PAt H' p a
  ok : okP hF p xs hs
  cn : pcnt p ≤ n
  s1 : (wP p).Sublist ls
  s2 : (jP p).Sublist ms
def spPart (n : Nat) : Sp := fun vs H Q _ => ∃ (tp kd wl pl ar hl : Addr) (hF : Str → Option Nat) (ws js xs hs : List Str) (room deep : Int), vs = [.ref tp, .ref kd, .ref ar, .ref hl, .int room, .int deep] ∧ PtIn H tp kd wl pl ar hl hF ws js xs hs ∧ 1 ≤ room ∧ room ≤ 1000 ∧ 0 ≤ deep ∧ deep ≤ n ∧
  ∀ a p H' ws' js' ls ms, PtOut H H' tp kd wl pl hF ws js xs hs room.toNat a p ws' js' ls ms → Q (.ref a) H'
def spPtPrev : Nat → Sp
  | 0 => fun _ _ _ _ => False
  | n + 1 => spPart n
theorem PtIn.step {H H' : Hp} {tp kd wl pl ar hl : Addr} {hF : Str → Option Nat} {ws js ws' js' xs hs : List Str} (I : PtIn H tp kd wl pl ar hl hF ws js xs hs) (b : But3 tp wl pl H H') (g : GT H' tp kd wl pl hF ws' js') (wj : ws'.length ≤ js'.length) (l1 : ws'.length ≤ ws.length) (l2 : js'.length ≤ js.length) : PtIn H' tp kd wl pl ar hl hF ws' js' xs hs := by
  have h1 := I.l1
  have h2 := I.l2
  exact ⟨g, I.w.three b I.g I.a1 I.a2, I.a1, I.a2, b _ _ I.h0 I.h1 I.h2 I.h, I.h0, I.h1, I.h2, I.ne, wj, by omega, by omega⟩
theorem PtIn.one {H H' : Hp} {tp kd wl pl ar hl : Addr} {hF : Str → Option Nat} {ws js xs hs : List Str} (I : PtIn H tp kd wl pl ar hl hF ws js xs hs) (b : But1 tp H H') (t : Tp H' tp) : PtIn H' tp kd wl pl ar hl hF ws js xs hs := I.step b.three (I.g.one b t) I.wj (Nat.le_refl _) (Nat.le_refl _)
theorem PtIn.same {H H' : Hp} {tp kd wl pl ar hl : Addr} {hF : Str → Option Nat} {ws js xs hs : List Str} (I : PtIn H tp kd wl pl ar hl hF ws js xs hs) (s : Same H H') : PtIn H' tp kd wl pl ar hl hF ws js xs hs := I.one (but_same s) (I.g.t.same s)
abbrev s_law_part : Stmt := top 59
theorem scLpart : FnScope ["tape", "known", "around", "hands", "room", "deep", "word", "choice", "shares", "one", "x", "j", "term"] ["tape", "known", "around", "hands", "room", "deep"] (defScope s_law_part) := ⟨rfl, rfl, rfl, by decide +kernel, rfl, by decide +kernel, by decide +kernel⟩
theorem ok_part (T : Txt K mg) (n : Nat) {f fg fh fe fs fq : Addr} {fd gd hd ed sd qd : FuncData} (F : Fun K "_law_part" "_law_part" s_law_part f fd) (G_law_digit : FnOk P w K mg base CX0 1 fg gd ["tape", "many"] spDig) (R_law_digit : Ref K mg "_law_digit" fg gd ["tape", "many"])
    (G_law_some_hand : FnOk P w K mg base CX0 2 fh hd ["tape", "known", "hands"] spHand) (R_law_some_hand : Ref K mg "_law_some_hand" fh hd ["tape", "known", "hands"]) (G_law_end : FnOk P w K mg base CX0 6 fe ed ["tape", "known", "around", "hands"] spEnd) (R_law_end : Ref K mg "_law_end" fe ed ["tape", "known", "around", "hands"])
    (G_law_simple : FnOk P w K mg base CX0 5 fs sd ["tape", "around", "deep"] (spSimple 1)) (R_law_simple : Ref K mg "_law_simple" fs sd ["tape", "around", "deep"]) (G_law_shares : FnOk P w K mg base CX0 2 fq qd ["tape", "room", "many"] spShr) (R_law_shares : Ref K mg "_law_shares" fq qd ["tape", "room", "many"])
    (G_law_part : FnOk P w K mg base CX0 (n + 6) f fd ["tape", "known", "around", "hands", "room", "deep"] (spPtPrev n)) (R_law_part : Ref K mg "_law_part" f fd ["tape", "known", "around", "hands", "room", "deep"]) : FnOk P w K mg base CX0 (n + 7) f fd ["tape", "known", "around", "hands", "room", "deep"] (spPart n) := by
  refine F.ok scLpart (fun vs H Q E h => ?_) (fun cdv A outer s H vs Q E hr h => ?_)
  · obtain ⟨tp, kd, wl, pl, ar, hl, hF, ws, js, xs, hs, room, deep, rfl, _⟩ := h
    rfl
  obtain ⟨tp, kd, wl, pl, ar, hl, hF, ws, js, xs, hs, room, deep, rfl, I, hr1, hr2, hd1, hd2, q⟩ := h
  refine ⟨_, (pss_cons (ps_if (PW.pt (pw_or (pt_cmpR op_lt (pv 4) pe_int (nomark _)) (pw_or1 (pt_cmpR op_eq (pv 5) pe_int (nomark _))))) (pss_one (ps_ret (pe_call G_law_end (hr.mono (by omega)) rfl R_law_end.m R_law_end.k R_law_end.b .nil pass0 (pa_cons (pv 0) (pa_cons (pv 1) (pa_cons (pv 2) (pa_cons (pv 3) pa_nil))))))) pss_nil)
    (pss_cons (ps_set (i := 6) scLpart.nd rfl (Or.inl rfl) (pe_ix ix_list (pe_lst (pa_cons pe_str (pa_cons pe_str (pa_cons pe_str (pa_cons pe_str (pa_cons pe_str (pa_cons pe_str (pa_cons pe_str (pa_cons pe_str pa_nil))))))))) (pe_call G_law_digit (hr.mono (by omega)) rfl R_law_digit.m R_law_digit.k R_law_digit.b .nil pass0 (pa_cons (pv 0) (pa_cons pe_int pa_nil))) (fun _ _ => rfl)))
    (pss_cons (ps_if (pt_cmpR op_eq (pv 6) pe_str (nomark _)) (pss_cons (ps_set (i := 7) scLpart.nd rfl (Or.inl rfl) (pe_call G_law_simple (hr.mono (by omega)) rfl R_law_simple.m R_law_simple.k R_law_simple.b .nil pass0 (pa_cons (pv 0) (pa_cons (pv 2) (pa_cons pe_int pa_nil)))))
    (pss_cons (ps_set (i := 8) scLpart.nd rfl (Or.inl rfl) (pe_call G_law_shares (hr.mono (by omega)) rfl R_law_shares.m R_law_shares.k R_law_shares.b .nil pass0 (pa_cons (pv 0) (pa_cons (pe_op op_sub (pv 4) pe_int) (pa_cons pe_int pa_nil)))))
    (pss_cons (ps_set (i := 9) scLpart.nd rfl (Or.inl rfl) (pe_call G_law_part (hr.mono (by omega)) rfl R_law_part.m R_law_part.k R_law_part.b .nil pass0 (pa_cons (pv 0) (pa_cons (pv 1) (pa_cons (pv 2) (pa_cons (pv 3) (pa_cons (pe_ix ix_list (pv 8) pe_int (fun _ _ => rfl)) (pa_cons (pe_op op_sub (pv 5) pe_int) pa_nil))))))))
    (pss_one (ps_ret (pe_tup (pa_cons pe_str (pa_cons (pv 7) (pa_cons (pv 9) (pa_cons (pe_call G_law_part (hr.mono (by omega)) rfl R_law_part.m R_law_part.k R_law_part.b .nil pass0 (pa_cons (pv 0) (pa_cons (pv 1) (pa_cons (pv 2) (pa_cons (pv 3) (pa_cons (pe_ix ix_list (pv 8) pe_int (fun _ _ => rfl)) (pa_cons (pe_op op_sub (pv 5) pe_int) pa_nil))))))) pa_nil)))))))))) pss_nil)
    (pss_cons (ps_if (pt_cmpR (op_eqD hr.units) (pe_dget (hu_of hr) (pv 1) pe_str (fun _ _ => rfl)) (pe_lst pa_nil) (nomark _)) (pss_one (ps_ret (pe_call G_law_end (hr.mono (by omega)) rfl R_law_end.m R_law_end.k R_law_end.b .nil pass0 (pa_cons (pv 0) (pa_cons (pv 1) (pa_cons (pv 2) (pa_cons (pv 3) pa_nil))))))) pss_nil)
    (pss_cons (ps_set (i := 10) scLpart.nd rfl (Or.inl rfl) (pe_bm0 PySem.F.plainAttrs_list PySem.F.slot_list_pop PySem.F.type_list_pop mt_pop (pe_dget (hu_of hr) (pv 1) pe_str (fun _ _ => rfl))))
    (pss_cons (ps_if (pt_cmpR op_eq (pv 6) pe_str (nomark _)) (pss_cons (ps_set (i := 11) scLpart.nd rfl (Or.inl rfl) (pe_bm0 PySem.F.plainAttrs_list PySem.F.slot_list_pop PySem.F.type_list_pop mt_pop (pe_dget (hu_of hr) (pv 1) pe_str (fun _ _ => rfl))))
    (pss_cons (ps_set (i := 8) scLpart.nd rfl (Or.inl rfl) (pe_call G_law_shares (hr.mono (by omega)) rfl R_law_shares.m R_law_shares.k R_law_shares.b .nil pass0 (pa_cons (pv 0) (pa_cons (pe_op op_sub (pv 4) pe_int) (pa_cons pe_int pa_nil)))))
    (pss_cons (ps_set (i := 9) scLpart.nd rfl (Or.inl rfl) (pe_call G_law_part (hr.mono (by omega)) rfl R_law_part.m R_law_part.k R_law_part.b .nil pass0 (pa_cons (pv 0) (pa_cons (pv 1) (pa_cons (pe_op op_cat (pv 2) (pe_lst (pa_cons (pv 10) pa_nil))) (pa_cons (pv 3) (pa_cons (pe_ix ix_list (pv 8) pe_int (fun _ _ => rfl)) (pa_cons (pe_op op_sub (pv 5) pe_int) pa_nil))))))))
    (Evl.pss_cut (ps_if (pt_cmpR op_eq (pe_call G_law_digit (hr.mono (by omega)) rfl R_law_digit.m R_law_digit.k R_law_digit.b .nil pass0 (pa_cons (pv 0) (pa_cons pe_int pa_nil))) pe_int (nomark _)) (pss_one (ps_set (i := 9) scLpart.nd rfl (Or.inl rfl) (pe_tup (pa_cons pe_str (pa_cons (pe_call G_law_some_hand (hr.mono (by omega)) rfl R_law_some_hand.m R_law_some_hand.k R_law_some_hand.b .nil pass0 (pa_cons (pv 0) (pa_cons (pv 1) (pa_cons (pv 3) pa_nil)))) (pa_cons (pe_tup (pa_cons pe_str (pa_cons (pv 10) pa_nil))) pa_nil)))))) pss_nil)
    (pss_one (ps_ret (pe_tup (pa_cons pe_str (pa_cons (pv 11) (pa_cons (pv 10) (pa_cons (pv 9) (pa_cons (pe_call G_law_part (hr.mono (by omega)) rfl R_law_part.m R_law_part.k R_law_part.b .nil pass0 (pa_cons (pv 0) (pa_cons (pv 1) (pa_cons (pv 2) (pa_cons (pe_op op_cat (pv 3) (pe_lst (pa_cons (pv 11) pa_nil))) (pa_cons (pe_ix ix_list (pv 8) pe_int (fun _ _ => rfl)) (pa_cons (pe_op op_sub (pv 5) pe_int) pa_nil))))))) pa_nil)))))))))))) pss_nil)
    (pss_cons (ps_set (i := 12) scLpart.nd rfl (Or.inl rfl) (pe_call G_law_simple (hr.mono (by omega)) rfl R_law_simple.m R_law_simple.k R_law_simple.b .nil pass0 (pa_cons (pv 0) (pa_cons (pv 2) (pa_cons pe_int pa_nil)))))
    (pss_one (ps_ret (pe_tup (pa_cons (pv 6) (pa_cons (pv 10) (pa_cons (pv 12) (pa_cons (pe_call G_law_part (hr.mono (by omega)) rfl R_law_part.m R_law_part.k R_law_part.b .nil pass0 (pa_cons (pv 0) (pa_cons (pv 1) (pa_cons (pe_op op_cat (pv 2) (pe_lst (pa_cons (pv 10) pa_nil))) (pa_cons (pv 3) (pa_cons (pe_op op_sub (pv 4) pe_int) (pa_cons (pe_op op_sub (pv 5) pe_int) pa_nil))))))) pa_nil)))))))))))))), ?_⟩
  have l1 := I.l1
  have l2 := I.l2
  have endW : ∀ (H1 : Hp) (s6 : Option V), But3 tp wl pl H H1 → PtIn H1 tp kd wl pl ar hl hF ws js xs hs → (tRet (tCall spEnd [] E0 (tCons (tVar 0) (tCons (tVar 1) (tCons (tVar 2) (tCons (tVar 3) tNil)))))) { nx := fun x H' => Q V.non H', rt := Q }
      [some (.ref tp), some (.ref kd), some (.ref ar), some (.ref hl), some (.int room), some (.int deep), s6, none, none, none, none, none, none] H1 := by
    intro H1 s6 b1 I1
    refine ⟨_, rfl, _, rfl, _, rfl, _, rfl, tp, kd, wl, pl, ar, hl, hF, ws, js, xs, hs, rfl, I1.g, I1.w, by omega, I1.h, I1.ne, by omega, I1.h0, fun a p H2 b2 t2 pa ok c1 c2 c3 => ?_⟩
    exact q a p H2 ws js [] [] ⟨b1.trans b2.three, I1.g.one b2 t2, I1.wj, (List.append_nil ws).symm, (List.append_nil js).symm, pa, ok, by omega, by rw [c2]; exact .slnil, by rw [c3]; exact .slnil⟩
  refine ⟨_, rfl, _, _, rfl, rfl, _, rfl, ?_⟩
  refine ite2 (fun c => iteT (endW H none (But3.refl _ _ _ _) I)) (fun c => ?_)
  have hroom : 3 ≤ room := by
    have : ¬ room < 3 := fun z => c (decide_eq_true z)
    omega
  refine ⟨_, rfl, rfl, _, rfl, ?_⟩
  refine ite2 (fun c2 => endW H none (But3.refl _ _ _ _) I) (fun c2 => ?_)
  have hdeep : deep ≠ 0 := fun z => c2 (decide_eq_true (by rw [z]))
  cases n with
  | zero => exact absurd (by omega : deep = 0) hdeep
  | succ n =>
  refine ⟨sz (by show 8 ≤ 100000; decide), fun p1 hp1 => ?_⟩
  have s1 := same_new hp1 (.lst [V.str "tell", .str "let", .str "if", .str "if", .str "post", .str "post", .str "post", .str "post"])
  have I1 := I.same s1
  have n1 := (I.g.new hp1).1
  refine ⟨_, rfl, tp, 8, rfl, I1.g.t, by decide, by decide, fun r H2 r0 r1 b2 t2 => ?_⟩
  obtain ⟨v, hv, hm⟩ := at_some (xs := [V.str "tell", .str "let", .str "if", .str "if", .str "post", .str "post", .str "post", .str "post"]) r0 r1
  have I2 := I1.one b2 t2
  have B2 : But3 tp wl pl H H2 := (but3_same s1).trans b2.three
  refine ⟨p1, _, _, _, rfl, rfl, SqL.of (b2 _ _ n1 upd_same), hv, ?_⟩
  have hcase : v = .str "if" ∨ v = .str "post" ∨ v = .str "tell" ∨ v = .str "let" := by
    simp only [List.mem_cons, List.not_mem_nil, or_false] at hm
    rcases hm with z | z | z | z | z | z | z | z
    · exact .inr (.inr (.inl z))
    · exact .inr (.inr (.inr z))
    · exact .inl z
    · exact .inl z
    · exact .inr (.inl z)
    · exact .inr (.inl z)
    · exact .inr (.inl z)
    · exact .inr (.inl z)
  rcases hcase with rfl | rest
  · -- if
    refine ⟨_, rfl, rfl, _, rfl, itT rfl ?_⟩
    refine ⟨_, rfl, _, rfl, tp, ar, xs, rfl, I2.g.t, I2.w, by omega, Nat.le_refl _, fun a3 u3 H3 b3 t3 gs => ?_⟩
    have I3 := I2.one b3 t3
    refine ⟨_, rfl, _, rfl, _, _, rfl, rfl, tp, room - 1, 2, rfl, t3, by decide, by omega, by omega, fun sp ss H4 b4 t4 fr4 h4 hl4 pos4 sum4 => ?_⟩
    have I4 := I3.one b4 t4
    obtain ⟨y0, y1, rfl⟩ : ∃ y0 y1, ss = [y0, y1] := by
      match ss, hl4 with
      | [y0, y1], _ => exact ⟨y0, y1, rfl⟩
      | [], z => cases z
      | [_], z => cases z
      | _ :: _ :: _ :: _, z => simp at z; omega
    have py0 := pos4 y0 List.mem_cons_self
    have py1 := pos4 y1 (List.mem_cons_of_mem _ List.mem_cons_self)
    have sy : y0 + y1 ≤ room - 1 := by
      have : y0 + (y1 + 0) ≤ room - 1 := sum4
      omega
    have ns := I3.g.new fr4
    refine ⟨_, rfl, _, rfl, _, rfl, _, rfl, _, rfl, sp, _, _, _, rfl, rfl, SqL.of h4, at0, _, rfl, _, _, rfl, rfl, tp, kd, wl, pl, ar, hl, hF, ws, js, xs, hs, y0, deep - 1, rfl, I4, py0, by omega, by omega, by omega, fun a5 q5 H5 ws5 js5 ls5 ms5 O5 => ?_⟩
    have le1 : ws5.length ≤ ws.length := by
      rw [O5.e1, List.length_append]
      omega
    have le2 : js5.length ≤ js.length := by
      rw [O5.e2, List.length_append]
      omega
    have I5 := I4.step O5.b O5.g O5.wj le1 le2
    have h5 := O5.b _ _ ns.1 ns.2.1 ns.2.2 h4
    refine ⟨_, rfl, _, rfl, _, rfl, _, rfl, _, rfl, _, rfl, _, rfl, sp, _, _, _, rfl, rfl, SqL.of h5, at1, _, rfl, _, _, rfl, rfl, tp, kd, wl, pl, ar, hl, hF, ws5, js5, xs, hs, y1, deep - 1, rfl, I5, py1, by omega, by omega, by omega, fun a6 q6 H6 ws6 js6 ls6 ms6 O6 => ?_⟩
    refine ⟨sz (by show 4 ≤ 100000; decide), fun p7 hp7 => ?_⟩
    have s7 := same_new hp7 (.tup [V.str "if", .ref a3, .ref a5, .ref a6])
    have b34 : But3 tp wl pl H3 H6 := (b4.three.trans O5.b).trans O6.b
    have k36 : TK H3 H6 := I3.g.tk b34
    have k56 : TK H5 H6 := I5.g.tk O6.b
    have B6 : But3 tp wl pl H H6 := (B2.trans b3.three).trans b34
    refine q p7 (.iff u3 q5 q6) _ ws6 js6 (ls5 ++ ls6) (ms5 ++ ms6) ⟨B6.trans (but3_same s7), O6.g.same s7, O6.wj, ?_, ?_, ⟨a3, a5, a6, upd_same, ((gs hF).g.at_.tk k36).mono s7, (O5.at_.tk k56).tk (tk_same s7), O6.at_.tk (tk_same s7)⟩, ⟨(gs hF).sm, O5.ok, O6.ok⟩, ?_, O5.s1.append O6.s1, O5.s2.append O6.s2⟩
    · rw [List.reverse_append, ← List.append_assoc, ← O6.e1]
      exact O5.e1
    · rw [List.reverse_append, ← List.append_assoc, ← O6.e2]
      exact O5.e2
    · have c5 := O5.cn
      have c6 := O6.cn
      show 1 + pcnt q5 + pcnt q6 ≤ room.toNat
      omega
  obtain ⟨wd, rfl, hwd⟩ : ∃ wd : Str, v = .str wd ∧ (wd = "post" ∨ wd = "tell" ∨ wd = "let") := by
    rcases rest with z | z | z
    · exact ⟨_, z, .inl rfl⟩
    · exact ⟨_, z, .inr (.inl rfl)⟩
    · exact ⟨_, z, .inr (.inr rfl)⟩
  have hnif : decide (V.str wd = V.str (Str.ofString "if")) = false := by
    rcases hwd with rfl | rfl | rfl <;> rfl
  refine ⟨_, rfl, rfl, _, rfl, itF hnif ?_⟩
  clear rest hv hm
  obtain ⟨el, hd', fs', kvs, rm, st, k2, _⟩ := I2.g.k
  refine ⟨_, rfl, kd, _, rfl, gt_words k2, sz (by show 0 ≤ 100000; decide), fun p0 hp0 => ?_⟩
  have s3 := same_new hp0 (.lst [])
  refine ⟨.list (ws.map PyData.str), .list [], .lst (SqL.of (s3 _ _ I2.g.w.1)) (dp_strs ws), .lst (SqL.of upd_same) .nil, shaped_strs I2.g.w.2, rfl, _, rfl, ?_⟩
  rw [eqv_nil]
  have I3 := I2.same s3
  have B3 := B2.trans (but3_same (tp := tp) (wl := wl) (pl := pl) s3)
  have k3 := s3 _ _ k2
  generalize upd H2 p0 (.lst []) = H3 at I3 B3 k3 ⊢
  by_cases hws : ws = []
  · exact itT (by rw [hws]; rfl) (endW H3 _ B3 I3)
  refine itF (by cases ws with | nil => exact absurd rfl hws | cons _ _ => rfl) ?_
  obtain ⟨wsx, x, rfl⟩ := snoc_of hws
  have hxW : isW x = true := I.g.w.2 x (List.mem_append_right _ List.mem_cons_self)
  have gw := I3.g.w.1
  rw [mapS] at gw
  refine ⟨_, rfl, kd, _, rfl, gt_words k3, .inl ⟨rfl, _, SqL.of gw⟩, wl, _, _, rfl, rfl, gw, lastV, ?_⟩
  rw [dropV]
  obtain ⟨g4, b4⟩ := I3.g.popW
  have wj := I.wj
  rw [List.length_append] at wj
  have wj : wsx.length + 1 ≤ js.length := wj
  have lx : (wsx ++ [x]).length = wsx.length + 1 := by rw [List.length_append]; rfl
  have I4 := I3.step b4 g4 (by omega) (by omega) (Nat.le_refl _)
  have B4 := B3.trans b4
  have k4 : (upd H3 wl (.lst (wsx.map V.str))) kd = some (.dK (knT el hd' wl pl rm st)) := by
    obtain ⟨n1, n2, n3⟩ := I3.g.ntk k3 (fun _ z => nomatch z)
    exact b4 _ _ n1 n2 n3 k3
  generalize upd H3 wl (.lst (wsx.map V.str)) = H4 at g4 b4 I4 B4 k4 ⊢
  -- what is around with one word more
  have moreW : ∀ {H5 : Hp} {ws5 js5 : List Str} (I5 : PtIn H5 tp kd wl pl ar hl hF ws5 js5 xs hs) (hw5 : ws5.length ≤ wsx.length) {p6 p7 : Addr} (hp6 : H5 p6 = none) (hp7 : upd H5 p6 (.lst [V.str x]) p7 = none),
      PtIn (upd (upd H5 p6 (.lst [V.str x])) p7 (.lst (xs.map V.str ++ [V.str x]))) tp kd wl pl p7 hl hF ws5 js5 (xs ++ [x]) hs := by
    intro H5 ws5 js5 I5 hw5 p6 p7 hp6 hp7
    have s6 := same_new hp6 (.lst [V.str x])
    have s7 := same_new hp7 (.lst (xs.map V.str ++ [V.str x]))
    have I7 := I5.same (s6.trans s7)
    have nn := (I5.same s6).g.new hp7
    have e7 := I7.l2
    refine ⟨I7.g, ⟨by rw [upd_same, mapS], fun y hy => ?_⟩, nn.2.1, nn.2.2, I7.h, I7.h0, I7.h1, I7.h2, I7.ne, I7.wj, ?_, e7⟩
    · rcases List.mem_append.mp hy with z | z
      · exact I.w.2 y z
      · rw [List.mem_singleton.mp z]
        exact hxW
    · rw [List.length_append, List.length_singleton]
      omega
  by_cases hpost : wd = "post"
  · subst hpost
    refine ⟨_, rfl, rfl, _, rfl, itT rfl ?_⟩
    obtain ⟨jsx, j, rfl⟩ := snoc_of (ws := js) (fun z => by rw [z] at wj; cases wj)
    have hjW : isW j = true := I.g.p.2 j (List.mem_append_right _ List.mem_cons_self)
    have lj : (jsx ++ [j]).length = jsx.length + 1 := by rw [List.length_append]; rfl
    have gp := I4.g.p.1
    rw [mapS] at gp
    refine ⟨_, rfl, kd, _, rfl, gt_posts k4, .inl ⟨rfl, _, SqL.of gp⟩, pl, _, _, rfl, rfl, gp, lastV, ?_⟩
    rw [dropV]
    obtain ⟨g5, b5⟩ := I4.g.popP
    have I5 := I4.step b5 g5 (by omega) (Nat.le_refl _) (by omega)
    have B5 := B4.trans b5
    generalize upd H4 pl (.lst (jsx.map V.str)) = H5 at g5 b5 I5 B5 ⊢
    refine ⟨_, rfl, _, rfl, _, _, rfl, rfl, tp, room - 1, 2, rfl, I5.g.t, by decide, by omega, by omega, fun sp ss H6 b6 t6 fr6 h6 hl6 pos6 sum6 => ?_⟩
    have I6 := I5.one b6 t6
    obtain ⟨y0, y1, rfl⟩ : ∃ y0 y1, ss = [y0, y1] := by
      match ss, hl6 with
      | [y0, y1], _ => exact ⟨y0, y1, rfl⟩
      | [], z => cases z
      | [_], z => cases z
      | _ :: _ :: _ :: _, z => simp at z; omega
    have py0 := pos6 y0 List.mem_cons_self
    have py1 := pos6 y1 (List.mem_cons_of_mem _ List.mem_cons_self)
    have sy : y0 + y1 ≤ room - 1 := by
      have : y0 + (y1 + 0) ≤ room - 1 := sum6
      omega
    have ns := I5.g.new fr6
    -- T
    refine ⟨_, rfl, _, rfl, _, rfl, _, rfl, sz (by show 1 ≤ 100000; decide), fun p7 hp7 => ?_⟩
    have s7 := same_new hp7 (.lst [V.str x])
    refine ⟨ar, p7, _, _, rfl, rfl, s7 _ _ I6.w.1, upd_same, sz (by rw [List.length_map]; show xs.length + 1 ≤ 100000; omega), fun p8 hp8 => ?_⟩
    have s8 := same_new hp8 (.lst (xs.map V.str ++ [V.str x]))
    have I8 := moreW I6 (Nat.le_refl _) hp7 hp8
    have h8 := s8 _ _ (s7 _ _ h6)
    have s68 := s7.trans s8
    generalize upd (upd H6 p7 (.lst [V.str x])) p8 (.lst (xs.map V.str ++ [V.str x])) = H8 at I8 h8 s68 ⊢
    refine ⟨_, rfl, _, rfl, sp, _, _, _, rfl, rfl, SqL.of h8, at0, _, rfl, _, _, rfl, rfl, tp, kd, wl, pl, p8, hl, hF, wsx, jsx, xs ++ [x], hs, y0, deep - 1, rfl, I8, py0, by omega, by omega, by omega, fun a9 q9 H9 ws9 js9 ls9 ms9 O9 => ?_⟩
    have le1 : ws9.length ≤ wsx.length := by
      rw [O9.e1, List.length_append]
      omega
    have le2 : js9.length ≤ jsx.length := by
      rw [O9.e2, List.length_append]
      omega
    have b69 : But3 tp wl pl H6 H9 := (but3_same s68).trans O9.b
    have I9 := I6.step b69 O9.g O9.wj le1 le2
    have h9 := O9.b _ _ ns.1 ns.2.1 ns.2.2 h8
    refine ⟨fun σ' H' => ∃ a q, σ' = [some (.ref tp), some (.ref kd), some (.ref ar), some (.ref hl), some (.int room), some (.int deep), some (.str "post"), none, some (.ref sp), some (.ref a), some (.str x), some (.str j), none] ∧ But3 tp wl pl H9 H' ∧ PtIn H' tp kd wl pl ar hl hF ws9 js9 xs hs ∧
      H' sp = some (.lst ([y0, y1].map V.int)) ∧ PAt H' q a ∧ okP hF q (xs ++ [x]) hs ∧ pcnt q ≤ y0.toNat ∧ (wP q).Sublist ls9 ∧ (jP q).Sublist ms9, ?_, ?_⟩
    · refine ⟨_, rfl, tp, 8, rfl, I9.g.t, by decide, by decide, fun r10 H10 r100 r101 b10 t10 => ⟨rfl, _, rfl, ?_⟩⟩
      have I10 := I9.one b10 t10
      have h10 := b10 _ _ ns.1 h9
      refine ite2 (fun c => ?_) (fun c => ?_)
      · refine ⟨_, rfl, _, rfl, _, rfl, tp, kd, wl, pl, hl, hF, ws9, js9, hs, rfl, I10.g, I10.h, I10.ne, by have := I10.l2; omega, I10.h0, fun jj H11 b11 t11 hjj => ?_⟩
        have I11 := I10.one b11 t11
        refine ⟨_, rfl, sz (by show 2 ≤ 100000; decide), fun p12 hp12 => ⟨sz (by show 3 ≤ 100000; decide), fun p13 hp13 => ?_⟩⟩
        have s12 := same_new hp12 (.tup [V.str "name", .str x])
        have s13 := same_new hp13 (.tup [V.str "give", .str jj, .ref p12])
        have gn : Gd (upd (upd H11 p12 (.tup [V.str "name", .str x])) p13 (.tup [V.str "give", .str jj, .ref p12])) p12 1 1 hF (xs ++ [x]) [] (mkL (.nam x) []) := gd_nam ⟨rfl, s13 _ _ upd_same⟩ hxW (List.mem_append_right _ List.mem_cons_self)
        refine ⟨p13, .give jj (mkL (.nam x) []), rfl, ((b10.three.trans b11.three).trans (but3_same s12)).trans (but3_same s13), (I11.same s12).same s13, s13 _ _ (s12 _ _ (b11 _ _ ns.1 h10)), ⟨p12, upd_same, gn.at_⟩, ⟨hjj, gn.ok, simple_mkL rfl (fun _ z => nomatch z), gn.sc, Nat.le_trans gn.cn (by decide), gn.dp.le (by decide)⟩, by show 1 ≤ y0.toNat; omega, List.nil_sublist _, List.nil_sublist _⟩
      · exact ⟨a9, q9, rfl, b10.three, I10, h10, O9.at_.tk (b10.tk I9.g.t), O9.ok, O9.cn, O9.s1, O9.s2⟩
    rintro σ10 H10 ⟨a10, q10, rfl, b10, I10, h10, pa10, ok10, cn10, su10, sj10⟩
    -- U
    refine ⟨_, rfl, _, rfl, _, rfl, _, rfl, _, rfl, _, rfl, _, rfl, _, rfl, sz (by show 1 ≤ 100000; decide), fun p11 hp11 => ?_⟩
    have s11 := same_new hp11 (.lst [V.str j])
    refine ⟨hl, p11, _, _, rfl, rfl, s11 _ _ I10.h, upd_same, sz (by rw [List.length_map]; show hs.length + 1 ≤ 100000; omega), fun p12 hp12 => ?_⟩
    have s12 := same_new hp12 (.lst (hs.map V.str ++ [V.str j]))
    have I12 := I10.same (s11.trans s12)
    have nn := (I10.same s11).g.new hp12
    have hH : (upd (upd H10 p11 (.lst [V.str j])) p12 (.lst (hs.map V.str ++ [V.str j]))) p12 = some (.lst ((hs ++ [j]).map V.str)) := by
      rw [upd_same, mapS]
    have h12 := s12 _ _ (s11 _ _ h10)
    have s1012 := s11.trans s12
    generalize upd (upd H10 p11 (.lst [V.str j])) p12 (.lst (hs.map V.str ++ [V.str j])) = H12 at I12 hH h12 s1012 ⊢
    have J12 : PtIn H12 tp kd wl pl ar p12 hF ws9 js9 xs (hs ++ [j]) := ⟨I12.g, I12.w, I12.a1, I12.a2, hH, nn.1, nn.2.1, nn.2.2, by simp, I12.wj, I12.l1, by rw [List.length_append, List.length_singleton]; omega⟩
    refine ⟨_, rfl, sp, _, _, _, rfl, rfl, SqL.of h12, at1, _, rfl, _, _, rfl, rfl, tp, kd, wl, pl, ar, p12, hF, ws9, js9, xs, hs ++ [j], y1, deep - 1, rfl, J12, py1, by omega, by omega, by omega, fun a13 q13 H13 ws13 js13 ls13 ms13 O13 => ?_⟩
    refine ⟨sz (by show 5 ≤ 100000; decide), fun p14 hp14 => ?_⟩
    have s14 := same_new hp14 (.tup [V.str "post", .str j, .str x, .ref a10, .ref a13])
    have k1013 : TK H10 H13 := (tk_same s1012).trans (I12.g.tk O13.b)
    have BE : But3 tp wl pl H H13 := (((B5.trans b6.three).trans b69).trans b10).trans ((but3_same s1012).trans O13.b)
    refine q p14 (.post j x q10 q13) _ ws13 js13 (x :: (ls9 ++ ls13)) (j :: (ms9 ++ ms13)) ⟨BE.trans (but3_same s14), O13.g.same s14, O13.wj, ?_, ?_, ⟨a10, a13, upd_same, (pa10.tk k1013).tk (tk_same s14), O13.at_.tk (tk_same s14)⟩, ⟨hjW, hxW, ok10, O13.ok⟩, ?_, (su10.append O13.s1).cons_cons x, (sj10.append O13.s2).cons_cons j⟩
    · rw [O9.e1, O13.e1]
      simp
    · rw [O9.e2, O13.e2]
      simp
    · have c13 := O13.cn
      show 1 + pcnt q10 + pcnt q13 ≤ room.toNat
      omega
  · have hnp : decide (V.str wd = V.str (Str.ofString "post")) = false := decide_eq_false fun z => hpost (V.str.inj z)
    refine ⟨_, rfl, rfl, _, rfl, itF hnp ?_⟩
    have hwd2 : wd = "tell" ∨ wd = "let" := hwd.resolve_left hpost
    refine ⟨_, rfl, _, rfl, tp, ar, xs, rfl, I4.g.t, I4.w, by omega, Nat.le_refl _, fun a5 u5 H5 b5 t5 gs => ?_⟩
    have I5 := I4.one b5 t5
    refine ⟨_, rfl, _, rfl, _, rfl, _, rfl, _, rfl, _, rfl, _, rfl, sz (by show 1 ≤ 100000; decide), fun p7 hp7 => ?_⟩
    have s7 := same_new hp7 (.lst [V.str x])
    refine ⟨ar, p7, _, _, rfl, rfl, s7 _ _ I5.w.1, upd_same, sz (by rw [List.length_map]; show xs.length + 1 ≤ 100000; omega), fun p8 hp8 => ?_⟩
    have s8 := same_new hp8 (.lst (xs.map V.str ++ [V.str x]))
    have I8 := moreW I5 (Nat.le_refl _) hp7 hp8
    have s58 := s7.trans s8
    generalize upd (upd H5 p7 (.lst [V.str x])) p8 (.lst (xs.map V.str ++ [V.str x])) = H8 at I8 s58 ⊢
    refine ⟨_, rfl, _, rfl, _, _, rfl, rfl, _, rfl, _, _, rfl, rfl, tp, kd, wl, pl, p8, hl, hF, wsx, js, xs ++ [x], hs, room - 1, deep - 1, rfl, I8, by omega, by omega, by omega, by omega, fun a9 q9 H9 ws9 js9 ls9 ms9 O9 => ?_⟩
    refine ⟨sz (by show 4 ≤ 100000; decide), fun p14 hp14 => ?_⟩
    have s14 := same_new hp14 (.tup [V.str wd, .str x, .ref a5, .ref a9])
    have k59 : TK H5 H9 := (tk_same s58).trans (I8.g.tk O9.b)
    have BE : But3 tp wl pl H H9 := ((B4.trans b5.three).trans (but3_same s58)).trans O9.b
    have hatT := ((gs hF).g.at_.tk k59).tk (tk_same s14)
    have hatP := O9.at_.tk (tk_same s14)
    have e1 : wsx ++ [x] = ws9 ++ (x :: ls9).reverse := by
      rw [O9.e1]
      simp
    have hc : 1 + pcnt q9 ≤ room.toNat := by
      have := O9.cn
      omega
    rcases hwd2 with rfl | rfl
    · exact q p14 (.tell x u5 q9) _ ws9 js9 (x :: ls9) ms9 ⟨BE.trans (but3_same s14), O9.g.same s14, O9.wj, e1, O9.e2, ⟨a5, a9, upd_same, hatT, hatP⟩, ⟨hxW, (gs hF).sm, O9.ok⟩, hc, O9.s1.cons_cons x, O9.s2⟩
    · exact q p14 (.lett x u5 q9) _ ws9 js9 (x :: ls9) ms9 ⟨BE.trans (but3_same s14), O9.g.same s14, O9.wj, e1, O9.e2, ⟨a5, a9, upd_same, hatT, hatP⟩, ⟨hxW, (gs hF).sm, O9.ok⟩, hc, O9.s1.cons_cons x, O9.s2⟩
end
end KB

namespace KB
open PySem L2

section
variable {P : Program} {w : World} {K : PySem.W.Frag} {mg : Str → Option Value} {base : Heap}
theorem all_part (T : Txt K mg) {f fg fh fe fs fq : Addr} {fd gd hd ed sd qd : FuncData} (F : Fun K "_law_part" "_law_part" s_law_part f fd) (G_law_digit : FnOk P w K mg base CX0 1 fg gd ["tape", "many"] spDig) (R_law_digit : Ref K mg "_law_digit" fg gd ["tape", "many"])
    (G_law_some_hand : FnOk P w K mg base CX0 2 fh hd ["tape", "known", "hands"] spHand) (R_law_some_hand : Ref K mg "_law_some_hand" fh hd ["tape", "known", "hands"]) (G_law_end : FnOk P w K mg base CX0 6 fe ed ["tape", "known", "around", "hands"] spEnd) (R_law_end : Ref K mg "_law_end" fe ed ["tape", "known", "around", "hands"])
    (G_law_simple : FnOk P w K mg base CX0 5 fs sd ["tape", "around", "deep"] (spSimple 1)) (R_law_simple : Ref K mg "_law_simple" fs sd ["tape", "around", "deep"]) (G_law_shares : FnOk P w K mg base CX0 2 fq qd ["tape", "room", "many"] spShr) (R_law_shares : Ref K mg "_law_shares" fq qd ["tape", "room", "many"])
    (R_law_part : Ref K mg "_law_part" f fd ["tape", "known", "around", "hands", "room", "deep"]) : ∀ n : Nat, FnOk P w K mg base CX0 (n + 7) f fd ["tape", "known", "around", "hands", "room", "deep"] (spPart n)
  | 0 => ok_part T 0 F G_law_digit R_law_digit G_law_some_hand R_law_some_hand G_law_end R_law_end G_law_simple R_law_simple G_law_shares R_law_shares no_sp R_law_part
  | n + 1 => ok_part T (n + 1) F G_law_digit R_law_digit G_law_some_hand R_law_some_hand G_law_end R_law_end G_law_simple R_law_simple G_law_shares R_law_shares (all_part T F G_law_digit R_law_digit G_law_some_hand R_law_some_hand G_law_end R_law_end G_law_simple R_law_simple G_law_shares R_law_shares R_law_part n) R_law_part
/-! ### _law_turned_body -/
def spTBody : Sp := fun vs H Q _ => ∃ (tp kd wl pl nl : Addr) (hF : Str → Option Nat) (ws js xs : List Str), vs = [.ref tp, .ref kd, .ref nl] ∧ GT H tp kd wl pl hF ws js ∧ Wls H nl xs ∧ nl ≠ wl ∧ nl ≠ pl ∧ ws.length ≤ js.length ∧ xs.length + ws.length ≤ 100 ∧ js.length ≤ 100 ∧
  ∀ a p H' ws' js' ls ms, PtOut H H' tp kd wl pl hF ws js xs ["home"] 13 a p ws' js' ls ms → Q (.ref a) H'
theorem PtOut.le {H H' : Hp} {tp kd wl pl : Addr} {hF : Str → Option Nat} {ws js xs hs : List Str} {n m : Nat} {a : Addr} {p : Pt} {ws' js' ls ms : List Str} (h : n ≤ m) (O : PtOut H H' tp kd wl pl hF ws js xs hs n a p ws' js' ls ms) : PtOut H H' tp kd wl pl hF ws js xs hs m a p ws' js' ls ms :=
  ⟨O.b, O.g, O.wj, O.e1, O.e2, O.at_, O.ok, Nat.le_trans O.cn h, O.s1, O.s2⟩
theorem PtOut.pre {H0 H H' : Hp} {tp kd wl pl : Addr} {hF : Str → Option Nat} {ws js xs hs : List Str} {n : Nat} {a : Addr} {p : Pt} {ws' js' ls ms : List Str} (b : But3 tp wl pl H0 H) (O : PtOut H H' tp kd wl pl hF ws js xs hs n a p ws' js' ls ms) : PtOut H0 H' tp kd wl pl hF ws js xs hs n a p ws' js' ls ms :=
  ⟨b.trans O.b, O.g, O.wj, O.e1, O.e2, O.at_, O.ok, O.cn, O.s1, O.s2⟩
abbrev s_law_turned_body : Stmt := top 60
theorem scLturned_body : FnScope ["tape", "known", "names", "one", "two"] ["tape", "known", "names"] (defScope s_law_turned_body) := ⟨rfl, rfl, rfl, by decide +kernel, rfl, by decide +kernel, by decide +kernel⟩
theorem ok_tbody (T : Txt K mg) {f fg fp : Addr} {fd gd pd_ : FuncData} (F : Fun K "_law_turned_body" "_law_turned_body" s_law_turned_body f fd) (G_law_digit : FnOk P w K mg base CX0 1 fg gd ["tape", "many"] spDig) (R_law_digit : Ref K mg "_law_digit" fg gd ["tape", "many"])
    (G_law_part : FnOk P w K mg base CX0 15 fp pd_ ["tape", "known", "around", "hands", "room", "deep"] (spPart 8)) (R_law_part : Ref K mg "_law_part" fp pd_ ["tape", "known", "around", "hands", "room", "deep"]) : FnOk P w K mg base CX0 16 f fd ["tape", "known", "names"] spTBody := by
  refine F.ok scLturned_body (fun vs H Q E h => ?_) (fun cdv A outer s H vs Q E hr h => ?_)
  · obtain ⟨tp, kd, wl, pl, nl, hF, ws, js, xs, rfl, _⟩ := h
    rfl
  obtain ⟨tp, kd, wl, pl, nl, hF, ws, js, xs, rfl, g, hw, n1, n2, wj, l1, l2, q⟩ := h
  refine ⟨_, (pss_cons (ps_if (PW.pt (pw_and (pt_cmpR (op_neD hr.units) (pv 2) (pe_lst pa_nil) (nomark _)) (pw_and1 (pt_cmpR op_gt (pe_call G_law_digit (hr.mono (by omega)) rfl R_law_digit.m R_law_digit.k R_law_digit.b .nil pass0 (pa_cons (pv 0) (pa_cons pe_int pa_nil))) pe_int (nomark _))))) (pss_cons (ps_set (i := 3) scLturned_body.nd rfl (Or.inl rfl) (pe_call G_law_part (hr.mono (by omega)) rfl R_law_part.m R_law_part.k R_law_part.b .nil pass0 (pa_cons (pv 0) (pa_cons (pv 1) (pa_cons (pv 2) (pa_cons (pe_lst (pa_cons pe_str pa_nil)) (pa_cons (pe_dget (hu_of hr) (pv 1) pe_str (fun _ _ => rfl)) (pa_cons pe_int pa_nil))))))))
    (pss_cons (ps_set (i := 4) scLturned_body.nd rfl (Or.inl rfl) (pe_call G_law_part (hr.mono (by omega)) rfl R_law_part.m R_law_part.k R_law_part.b .nil pass0 (pa_cons (pv 0) (pa_cons (pv 1) (pa_cons (pv 2) (pa_cons (pe_lst (pa_cons pe_str pa_nil)) (pa_cons pe_int (pa_cons pe_int pa_nil))))))))
    (pss_one (ps_ret (pe_tup (pa_cons pe_str (pa_cons (pe_tup (pa_cons pe_str (pa_cons (pe_ix ix_list (pv 2) pe_int (fun _ _ => rfl)) pa_nil))) (pa_cons (pv 3) (pa_cons (pv 4) pa_nil))))))))) pss_nil)
    (pss_one (ps_ret (pe_call G_law_part (hr.mono (by omega)) rfl R_law_part.m R_law_part.k R_law_part.b .nil pass0 (pa_cons (pv 0) (pa_cons (pv 1) (pa_cons (pv 2) (pa_cons (pe_lst (pa_cons pe_str pa_nil)) (pa_cons (pe_dget (hu_of hr) (pv 1) pe_str (fun _ _ => rfl)) (pa_cons pe_int pa_nil)))))))))), ?_⟩
  -- home around
  have inH : ∀ {H1 : Hp} {ws1 js1 : List Str} {ph : Addr}, GT H1 tp kd wl pl hF ws1 js1 → Wls H1 nl xs → H1 ph = none → ws1.length ≤ js1.length → ws1.length ≤ ws.length → js1.length ≤ js.length → PtIn (upd H1 ph (.lst [V.str "home"])) tp kd wl pl nl ph hF ws1 js1 xs ["home"] := by
    intro H1 ws1 js1 ph g1 w1 hph a1 a2 a3
    have sp := same_new hph (.lst [V.str "home"])
    have nn := g1.new hph
    exact ⟨g1.same sp, w1.but (but_same sp) g1.t, n1, n2, upd_same, nn.1, nn.2.1, nn.2.2, by simp, a1, by omega, by show 1 + js1.length ≤ 200; omega⟩
  obtain ⟨el, hd', fs', kvs, rm, st, k1, rm1, rm9, _⟩ := g.k
  have nk := g.ntk k1 (fun _ z => nomatch z)
  have finalW : ∀ H1, But1 tp H H1 → Tp H1 tp → _ := fun (H1 : Hp) (b1 : But1 tp H H1) (t1 : Tp H1 tp) =>
    (show (tRet (tCall (spPart 8) [] E0 (tCons (tVar 0) (tCons (tVar 1) (tCons (tVar 2) (tCons (tLst (tCons (tC (.str "home")) tNil)) (tCons (tDGet (tVar 1) (tC (.str "room"))) (tCons (tC (.int 8)) tNil)))))))) { nx := fun x H' => Q V.non H', rt := Q } [some (.ref tp), some (.ref kd), some (.ref nl), none, none] H1 from by
      refine ⟨_, rfl, _, rfl, _, rfl, sz (by show 1 ≤ 100000; decide), fun ph hph => ?_⟩
      have s2 := same_new hph (.lst [V.str "home"])
      have g1 := g.one b1 t1
      refine ⟨_, rfl, kd, _, rfl, gt_room (s2 _ _ (b1 _ _ nk.1 k1)), tp, kd, wl, pl, nl, ph, hF, ws, js, xs, ["home"], rm, 8, rfl, inH g1 (hw.but b1 g.t) hph wj (Nat.le_refl _) (Nat.le_refl _), rm1, by omega, by decide, by decide, fun a p H' ws' js' ls ms O => ?_⟩
      exact q a p H' ws' js' ls ms ((O.pre (b1.three.trans (but3_same s2))).le (by omega)))
  refine ⟨_, rfl, sz (by show 0 ≤ 100000; decide), fun p0 hp0 => ?_⟩
  have s0 := same_new hp0 (.lst [])
  refine ⟨.list (xs.map PyData.str), .list [], .lst (SqL.of (s0 _ _ hw.1)) (dp_strs xs), .lst (SqL.of upd_same) .nil, shaped_strs hw.2, rfl, _, rfl, ?_⟩
  rw [eqv_nil]
  have g0 := g.same s0
  have w0 := hw.but (but_same s0) g.t
  have b0 : But1 tp H (upd H p0 (.lst [])) := but_same s0
  generalize upd H p0 (.lst []) = H0 at g0 w0 b0 ⊢
  cases xs with
  | nil => exact itF rfl (iteF (finalW H0 b0 g0.t))
  | cons x xr =>
    refine itT rfl ⟨_, rfl, tp, 4, rfl, g0.t, by decide, by decide, fun r H1 r0 r1 b1 t1 => ?_⟩
    have b01 := b0.trans b1
    refine ⟨_, _, rfl, rfl, _, rfl, ?_⟩
    refine ite2 (fun c => ?_) (fun c => finalW H1 b01 t1)
    have g1 := g0.one b1 t1
    have w1 := w0.but b1 g0.t
    have k11 := b01 _ _ nk.1 k1
    -- one
    refine ⟨_, rfl, _, rfl, _, rfl, sz (by show 1 ≤ 100000; decide), fun ph hph => ?_⟩
    have s2 := same_new hph (.lst [V.str "home"])
    refine ⟨_, rfl, kd, _, rfl, gt_room (s2 _ _ k11), tp, kd, wl, pl, nl, ph, hF, ws, js, x :: xr, ["home"], rm, 7, rfl, inH g1 w1 hph wj (Nat.le_refl _) (Nat.le_refl _), rm1, by omega, by decide, by decide, fun a3 q3 H3 ws3 js3 ls3 ms3 O3 => ?_⟩
    have le1 : ws3.length ≤ ws.length := by
      rw [O3.e1, List.length_append]
      omega
    have le2 : js3.length ≤ js.length := by
      rw [O3.e2, List.length_append]
      omega
    have B3 : But3 tp wl pl H1 H3 := (but3_same s2).trans O3.b
    have w3 := w1.three B3 g1 n1 n2
    -- two
    refine ⟨_, rfl, _, rfl, _, rfl, sz (by show 1 ≤ 100000; decide), fun ph4 hph4 => ?_⟩
    have s4 := same_new hph4 (.lst [V.str "home"])
    refine ⟨tp, kd, wl, pl, nl, ph4, hF, ws3, js3, x :: xr, ["home"], 3, 2, rfl, inH O3.g w3 hph4 O3.wj le1 le2, by decide, by decide, by decide, by decide, fun a5 q5 H5 ws5 js5 ls5 ms5 O5 => ?_⟩
    have B5 : But3 tp wl pl H3 H5 := (but3_same s4).trans O5.b
    have w5 := w3.three B5 O3.g n1 n2
    refine ⟨_, rfl, nl, _, _, _, rfl, rfl, SqL.of w5.1, at0, sz (by show 2 ≤ 100000; decide), fun p6 hp6 => ⟨_, rfl, _, rfl, sz (by show 4 ≤ 100000; decide), fun p7 hp7 => ?_⟩⟩
    have s6 := same_new hp6 (.tup [V.str "name", .str x])
    have s7 := same_new hp7 (.tup [V.str "if", .ref p6, .ref a3, .ref a5])
    have s67 := s6.trans s7
    have gn := gd_nam (hd := hF) (xs := x :: xr) (H := upd (upd H5 p6 (.tup [V.str "name", .str x])) p7 (.tup [V.str "if", .ref p6, .ref a3, .ref a5])) (a := p6) (x := x) ⟨rfl, s7 _ _ upd_same⟩ (hw.2 x List.mem_cons_self) List.mem_cons_self
    have k35 : TK H3 H5 := O3.g.tk B5
    refine q p7 (.iff (mkL (.nam x) []) q3 q5) _ ws5 js5 (ls3 ++ ls5) (ms3 ++ ms5) ⟨((b01.three.trans B3).trans B5).trans (but3_same s67), O5.g.same s67, O5.wj, ?_, ?_, ⟨p6, a3, a5, upd_same, gn.at_, (O3.at_.tk k35).tk (tk_same s67), O5.at_.tk (tk_same s67)⟩, ⟨⟨gn.ok, simple_mkL rfl (fun _ z => nomatch z), gn.sc, Nat.le_trans gn.cn (by decide), gn.dp.le (by decide)⟩, O3.ok, O5.ok⟩, ?_, O3.s1.append O5.s1, O3.s2.append O5.s2⟩
    · rw [O3.e1, O5.e1]
      simp
    · rw [O3.e2, O5.e2]
      simp
    · have c3 := O3.cn
      have c5 : pcnt q5 ≤ 3 := O5.cn
      show 1 + pcnt q3 + pcnt q5 ≤ 13
      omega
end
end KB

namespace KB
open PySem L2

/-! ### the words that are drawn -/
def lettersS : Str := "abcdefghijklmnopqrstuvwxyz"
def sgn (i : Nat) : Str := ⟨#[97 + i % 26]⟩
def endsL : List Str := ["", "a", "omelons"]
def someL : List Str := ["give", "ask", "post", "plus", "less", "name", "number", "to", "as", "f", "x", "aq", "bq", "lets", "ifs", "ina", "homes", "q"]
def w0 (turn : Nat) (e : Str) (k : Nat) : Str := sgn (turn + k) ++ e
def w1 (turn : Nat) (k : Nat) : Str := repS (sgn (turn + k / 8)) (1 + (k : Int) % 8)
def w2 (turn : Nat) (k : Nat) : Str := someL.getD ((turn + k) % 18) ""
def good16 (f : Nat → Str) : Bool := ((List.range 16).map f).all isW && decide ((List.range 16).map f).Nodup
theorem good_w0 : ∀ turn < 26, ∀ e ∈ endsL, good16 (w0 turn e) = true := by decide +kernel
theorem good_w1 : ∀ turn < 26, good16 (w1 turn) = true := by decide +kernel
theorem good_w2 : ∀ turn < 26, good16 (w2 turn) = true := by decide +kernel
theorem good_of {f : Nat → Str} (h : good16 f = true) {n : Nat} (hn : n ≤ 16) : (∀ x ∈ (List.range n).map f, isW x = true) ∧ ((List.range n).map f).Nodup := by
  unfold good16 at h
  rw [Bool.and_eq_true] at h
  have hs : ((List.range n).map f).Sublist ((List.range 16).map f) := (List.range_sublist.mpr hn).map f
  exact ⟨fun x hx => List.all_eq_true.mp h.1 x (hs.subset hx), (of_decide_eq_true h.2).sublist hs⟩
theorem letters_at {i : Int} (h0 : 0 ≤ i) (h1 : i < 26) : atI lettersS.cps.toList i = some (97 + i.toNat) := by
  have e : lettersS.cps.toList = (List.range 26).map (97 + ·) := by decide +kernel
  rw [e]
  obtain ⟨n, rfl⟩ : ∃ n : Nat, i = (n : Int) := ⟨i.toNat, by omega⟩
  rw [Int.toNat_natCast]
  refine atI_nat ?_
  rw [List.getElem?_map, List.getElem?_range (by omega)]
  rfl
theorem range_push {f : Nat → Str} (i : Nat) : ((List.range i).map f).map V.str ++ [V.str (f i)] = ((List.range (i + 1)).map f).map V.str := by
  rw [List.range_succ, List.map_append, List.map_append]
  rfl

section
variable {P : Program} {w : World} {K : PySem.W.Frag} {mg : Str → Option Value} {base : Heap}
def spWords : Sp := fun vs H Q _ => ∃ (tp : Addr) (many : Int), vs = [.ref tp, .int many] ∧ Tp H tp ∧ 0 ≤ many ∧ many ≤ 16 ∧
  ∀ (p : Addr) (xs : List Str) (H' : Hp), But1 tp H H' → Tp H' tp → H p = none → Wls H' p xs → (xs.length : Int) = many → xs.Nodup → Q (.ref p) H'
abbrev s_law_words : Stmt := top 47
theorem scLwords : FnScope ["tape", "many", "letters", "way", "turn", "ends", "k", "some"] ["tape", "many"] (defScope s_law_words) := ⟨rfl, rfl, rfl, by decide +kernel, rfl, by decide +kernel, by decide +kernel⟩
theorem ok_words (T : Txt K mg) {f g : Addr} {fd gd : FuncData} (F : Fun K "_law_words" "_law_words" s_law_words f fd) (G_law_digit : FnOk P w K mg base CX0 1 g gd ["tape", "many"] spDig) (R_law_digit : Ref K mg "_law_digit" g gd ["tape", "many"]) : FnOk P w K mg base CX0 2 f fd ["tape", "many"] spWords := by
  refine F.ok scLwords (fun vs H Q E h => ?_) (fun cdv A outer s H vs Q E hr h => ?_)
  · obtain ⟨tp, many, rfl, _⟩ := h
    rfl
  obtain ⟨tp, many, rfl, ht, hm0, hm1, q⟩ := h
  refine ⟨_, (pss_cons (ps_set (i := 2) scLwords.nd rfl (Or.inr rfl) pe_str)
    (pss_cons (ps_set (i := 3) scLwords.nd rfl (Or.inl rfl) (pe_call G_law_digit hr rfl R_law_digit.m R_law_digit.k R_law_digit.b .nil pass0 (pa_cons (pv 0) (pa_cons pe_int pa_nil))))
    (pss_cons (ps_set (i := 4) scLwords.nd rfl (Or.inr rfl) (pe_call G_law_digit hr rfl R_law_digit.m R_law_digit.k R_law_digit.b .nil pass0 (pa_cons (pv 0) (pa_cons pe_int pa_nil))))
    (pss_cons (ps_if (pt_cmpR op_eq (pv 3) pe_int (nomark _)) (pss_cons (ps_set (i := 5) scLwords.nd rfl (Or.inr rfl) (pe_ix ix_list (pe_lst (pa_cons pe_str (pa_cons pe_str (pa_cons pe_str pa_nil)))) (pe_call G_law_digit hr rfl R_law_digit.m R_law_digit.k R_law_digit.b .nil pass0 (pa_cons (pv 0) (pa_cons pe_int pa_nil))) (fun _ _ => rfl)))
    (pss_one (ps_ret (pe_lc (own := [("k", 6)]) (g := gName 6) (by rfl) scLwords.nd (pi_range1 rfl T.m_range (pa_cons (pv 1) pa_nil)) (blkOk_by (own := [("k", 6)]) (N := ["tape", "many", "letters", "way", "turn", "ends", "k", "some"]) (sc := defScope s_law_words) (by decide +kernel)) (fun _ _ _ _ _ => (pg_name (i := 6) scLwords.nd rfl (Or.inl rfl))) (fun _ _ _ _ _ => pts_nil) (fun _ _ _ _ _ => (pe_op op_add_str (pe_ix ix_str (pv 2) (pe_op op_mod (pe_op op_add (pv 4) (pv 6)) pe_int) (fun _ _ => rfl)) (pv 5))))))) pss_nil)
    (pss_cons (ps_if (pt_cmpR op_eq (pv 3) pe_int (nomark _)) (pss_one (ps_ret (pe_lc (own := [("k", 6)]) (g := gName 6) (by rfl) scLwords.nd (pi_range1 rfl T.m_range (pa_cons (pv 1) pa_nil)) (blkOk_by (own := [("k", 6)]) (N := ["tape", "many", "letters", "way", "turn", "ends", "k", "some"]) (sc := defScope s_law_words) (by decide +kernel)) (fun _ _ _ _ _ => (pg_name (i := 6) scLwords.nd rfl (Or.inl rfl))) (fun _ _ _ _ _ => pts_nil) (fun _ _ _ _ _ => (pe_op op_mul_str (pe_ix ix_str (pv 2) (pe_op op_mod (pe_op op_add (pv 4) (pe_op op_fdiv (pv 6) pe_int)) pe_int) (fun _ _ => rfl)) (pe_op op_add pe_int (pe_op op_mod (pv 6) pe_int))))))) pss_nil)
    (pss_cons (ps_set (i := 7) scLwords.nd rfl (Or.inr rfl) (pe_lst (pa_cons pe_str (pa_cons pe_str (pa_cons pe_str (pa_cons pe_str (pa_cons pe_str (pa_cons pe_str (pa_cons pe_str (pa_cons pe_str (pa_cons pe_str (pa_cons pe_str (pa_cons pe_str pa_nil)))))))))))))
    (pss_cons (ps_set (i := 7) scLwords.nd rfl (Or.inr rfl) (pe_op op_cat (pv 7) (pe_lst (pa_cons pe_str (pa_cons pe_str (pa_cons pe_str (pa_cons pe_str (pa_cons pe_str (pa_cons pe_str (pa_cons pe_str pa_nil))))))))))
    (pss_one (ps_ret (pe_lc (own := [("k", 6)]) (g := gName 6) (te := tOp (rIxL K) (tVar 7) (tOp (rI (fun _ j => 0 < j) fun i j => .int (i % j)) (tOp (rI0 fun i j => .int (i + j)) (tVar 4) (tVar 6)) (tC (.int 18)))) (by rfl) scLwords.nd (pi_range1 rfl T.m_range (pa_cons (pv 1) pa_nil)) (blkOk_by (own := [("k", 6)]) (N := ["tape", "many", "letters", "way", "turn", "ends", "k", "some"]) (sc := defScope s_law_words) (by decide +kernel)) (fun _ _ _ _ _ => (pg_name (i := 6) scLwords.nd rfl (Or.inl rfl))) (fun _ _ _ _ _ => pts_nil) (fun _ _ _ _ _ => (pe_ix ix_list (pv 7) (pe_op op_mod (pe_op op_add (pv 4) (pv 6)) pe_int) (fun _ _ => rfl))))))))))))), ?_⟩
  have fin : ∀ (f : Nat → Str), good16 f = true → ∀ (H1 : Hp) (D : Addr) (H' : Hp), But1 tp H H1 → Tp H1 tp → H1 D = none → Same H1 H' → H' D = some (.lst (((List.range many.toNat).map f).map V.str)) → Q (.ref D) H' := by
    intro f hf H1 D H' b1 t1 hD s1 h1
    obtain ⟨e1, e2⟩ := good_of hf (n := many.toNat) (by omega)
    refine q D _ H' (b1.trans (but_same s1)) (t1.same s1) ?_ ⟨h1, e1⟩ (by rw [List.length_map, List.length_range]; omega) e2
    cases e : H D with
    | none => rfl
    | some o =>
      obtain ⟨z, hz⟩ := t1
      rw [b1 _ _ (ne_of_none hz hD).symm e] at hD
      cases hD
  refine ⟨_, rfl, tp, 3, rfl, ht, by decide, by decide, fun way H1 _ _ b1 t1 => ?_⟩
  refine ⟨_, rfl, tp, 26, rfl, t1, by decide, by decide, fun turn H2 r0 r1 b2 t2 => ?_⟩
  have b12 := b1.trans b2
  refine ⟨_, rfl, rfl, _, rfl, ?_⟩
  refine ite2 (fun c1 => ?_) (fun c1 => ?_)
  · refine ⟨sz (by show 3 ≤ 100000; decide), fun p hp => ?_⟩
    have s3 := same_new hp (.lst [.str "", .str "a", .str "omelons"])
    have np : p ≠ tp := by
      obtain ⟨z, hz⟩ := t2
      exact (ne_of_none hz hp).symm
    refine ⟨_, rfl, tp, 3, rfl, t2.same s3, by decide, by decide, fun r H3 r2 r3 b3 t3 => ?_⟩
    obtain ⟨v, hv, hm⟩ := at_some (xs := endsL.map V.str) r2 r3
    obtain ⟨e, he, rfl⟩ := List.mem_map.mp hm
    have hel : e.length ≤ 100 := by
      have : ∀ x ∈ endsL, x.length ≤ 100 := by decide +kernel
      exact this e he
    refine ⟨p, _, _, _, rfl, rfl, SqL.of (b3 _ _ np upd_same), hv, ?_⟩
    have b4 := (b12.trans (but_same s3)).trans b3
    refine ⟨_, rfl, many, rfl, by omega, by omega, fun D hD => lc_range (lo := 0) (n := many.toNat) (fun i H' => Same H3 H' ∧ H' D = some (.lst (((List.range i).map (w0 turn.toNat e)).map V.str))) ⟨same_new hD _, upd_same⟩ ?_ ?_⟩
    · rintro i H' hi ⟨s5, h5⟩
      have ei : (turn + (0 + (i : Nat))) % 26 = (((turn.toNat + i) % 26 : Nat) : Int) := by omega
      refine ⟨rfl, ?_⟩
      dsimp only [tYes]
      refine iteT ?_
      refine ⟨_, rfl, _, rfl, _, rfl, _, _, rfl, rfl, _, _, rfl, rfl, (by show (0 : Int) < 26; decide), lettersS, _, _, rfl, rfl, (by decide +kernel), letters_at (Int.emod_nonneg _ (by decide)) (Int.emod_lt_of_pos _ (by decide)), ?_⟩
      refine ⟨_, rfl, _, _, rfl, rfl, sz (by show 1 + e.length ≤ 100000; omega), ?_⟩
      refine ⟨_, h5, Nat.lt_of_le_of_lt (m := 100) (by rw [List.length_map, List.length_map, List.length_range]; omega) (by decide), same_mut s5 hD, ?_⟩
      rw [upd_same, ← range_push]
      have e9 : w0 turn.toNat e i = (⟨#[97 + ((turn + (0 + (i : Nat))) % 26).toNat]⟩ : Str) ++ e := by
        rw [ei, Int.toNat_natCast]
        rfl
      rw [e9]
    · rintro H' ⟨s5, h5⟩
      exact fin _ (good_w0 turn.toNat (by omega) e he) H3 D H' b4 t3 hD s5 h5
  refine ⟨_, rfl, rfl, _, rfl, ?_⟩
  refine ite2 (fun c2 => ?_) (fun c2 => ?_)
  · refine ⟨_, rfl, many, rfl, by omega, by omega, fun D hD => lc_range (lo := 0) (n := many.toNat) (fun i H' => Same H2 H' ∧ H' D = some (.lst (((List.range i).map (w1 turn.toNat)).map V.str))) ⟨same_new hD _, upd_same⟩ ?_ ?_⟩
    · rintro i H' hi ⟨s5, h5⟩
      have ei : (turn + (0 + (i : Nat)) / 8) % 26 = (((turn.toNat + i / 8) % 26 : Nat) : Int) := by omega
      refine ⟨rfl, ?_⟩
      dsimp only [tYes]
      refine iteT ?_
      refine ⟨_, rfl, _, rfl, _, rfl, _, _, rfl, rfl, ⟨by decide, by decide⟩, _, _, rfl, rfl, _, _, rfl, rfl, (by show (0 : Int) < 26; decide), lettersS, _, _, rfl, rfl, (by decide +kernel), letters_at (Int.emod_nonneg _ (by decide)) (Int.emod_lt_of_pos _ (by decide)), ?_⟩
      refine ⟨_, rfl, _, _, rfl, rfl, (by show (0 : Int) < 8; decide), _, _, rfl, rfl, _, _, rfl, rfl, by omega, by omega, Nat.le_refl 1, by show 1 ≤ 1000; decide, ?_⟩
      refine ⟨_, h5, Nat.lt_of_le_of_lt (m := 100) (by rw [List.length_map, List.length_map, List.length_range]; omega) (by decide), same_mut s5 hD, ?_⟩
      rw [upd_same, ← range_push]
      have e9 : w1 turn.toNat i = repS (⟨#[97 + ((turn + (0 + (i : Nat)) / 8) % 26).toNat]⟩ : Str) (1 + (0 + (i : Nat)) % 8) := by
        rw [ei, Int.toNat_natCast, Int.zero_add]
        rfl
      rw [e9]
    · rintro H' ⟨s5, h5⟩
      exact fin _ (good_w1 turn.toNat (by omega)) H2 D H' b12 t2 hD s5 h5
  · refine ⟨sz (by show 11 ≤ 100000; decide), fun p1 hp1 => ?_⟩
    have s3 := same_new hp1 (.lst ((someL.take 11).map V.str))
    refine ⟨_, rfl, sz (by show 7 ≤ 100000; decide), fun p2 hp2 => ?_⟩
    have s4 := same_new hp2 (.lst ((someL.drop 11).map V.str))
    refine ⟨p1, p2, (someL.take 11).map V.str, (someL.drop 11).map V.str, rfl, rfl, s4 _ _ upd_same, upd_same, sz (by show 18 ≤ 100000; decide), fun p3 hp3 => ?_⟩
    have s5 := same_new hp3 (.lst ((someL.take 11).map V.str ++ (someL.drop 11).map V.str))
    have s35 := s3.trans (s4.trans s5)
    have h3 : upd (upd (upd H2 p1 (.lst ((someL.take 11).map V.str))) p2 (.lst ((someL.drop 11).map V.str))) p3 (.lst ((someL.take 11).map V.str ++ (someL.drop 11).map V.str)) p3 = some (.lst (someL.map V.str)) := upd_same
    have t3 := t2.same s35
    have b3 := b12.trans (but_same s35)
    refine ⟨_, rfl, many, rfl, by omega, by omega, fun D hD => lc_range (lo := 0) (n := many.toNat) (fun i H' => Same (upd (upd (upd H2 p1 (.lst ((someL.take 11).map V.str))) p2 (.lst ((someL.drop 11).map V.str))) p3 (.lst ((someL.take 11).map V.str ++ (someL.drop 11).map V.str))) H' ∧ H' D = some (.lst (((List.range i).map (w2 turn.toNat)).map V.str))) ⟨same_new hD _, upd_same⟩ ?_ ?_⟩
    · rintro i H' hi ⟨s6, h6⟩
      have ei : (turn + (0 + (i : Nat))) % 18 = (((turn.toNat + i) % 18 : Nat) : Int) := by omega
      have hat : atI (someL.map V.str) ((turn + (0 + (i : Nat))) % 18) = some (V.str (w2 turn.toNat i)) := by
        rw [ei]
        refine atI_nat ?_
        rw [List.getElem?_map]
        unfold w2
        have hl : (turn.toNat + i) % 18 < someL.length := Nat.mod_lt _ (by decide)
        rw [List.getElem?_eq_getElem hl, List.getD_eq_getElem?_getD, List.getElem?_eq_getElem hl]
        rfl
      refine ⟨rfl, ?_⟩
      dsimp only [tYes]
      refine iteT ?_
      refine ⟨_, rfl, _, rfl, _, rfl, _, _, rfl, rfl, _, _, rfl, rfl, (by show (0 : Int) < 18; decide), p3, _, _, _, rfl, rfl, SqL.of (s6 _ _ h3), hat, ?_⟩
      refine ⟨_, h6, Nat.lt_of_le_of_lt (m := 100) (by rw [List.length_map, List.length_map, List.length_range]; omega) (by decide), same_mut s6 hD, ?_⟩
      rw [upd_same, ← range_push]
    · rintro H' ⟨s6, h6⟩
      exact fin _ (good_w2 turn.toNat (by omega)) _ D H' b3 t3 hD s6 h6
end
end KB

namespace KB
open PySem L2

/-! ### turned books -/
def But2 (tp wl : Addr) (H H' : Hp) : Prop := ∀ b o, b ≠ tp → b ≠ wl → H b = some o → H' b = some o
theorem But2.refl (tp wl : Addr) (H : Hp) : But2 tp wl H H := fun _ _ _ _ h => h
abbrev TEr := Str × List Str × Pt
def TErV (H : Hp) (e : TEr) (v : V) : Prop := ∃ q r b, v = .ref q ∧ H q = some (.tup [.str e.1, .ref r, .ref b]) ∧ H r = some (.tup (e.2.1.map V.str)) ∧ PAt H e.2.2 b
theorem TErV.tk {H H' : Hp} (t : TK H H') {e : TEr} {v : V} (h : TErV H e v) : TErV H' e v :=
  let ⟨q, r, b, e1, h1, h2, h3⟩ := h; ⟨q, r, b, e1, t _ _ h1, t _ _ h2, h3.tk t⟩
def TBkAt (H : Hp) (es : List TEr) (vs : List V) (p : Addr) : Prop := H p = some (.tup vs) ∧ All2 (TErV H) es vs
structure GdTE (hF : Str → Option Nat) (e : TEr) : Prop where
  w : isW e.1 = true
  ws : ∀ x ∈ e.2.1, isW x = true
  n4 : e.2.1.length ≤ 4
  ok : okP hF e.2.2 e.2.1 ["home"]
  cn : pcnt e.2.2 ≤ 13
  hf : hF e.1 = some e.2.1.length
  un : (e.2.1 ++ wP e.2.2).Nodup
  uj : (jP e.2.2).Nodup
structure GdTB (es : List TEr) : Prop where
  len : 1 ≤ es.length ∧ es.length ≤ 6
  nd : (es.map (·.1)).Nodup
  er : ∃ hF : Str → Option Nat, (∀ e ∈ es, GdTE hF e) ∧ ∀ f n, hF f = some n → f ∈ es.map (·.1)
def knT4 (el hd wl : Addr) (room : Int) : List (Key × V) := [(kgE, .ref el), (kgH, .ref hd), (kgW, .ref wl), (kgR, .int room)]
theorem merge_kn4 (el hd wl : Addr) (room : Int) : mergeK [] (knT4 el hd wl room) = knT4 el hd wl room := rfl
def hFof (fs : List Str) (kvs : List (Key × V)) (f : Str) : Option Nat :=
  if f ∈ fs then (match valV kvs (Sum.inr f) with | some (.int n) => some n.toNat | _ => none) else none
theorem hFof_at {fs : List Str} {kvs : List (Key × V)} {f : Str} {n : Int} (h : f ∈ fs) (e : valV kvs (Sum.inr f) = some (.int n)) : hFof fs kvs f = some n.toNat := by
  unfold hFof
  rw [if_pos h, e]
theorem hFof_in {fs : List Str} {kvs : List (Key × V)} {f : Str} {n : Nat} (h : hFof fs kvs f = some n) : f ∈ fs := by
  unfold hFof at h
  by_cases c : f ∈ fs
  · exact c
  · rw [if_neg c] at h
    cases h

theorem cut_to {xs : List V} {i : Int} (h0 : 0 ≤ i) (h : i.toNat ≤ xs.length) : cutV xs none (some i) = xs.take i.toNat := by
  unfold cutV
  rw [sIx_no, sIx_at h0 h, List.drop_zero, Nat.sub_zero]

section
variable {P : Program} {w : World} {K : PySem.W.Frag} {mg : Str → Option Value} {base : Heap}
/-! ### _law_turned_book -/
def spTBook (K : PySem.W.Frag) : Sp := fun vs H Q _ => ∃ (sc : Addr) (ns : List Int) (start : Int) (st : Bool), vs = [.ref sc, .int start, .bl st] ∧ SqL K H sc (ns.map V.int) ∧ 0 ≤ start ∧ start ≤ 100 ∧ ∀ p es us H', Same H H' → TBkAt H' es us p → GdTB es → Q (.ref p) H'
abbrev s_law_turned_book : Stmt := top 61
theorem scLturned_book : FnScope ["script", "start", "straight", "head", "errands", "heads", "f", "room", "found", "k", "tape", "words", "names", "known"] ["script", "start", "straight"] (defScope s_law_turned_book) := ⟨rfl, rfl, rfl, by decide +kernel, rfl, by decide +kernel, by decide +kernel⟩
theorem ok_tbook (T : Txt K mg) {f fg ft fw fb : Addr} {fd gd td wd bd : FuncData} (F : Fun K "_law_turned_book" "_law_turned_book" s_law_turned_book f fd) (G_law_digit : FnOk P w K mg base CX0 1 fg gd ["tape", "many"] spDig) (R_law_digit : Ref K mg "_law_digit" fg gd ["tape", "many"])
    (G_law_tape : FnOk P w K mg base CX0 2 ft td ["script", "k"] (spTape K)) (R_law_tape : Ref K mg "_law_tape" ft td ["script", "k"]) (G_law_words : FnOk P w K mg base CX0 2 fw wd ["tape", "many"] spWords) (R_law_words : Ref K mg "_law_words" fw wd ["tape", "many"])
    (G_law_turned_body : FnOk P w K mg base CX0 16 fb bd ["tape", "known", "names"] spTBody) (R_law_turned_body : Ref K mg "_law_turned_body" fb bd ["tape", "known", "names"]) : FnOk P w K mg base CX0 17 f fd ["script", "start", "straight"] (spTBook K) := by
  refine F.ok scLturned_book (fun vs H Q E h => ?_) (fun cdv A outer s H vs Q E hr h => ?_)
  · obtain ⟨sc, ns, start, st, rfl, _⟩ := h
    rfl
  obtain ⟨sc, ns, start, st, rfl, hS, hst0, hst1, q⟩ := h
  refine ⟨_, (pss_cons (ps_set (i := 3) scLturned_book.nd rfl (Or.inl rfl) (pe_call G_law_tape (hr.mono (by omega)) rfl R_law_tape.m R_law_tape.k R_law_tape.b .nil pass0 (pa_cons (pv 0) (pa_cons (pv 1) pa_nil))))
    (pss_cons (ps_set (i := 4) scLturned_book.nd rfl (Or.inl rfl) (pe_call G_law_words (hr.mono (by omega)) rfl R_law_words.m R_law_words.k R_law_words.b .nil pass0 (pa_cons (pv 3) (pa_cons (pe_ix ix_list (pe_lst (pa_cons pe_int (pa_cons pe_int (pa_cons pe_int (pa_cons pe_int (pa_cons pe_int (pa_cons pe_int pa_nil))))))) (pe_call G_law_digit (hr.mono (by omega)) rfl R_law_digit.m R_law_digit.k R_law_digit.b .nil pass0 (pa_cons (pv 3) (pa_cons pe_int pa_nil))) (fun _ _ => rfl)) pa_nil))))
    (pss_cons (ps_set (i := 5) scLturned_book.nd rfl (Or.inl rfl) pe_dnewK)
    (pss_cons (ps_for PassesOwn.never rfl (pi_list (pv 4)) (pg_name (i := 6) scLturned_book.nd rfl (Or.inl rfl)) (pss_one (ps_dput (hu_of hr) (pv 5) (pv 6) (pe_ix ix_list (pe_lst (pa_cons pe_int (pa_cons pe_int (pa_cons pe_int (pa_cons pe_int (pa_cons pe_int (pa_cons pe_int pa_nil))))))) (pe_call G_law_digit (hr.mono (by omega)) rfl R_law_digit.m R_law_digit.k R_law_digit.b .nil pass0 (pa_cons (pv 3) (pa_cons pe_int pa_nil))) (fun _ _ => rfl)) rfl)))
    (pss_cons (ps_set (i := 7) scLturned_book.nd rfl (Or.inl rfl) (pe_ix ix_list (pe_lst (pa_cons pe_int (pa_cons pe_int (pa_cons pe_int (pa_cons pe_int pa_nil))))) (pe_call G_law_digit (hr.mono (by omega)) rfl R_law_digit.m R_law_digit.k R_law_digit.b .nil pass0 (pa_cons (pv 3) (pa_cons pe_int pa_nil))) (fun _ _ => rfl)))
    (pss_cons (ps_set (i := 8) scLturned_book.nd rfl (Or.inl rfl) (pe_lst pa_nil))
    (pss_cons (ps_for PassesOwn.never rfl (pi_range1 rfl T.m_range (pa_cons (pe_callB call_len_seq (by rfl) T.m_len PySem.boot_len (pa_cons (pv 4) pa_nil)) pa_nil)) (pg_name (i := 9) scLturned_book.nd rfl (Or.inl rfl)) (pss_cons (ps_set (i := 10) scLturned_book.nd rfl (Or.inl rfl) (pe_call G_law_tape (hr.mono (by omega)) rfl R_law_tape.m R_law_tape.k R_law_tape.b .nil pass0 (pa_cons (pv 0) (pa_cons (pe_op op_add (pe_op op_add (pv 1) pe_int) (pv 9)) pa_nil))))
    (pss_cons (ps_set (i := 11) scLturned_book.nd rfl (Or.inl rfl) (pe_call G_law_words (hr.mono (by omega)) rfl R_law_words.m R_law_words.k R_law_words.b .nil pass0 (pa_cons (pv 10) (pa_cons pe_int pa_nil))))
    (pss_cons (ps_set (i := 12) scLturned_book.nd rfl (Or.inl rfl) (pe_slice sl_list (pv 11) po_none (po_some (pe_dget (hu_of hr) (pv 5) (pe_ix ix_list (pv 4) (pv 9) (fun _ _ => rfl)) (fun _ _ => rfl)))))
    (pss_cons (ps_set (i := 13) scLturned_book.nd rfl (Or.inl rfl) (pe_disp (pps_cons pe_str (pv 4) (pps_cons pe_str (pv 5) (pps_cons pe_str (pe_slice sl_list (pv 11) (po_some (pe_callB call_len_seq (by rfl) T.m_len PySem.boot_len (pa_cons (pv 12) pa_nil))) po_none) (pps_cons pe_str (pv 7) pps_nil)))) (by rfl) (by rfl) (fun z => by cases z) (by decide)))
    (pss_cons (ps_dput (hu_of hr) (pv 13) pe_str (pe_call G_law_words (hr.mono (by omega)) rfl R_law_words.m R_law_words.k R_law_words.b .nil pass0 (pa_cons (pv 10) (pa_cons pe_int pa_nil))) rfl)
    (pss_cons (ps_dput (hu_of hr) (pv 13) pe_str (pv 2) rfl)
    (pss_one (ps_expr (pe_bm PySem.F.plainAttrs_list PySem.F.slot_list_append PySem.F.type_list_append mt_append (pv 8) (pa_cons (pe_tup (pa_cons (pe_ix ix_list (pv 4) (pv 9) (fun _ _ => rfl)) (pa_cons (pe_callTy call_tuple_of (by rfl) T.m_tuple (by decide +kernel) (pa_cons (pv 12) pa_nil)) (pa_cons (pe_call G_law_turned_body hr rfl R_law_turned_body.m R_law_turned_body.k R_law_turned_body.b .nil pass0 (pa_cons (pv 10) (pa_cons (pv 13) (pa_cons (pv 12) pa_nil)))) pa_nil)))) pa_nil)))))))))))
    (pss_one (ps_ret (pe_callTy call_tuple_of (by rfl) T.m_tuple (by decide +kernel) (pa_cons (pv 8) pa_nil))))))))))), ?_⟩
  refine ⟨_, rfl, _, rfl, sc, ns, start, rfl, hS, hst0, by omega, fun hp z0 hhp => ?_⟩
  have s1 := same_new hhp (.lst [.int z0])
  have t1 : Tp (upd H hp (.lst [.int z0])) hp := ⟨z0, upd_same⟩
  -- errands
  refine ⟨_, rfl, sz (by show 6 ≤ 100000; decide), fun p2 hp2 => ?_⟩
  have s2 := same_new hp2 (.lst [.int 1, .int 2, .int 2, .int 3, .int 4, .int 6])
  have t2 := t1.same s2
  have n2 : p2 ≠ hp := (ne_of_none upd_same hp2).symm
  refine ⟨_, rfl, hp, 6, rfl, t2, by decide, by decide, fun r H3 r0 r1 b3 t3 => ?_⟩
  have hme : ∃ m : Int, atI [V.int 1, .int 2, .int 2, .int 3, .int 4, .int 6] r = some (.int m) ∧ 1 ≤ m ∧ m ≤ 6 := by
    obtain ⟨v, hv, hm⟩ := at_some (xs := [V.int 1, .int 2, .int 2, .int 3, .int 4, .int 6]) r0 r1
    simp only [List.mem_cons, List.not_mem_nil, or_false] at hm
    rcases hm with z | z | z | z | z | z <;> subst z <;> exact ⟨_, hv, by decide, by decide⟩
  obtain ⟨m, hma, hm1, hm6⟩ := hme
  refine ⟨p2, _, _, _, rfl, rfl, SqL.of (b3 _ _ n2 upd_same), hma, ?_⟩
  refine ⟨hp, m, rfl, t3, by omega, by omega, fun el fs H4 b4 t4 hel w4 hfl hnd => ?_⟩
  have sH3 : Same H H3 := fun b o h => b3 _ _ (ne_of_none h hhp) (s2 _ _ (s1 _ _ h))
  have sH4 : Same H H4 := fun b o h => b4 _ _ (ne_of_none h hhp) (sH3 _ _ h)
  -- heads
  intro hd hhd
  have s5 := same_new hhd (.dK [])
  have t5 := t4.same s5
  have w5 := w4.but (but_same s5) t4
  have hhd0 : H hd = none := by
    cases e : H hd with
    | none => rfl
    | some o =>
      rw [sH4 _ _ e] at hhd
      cases hhd
  have nhd : hd ≠ hp := by
    obtain ⟨z, hz⟩ := t4
    exact (ne_of_none hz hhd).symm
  have neh : el ≠ hd := ne_of_none w4.1 hhd
  have hlen6 : fs.length ≤ 6 := by omega
  have sH5 : Same H (upd H4 hd (.dK [])) := sH4.trans s5
  have h5d : upd H4 hd (.dK []) hd = some (.dK []) := upd_same
  generalize upd H4 hd (.dK []) = H5 at s5 t5 w5 sH5 h5d
  refine ⟨_, rfl, el, rfl, ⟨_, SqL.of w5.1⟩, for_list (K := K) (a := el) (xs := fs.map V.str) (fun i σ H' => ∃ o kvs, σ = [some (.ref sc), some (.int start), some (.bl st), some (.ref hp), some (.ref el), some (.ref hd), o, none, none, none, none, none, none, none] ∧
    But2 hp hd H5 H' ∧ Tp H' hp ∧ H' hd = some (.dK kvs) ∧ kvs.length ≤ i ∧ ∀ f ∈ fs.take i, ∃ n : Int, valV kvs (Sum.inr f) = some (.int n) ∧ 0 ≤ n ∧ n ≤ 4) ?_ ?_ ?_ ?_⟩
  · refine ⟨none, [], rfl, But2.refl _ _ _, t5, h5d, Nat.le_refl _, fun f hf => ?_⟩
    rw [List.take_zero] at hf
    cases hf
  · rintro i σ H' _ ⟨o, kvs, rfl, b6, _⟩
    exact SqL.of (b6 _ _ (wls_tp w5.1 t5) neh w5.1)
  · rintro i x σ H6 hx ⟨o, kvs, rfl, b6, t6, h6, hkl, hkv⟩
    rw [List.getElem?_map] at hx
    obtain ⟨fn, hfn, rfl⟩ : ∃ fn, fs[i]? = some fn ∧ V.str fn = x := by
      cases e : fs[i]? with
      | none =>
        rw [e] at hx
        cases hx
      | some fn =>
        rw [e] at hx
        exact ⟨fn, rfl, Option.some.inj hx⟩
    obtain ⟨hi, hi2⟩ := List.getElem?_eq_some_iff.mp hfn
    refine ⟨sz (by show 6 ≤ 100000; decide), fun p7 hp7 => ?_⟩
    have s7 := same_new hp7 (.lst [.int 1, .int 2, .int 1, .int 0, .int 3, .int 4])
    have n7 : p7 ≠ hp := by
      obtain ⟨z, hz⟩ := t6
      exact (ne_of_none hz hp7).symm
    refine ⟨_, rfl, hp, 6, rfl, t6.same s7, by decide, by decide, fun r2 H8 r3 r4 b8 t8 => ?_⟩
    have hne : ∃ m : Int, atI [V.int 1, .int 2, .int 1, .int 0, .int 3, .int 4] r2 = some (.int m) ∧ 0 ≤ m ∧ m ≤ 4 := by
      obtain ⟨v, hv, hm⟩ := at_some (xs := [V.int 1, .int 2, .int 1, .int 0, .int 3, .int 4]) r3 r4
      simp only [List.mem_cons, List.not_mem_nil, or_false] at hm
      rcases hm with z | z | z | z | z | z <;> subst z <;> exact ⟨_, hv, by decide, by decide⟩
    obtain ⟨m2, hma2, hm20, hm24⟩ := hne
    have h8 : H8 hd = some (.dK kvs) := b8 _ _ nhd (s7 _ _ h6)
    refine ⟨p7, _, _, _, rfl, rfl, SqL.of (b8 _ _ n7 upd_same), hma2, _, rfl, _, rfl, hd, _, rfl, DPut.k (k := Sum.inr fn) h8 (Nat.lt_of_le_of_lt (m := 1000) (by omega) (by decide)), ?_⟩
    refine ⟨_, _, rfl, fun b o n1 n2 hb => ?_, ?_, upd_same, ?_, ?_⟩
    · rw [upd_ne n2]
      exact b8 _ _ n1 (s7 _ _ (b6 _ _ n1 n2 hb))
    · obtain ⟨z, hz⟩ := t8
      exact ⟨z, by rw [upd_ne nhd.symm]; exact hz⟩
    · have := length_putK kvs (Sum.inr fn) (V.int m2)
      omega
    · intro f' hf'
      rw [List.take_succ_eq_append_getElem hi, hi2] at hf'
      by_cases e : f' = fn
      · subst e
        exact ⟨m2, by rw [valV_put, if_pos rfl], hm20, hm24⟩
      · rcases List.mem_append.mp hf' with z | z
        · obtain ⟨n3, q1, q2, q3⟩ := hkv f' z
          refine ⟨n3, ?_, q2, q3⟩
          rw [valV_put, if_neg (fun y => e (Sum.inr.inj y))]
          exact q1
        · exact absurd (List.mem_singleton.mp z) e
  rintro σ H6 ⟨o5, kvs, rfl, b6, t6, h6, _, hkv⟩
  rw [List.length_map, List.take_length] at hkv
  have w6 : Wls H6 el fs := ⟨b6 _ _ (wls_tp w5.1 t5) neh w5.1, w5.2⟩
  have sH6 : Same H H6 := fun b o hb => b6 _ _ (ne_of_none hb hhp) (ne_of_none hb hhd0) (sH5 _ _ hb)
  -- room
  refine ⟨sz (by show 4 ≤ 100000; decide), fun p7 hp7 => ?_⟩
  have s7 := same_new hp7 (.lst [.int 3, .int 5, .int 7, .int 9])
  have n7 : p7 ≠ hp := by
    obtain ⟨z, hz⟩ := t6
    exact (ne_of_none hz hp7).symm
  refine ⟨_, rfl, hp, 4, rfl, t6.same s7, by decide, by decide, fun r2 H8 r3 r4 b8 t8 => ?_⟩
  have hre : ∃ m : Int, atI [V.int 3, .int 5, .int 7, .int 9] r2 = some (.int m) ∧ 3 ≤ m ∧ m ≤ 9 := by
    obtain ⟨v, hv, hm⟩ := at_some (xs := [V.int 3, .int 5, .int 7, .int 9]) r3 r4
    simp only [List.mem_cons, List.not_mem_nil, or_false] at hm
    rcases hm with z | z | z | z <;> subst z <;> exact ⟨_, hv, by decide, by decide⟩
  obtain ⟨room, hra, hr8, hr40⟩ := hre
  refine ⟨p7, _, _, _, rfl, rfl, SqL.of (b8 _ _ n7 upd_same), hra, ?_⟩
  have sH8 : Same H H8 := fun b o hb => b8 _ _ (ne_of_none hb hhp) (s7 _ _ (sH6 _ _ hb))
  have w8 : Wls H8 el fs := ⟨b8 _ _ (wls_tp w6.1 t6) (s7 _ _ w6.1), w6.2⟩
  have h8 : H8 hd = some (.dK kvs) := b8 _ _ nhd (s7 _ _ h6)
  have hS8 : SqL K H8 sc (ns.map V.int) := sH8.seq hS
  clear h6 w6 sH6 s7 b8 t8 hp7 b6 t6
  -- found
  refine ⟨sz (by show 0 ≤ 100000; decide), fun fl hflN => ?_⟩
  have s9 := same_new hflN (.lst [])
  refine ⟨_, rfl, el, _, rfl, .inl (SqL.of (s9 _ _ w8.1)), _, rfl, by omega, by rw [List.length_map]; omega, ?_⟩
  have hnl : (((fs.map V.str).length : Nat) : Int).toNat = fs.length := by
    rw [Int.toNat_natCast, List.length_map]
  refine for_range (lo := 0) (n := (((fs.map V.str).length : Nat) : Int).toNat) (fun i σ H' => ∃ o8 o9 o10 o11 o12 vs es, σ = [some (.ref sc), some (.int start), some (.bl st), some (.ref hp), some (.ref el), some (.ref hd), o5, some (.int room), some (.ref fl), o8, o9, o10, o11, o12] ∧
    Same H8 H' ∧ H' fl = some (.lst vs) ∧ All2 (TErV H') es vs ∧ es.length = i ∧ es.map (·.1) = fs.take i ∧ ∀ e ∈ es, GdTE (hFof fs kvs) e) ?_ ?_ ?_
  · exact ⟨_, _, _, _, _, [], [], rfl, s9, upd_same, trivial, rfl, rfl, fun _ z => nomatch z⟩
  · rintro i σ H' hi ⟨o8, o9, o10, o11, o12, vs, es, rfl, sA, hfA, kA, hel2, hnm, hgd⟩
    rw [hnl] at hi
    have hfi : fs[i]? = some fs[i] := List.getElem?_eq_getElem hi
    have hfm := List.getElem_mem hi
    generalize fs[i] = fn at hfi hfm
    have ei : (0 : Int) + (i : Nat) = ((i : Nat) : Int) := by omega
    have hat : atI (fs.map V.str) ((0 : Int) + (i : Nat)) = some (V.str fn) := by
      rw [ei]
      exact atI_nat (by rw [List.getElem?_map, hfi]; rfl)
    obtain ⟨nn, hnn, hn0, hn4⟩ := hkv fn hfm
    -- tape
    refine ⟨_, rfl, _, rfl, _, _, rfl, rfl, _, rfl, _, _, rfl, rfl, sc, ns, _, rfl, sA.seq hS8, by omega, by omega, fun tp z htp => ?_⟩
    have sB := same_new htp (.lst [.int z])
    have tB : Tp (upd H' tp (.lst [.int z])) tp := ⟨z, upd_same⟩
    refine ⟨_, rfl, tp, 16, rfl, tB, by decide, by decide, fun wp ws HC bC tC hwp wC hwl hwnd => ?_⟩
    have hwl16 : ws.length = 16 := by omega
    have sC : Same H' HC := fun b o hb => bC _ _ (ne_of_none hb htp) (sB _ _ hb)
    have wCe : Wls HC el fs := ⟨sC _ _ (sA _ _ w8.1), w8.2⟩
    have hCd : HC hd = some (.dK kvs) := sC _ _ (sA _ _ h8)
    -- names
    refine ⟨_, rfl, _, rfl, _, rfl, _, rfl, el, _, _, _, rfl, rfl, SqL.of wCe.1, hat, hd, _, rfl, get_of hCd hnn, _, rfl, wp, _, rfl, SqL.of wC.1, fun np hnp => ?_⟩
    have eN : cutV (ws.map V.str) none (some nn) = (ws.take nn.toNat).map V.str := by
      rw [cut_to hn0 (by rw [List.length_map]; omega), List.map_take]
    rw [eN]
    have sD := same_new hnp (.lst ((ws.take nn.toNat).map V.str))
    have hD : upd HC np (.lst ((ws.take nn.toNat).map V.str)) np = some (.lst ((ws.take nn.toNat).map V.str)) := upd_same
    have tD := tC.same sD
    generalize upd HC np (.lst ((ws.take nn.toNat).map V.str)) = HD at sD hD tD
    -- known
    intro kd hkd
    have sE := same_new hkd (.dK [])
    refine ⟨_, rfl, _, rfl, _, rfl, _, rfl, np, _, rfl, .inl (SqL.of (sE _ _ hD)), _, rfl, wp, _, rfl, SqL.of (sE _ _ (sD _ _ wC.1)), fun wl hwlN => ?_⟩
    have eW : cutV (ws.map V.str) (some ((((ws.take nn.toNat).map V.str).length : Nat) : Int)) none = (ws.drop nn.toNat).map V.str := by
      have e1 : ((ws.take nn.toNat).map V.str).length = nn.toNat := by
        rw [List.length_map, List.length_take]
        omega
      rw [e1, cut_from (by omega) (by rw [List.length_map]; omega), List.map_drop, Int.toNat_natCast]
    rw [eW]
    have sF := same_new hwlN (.lst ((ws.drop nn.toNat).map V.str))
    have hkF : upd (upd HD kd (.dK [])) wl (.lst ((ws.drop nn.toNat).map V.str)) kd = some (.dK []) := sF _ _ upd_same
    have hwF : upd (upd HD kd (.dK [])) wl (.lst ((ws.drop nn.toNat).map V.str)) wl = some (.lst ((ws.drop nn.toNat).map V.str)) := upd_same
    have nwk : wl ≠ kd := (ne_of_none upd_same hwlN).symm
    have nwn : np ≠ wl := ne_of_none (sE _ _ hD) hwlN
    have sDF := sE.trans sF
    have nwe : el ≠ wl := ne_of_none (sE _ _ (sD _ _ wCe.1)) hwlN
    have hwl0 : H' wl = none := by
      cases e : H' wl with
      | none => rfl
      | some o =>
        rw [sE _ _ (sD _ _ (sC _ _ e))] at hwlN
        cases hwlN
    generalize upd (upd HD kd (.dK [])) wl (.lst ((ws.drop nn.toNat).map V.str)) = HF at sDF hkF hwF
    refine ⟨_, rfl, hkF, knT4 el hd wl room, rfl, by show 4 ≤ 15; decide, ?_⟩
    rw [merge_kn4]
    have sG4 : Same HD (upd HF kd (.dK (knT4 el hd wl room))) := fun b o hb => by
      have nb : b ≠ kd := ne_of_none hb hkd
      rw [upd_ne nb]
      exact sDF _ _ hb
    have hkG4 : upd HF kd (.dK (knT4 el hd wl room)) kd = some (.dK (knT4 el hd wl room)) := upd_same
    have hwG4 : upd HF kd (.dK (knT4 el hd wl room)) wl = some (.lst ((ws.drop nn.toNat).map V.str)) := by
      rw [upd_ne nwk]
      exact hwF
    generalize upd HF kd (.dK (knT4 el hd wl room)) = HG4 at sG4 hkG4 hwG4 ⊢
    -- posts, straight
    have tG4 : Tp HG4 tp := (tC.same sD).same sG4
    have nkt : kd ≠ tp := by
      obtain ⟨z, hz⟩ := tC.same sD
      exact (ne_of_none hz hkd).symm
    have big4 : (knT4 el hd wl room).length < sizeLine := Nat.lt_of_lt_of_le (by show 4 < 1000; decide : _ < 1000) (by decide)
    have big5 : ∀ pl : Addr, (putK (knT4 el hd wl room) kgP (.ref pl)).length < sizeLine := fun pl => Nat.lt_of_lt_of_le (by show 5 < 1000; decide : _ < 1000) (by decide)
    refine ⟨_, rfl, tp, 16, rfl, tG4, by decide, by decide, fun pl js HP bP tP hplN wPl hjl hjnd => ?_⟩
    have hjl16 : js.length = 16 := by omega
    have hkP := bP _ _ nkt hkG4
    have npk : pl ≠ kd := fun z => by
      rw [z] at hplN
      rw [hkG4] at hplN
      cases hplN
    refine ⟨_, rfl, kd, _, rfl, DPut.k (k := kgP) hkP big4, ?_⟩
    refine ⟨_, rfl, _, rfl, kd, _, rfl, DPut.k (k := kgS) upd_same (big5 pl), ?_⟩
    have hkG : (upd (upd HP kd (.dK (putK (knT4 el hd wl room) kgP (.ref pl)))) kd (.dK (putK (putK (knT4 el hd wl room) kgP (.ref pl)) kgS (.bl st)))) kd = some (.dK (knT el hd wl pl room st)) := upd_same
    have oth : ∀ b o, b ≠ kd → HP b = some o → (upd (upd HP kd (.dK (putK (knT4 el hd wl room) kgP (.ref pl)))) kd (.dK (putK (putK (knT4 el hd wl room) kgP (.ref pl)) kgS (.bl st)))) b = some o := fun b o n h => by
      rw [upd_ne n, upd_ne n]
      exact h
    generalize (upd (upd HP kd (.dK (putK (knT4 el hd wl room) kgP (.ref pl)))) kd (.dK (putK (putK (knT4 el hd wl room) kgP (.ref pl)) kgS (.bl st)))) = HG at hkG oth ⊢
    have bDG : ∀ b o, b ≠ tp → HD b = some o → HG b = some o := fun b o nb hb => oth b o (ne_of_none hb hkd) (bP b o nb (sG4 b o hb))
    have tG : Tp HG tp := by
      obtain ⟨z, hz⟩ := tP
      exact ⟨z, oth _ _ nkt.symm hz⟩
    have nwt : wl ≠ tp := wls_tp hwG4 tG4
    have hwG : HG wl = some (.lst ((ws.drop nn.toNat).map V.str)) := oth _ _ nwk (bP _ _ nwt hwG4)
    have nwp : wl ≠ pl := ne_of_none hwG4 hplN
    have wPG : Wls HG pl js := ⟨oth _ _ npk wPl.1, wPl.2⟩
    have net : el ≠ tp := wls_tp wCe.1 tC
    have ndt : hd ≠ tp := by
      obtain ⟨z, hz⟩ := tC
      exact ne_of hCd hz (fun y => by cases y)
    have nep : el ≠ pl := ne_of_none (sG4 _ _ (sD _ _ wCe.1)) hplN
    have nnp : np ≠ pl := ne_of_none (sG4 _ _ hD) hplN
    have nnt : np ≠ tp := wls_tp hD (tC.same sD)
    have hpl0 : H' pl = none := by
      cases e : H' pl with
      | none => rfl
      | some o =>
        rw [sG4 _ _ (sD _ _ (sC _ _ e))] at hplN
        cases hplN
    have gG : GT HG tp kd wl pl (hFof fs kvs) (ws.drop nn.toNat) js := ⟨tG, ⟨hwG, fun x hx => wC.2 x (List.mem_of_mem_drop hx)⟩, wPG, by rw [List.length_drop]; omega, by omega, nwp,
      el, hd, fs, kvs, room, st, hkG, by omega, hr40, nwe, nep, ⟨bDG _ _ net (sD _ _ wCe.1), wCe.2⟩, by omega, by omega, bDG _ _ ndt (sD _ _ hCd), fun f hf => let ⟨n, e1, e2, e3⟩ := hkv f hf; ⟨n, e1, e2, e3, hFof_at hf e1⟩⟩
    have sXG : Same H' HG := fun b o hb => bDG b o (ne_of_none hb htp) (sD _ _ (sC b o hb))
    have wG : Wls HG np (ws.take nn.toNat) := ⟨bDG _ _ nnt hD, fun x hx => wC.2 x (List.mem_of_mem_take hx)⟩
    -- the errand
    refine ⟨_, rfl, .inl ⟨rfl, _, SqL.of (sXG _ _ hfA)⟩, _, rfl, _, rfl, el, _, _, _, rfl, rfl, SqL.of (bDG _ _ net (sD _ _ wCe.1)), hat, _, rfl, np, _, rfl, .inl ⟨SqL.of wG.1, fun tl htl => ?_⟩⟩
    have sH := same_new htl (.tup ((ws.take nn.toNat).map V.str))
    refine ⟨_, rfl, _, rfl, _, rfl, tp, kd, wl, pl, np, hFof fs kvs, ws.drop nn.toNat, js, ws.take nn.toNat, rfl, gG.same sH, wG.but (but_same sH) gG.t, nwn, nnp, by rw [List.length_drop]; omega, by rw [List.length_take, List.length_drop]; omega, by omega, fun a t HI wsI jsI ls ms O => ?_⟩
    refine ⟨sz (by show 3 ≤ 100000; decide), fun ep hep => ?_⟩
    have sJ := same_new hep (.tup [.str fn, .ref tl, .ref a])
    have tkI : TK (upd HG tl (.tup ((ws.take nn.toNat).map V.str))) HI := (gG.same sH).tk O.b
    have sX : Same H' HI := fun b o hb => O.b _ _ (ne_of_none hb htp) (ne_of_none hb hwl0) (ne_of_none hb hpl0) (sH _ _ (sXG _ _ hb))
    have sXJ := sX.trans sJ
    have hfJ := sXJ _ _ hfA
    have hvl := kA.len
    refine ⟨fl, _, _, rfl, rfl, hfJ, Nat.lt_of_le_of_lt (m := 1000) (by omega) (by decide), ?_⟩
    have tkJ := (tk_same sXJ).trans (tk_put (o := .lst (vs ++ [.ref ep])) hfJ)
    have tkP := tk_put (o := .lst (vs ++ [.ref ep])) hfJ
    refine ⟨_, _, _, _, _, vs ++ [.ref ep], es ++ [(fn, ws.take nn.toNat, t)], rfl, same_mut (sA.trans sXJ) hflN, upd_same, ?_, ?_, ?_, ?_⟩
    · refine (kA.imp fun _ _ z => z.tk tkJ).app ⟨⟨ep, tl, a, rfl, tkP _ _ upd_same, tkP _ _ (sJ _ _ (tkI _ _ upd_same)), (O.at_.tk (tk_same sJ)).tk tkP⟩, trivial⟩
    · rw [List.length_append, hel2]
      rfl
    · rw [List.map_append, hnm, List.take_succ_eq_append_getElem hi]
      have e : fs[i] = fn := by
        rw [List.getElem?_eq_getElem hi] at hfi
        exact Option.some.inj hfi
      rw [e]
      rfl
    · intro e he
      rcases List.mem_append.mp he with z | z
      · exact hgd e z
      · rw [List.mem_singleton.mp z]
        have etk : (ws.take nn.toNat).length = nn.toNat := by
          rw [List.length_take]
          omega
        refine ⟨w8.2 fn hfm, fun x hx => wC.2 x (List.mem_of_mem_take hx), by show (ws.take nn.toNat).length ≤ 4; omega, O.ok, O.cn, ?_, ?_, ?_⟩
        · show hFof fs kvs fn = some (ws.take nn.toNat).length
          rw [etk]
          exact hFof_at hfm hnn
        · show (ws.take nn.toNat ++ wP t).Nodup
          have e9 : ws = ws.take nn.toNat ++ (wsI ++ ls.reverse) := by rw [← O.e1, List.take_append_drop]
          rw [e9] at hwnd
          rw [List.nodup_append] at hwnd ⊢
          obtain ⟨n1, n2, n3⟩ := hwnd
          have n4 := (List.nodup_append.mp n2).2.1
          have n5 : ls.Nodup := (List.reverse_perm ls).nodup_iff.mp n4
          exact ⟨n1, n5.sublist O.s1, fun a ha b hb => n3 a ha b (List.mem_append_right _ (List.mem_reverse.mpr (O.s1.subset hb)))⟩
        · show (jP t).Nodup
          have n2 := hjnd
          rw [O.e2] at n2
          have n4 := (List.nodup_append.mp n2).2.1
          have n5 : ms.Nodup := (List.reverse_perm ms).nodup_iff.mp n4
          exact n5.sublist O.s2
  · rintro σ H' ⟨o8, o9, o10, o11, o12, vs, es, rfl, sA, hfA, kA, hel2, hnm, hgd⟩
    rw [hnl] at hel2 hnm
    rw [List.take_length] at hnm
    refine ⟨_, rfl, fl, _, rfl, .inl ⟨SqL.of hfA, fun p hp9 => ?_⟩⟩
    have sK := same_new hp9 (.tup vs)
    refine q p es vs _ ((sH8.trans sA).trans sK) ⟨upd_same, kA.imp fun _ _ z => z.tk (tk_same sK)⟩ ⟨by omega, by rw [hnm]; exact hnd, _, hgd, fun f n hf => by rw [hnm]; exact hFof_in hf⟩
end
end KB

namespace KB
open PySem L2 HT
theorem layAll : ∀ {ds : List PyData}, (∀ d ∈ ds, d.canLay0 = true) → PySem.PyData.canLayAll0 ds = true
  | [], _ => rfl
  | d :: r, h => by
    show (d.canLay0 && PySem.PyData.canLayAll0 r) = true
    rw [h d List.mem_cons_self, layAll fun x hx => h x (List.mem_cons_of_mem _ hx)]
    rfl
theorem depthAll_le {m : Nat} : ∀ {ds : List PyData}, (∀ d ∈ ds, d.depth ≤ m) → PySem.PyData.depthAll ds ≤ m
  | [], _ => Nat.zero_le _
  | d :: r, h => by
    show max d.depth (PySem.PyData.depthAll r) ≤ m
    have h1 := h d List.mem_cons_self
    have h2 := depthAll_le fun x hx => h x (List.mem_cons_of_mem _ hx)
    omega
theorem depth_tup {m : Nat} {ds : List PyData} (h : ∀ d ∈ ds, d.depth ≤ m) : (PyData.tuple ds).depth ≤ m + 1 := by
  show PySem.PyData.depthAll ds + 1 ≤ m + 1
  have := depthAll_le h
  omega
theorem depth_lst {m : Nat} {ds : List PyData} (h : ∀ d ∈ ds, d.depth ≤ m) : (PyData.list ds).depth ≤ m + 1 := by
  show PySem.PyData.depthAll ds + 1 ≤ m + 1
  have := depthAll_le h
  omega
theorem lay_lit {x : Str} (h : PySem.PyData.strOk x = true) : (PyData.str x).canLay0 = true := h
theorem lay_str {x : Str} (h : isW x = true) : (PyData.str x).canLay0 = true := isW_ok h
/-! ### terms as data -/
def pdH : Hd → List PyData → PyData
  | .num z, _ => .tuple [.str "number", .int z]
  | .nam x, _ => .tuple [.str "name", .str x]
  | .plus, ds => .tuple (.str "plus" :: ds)
  | .less, ds => .tuple (.str "less" :: ds)
  | .tell, ds => .tuple (.str "tell" :: ds)
  | .lett x, ds => .tuple (.str "let" :: .str x :: ds)
  | .iff, ds => .tuple (.str "if" :: ds)
  | .ask f, ds => .tuple [.str "ask", .str f, .tuple ds]
def pd : Tm → PyData
  | .mk h _ k => pdH h (List.ofFn fun i => pd (k i))
theorem dp_fn {K : PySem.W.Frag} {H : Hp} : ∀ {n : Nat} {ys : _root_.Fin n → Addr} {ds : _root_.Fin n → PyData}, (∀ i, Dp K H (.ref (ys i)) (ds i)) → DpAll K H (Rfs ys) (List.ofFn ds)
  | 0, _, _, _ => .nil
  | n + 1, ys, ds, h => by
    unfold Rfs
    rw [List.ofFn_succ, List.ofFn_succ]
    exact .cons (h 0) (dp_fn (ys := fun i => ys i.succ) (ds := fun i => ds i.succ) fun i => h i.succ)
theorem dp_at {K : PySem.W.Frag} {H : Hp} : ∀ {t : Tm} {a : Addr}, At H t a → Dp K H (.ref a) (pd t) := by
  intro t
  induction t with
  | mk h n k ih =>
    rintro a ⟨ys, l, r⟩
    have d : DpAll K H (Rfs ys) (List.ofFn fun i => pd (k i)) := dp_fn fun i => ih i (r i)
    show Dp K H (.ref a) (pdH h (List.ofFn fun i => pd (k i)))
    generalize (List.ofFn fun i => pd (k i)) = ds at d
    cases h with
    | num z => exact .tup (SqT.of l.2) (.cons (.str _) (.cons (.int _) .nil))
    | nam z => exact .tup (SqT.of l.2) (.cons (.str _) (.cons (.str _) .nil))
    | lett x => exact .tup (SqT.of l.2) (.cons (.str _) (.cons (.str _) d))
    | ask f =>
      obtain ⟨_, p, h1, h2⟩ := l
      exact .tup (SqT.of h1) (.cons (.str _) (.cons (.str _) (.cons (.tup (SqT.of h2) d) .nil)))
    | _ => exact .tup (SqT.of l.2) (.cons (.str _) d)
theorem lay_pdH {h : Hd} {ds : List PyData} (o : okH h) (l : ∀ d ∈ ds, d.canLay0 = true) : (pdH h ds).canLay0 = true := by
  have la := layAll l
  cases h with
  | num z =>
    refine layAll fun d hd => ?_
    rcases List.mem_cons.mp hd with y | y
    · rw [y]
      exact lay_lit (by decide +kernel)
    · rw [List.mem_singleton.mp y]
      rfl
  | nam x =>
    refine layAll fun d hd => ?_
    rcases List.mem_cons.mp hd with z | z
    · rw [z]
      exact lay_lit (by decide +kernel)
    · rw [List.mem_singleton.mp z]
      exact isV_ok o
  | lett x =>
    refine layAll fun d hd => ?_
    rcases List.mem_cons.mp hd with z | z
    · rw [z]
      exact lay_lit (by decide +kernel)
    · rcases List.mem_cons.mp z with z | z
      · rw [z]
        exact lay_str o
      · exact l d z
  | ask f =>
    refine layAll fun d hd => ?_
    rcases List.mem_cons.mp hd with z | z
    · rw [z]
      exact lay_lit (by decide +kernel)
    · rcases List.mem_cons.mp z with z | z
      · rw [z]
        exact lay_str o
      · rw [List.mem_singleton.mp z]
        exact la
  | _ =>
    refine layAll fun d hd => ?_
    rcases List.mem_cons.mp hd with z | z
    · rw [z]
      exact lay_lit (by decide +kernel)
    · exact l d z
theorem lay_pd : ∀ {t : Tm}, okT t → (pd t).canLay0 = true := by
  intro t
  induction t with
  | mk h n k ih =>
    rintro ⟨o, r⟩
    refine lay_pdH o fun d hd => ?_
    obtain ⟨i, rfl⟩ := List.mem_ofFn.mp hd
    exact ih i (r i)
theorem depth_pdH {h : Hd} {m : Nat} {ds : List PyData} (l : ∀ d ∈ ds, d.depth ≤ m) : (pdH h ds).depth ≤ m + 2 := by
  cases h with
  | num z => exact Nat.le_trans (depth_tup (m := 0) fun d hd => by
      rcases List.mem_cons.mp hd with y | y
      · rw [y]
        exact Nat.le_refl 0
      · rw [List.mem_singleton.mp y]
        exact Nat.le_refl 0) (by omega)
  | nam x => exact Nat.le_trans (depth_tup (m := 0) fun d hd => by
      rcases List.mem_cons.mp hd with z | z
      · rw [z]
        exact Nat.le_refl 0
      · rw [List.mem_singleton.mp z]
        exact Nat.le_refl 0) (by omega)
  | lett x =>
    refine Nat.le_trans (depth_tup (m := m) fun d hd => ?_) (by omega)
    rcases List.mem_cons.mp hd with z | z
    · rw [z]
      exact Nat.zero_le _
    · rcases List.mem_cons.mp z with z | z
      · rw [z]
        exact Nat.zero_le _
      · exact l d z
  | ask f =>
    refine depth_tup (m := m + 1) fun d hd => ?_
    rcases List.mem_cons.mp hd with z | z
    · rw [z]
      exact Nat.zero_le _
    · rcases List.mem_cons.mp z with z | z
      · rw [z]
        exact Nat.zero_le _
      · rw [List.mem_singleton.mp z]
        exact depth_tup l
  | _ =>
    refine Nat.le_trans (depth_tup (m := m) fun d hd => ?_) (by omega)
    rcases List.mem_cons.mp hd with z | z
    · rw [z]
      exact Nat.zero_le _
    · exact l d z
theorem depth_pd : ∀ {n : Nat} {t : Tm}, HtLe n t → (pd t).depth ≤ 2 * n
  | 0, _, h => h.elim
  | n + 1, .mk h m k, r => by
    refine Nat.le_trans (depth_pdH (h := h) (m := 2 * n) fun d hd => ?_) (by omega)
    obtain ⟨i, rfl⟩ := List.mem_ofFn.mp hd
    exact depth_pd (r i)
theorem eqv_self {d : PyData} (h : SeqAt.shaped d = true) : PyData.eqv d d = true := SeqAt.eqv_refl d (SeqAt.canLay_of_shaped h)
theorem dp_ints {K : PySem.W.Frag} {H : Hp} : ∀ ks : List Int, DpAll K H (ks.map V.int) (ks.map PyData.int)
  | [] => .nil
  | k :: r => .cons (.int k) (dp_ints r)
/-! ### parts of turned books as data -/
def pdP : Pt → PyData
  | .give j t => .tuple [.str "give", .str j, pd t]
  | .ask f ts j => .tuple [.str "ask", .str f, .tuple (ts.map pd), .str j]
  | .tell x t p => .tuple [.str "tell", .str x, pd t, pdP p]
  | .lett x t p => .tuple [.str "let", .str x, pd t, pdP p]
  | .iff t p q => .tuple [.str "if", pd t, pdP p, pdP q]
  | .post j x p q => .tuple [.str "post", .str j, .str x, pdP p, pdP q]
theorem dp_refs {K : PySem.W.Frag} {H : Hp} : ∀ {ts : List Tm} {xs : List V}, All2 (RefV H) ts xs → DpAll K H xs (ts.map pd)
  | [], [], _ => .nil
  | _ :: _, _ :: _, ⟨⟨b, e, h⟩, r⟩ => by
    rw [e]
    exact .cons (dp_at h) (dp_refs r)
  | [], _ :: _, h => h.elim
  | _ :: _, [], h => h.elim
theorem dp_pat {K : PySem.W.Frag} {H : Hp} : ∀ {p : Pt} {a : Addr}, PAt H p a → Dp K H (.ref a) (pdP p)
  | .give j t, a, ⟨b, h1, h2⟩ => .tup (SqT.of h1) (.cons (.str _) (.cons (.str _) (.cons (dp_at h2) .nil)))
  | .ask f ts j, a, ⟨q, vs, h1, h2, h3⟩ => .tup (SqT.of h1) (.cons (.str _) (.cons (.str _) (.cons (.tup (SqT.of h2) (dp_refs h3)) (.cons (.str _) .nil))))
  | .tell x t p, a, ⟨b, c, h1, h2, h3⟩ => .tup (SqT.of h1) (.cons (.str _) (.cons (.str _) (.cons (dp_at h2) (.cons (dp_pat h3) .nil))))
  | .lett x t p, a, ⟨b, c, h1, h2, h3⟩ => .tup (SqT.of h1) (.cons (.str _) (.cons (.str _) (.cons (dp_at h2) (.cons (dp_pat h3) .nil))))
  | .iff t p q, a, ⟨b, c, d, h1, h2, h3, h4⟩ => .tup (SqT.of h1) (.cons (.str _) (.cons (dp_at h2) (.cons (dp_pat h3) (.cons (dp_pat h4) .nil))))
  | .post j x p q, a, ⟨c, d, h1, h2, h3⟩ => .tup (SqT.of h1) (.cons (.str _) (.cons (.str _) (.cons (.str _) (.cons (dp_pat h2) (.cons (dp_pat h3) .nil)))))
/-- a simple term, good -/
structure STm (t : Tm) : Prop where
  ok : okT t
  si : simple t = true
  cn : cnt t ≤ 3
  ht : HtLe 2 t
theorem SmT.st {hd : Str → Option Nat} {xs : List Str} {t : Tm} (h : SmT hd xs t) : STm t := ⟨h.ok, h.si, h.cn, h.ht⟩
/-- a part whose words are words -/
def kP : Pt → Prop
  | .give j t => PySem.PyData.strOk j = true ∧ STm t
  | .ask f ts j => PySem.PyData.strOk j = true ∧ isW f = true ∧ ts.length ≤ 4 ∧ ∀ t ∈ ts, STm t
  | .tell x t p => isW x = true ∧ STm t ∧ kP p
  | .lett x t p => isW x = true ∧ STm t ∧ kP p
  | .iff t p q => STm t ∧ kP p ∧ kP q
  | .post j x p q => isV j = true ∧ isV x = true ∧ kP p ∧ kP q
theorem okP_kP {hd : Str → Option Nat} : ∀ {p : Pt} {xs hs : List Str}, (∀ j ∈ hs, PySem.PyData.strOk j = true) → okP hd p xs hs → kP p
  | .give j t, _, _, hh, h => ⟨hh _ h.1, h.2.st⟩
  | .ask f ts j, _, _, hh, h => ⟨hh _ h.1, h.2.1, h.2.2.2.1, fun t ht => (h.2.2.2.2 t ht).st⟩
  | .tell x t p, _, _, hh, h => ⟨h.1, h.2.1.st, okP_kP hh h.2.2⟩
  | .lett x t p, _, _, hh, h => ⟨h.1, h.2.1.st, okP_kP hh h.2.2⟩
  | .iff t p q, _, _, hh, h => ⟨h.1.st, okP_kP hh h.2.1, okP_kP hh h.2.2⟩
  | .post j x p q, _, _, hh, h => ⟨isV_of h.1, isV_of h.2.1, okP_kP hh h.2.2.1, okP_kP (fun k hk => by
      rcases List.mem_append.mp hk with z | z
      · exact hh k z
      · rw [List.mem_singleton.mp z]
        exact isW_ok h.1) h.2.2.2⟩
theorem STm.lay {t : Tm} (h : STm t) : (pd t).canLay0 = true := lay_pd h.ok
theorem STm.dep {t : Tm} (h : STm t) : (pd t).depth ≤ 4 := depth_pd h.ht
theorem lay_cons {d : PyData} {ds : List PyData} (h1 : d.canLay0 = true) (h2 : PySem.PyData.canLayAll0 ds = true) : PySem.PyData.canLayAll0 (d :: ds) = true := Bool.and_eq_true_iff.mpr ⟨h1, h2⟩
theorem lay_pdP : ∀ {p : Pt}, kP p → (pdP p).canLay0 = true
  | .give j t, h => lay_cons (lay_lit (by decide +kernel)) (lay_cons (lay_lit h.1) (lay_cons h.2.lay rfl))
  | .ask f ts j, h => lay_cons (lay_lit (by decide +kernel)) (lay_cons (lay_str h.2.1) (lay_cons (layAll (ds := ts.map pd) fun d hd => by
      obtain ⟨t, ht, rfl⟩ := List.mem_map.mp hd
      exact (h.2.2.2 t ht).lay) (lay_cons (lay_lit h.1) rfl)))
  | .tell x t p, h => lay_cons (lay_lit (by decide +kernel)) (lay_cons (lay_str h.1) (lay_cons h.2.1.lay (lay_cons (lay_pdP h.2.2) rfl)))
  | .lett x t p, h => lay_cons (lay_lit (by decide +kernel)) (lay_cons (lay_str h.1) (lay_cons h.2.1.lay (lay_cons (lay_pdP h.2.2) rfl)))
  | .iff t p q, h => lay_cons (lay_lit (by decide +kernel)) (lay_cons h.1.lay (lay_cons (lay_pdP h.2.1) (lay_cons (lay_pdP h.2.2) rfl)))
  | .post j x p q, h => lay_cons (lay_lit (by decide +kernel)) (lay_cons (lay_lit (isV_ok h.1)) (lay_cons (lay_lit (isV_ok h.2.1)) (lay_cons (lay_pdP h.2.2.1) (lay_cons (lay_pdP h.2.2.2) rfl))))
theorem dep_str {m : Nat} {z : Str} : (PyData.str z).depth ≤ m := Nat.zero_le m
theorem depth_pdP : ∀ {p : Pt}, kP p → (pdP p).depth ≤ pcnt p + 5
  | .give j t, h => depth_tup (m := 5) (by
      intro d hd
      simp only [List.mem_cons, List.not_mem_nil, or_false] at hd
      rcases hd with z | z | z <;> subst z
      · exact dep_str
      · exact dep_str
      · exact Nat.le_trans h.2.dep (by decide))
  | .ask f ts j, h => depth_tup (m := 5) (by
      intro d hd
      simp only [List.mem_cons, List.not_mem_nil, or_false] at hd
      rcases hd with z | z | z | z <;> subst z
      · exact dep_str
      · exact dep_str
      · refine depth_tup (m := 4) fun d hd => ?_
        obtain ⟨t, ht, rfl⟩ := List.mem_map.mp hd
        exact (h.2.2.2 t ht).dep
      · exact dep_str)
  | .tell x t p, h => by
      have ih := depth_pdP h.2.2
      refine Nat.le_trans (depth_tup (m := pcnt p + 5) ?_) (by show pcnt p + 5 + 1 ≤ 1 + pcnt p + 5; omega)
      intro d hd
      simp only [List.mem_cons, List.not_mem_nil, or_false] at hd
      rcases hd with z | z | z | z <;> subst z
      · exact dep_str
      · exact dep_str
      · exact Nat.le_trans h.2.1.dep (by omega)
      · exact ih
  | .lett x t p, h => by
      have ih := depth_pdP h.2.2
      refine Nat.le_trans (depth_tup (m := pcnt p + 5) ?_) (by show pcnt p + 5 + 1 ≤ 1 + pcnt p + 5; omega)
      intro d hd
      simp only [List.mem_cons, List.not_mem_nil, or_false] at hd
      rcases hd with z | z | z | z <;> subst z
      · exact dep_str
      · exact dep_str
      · exact Nat.le_trans h.2.1.dep (by omega)
      · exact ih
  | .iff t p q, h => by
      have ih1 := depth_pdP h.2.1
      have ih2 := depth_pdP h.2.2
      refine Nat.le_trans (depth_tup (m := pcnt p + pcnt q + 5) ?_) (by show pcnt p + pcnt q + 5 + 1 ≤ 1 + pcnt p + pcnt q + 5; omega)
      intro d hd
      simp only [List.mem_cons, List.not_mem_nil, or_false] at hd
      rcases hd with z | z | z | z <;> subst z
      · exact dep_str
      · exact Nat.le_trans h.1.dep (by omega)
      · omega
      · omega
  | .post j x p q, h => by
      have ih1 := depth_pdP h.2.2.1
      have ih2 := depth_pdP h.2.2.2
      refine Nat.le_trans (depth_tup (m := pcnt p + pcnt q + 5) ?_) (by show pcnt p + pcnt q + 5 + 1 ≤ 1 + pcnt p + pcnt q + 5; omega)
      intro d hd
      simp only [List.mem_cons, List.not_mem_nil, or_false] at hd
      rcases hd with z | z | z | z | z <;> subst z
      · exact dep_str
      · exact dep_str
      · exact dep_str
      · omega
      · omega
/-! ### all parts and terms of a part, counted -/
def ncnt : Pt → Nat
  | .give _ t => 1 + cnt t
  | .ask _ ts _ => 1 + cnts ts
  | .tell _ t p => 1 + cnt t + ncnt p
  | .lett _ t p => 1 + cnt t + ncnt p
  | .iff t p q => 1 + cnt t + ncnt p + ncnt q
  | .post _ _ p q => 1 + ncnt p + ncnt q
theorem cnts_le {ts : List Tm} (h : ∀ t ∈ ts, STm t) : cnts ts ≤ 3 * ts.length := by
  induction ts with
  | nil => exact Nat.le_refl _
  | cons t r ih =>
    have h1 := (h t List.mem_cons_self).cn
    have h2 := ih fun u hu => h u (List.mem_cons_of_mem _ hu)
    rw [cnts_cons, List.length_cons]
    omega
theorem ncnt_le : ∀ {p : Pt}, kP p → ncnt p ≤ 13 * pcnt p
  | .give j t, h => by
    have := h.2.cn
    show 1 + cnt t ≤ 13 * 1
    omega
  | .ask f ts j, h => by
    have := cnts_le h.2.2.2
    have := h.2.2.1
    show 1 + cnts ts ≤ 13 * 1
    omega
  | .tell x t p, h => by
    have := h.2.1.cn
    have := ncnt_le h.2.2
    show 1 + cnt t + ncnt p ≤ 13 * (1 + pcnt p)
    omega
  | .lett x t p, h => by
    have := h.2.1.cn
    have := ncnt_le h.2.2
    show 1 + cnt t + ncnt p ≤ 13 * (1 + pcnt p)
    omega
  | .iff t p q, h => by
    have := h.1.cn
    have := ncnt_le h.2.1
    have := ncnt_le h.2.2
    show 1 + cnt t + ncnt p + ncnt q ≤ 13 * (1 + pcnt p + pcnt q)
    omega
  | .post j x p q, h => by
    have := ncnt_le h.2.2.1
    have := ncnt_le h.2.2.2
    show 1 + ncnt p + ncnt q ≤ 13 * (1 + pcnt p + pcnt q)
    omega
end KB

namespace HT
open PySem PySem.Spec PyProof.Rows
section
variable {prog : Program} {w : World} {A : Around} {E : Value → Shared → Prop} {s : Shared}
theorem sliceApplied_rev {sl : Addr} {vk : Value} {n : Nat} {Q : Int × Int × Nat → Shared → Prop} (hs : s.heap.IsSliceOf sl .none .none vk) (pk : IsPart vk (some (-1)))
    (h : Q ((n : Int) - 1, -1, n) s) : wpAny (model prog w) A (Builtin.Slice.sliceApplied (.ref sl) (pure (n : Int))) Q E s := by
  obtain ⟨os, hos, hcs, hds⟩ := id hs
  unfold Builtin.Slice.sliceApplied Builtin.Slice.sliceFields
  refine wpAny_bind (wpAny_bind (wpAny_field hos hds (x := .none) rfl (wpAny_bind (wpAny_field hos hds (x := .none) rfl (wpAny_bind (wpAny_field hos hds (x := vk) rfl (wpAny_pure ?_)))))))
  refine wpAny_bind (slicePart_ pk ?_)
  show wpAny _ _ (if ((-1 : Int) == 0) = true then _ else _) _ _ s
  rw [if_neg (by decide)]
  refine wpAny_bind (slicePart_none (wpAny_bind (slicePart_none (wpAny_bind (wpAny_pure ?_)))))
  show wpAny _ _ (pure ((n : Int) - 1, (-1 : Int), Builtin.Slice.slicePlaces ((n : Int) - 1) (-1) (-1))) _ _ s
  have e : Builtin.Slice.slicePlaces ((n : Int) - 1) (-1) (-1) = n := by
    unfold Builtin.Slice.slicePlaces
    have h1 : ¬ ((-1 : Int) > 0) := by omega
    have h2 : (-(-1) : Int) = 1 := by decide
    simp only [h1, if_false, h2, Int.ediv_one]
    split <;> omega
  rw [e]
  exact wpAny_pure h
theorem pick_rev (xs : Array Value) : ((List.range xs.size).filterMap fun (m : Nat) => xs[(((xs.size : Nat) : Int) - 1 + (m : Int) * (-1)).toNat]?).toArray = xs.toList.reverse.toArray := by
  have e : (fun (m : Nat) => xs[(((xs.size : Nat) : Int) - 1 + (m : Int) * (-1)).toNat]?) = fun m => xs[xs.size - 1 - m]? := by
    funext m
    have : (((xs.size : Nat) : Int) - 1 + (m : Int) * (-1)).toNat = xs.size - 1 - m := by omega
    rw [this]
  rw [e]
  have h := PySem.W.krv_range xs.size
  have e2 : (List.range xs.size).filterMap (fun m => xs[xs.size - 1 - m]?) = ((List.range xs.size).map fun k => xs.size - 1 - k).filterMap (xs[·]?) := by
    rw [List.filterMap_map]
    rfl
  rw [e2, h, List.filterMap_reverse, PySem.W.krv_all]
theorem getItem_tuple_rev {t sl : Addr} {items : Array Value} {vk : Value} {Q : Value → Shared → Prop} (ht : IsTup s.heap t items) (hs : s.heap.IsSliceOf sl .none .none vk) (pk : IsPart vk (some (-1)))
    (h : Q (.ref s.heap.objs.size) { s with heap := s.heap.push { cls := .type "tuple", data := .seq (items.toList.reverse).toArray } })
    (hsz : items.size ≤ sizeLine) : wpAny (model prog w) A (getItem (.ref t) (.ref sl)) Q E s := by
  have htake : sizeOk (.seq (items.toList.reverse).toArray) := by
    show (items.toList.reverse).toArray.size ≤ sizeLine
    rw [List.size_toArray, List.length_reverse, Array.length_toList]
    omega
  obtain ⟨os, hos, hcs, hds⟩ := id hs
  have hTs : s.TypeIs (.ref sl) "slice" := ⟨os, hos, hcs⟩
  unfold getItem
  try with_reducible refine wpAny_holding ?_
  first | refine wpAny_bind (wpAny_pure ?_) | skip
  refine wpAny_bind (wpAny_sequenceKey ht.typeIs (by decide) ?_)
  refine wpAny_bind (wpAny_callSpecial?_slot (name := Str.ofString "__getitem__") ht.typeIs PyProof.Rows.slot_tuple_getitem
    (wpAny_call_entry PyProof.Rows.slot_tuple_getitem ht.typeIs entry_tuple_getitem ?_ (args_tuple_getitem _ _)))
  show wpAny _ _ (Builtin.Tuple.tupleItemsOf (.ref t) >>= _) _ _ s
  refine wpAny_bind (tupleItemsOf_ ht ?_)
  refine wpAny_bind (wpAny_typeOf hTs ?_)
  rw [if_pos (by decide)]
  refine wpAny_bind (sliceApplied_rev hs pk ?_)
  have hno : ¬ ((((((items.size : Nat) : Int) - 1) == 0 && (-1 : Int) == 1 && items.size == items.size)) = true) := by
    intro q
    rw [Bool.and_eq_true, Bool.and_eq_true] at q
    exact absurd (eq_of_beq q.1.2) (by decide)
  show wpAny _ _ (if ((((items.size : Nat) : Int) - 1) == 0 && (-1 : Int) == 1 && items.size == items.size) = true then _ else _) _ _ s
  rw [if_neg hno, pick_rev]
  first
    | exact wpAny_bind (m := Builtin.Tuple.tupleExact _) (wpAny_newObj_type (wpAny_pure ⟨_, rfl, wpAny_pure h⟩) htake)
    | exact wpAny_bind (m := Builtin.Tuple.tupleExact _) (wpAny_newObj_type (wpAny_bind (wpAny_pure (wpAny_pure ⟨_, rfl, wpAny_pure h⟩))) htake)
    | exact wpAny_bind (wpAny_bind (m := Builtin.Tuple.tupleExact _) (wpAny_newObj_type (wpAny_pure (wpAny_pure ⟨_, rfl, wpAny_pure h⟩)) htake))
    | exact wpAny_bind (wpAny_bind (m := Builtin.Tuple.tupleExact _) (wpAny_newObj_type (wpAny_pure ⟨_, rfl, wpAny_pure h⟩) htake))
end
end HT

namespace KB
open PySem PySem.Spec PyProof.Rows L2
/-- t[::-1] of a tuple -/
def tRevT (K : PySem.W.Frag) (te : TE) (tk : TO) : TE := fun σ H Q => te σ H fun x H1 => tk σ H1 fun k H2 => k = some (-1) ∧ ∃ a xs, x = .ref a ∧ SqT K H2 a xs ∧ ∀ p, H2 p = none → Q (.ref p) (upd H2 p (.tup xs.reverse))
theorem pe_revT {X : Cx} {e : Expr} {te : TE} {st : Option Expr} {tk : TO} {pos p2 : Pos} (he : PE X e te) (hk : PO X st tk) (hs : ∀ a c : Addr, subscripted (.Slice none none st p2) false (.ref a) (.ref c) = operate [.ref a, .ref c] (getItem (.ref a) (.ref c)) := by intro _ _; rfl) : PE X (.Subscript e (.Slice none none st p2) pos) (tRevT X.K te tk) := by
  refine ⟨fun pins s σ H Q I h => ?_⟩
  refine Subscript_ (thn (he.run pins s σ H _ I h) fun v s1 ⟨x, H1, I1, r1, q1⟩ => ?_)
  refine wpAny_Slice (thn ((po_none (X := X)).run pins s1 σ H1 (fun l H' => l = none ∧ H' = H1) I1 ⟨rfl, rfl⟩) fun vl s2 ⟨l, H2, I2, pl, q2⟩ => thn ((po_none (X := X)).run pins s2 σ H2 (fun l H' => l = none ∧ H' = H1) I2 ⟨rfl, q2.2⟩) fun vu s3 ⟨u, H3, I3, pu, q3⟩ => ?_)
  obtain ⟨rfl, e2⟩ := q2
  obtain ⟨rfl, e3⟩ := q3
  subst e3
  cases pl
  cases pu
  refine thn (hk.run pins s3 σ H3 _ I3 q1) fun vk s4 ⟨k, H4, I4, pk, q4⟩ => ?_
  obtain ⟨rfl, a, xs, rfl, hx, q⟩ := q4
  have I5 : Inv X pins σ H4 { s4 with heap := s4.heap.push { cls := .type "slice", data := .fields #[.none, .none, vk] } } := I4.kept (t' := s4.toks) fun b ob q => Heap.get?_push_of_some _ q
  cases r1
  obtain ⟨its, r, ht, hz⟩ := I5.tuple hx
  have hlen : its.toArray.size = xs.length := by rw [List.size_toArray]; exact r.length.symm
  refine tail_any (T := "tuple") (ops := [.ref a, .ref s4.heap.objs.size]) ht.typeIs PyProof.Rows.slot_tuple_getitem.lookup ?_ (hs _ _)
  refine HT.getItem_tuple_rev ht (Heap.IsSliceOf.new ..) pk ?_ (by rw [hlen]; exact hz)
  refine ⟨.ref _, _, I5.laid (t' := s4.toks) (o := .tup xs.reverse) (fun b ob q => Heap.get?_push_of_some _ q) (Nat.le_refl _) ?_, rfl, q _ (I5.hok.fresh (Nat.le_refl _))⟩
  refine ⟨by rw [List.length_reverse]; exact hz, _, ?_, IsTup.new _ _⟩
  show Vals xs.reverse its.toArray.toList.reverse
  exact r.reverse
end KB

namespace KB
open PySem L2

/-! ### trees, whatever they are made of -/
def plL {N : Type} (pl : N → List (List Int × N)) : Nat → List N → List (List Int × N)
  | _, [] => []
  | j, t :: ts => (pl t).map (fun e => ((j : Int) :: e.1, e.2)) ++ plL pl (j + 1) ts
structure Tre (N : Type) where
  kids : N → List N
  sz : N → Nat
  pl : N → List (List Int × N)
  A : Hp → N → Addr → Prop
  tk : ∀ {H H' : Hp} {n : N} {a : Addr}, TK H H' → A H n a → A H' n a
  szk : ∀ n, sz n = 1 + ((kids n).map sz).sum
  plk : ∀ n, pl n = ([], n) :: plL pl 0 (kids n)
namespace Tre
variable {N : Type} (R : Tre N)
def V (H : Hp) (n : N) (v : L2.V) : Prop := ∃ b, v = .ref b ∧ R.A H n b
def szs (ns : List N) : Nat := (ns.map R.sz).sum
def pre (n : N) : List N := (R.pl n).map (·.2)
def pres (ns : List N) : List N := (ns.map R.pre).flatten
theorem V.tk {R : Tre N} {H H' : Hp} (e : TK H H') {n : N} {v : L2.V} (h : R.V H n v) : R.V H' n v := let ⟨b, e1, h1⟩ := h; ⟨b, e1, R.tk e h1⟩
theorem szs_cons (n : N) (r : List N) : R.szs (n :: r) = R.sz n + R.szs r := rfl
theorem szs_app (a b : List N) : R.szs (a ++ b) = R.szs a + R.szs b := by
  unfold szs
  rw [List.map_append, List.sum_append]
theorem pos (n : N) : 1 ≤ R.sz n := by
  rw [R.szk]
  omega
theorem len_szs : ∀ ns : List N, ns.length ≤ R.szs ns
  | [] => Nat.le_refl _
  | n :: r => by
    have h1 := R.pos n
    have h2 := len_szs r
    rw [R.szs_cons, List.length_cons]
    omega
theorem pres_cons (n : N) (r : List N) : R.pres (n :: r) = R.pre n ++ R.pres r := rfl
theorem pres_app (a b : List N) : R.pres (a ++ b) = R.pres a ++ R.pres b := by
  unfold pres
  rw [List.map_append, List.flatten_append]
theorem plL_snd : ∀ (ns : List N) (j : Nat), (plL R.pl j ns).map (·.2) = R.pres ns
  | [], _ => rfl
  | n :: r, j => by
    show ((R.pl n).map (fun e => ((j : Int) :: e.1, e.2)) ++ plL R.pl (j + 1) r).map (·.2) = R.pre n ++ R.pres r
    rw [List.map_append, plL_snd r, List.map_map]
    rfl
theorem pre_mk (n : N) : R.pre n = n :: R.pres (R.kids n) := by
  unfold pre
  rw [R.plk, List.map_cons, R.plL_snd]
theorem plL_len (h : ∀ n, (R.pl n).length = R.sz n) : ∀ (ns : List N) (j : Nat), (plL R.pl j ns).length = R.szs ns
  | [], _ => rfl
  | n :: r, j => by
    show ((R.pl n).map (fun e => ((j : Int) :: e.1, e.2)) ++ plL R.pl (j + 1) r).length = R.sz n + R.szs r
    rw [List.length_append, List.length_map, plL_len h r, h n]
theorem mem_szs {n : N} {ns : List N} (h : n ∈ ns) : R.sz n ≤ R.szs ns := by
  induction ns with
  | nil => cases h
  | cons a r ih =>
    rw [R.szs_cons]
    rcases List.mem_cons.mp h with z | z
    · subst z
      omega
    · have := ih z
      omega
theorem pl_len (m : Nat) : ∀ n, R.sz n ≤ m → (R.pl n).length = R.sz n := by
  induction m with
  | zero => intro n h; have := R.pos n; omega
  | succ m ih =>
    intro n h
    have e := R.szk n
    have go : ∀ (ns : List N) (j : Nat), R.szs ns ≤ m → (plL R.pl j ns).length = R.szs ns := by
      intro ns
      induction ns with
      | nil => intro j _; rfl
      | cons a r ihr =>
        intro j hj
        rw [R.szs_cons] at hj ⊢
        show ((R.pl a).map (fun e => ((j : Int) :: e.1, e.2)) ++ plL R.pl (j + 1) r).length = _
        rw [List.length_append, List.length_map, ihr (j + 1) (by omega), ih a (by omega)]
    rw [R.plk, List.length_cons, go (R.kids n) 0 (by show ((R.kids n).map R.sz).sum ≤ m; omega), e]
    show R.szs (R.kids n) + 1 = 1 + R.szs (R.kids n)
    omega
theorem pl_short (m : Nat) : ∀ n, R.sz n ≤ m → ∀ e ∈ R.pl n, e.1.length < R.sz n := by
  induction m with
  | zero => intro n h; have := R.pos n; omega
  | succ m ih =>
    intro n h
    have e := R.szk n
    have go : ∀ (ns : List N) (j : Nat), R.szs ns ≤ m → ∀ e ∈ plL R.pl j ns, e.1.length ≤ R.szs ns := by
      intro ns
      induction ns with
      | nil => intro j _ e he; cases he
      | cons a r ihr =>
        intro j hj e he
        rw [R.szs_cons] at hj ⊢
        have he' : e ∈ (R.pl a).map (fun e => ((j : Int) :: e.1, e.2)) ++ plL R.pl (j + 1) r := he
        rcases List.mem_append.mp he' with z | z
        · obtain ⟨e', h1, rfl⟩ := List.mem_map.mp z
          have := ih a (by omega) e' h1
          show e'.1.length + 1 ≤ _
          omega
        · have := ihr (j + 1) (by omega) e z
          omega
    intro x hx
    rw [R.plk] at hx
    have e2 : R.sz n = 1 + R.szs (R.kids n) := e
    rcases List.mem_cons.mp hx with z | z
    · subst z
      show 0 < R.sz n
      omega
    · have := go (R.kids n) 0 (by omega) x z
      omega
theorem sz_pl (m : Nat) : ∀ n, R.sz n ≤ m → ∀ e ∈ R.pl n, R.sz e.2 ≤ R.sz n := by
  induction m with
  | zero => intro n h; have := R.pos n; omega
  | succ m ih =>
    intro n h
    have e := R.szk n
    have go : ∀ (ns : List N) (j : Nat), R.szs ns ≤ m → ∀ e ∈ plL R.pl j ns, R.sz e.2 ≤ R.szs ns := by
      intro ns
      induction ns with
      | nil => intro j _ e he; cases he
      | cons a r ihr =>
        intro j hj e he
        rw [R.szs_cons] at hj ⊢
        have he' : e ∈ (R.pl a).map (fun e => ((j : Int) :: e.1, e.2)) ++ plL R.pl (j + 1) r := he
        rcases List.mem_append.mp he' with z | z
        · obtain ⟨e', h1, rfl⟩ := List.mem_map.mp z
          have := ih a (by omega) e' h1
          show R.sz e'.2 ≤ _
          omega
        · have := ihr (j + 1) (by omega) e z
          omega
    intro x hx
    rw [R.plk] at hx
    have e2 : R.sz n = 1 + R.szs (R.kids n) := e
    rcases List.mem_cons.mp hx with z | z
    · subst z
      exact Nat.le_refl _
    · have := go (R.kids n) 0 (by omega) x z
      omega
end Tre
theorem All2.rev {α : Type} {S : α → V → Prop} : ∀ {as : List α} {vs : List V}, All2 S as vs → All2 S as.reverse vs.reverse
  | [], [], _ => trivial
  | a :: as, v :: vs, h => by
    rw [List.reverse_cons, List.reverse_cons]
    exact (All2.rev h.2).app ⟨h.1, trivial⟩
  | [], _ :: _, h => h.elim
  | _ :: _, [], h => h.elim

section
variable {P : Program} {w : World} {K : PySem.W.Frag} {mg : Str → Option Value} {base : Heap}
/-- what a function promises that tells the parts right in a part -/
def spKids {N : Type} (R : Tre N) : Sp := fun vs H Q _ => ∃ (n : N) (a : Addr), vs = [.ref a] ∧ R.A H n a ∧ ∀ p H' us, Same H H' → H' p = some (.tup us) → All2 (R.V H') (R.kids n) us → Q (.ref p) H'
/-! ### met -/
def spMet {N : Type} (R : Tre N) (g : Addr) : Sp := fun vs H Q _ => ∃ (n : N) (a : Addr), vs = [.ref a, .ref g] ∧ R.A H n a ∧ R.sz n ≤ 1000 ∧ ∀ p H' its, H p = none → Same H H' → H' p = some (.lst its) → All2 (R.V H') (R.pre n) its → Q (.ref p) H'
def MetW {N : Type} (R : Tre N) (H : Hp) (a g fl wl : Addr) (n : N) (m : Nat) (σ : St) (H' : Hp) : Prop := ∃ o fv fs rs ts, σ = [some (.ref a), some (.ref g), some (.ref fl), some (.ref wl), o] ∧ Same H H' ∧ H' fl = some (.lst fv) ∧ All2 (R.V H') fs fv ∧ H' wl = some (.lst (List.reverse rs)) ∧ All2 (R.V H') ts rs ∧ m = R.szs ts ∧ fs.length + R.szs ts ≤ 1000 ∧ fs ++ R.pres ts = R.pre n
/-! ### placed -/
/-- a tuple that begins with pre -/
def PlV (H : Hp) (pre : List V) (ks : List Int) (v : V) : Prop := ∃ r, v = .ref r ∧ H r = some (.tup (pre ++ ks.map V.int))
theorem PlV.tk {H H' : Hp} (e : TK H H') {pre : List V} {ks : List Int} {v : V} (h : PlV H pre ks v) : PlV H' pre ks v :=
  let ⟨r, e1, h1⟩ := h; ⟨r, e1, e _ _ h1⟩
/-- a place and its part -/
def EntV {N : Type} (A : Hp → N → Addr → Prop) (H : Hp) (pre : List V) (kt : List Int × N) (v : V) : Prop := ∃ q r b, v = .ref q ∧ H q = some (.tup [.ref r, .ref b]) ∧ H r = some (.tup (pre ++ kt.1.map V.int)) ∧ A H kt.2 b
theorem EntV.tk {N : Type} {A : Hp → N → Addr → Prop} {H H' : Hp} (ta : ∀ {n : N} {a : Addr}, TK H H' → A H n a → A H' n a) (e : TK H H') {pre : List V} {kt : List Int × N} {v : V} (h : EntV A H pre kt v) : EntV A H' pre kt v :=
  let ⟨q, r, b, e1, h1, h2, h3⟩ := h; ⟨q, r, b, e1, e _ _ h1, e _ _ h2, ta e h3⟩
def entsN {N : Type} (ks : List Int) : Nat → List N → List (List Int × N)
  | _, [] => []
  | j, t :: ts => (ks ++ [(j : Int)], t) :: entsN ks (j + 1) ts
theorem entsN_snd {N : Type} {ks : List Int} : ∀ {ts : List N} {j : Nat}, (entsN ks j ts).map (·.2) = ts
  | [], _ => rfl
  | t :: ts, j => by
    show t :: (entsN ks (j + 1) ts).map (·.2) = t :: ts
    rw [entsN_snd]
theorem entsN_drop {N : Type} {ks : List Int} {kl : List N} {i : Nat} (h : i < kl.length) : entsN ks i (kl.drop i) = (ks ++ [(i : Int)], kl[i]) :: entsN ks (i + 1) (kl.drop (i + 1)) := by
  rw [List.drop_eq_getElem_cons h]
  rfl
namespace Tre
variable {N : Type} (R : Tre N)
def at_ (ks : List Int) (l : List (List Int × N)) : List (List Int × N) := l.map fun e => (ks ++ e.1, e.2)
def spread (es : List (List Int × N)) : List (List Int × N) := (es.map fun kt => at_ kt.1 (R.pl kt.2)).flatten
def ecnt (es : List (List Int × N)) : Nat := R.szs (es.map (·.2))
theorem spread_cons {e : List Int × N} {r : List (List Int × N)} : R.spread (e :: r) = at_ e.1 (R.pl e.2) ++ R.spread r := rfl
theorem spread_app {a b : List (List Int × N)} : R.spread (a ++ b) = R.spread a ++ R.spread b := by
  unfold spread
  rw [List.map_append, List.flatten_append]
theorem spread_ents {ks : List Int} : ∀ {ts : List N} {j : Nat}, R.spread (entsN ks j ts) = at_ ks (plL R.pl j ts)
  | [], _ => rfl
  | t :: ts, j => by
    show R.spread ((ks ++ [(j : Int)], t) :: entsN ks (j + 1) ts) = at_ ks ((R.pl t).map (fun e => ((j : Int) :: e.1, e.2)) ++ plL R.pl (j + 1) ts)
    rw [R.spread_cons, spread_ents]
    unfold at_
    rw [List.map_append, List.map_map]
    congr 1
    refine List.map_congr_left fun p _ => ?_
    show ((ks ++ [(j : Int)]) ++ p.1, p.2) = (ks ++ ((j : Int) :: p.1), p.2)
    rw [List.append_assoc]
    rfl
end Tre
def spPlaced {N : Type} (R : Tre N) (gp : Addr) : Sp := fun vs H Q _ => ∃ (nm : Str) (a : Addr) (n : N), vs = [.str nm, .ref a, .ref gp] ∧ R.A H n a ∧ R.sz n ≤ 1000 ∧ ∀ p H' its, H p = none → Same H H' → H' p = some (.lst its) → All2 (EntV R.A H' [.str nm]) (R.pl n) its → Q (.ref p) H'
abbrev splaced : Stmt := top 5
theorem scplaced : FnScope ["name", "body", "parts", "found", "waiting", "place", "part", "own", "k"] ["name", "body", "parts"] (defScope splaced) := ⟨rfl, rfl, rfl, by decide +kernel, rfl, by decide +kernel, by decide +kernel⟩
def PldW {N : Type} (R : Tre N) (H : Hp) (nm : Str) (a gp fl wl : Addr) (t : N) (m : Nat) (σ : St) (H' : Hp) : Prop := ∃ o1 o2 o3 o4 fs fv rs es, σ = [some (.str nm), some (.ref a), some (.ref gp), some (.ref fl), some (.ref wl), o1, o2, o3, o4] ∧ Same H H' ∧ H fl = none ∧ H wl = none ∧ fl ≠ wl ∧
  H' fl = some (.lst fv) ∧ All2 (EntV R.A H' [.str nm]) fs fv ∧ H' wl = some (.lst (List.reverse rs)) ∧ All2 (EntV R.A H' [.str nm]) es rs ∧ m = R.ecnt es ∧ fs.length + R.ecnt es ≤ 1000 ∧ fs ++ R.spread es = R.pl t
/-- within the loop over the parts, i of them put there -/
def PldI {N : Type} (R : Tre N) (H : Hp) (nm : Str) (a gp fl wl b ra pp : Addr) (fs : List (List Int × N)) (ks : List Int) (kl : List N) (es : List (List Int × N)) (ys : List V) (i : Nat) (σ : St) (H' : Hp) : Prop :=
  ∃ o4, σ = [some (.str nm), some (.ref a), some (.ref gp), some (.ref fl), some (.ref wl), some (.ref ra), some (.ref b), some (.ref pp), o4] ∧ Same H H' ∧ (∃ fv, H' fl = some (.lst fv) ∧ All2 (EntV R.A H' [.str nm]) fs fv) ∧
  (∃ rs, H' wl = some (.lst (List.reverse rs)) ∧ All2 (EntV R.A H' [.str nm]) (entsN ks (kl.length - i) (kl.drop (kl.length - i)) ++ es) rs) ∧ H' ra = some (.tup (.str nm :: ks.map V.int)) ∧ H' pp = some (.tup ys) ∧ All2 (R.V H') kl ys
theorem ok_placed {N : Type} (R : Tre N) (T : Txt K mg) {k : Nat} {f g : Addr} {fd gd : FuncData} {x : Str} (F : Fun K "placed" "placed" splaced f fd) (Gparts : FnOk P w K mg base CX0 k g gd [x] (spKids R)) (kk : PySem.W.keepIn K (.ref g) = true) (bb : Binds K gd [x] []) : FnOk P w K mg base CX0 (k + 1) f fd ["name", "body", "parts"] (spPlaced R g) := by
  refine F.ok scplaced (fun vs H Q E h => ?_) (fun cdv A outer s H vs Q E hr h => ?_)
  · obtain ⟨nm, a, t, rfl, _⟩ := h
    rfl
  obtain ⟨nm, a, t, rfl, hA, hc, q⟩ := h
  refine ⟨_, (pss_cons (ps_set (i := 3) scplaced.nd rfl (Or.inl rfl) (pe_lst pa_nil))
    (pss_cons (ps_set (i := 4) scplaced.nd rfl (Or.inl rfl) (pe_lst (pa_cons (pe_tup (pa_cons (pe_tup (pa_cons (pv 0) pa_nil)) (pa_cons (pv 1) pa_nil))) pa_nil)))
    (pss_cons (ps_while PassesOwn.never (pt_truth (pv 4) (by intro _; rfl)) (pss_cons (ps_asg (pe_bm0 PySem.F.plainAttrs_list PySem.F.slot_list_pop PySem.F.type_list_pop mt_pop (pv 4)) (pg_tup rfl (pgs_cons (pg_name (i := 5) scplaced.nd rfl (Or.inl rfl)) (pgs_cons (pg_name (i := 6) scplaced.nd rfl (Or.inl rfl)) pgs_nil))))
    (pss_cons (ps_expr (pe_bm PySem.F.plainAttrs_list PySem.F.slot_list_append PySem.F.type_list_append mt_append (pv 3) (pa_cons (pe_tup (pa_cons (pv 5) (pa_cons (pv 6) pa_nil))) pa_nil)))
    (pss_cons (ps_set (i := 7) scplaced.nd rfl (Or.inl rfl) (pe_callL (i := 2) Gparts (hr.mono (by omega)) rfl (.inl rfl) kk bb .nil pass0 (pa_cons (pv 6) pa_nil)))
    (pss_one (ps_for PassesOwn.never rfl (pi_revR rfl T.m_reversed (prg_1 rfl T.m_range (pe_callB call_len_seq (by rfl) T.m_len PySem.boot_len (pa_cons (pv 7) pa_nil)))) (pg_name (i := 8) scplaced.nd rfl (Or.inl rfl)) (pss_one (ps_expr (pe_bm PySem.F.plainAttrs_list PySem.F.slot_list_append PySem.F.type_list_append mt_append (pv 4) (pa_cons (pe_tup (pa_cons (pe_tup (StX.pa_star (pv 5) (pa_cons (pv 8) pa_nil))) (pa_cons (pe_ix ix_tup (pv 7) (pv 8) (fun _ _ => rfl)) pa_nil))) pa_nil))))))))))
    (pss_one (ps_ret (pv 3)))))), ?_⟩
  refine ⟨sz (by show 0 ≤ 100000; decide), fun fl hfl => ?_⟩
  have s0 := same_new hfl (.lst [])
  refine ⟨_, rfl, sz (by show 1 ≤ 100000; decide), fun p0 hp0 => ?_⟩
  have s1 := same_new hp0 (.tup [.str nm])
  refine ⟨_, rfl, sz (by show 2 ≤ 100000; decide), fun p1 hp1 => ?_⟩
  have s2 := same_new hp1 (.tup [.ref p0, .ref a])
  refine ⟨sz (by show 1 ≤ 100000; decide), fun wl hwl => ?_⟩
  have s3 := same_new hwl (.lst [.ref p1])
  have hfl3 := s3 _ _ (s2 _ _ (s1 _ _ (upd_same (H := H) (a := fl) (o := .lst []))))
  have hwf : fl ≠ wl := ne_of_none (s2 _ _ (s1 _ _ upd_same)) hwl
  have sA : Same H _ := s0.trans (s1.trans (s2.trans s3))
  refine ⟨PldW R H nm a g fl wl t, ⟨_, none, none, none, none, [], [], [.ref p1], [([], t)], rfl, sA, hfl, (s0.trans (s1.trans s2)).free hwl, hwf, hfl3, trivial, upd_same, ⟨⟨p1, p0, a, rfl, s3 _ _ upd_same, s3 _ _ (s2 _ _ upd_same), R.tk (tk_same sA) hA⟩, trivial⟩, rfl, ?_, ?_⟩, ?_⟩
  · show 0 + (R.sz t + 0) ≤ 1000
    omega
  · rw [R.spread_cons]
    show [] ++ ((R.pl t).map (fun e => ([] ++ e.1, e.2)) ++ []) = R.pl t
    simp
  clear hfl3 s3 hwl s2 hp1 s1 hp0 s0 sA
  rintro m σ H1 ⟨o1, o2, o3, o4, fs, fv, rs, es, rfl, s1, hf0, hw0, _, h1, k1, h2, k2, rfl, hm, hP⟩
  refine ⟨_, rfl, _, .inl ⟨_, SqL.of h2, rfl⟩, ?_⟩
  cases rs with
  | nil =>
    cases es with
    | cons _ _ => exact k2.elim
    | nil =>
      refine itF rfl ⟨_, rfl, ?_⟩
      have e : fs = R.pl t := by
        rw [← hP]
        exact (List.append_nil fs).symm
      subst e
      exact q _ _ _ hfl s1 h1 k1
  | cons r rs =>
    cases es with
    | nil => exact k2.elim
    | cons e1 es =>
      obtain ⟨ks, t1⟩ := e1
      obtain ⟨⟨qa, ra, b, rfl, g1, g2, g3⟩, k3⟩ := k2
      refine itT (by simp) ⟨fun σ' H' => ∃ m', m' < R.ecnt ((ks, t1) :: es) ∧ PldW R H nm a g fl wl t m' σ' H', fun _ _ z => z, ?_⟩
      -- place, part = waiting.pop()
      refine ⟨_, rfl, .inl ⟨rfl, _, SqL.of h2⟩, wl, _, .ref qa, rfl, rfl, h2, by simp, ?_⟩
      have eD : ((V.ref qa :: rs).reverse).dropLast = rs.reverse := by rw [List.reverse_cons, List.dropLast_concat]
      rw [eD]
      have tk2 : TK H1 (upd H1 wl (.lst rs.reverse)) := tk_put h2
      have s2 : Same H (upd H1 wl (.lst rs.reverse)) := same_mut s1 hw0
      have w2 : upd H1 wl (.lst rs.reverse) wl = some (.lst rs.reverse) := upd_same
      have f2 : upd H1 wl (.lst rs.reverse) fl = some (.lst fv) := by
        rw [upd_ne hwf]
        exact h1
      have k4 := k1.imp fun _ _ z => EntV.tk R.tk tk2 z
      have k5 := k3.imp fun _ _ z => EntV.tk R.tk tk2 z
      have g4 := tk2 _ _ g1
      have g5 := tk2 _ _ g2
      have g6 := R.tk tk2 g3
      clear tk2
      generalize upd H1 wl (.lst rs.reverse) = H2 at s2 w2 f2 k4 k5 g4 g5 g6
      refine ⟨qa, _, rfl, SqT.of g4, rfl, _, _, rfl, _, _, rfl, rfl, ?_⟩
      -- found.append((place, part))
      have hfs := k4.len
      refine ⟨_, rfl, .inl ⟨rfl, _, SqL.of f2⟩, _, rfl, _, rfl, sz (by show 2 ≤ 100000; decide), fun p2 hp2 => ?_⟩
      have s3 := same_new hp2 (.tup [.ref ra, .ref b])
      have f3 := s3 _ _ f2
      refine ⟨fl, _, _, rfl, rfl, f3, Nat.lt_of_le_of_lt (m := 1000) (by omega) (by decide), ?_⟩
      have tk3 : TK H2 (upd (upd H2 p2 (.tup [.ref ra, .ref b])) fl (.lst (fv ++ [.ref p2]))) := (tk_same s3).trans (tk_put f3)
      have s4 : Same H (upd (upd H2 p2 (.tup [.ref ra, .ref b])) fl (.lst (fv ++ [.ref p2]))) := same_mut (s2.trans s3) hf0
      have f4 : upd (upd H2 p2 (.tup [.ref ra, .ref b])) fl (.lst (fv ++ [.ref p2])) fl = some (.lst (fv ++ [.ref p2])) := upd_same
      have w4 : upd (upd H2 p2 (.tup [.ref ra, .ref b])) fl (.lst (fv ++ [.ref p2])) wl = some (.lst rs.reverse) := by
        rw [upd_ne (Ne.symm hwf)]
        exact s3 _ _ w2
      have g7 : upd (upd H2 p2 (.tup [.ref ra, .ref b])) fl (.lst (fv ++ [.ref p2])) p2 = some (.tup [.ref ra, .ref b]) := tk_put f3 _ _ upd_same
      have g8 := tk3 _ _ g5
      have g9 := R.tk tk3 g6
      have k6 : All2 (EntV R.A _ [.str nm]) (fs ++ [(ks, t1)]) (fv ++ [.ref p2]) := (k4.imp fun _ _ z => EntV.tk R.tk tk3 z).app ⟨⟨p2, _, _, rfl, g7, g8, g9⟩, trivial⟩
      have k7 := k5.imp fun _ _ z => EntV.tk R.tk tk3 z
      clear tk3 g7
      generalize upd (upd H2 p2 (.tup [.ref ra, .ref b])) fl (.lst (fv ++ [.ref p2])) = H4 at s4 f4 w4 k6 k7 g8 g9
      -- own = parts(part)
      refine ⟨rfl, _, rfl, t1, b, rfl, g9, fun pp H5 ys s5 g10 hys => ?_⟩
      have f5 := s5 _ _ f4
      have w5 := s5 _ _ w4
      have s6 : Same H H5 := s4.trans s5
      have k8 := k6.imp fun _ _ z => EntV.tk R.tk (tk_same s5) z
      have k9 := k7.imp fun _ _ z => EntV.tk R.tk (tk_same s5) z
      have g11 := s5 _ _ g8
      have hkl := hys.len
      have hec : R.ecnt ((ks, t1) :: es) = 1 + R.szs (R.kids t1) + R.ecnt es := by
        show R.sz t1 + R.ecnt es = _
        rw [R.szk]
        rfl
      have hnk := R.len_szs (R.kids t1)
      have hes := R.len_szs (es.map (·.2))
      rw [List.length_map] at hes
      have hes2 : es.length ≤ R.ecnt es := hes
      refine ⟨_, rfl, pp, _, rfl, .inr (SqT.of g10), _, rfl, by decide, by decide, by omega, by omega, ?_⟩
      rw [hkl]
      generalize hn : (R.kids t1).length = n at hkl hnk
      have e0 : ((n : Int) - 0).toNat = n := by omega
      rw [e0]
      refine for_rangeC (lo := 0 + (n : Int) - 1) (c := -1) (n := n) (PldI R H nm a g fl wl b ra pp (fs ++ [(ks, t1)]) ks (R.kids t1) es ys) ?_ ?_ ?_
      · refine ⟨_, rfl, s6, ⟨_, f5, k8⟩, ⟨rs, w5, ?_⟩, g11, g10, hys⟩
        rw [Nat.sub_zero, List.drop_length]
        exact k9
      · rintro i σ' H6 hi ⟨o4', rfl, r1, ⟨fv6, r2, r3⟩, ⟨rs6, r4, r5⟩, r6, r7, r8⟩
        rw [hn] at r5
        have hj : n - i - 1 < n := by omega
        have ej : (0 : Int) + (n : Int) - 1 + ((i : Nat) : Int) * (-1) = ((n - i - 1 : Nat) : Int) := by omega
        rw [ej]
        obtain ⟨v, hv⟩ : ∃ v, ys[n - i - 1]? = some v := ⟨_, List.getElem?_eq_getElem (by rw [hkl]; exact hj)⟩
        obtain ⟨tj, htj, bj, rfl, hbj⟩ := r8.get hv
        have hes6 := r5.len
        rw [List.length_append] at hes6
        have hle6 : (entsN ks (n - i) ((R.kids t1).drop (n - i))).length ≤ n := by
          have z := congrArg List.length (entsN_snd (ks := ks) (ts := (R.kids t1).drop (n - i)) (j := n - i))
          rw [List.length_map, List.length_drop, hn] at z
          omega
        refine ⟨_, rfl, .inl ⟨rfl, _, SqL.of r4⟩, _, rfl, ra, _, rfl, .inl (SqT.of r6), _, rfl, sz ?_, fun p3 hp3 => ?_⟩
        · have z9 : (ks, t1) ∈ R.pl t := by
            rw [← hP, R.spread_cons]
            refine List.mem_append_right _ (List.mem_append_left _ ?_)
            show (ks, t1) ∈ (R.pl t1).map (fun e => (ks ++ e.1, e.2))
            rw [R.plk, List.map_cons]
            exact List.mem_cons.mpr (.inl (by rw [List.append_nil]))
          have z8 := R.pl_short _ t (Nat.le_refl _) _ z9
          show ((.str nm :: ks.map V.int) ++ [V.int ((n - i - 1 : Nat) : Int)]).length ≤ 100000
          rw [List.length_append, List.length_cons, List.length_map, List.length_singleton]
          have z7 : ks.length < R.sz t := z8
          omega
        have t3 := same_new hp3 (.tup ((.str nm :: ks.map V.int) ++ [.int ((n - i - 1 : Nat) : Int)]))
        refine ⟨_, rfl, _, rfl, pp, _, _, _, rfl, rfl, SqT.of (t3 _ _ r7), atI_nat hv, sz (by show 2 ≤ 100000; decide), fun p4 hp4 => ?_⟩
        have t4 := same_new hp4 (.tup [.ref p3, .ref bj])
        have w6 := t4 _ _ (t3 _ _ r4)
        refine ⟨wl, _, _, rfl, rfl, w6, Nat.lt_of_le_of_lt (m := 2000) (by rw [List.length_reverse]; omega) (by decide), ?_⟩
        have tt := t3.trans t4
        have tk6 := (tk_same tt).trans (tk_put (o := .lst (rs6.reverse ++ [.ref p4])) w6)
        refine ⟨_, rfl, same_mut (r1.trans tt) hw0, ⟨fv6, ?_, r3.imp fun _ _ z => EntV.tk R.tk tk6 z⟩, ⟨.ref p4 :: rs6, ?_, ?_⟩, tk6 _ _ r6, tk6 _ _ r7, r8.imp fun _ _ z => Tre.V.tk tk6 z⟩
        · rw [upd_ne hwf]
          exact tt _ _ r2
        · rw [upd_same, List.reverse_cons]
        · rw [hn]
          have e2 : n - (i + 1) = n - i - 1 := by omega
          have e3 : n - i - 1 + 1 = n - i := by omega
          rw [e2, entsN_drop (by rw [hn]; exact hj), e3]
          refine ⟨⟨p4, p3, bj, rfl, ?_, ?_, ?_⟩, r5.imp fun _ _ z => EntV.tk R.tk tk6 z⟩
          · exact tk_put w6 _ _ upd_same
          · have z := (tk_same t4).trans (tk_put (o := .lst (rs6.reverse ++ [.ref p4])) w6) _ _ (upd_same (H := H6) (a := p3) (o := .tup ((.str nm :: ks.map V.int) ++ [.int ((n - i - 1 : Nat) : Int)])))
            rw [z]
            simp
          · have e9 : (R.kids t1)[n - i - 1]'(by rw [hn]; exact hj) = tj := by
              rw [List.getElem?_eq_getElem (by rw [hn]; exact hj)] at htj
              exact Option.some.inj htj
            show R.A _ ((R.kids t1)[n - i - 1]'(by rw [hn]; exact hj)) bj
            rw [e9]
            exact R.tk tk6 hbj
      · rintro σ' H6 ⟨o4', rfl, r1, ⟨fv6, r2, r3⟩, ⟨rs6, r4, r5⟩, r6, r7, r8⟩
        rw [hn, Nat.sub_self, List.drop_zero] at r5
        have e3 : R.ecnt (entsN ks 0 (R.kids t1) ++ es) = R.szs (R.kids t1) + R.ecnt es := by
          unfold Tre.ecnt
          rw [List.map_append, entsN_snd, R.szs_app]
        refine ⟨_, ?_, _, _, _, _, fs ++ [(ks, t1)], fv6, rs6, _, rfl, r1, hf0, hw0, hwf, r2, r3, r4, r5, rfl, ?_, ?_⟩
        · rw [e3, hec]
          omega
        · rw [e3, List.length_append, List.length_singleton]
          omega
        · rw [← hP, R.spread_cons, R.spread_app, R.spread_ents, R.plk]
          unfold Tre.at_
          simp
end
end KB

namespace KB
open PySem L2

def termsP : Pt → List Tm
  | .give _ t => [t]
  | .ask _ ts _ => ts
  | .tell _ t _ => [t]
  | .lett _ t _ => [t]
  | .iff t _ _ => [t]
  | .post _ _ _ _ => []
def restP : Pt → List Pt
  | .give _ _ => []
  | .ask _ _ _ => []
  | .tell _ _ p => [p]
  | .lett _ _ p => [p]
  | .iff _ p q => [p, q]
  | .post _ _ p q => [p, q]
/-! ### turned parts as a tree -/
def plP : Pt → List (List Int × Pt)
  | .give j t => [([], .give j t)]
  | .ask f ts j => [([], .ask f ts j)]
  | .tell x t p => ([], .tell x t p) :: ((plP p).map (fun e => (((0 : Nat) : Int) :: e.1, e.2)) ++ [])
  | .lett x t p => ([], .lett x t p) :: ((plP p).map (fun e => (((0 : Nat) : Int) :: e.1, e.2)) ++ [])
  | .iff t p q => ([], .iff t p q) :: ((plP p).map (fun e => (((0 : Nat) : Int) :: e.1, e.2)) ++ ((plP q).map (fun e => (((1 : Nat) : Int) :: e.1, e.2)) ++ []))
  | .post j x p q => ([], .post j x p q) :: ((plP p).map (fun e => (((0 : Nat) : Int) :: e.1, e.2)) ++ ((plP q).map (fun e => (((1 : Nat) : Int) :: e.1, e.2)) ++ []))
def TrP : Tre Pt where
  kids := restP
  sz := pcnt
  pl := plP
  A := PAt
  tk e h := PAt.tk e h
  szk n := by cases n <;> simp [pcnt, restP, Nat.add_assoc]
  plk n := by cases n <;> rfl
/-! ### turned parts and their terms as a tree -/
abbrev Nd := Pt ⊕ Tm
def plT : Tm → List (List Int × Nd)
  | .mk h n k => ([], .inr (.mk h n k)) :: (List.ofFn fun i : Fin n => (plT (k i)).map (fun e => ((i.val : Int) :: e.1, e.2))).flatten
def plTs : Nat → List Tm → List (List Int × Nd)
  | _, [] => []
  | j, t :: ts => (plT t).map (fun e => ((j : Int) :: e.1, e.2)) ++ plTs (j + 1) ts
def plQ : Pt → List (List Int × Nd)
  | .give j t => ([], .inl (.give j t)) :: ((plT t).map (fun e => (((0 : Nat) : Int) :: e.1, e.2)) ++ [])
  | .ask f ts j => ([], .inl (.ask f ts j)) :: plTs 0 ts
  | .tell x t p => ([], .inl (.tell x t p)) :: ((plT t).map (fun e => (((0 : Nat) : Int) :: e.1, e.2)) ++ ((plQ p).map (fun e => (((1 : Nat) : Int) :: e.1, e.2)) ++ []))
  | .lett x t p => ([], .inl (.lett x t p)) :: ((plT t).map (fun e => (((0 : Nat) : Int) :: e.1, e.2)) ++ ((plQ p).map (fun e => (((1 : Nat) : Int) :: e.1, e.2)) ++ []))
  | .iff t p q => ([], .inl (.iff t p q)) :: ((plT t).map (fun e => (((0 : Nat) : Int) :: e.1, e.2)) ++ ((plQ p).map (fun e => (((1 : Nat) : Int) :: e.1, e.2)) ++ ((plQ q).map (fun e => (((2 : Nat) : Int) :: e.1, e.2)) ++ [])))
  | .post j x p q => ([], .inl (.post j x p q)) :: ((plQ p).map (fun e => (((0 : Nat) : Int) :: e.1, e.2)) ++ ((plQ q).map (fun e => (((1 : Nat) : Int) :: e.1, e.2)) ++ []))
def plN : Nd → List (List Int × Nd)
  | .inl p => plQ p
  | .inr t => plT t
def kidsN : Nd → List Nd
  | .inl p => (termsP p).map .inr ++ (restP p).map .inl
  | .inr (.mk _ _ k) => (List.ofFn k).map .inr
def szN : Nd → Nat
  | .inl p => ncnt p
  | .inr t => cnt t
def NAt (H : Hp) : Nd → Addr → Prop
  | .inl p, a => PAt H p a ∧ kP p
  | .inr t, a => At H t a ∧ simple t = true
theorem plTs_plL : ∀ (ts : List Tm) (j : Nat), plTs j ts = plL plN j (ts.map .inr)
  | [], _ => rfl
  | t :: ts, j => by
    show (plT t).map (fun e => ((j : Int) :: e.1, e.2)) ++ plTs (j + 1) ts = (plT t).map (fun e => ((j : Int) :: e.1, e.2)) ++ plL plN (j + 1) (ts.map .inr)
    rw [plTs_plL ts (j + 1)]
theorem plT_fn : ∀ {n : Nat} {k : Fin n → Tm} {j : Nat}, (List.ofFn fun i : Fin n => (plT (k i)).map (fun e => (((j + i.val : Nat) : Int) :: e.1, e.2))).flatten = plTs j (List.ofFn k)
  | 0, _, _ => rfl
  | n + 1, k, j => by
    rw [List.ofFn_succ, List.ofFn_succ, List.flatten_cons]
    show _ = (plT (k 0)).map (fun e => ((j : Int) :: e.1, e.2)) ++ plTs (j + 1) _
    rw [← plT_fn (k := fun i => k i.succ) (j := j + 1)]
    congr 3
    · funext i
      have e : j + (i.succ).val = j + 1 + i.val := by
        rw [Fin.val_succ]
        omega
      rw [e]
theorem plT_mk {h : Hd} {n : Nat} {k : Fin n → Tm} : plT (.mk h n k) = ([], .inr (.mk h n k)) :: plTs 0 (List.ofFn k) := by
  rw [← plT_fn]
  show _ :: _ = _
  congr 4
  funext i
  rw [Nat.zero_add]
theorem szs_inr (ts : List Tm) : ((ts.map Sum.inr).map szN).sum = cnts ts := by
  rw [List.map_map]
  rfl
def TrN : Tre Nd where
  kids := kidsN
  sz := szN
  pl := plN
  A := NAt
  tk {H H' n a} e h := by
    cases n with
    | inl p => exact ⟨PAt.tk e h.1, h.2⟩
    | inr t => exact ⟨h.1.tk e, h.2⟩
  szk n := by
    cases n with
    | inl p =>
      cases p with
      | ask f ts j =>
        show 1 + cnts ts = 1 + (((ts.map Sum.inr ++ []).map szN)).sum
        rw [List.append_nil, szs_inr]
      | _ => simp [szN, ncnt, kidsN, termsP, restP, Nat.add_assoc]
    | inr t =>
      obtain ⟨h, n, k⟩ := t
      show cnt (.mk h n k) = 1 + (((List.ofFn k).map Sum.inr).map szN).sum
      rw [szs_inr, cnt_mk]
  plk n := by
    cases n with
    | inl p =>
      cases p with
      | ask f ts j =>
        show ([], .inl (.ask f ts j)) :: plTs 0 ts = ([], .inl (.ask f ts j)) :: plL plN 0 (ts.map .inr ++ [])
        rw [List.append_nil, plTs_plL]
      | _ => rfl
    | inr t =>
      obtain ⟨h, n, k⟩ := t
      show plT (.mk h n k) = ([], .inr (.mk h n k)) :: plL plN 0 ((List.ofFn k).map .inr)
      rw [plT_mk, plTs_plL]
theorem cut3 {x y z : V} {r : List V} : cutV (x :: y :: z :: r) (some 3) none = r := cut_from (i := 3) (by decide) (Nat.succ_le_succ len2)
theorem len3 {α : Type} {x y z : α} {r : List α} : 3 ≤ (x :: y :: z :: r).length := Nat.succ_le_succ len2
theorem all2_fn {H : Hp} : ∀ {n : Nat} {k : Fin n → Tm} {ys : Fin n → Addr}, (∀ i, At H (k i) (ys i)) → All2 (RefV H) (List.ofFn k) (Rfs ys)
  | 0, _, _, _ => trivial
  | n + 1, k, ys, h => by
    unfold Rfs
    rw [List.ofFn_succ, List.ofFn_succ]
    exact ⟨⟨ys 0, rfl, h 0⟩, all2_fn (k := fun i => k i.succ) (ys := fun i => ys i.succ) fun i => h i.succ⟩
theorem simple_mk {h : Hd} {n : Nat} {k : Fin n → Tm} (e : simple (.mk h n k) = true) : flatHd h = true ∧ ∀ i, simple (k i) = true := by
  have e' : (flatHd h && (List.ofFn fun i => simple (k i)).all id) = true := e
  rw [Bool.and_eq_true, List.all_eq_true] at e'
  exact ⟨e'.1, fun i => e'.2 _ (List.mem_ofFn.mpr ⟨i, rfl⟩)⟩
theorem all2_mem {α : Type} {R S : α → V → Prop} : ∀ {as : List α} {vs : List V}, All2 R as vs → (∀ a ∈ as, ∀ v, R a v → S a v) → All2 S as vs
  | [], [], _, _ => trivial
  | a :: as, v :: vs, h, e => ⟨e a List.mem_cons_self v h.1, all2_mem h.2 fun b hb => e b (List.mem_cons_of_mem _ hb)⟩
  | [], _ :: _, h, _ => h.elim
  | _ :: _, [], h, _ => h.elim
def heads : List V := [.str "number", .str "name", .str "plus", .str "less"]
theorem flat_in2 (h : Hd) : inV (.str (hs h)) heads = flatHd h := by
  cases h <;> rfl
/-- how a part begins -/
def hsP : Pt → Str
  | .give _ _ => "give" | .ask _ _ _ => "ask" | .tell _ _ _ => "tell" | .lett _ _ _ => "let" | .iff _ _ _ => "if" | .post _ _ _ _ => "post"
theorem PAt.head {H : Hp} {p : Pt} {a : Addr} (h : PAt H p a) : ∃ r, H a = some (.tup (.str (hsP p) :: r)) := by
  cases p with
  | give j t => obtain ⟨b, h1, _⟩ := h; exact ⟨_, h1⟩
  | ask f ts j => obtain ⟨b, vs, h1, _⟩ := h; exact ⟨_, h1⟩
  | tell x t p => obtain ⟨b, c, h1, _⟩ := h; exact ⟨_, h1⟩
  | lett x t p => obtain ⟨b, c, h1, _⟩ := h; exact ⟨_, h1⟩
  | iff t p q => obtain ⟨b, c, d, h1, _⟩ := h; exact ⟨_, h1⟩
  | post j x p q => obtain ⟨c, d, h1, _⟩ := h; exact ⟨_, h1⟩
def handV : Pt → V
  | .give j _ => .str j
  | .ask _ _ j => .str j
  | _ => .non
theorem kP_terms {p : Pt} (h : kP p) : ∀ t ∈ termsP p, simple t = true := by
  intro t ht
  cases p with
  | give j u => rw [List.mem_singleton.mp ht]; exact h.2.si
  | ask f ts j => exact (h.2.2.2 t ht).si
  | tell x u p => rw [List.mem_singleton.mp ht]; exact h.2.1.si
  | lett x u p => rw [List.mem_singleton.mp ht]; exact h.2.1.si
  | iff u p q => rw [List.mem_singleton.mp ht]; exact h.1.si
  | post j x p q => cases ht
theorem kP_rest {p : Pt} (h : kP p) : ∀ u ∈ restP p, kP u := by
  intro u hu
  cases p with
  | give j t => cases hu
  | ask f ts j => cases hu
  | tell x t p => rw [List.mem_singleton.mp hu]; exact h.2.2
  | lett x t p => rw [List.mem_singleton.mp hu]; exact h.2.2
  | iff t p q =>
    rcases List.mem_cons.mp hu with z | z
    · rw [z]; exact h.2.1
    · rw [List.mem_singleton.mp z]; exact h.2.2
  | post j x p q =>
    rcases List.mem_cons.mp hu with z | z
    · rw [z]; exact h.2.2.1
    · rw [List.mem_singleton.mp z]; exact h.2.2.2
section
variable {P : Program} {w : World} {K : PySem.W.Frag} {mg : Str → Option Value} {base : Heap}
/-! ### terms_in -/
def spTermsIn : Sp := fun vs H Q _ => ∃ (a : Addr) (p : Pt), vs = [.ref a] ∧ PAt H p a ∧ ∀ H' q vs, Same H H' → H' q = some (.tup vs) → All2 (RefV H') (termsP p) vs → Q (.ref q) H'
abbrev sterms_in : Stmt := top 19
theorem scterms_in : FnScope ["part"] ["part"] (defScope sterms_in) := ⟨rfl, rfl, rfl, by decide +kernel, rfl, by decide +kernel, by decide +kernel⟩
theorem ok_tin {f : Addr} {fd : FuncData} (F : Fun K "terms_in" "terms_in" sterms_in f fd) : FnOk P w K mg base CX0 1 f fd ["part"] spTermsIn := by
  refine F.ok scterms_in (fun vs H Q E h => ?_) (fun cdv A outer s H vs Q E hr h => ?_)
  · obtain ⟨a, p, rfl, _⟩ := h
    rfl
  obtain ⟨a, p, rfl, hA, q⟩ := h
  refine ⟨_, (pss_cons (ps_if (pt_cmpR op_eq (pe_ix ix_tup (pv 0) pe_int (fun _ _ => rfl)) pe_str (nomark _)) (pss_one (ps_ret (pe_ix ix_tup (pv 0) pe_int (fun _ _ => rfl)))) pss_nil)
    (pss_cons (ps_if (pt_cmpR op_eq (pe_ix ix_tup (pv 0) pe_int (fun _ _ => rfl)) pe_str (nomark _)) (pss_one (ps_ret (pe_slice sl_tupA (pv 0) (po_some pe_int) (po_some pe_int)))) pss_nil)
    (pss_cons (ps_if (pt_cmpR op_eq (pe_ix ix_tup (pv 0) pe_int (fun _ _ => rfl)) pe_str (nomark _)) (pss_one (ps_ret (pe_tup pa_nil))) pss_nil)
    (pss_one (ps_ret (pe_slice sl_tupA (pv 0) (po_some pe_int) (po_some pe_int))))))), ?_⟩
  cases p with
  | give j t =>
    obtain ⟨b, h1, h2⟩ := hA
    refine ⟨_, rfl, a, _, _, _, rfl, rfl, SqT.of h1, at0, rfl, _, rfl, itF rfl ⟨_, rfl, a, _, _, _, rfl, rfl, SqT.of h1, at0, rfl, _, rfl, itF rfl ⟨_, rfl, a, _, _, _, rfl, rfl, SqT.of h1, at0, rfl, _, rfl, itF rfl ?_⟩⟩⟩
    refine ⟨_, rfl, _, rfl, _, rfl, a, _, rfl, SqT.of h1, fun z => absurd z (by show ¬ (HT.sIx 3 0 (some 2) = 0 ∧ HT.sIx 3 3 (some 3) = 3); decide), fun _ p hp => ?_⟩
    have s1 := same_new hp (.tup [V.ref b])
    exact q _ p [.ref b] s1 upd_same ⟨⟨b, rfl, h2.mono s1⟩, trivial⟩
  | ask g ts j =>
    obtain ⟨b, vs, h1, h2, h3⟩ := hA
    exact ⟨_, rfl, a, _, _, _, rfl, rfl, SqT.of h1, at0, rfl, _, rfl, itT rfl ⟨_, rfl, a, _, _, _, rfl, rfl, SqT.of h1, at2, q H b vs (Same.refl H) h2 h3⟩⟩
  | tell x t p =>
    obtain ⟨b, c, h1, h2, h3⟩ := hA
    refine ⟨_, rfl, a, _, _, _, rfl, rfl, SqT.of h1, at0, rfl, _, rfl, itF rfl ⟨_, rfl, a, _, _, _, rfl, rfl, SqT.of h1, at0, rfl, _, rfl, itF rfl ⟨_, rfl, a, _, _, _, rfl, rfl, SqT.of h1, at0, rfl, _, rfl, itF rfl ?_⟩⟩⟩
    refine ⟨_, rfl, _, rfl, _, rfl, a, _, rfl, SqT.of h1, fun z => absurd z (by show ¬ (HT.sIx 4 0 (some 2) = 0 ∧ HT.sIx 4 4 (some 3) = 4); decide), fun _ p hp => ?_⟩
    have s1 := same_new hp (.tup [V.ref b])
    exact q _ p [.ref b] s1 upd_same ⟨⟨b, rfl, h2.mono s1⟩, trivial⟩
  | lett x t p =>
    obtain ⟨b, c, h1, h2, h3⟩ := hA
    refine ⟨_, rfl, a, _, _, _, rfl, rfl, SqT.of h1, at0, rfl, _, rfl, itF rfl ⟨_, rfl, a, _, _, _, rfl, rfl, SqT.of h1, at0, rfl, _, rfl, itF rfl ⟨_, rfl, a, _, _, _, rfl, rfl, SqT.of h1, at0, rfl, _, rfl, itF rfl ?_⟩⟩⟩
    refine ⟨_, rfl, _, rfl, _, rfl, a, _, rfl, SqT.of h1, fun z => absurd z (by show ¬ (HT.sIx 4 0 (some 2) = 0 ∧ HT.sIx 4 4 (some 3) = 4); decide), fun _ p hp => ?_⟩
    have s1 := same_new hp (.tup [V.ref b])
    exact q _ p [.ref b] s1 upd_same ⟨⟨b, rfl, h2.mono s1⟩, trivial⟩
  | iff t p p2 =>
    obtain ⟨b, c, d, h1, h2, h3, h4⟩ := hA
    refine ⟨_, rfl, a, _, _, _, rfl, rfl, SqT.of h1, at0, rfl, _, rfl, itF rfl ⟨_, rfl, a, _, _, _, rfl, rfl, SqT.of h1, at0, rfl, _, rfl, itT rfl ?_⟩⟩
    refine ⟨_, rfl, _, rfl, _, rfl, a, _, rfl, SqT.of h1, fun z => absurd z (by show ¬ (HT.sIx 4 0 (some 1) = 0 ∧ HT.sIx 4 4 (some 2) = 4); decide), fun _ p hp => ?_⟩
    have s1 := same_new hp (.tup [V.ref b])
    exact q _ p [.ref b] s1 upd_same ⟨⟨b, rfl, h2.mono s1⟩, trivial⟩
  | post j x p p2 =>
    obtain ⟨c, d, h1, h2, h3⟩ := hA
    refine ⟨_, rfl, a, _, _, _, rfl, rfl, SqT.of h1, at0, rfl, _, rfl, itF rfl ⟨_, rfl, a, _, _, _, rfl, rfl, SqT.of h1, at0, rfl, _, rfl, itF rfl ⟨_, rfl, a, _, _, _, rfl, rfl, SqT.of h1, at0, rfl, _, rfl, itT rfl ?_⟩⟩⟩
    exact ⟨sz (by show 0 ≤ 100000; decide), fun p hp => q _ p [] (same_new hp _) upd_same trivial⟩
/-! ### rest_of -/
abbrev srest_of : Stmt := top 20
theorem screst_of : FnScope ["part"] ["part"] (defScope srest_of) := ⟨rfl, rfl, rfl, by decide +kernel, rfl, by decide +kernel, by decide +kernel⟩
theorem ok_rest {f : Addr} {fd : FuncData} (F : Fun K "rest_of" "rest_of" srest_of f fd) : FnOk P w K mg base CX0 1 f fd ["part"] (spKids TrP) := by
  refine F.ok screst_of (fun vs H Q E h => ?_) (fun cdv A outer s H vs Q E hr h => ?_)
  · obtain ⟨p, a, rfl, _⟩ := h
    rfl
  obtain ⟨p, a, rfl, hA, q⟩ := h
  refine ⟨_, (pss_cons (ps_if (pt_cmpR op_eq (pe_ix ix_tup (pv 0) pe_int (fun _ _ => rfl)) pe_str (nomark _)) (pss_one (ps_ret (pe_slice sl_tupA (pv 0) (po_some pe_int) po_none))) pss_nil)
    (pss_cons (ps_if (pt_cmpR op_in_seq (pe_ix ix_tup (pv 0) pe_int (fun _ _ => rfl)) (pe_tup (pa_cons pe_str (pa_cons pe_str pa_nil))) rfl) (pss_one (ps_ret (pe_tup pa_nil))) pss_nil)
    (pss_one (ps_ret (pe_slice sl_tupA (pv 0) (po_some pe_int) po_none))))), ?_⟩
  have hA' : PAt H p a := hA
  obtain ⟨r, hd⟩ := hA'.head
  refine ⟨_, rfl, a, _, _, _, rfl, rfl, SqT.of hd, at0, rfl, _, rfl, ?_⟩
  cases p with
  | iff t p1 p2 =>
    obtain ⟨b, c, d, h1, h2, h3, h4⟩ := hA'
    refine itT rfl ⟨_, rfl, _, rfl, a, _, rfl, SqT.of h1, fun z => absurd z (not_whole (by decide) len2), fun _ pa hpa => ?_⟩
    have s1 := same_new hpa (.tup (cutV [.str "if", .ref b, .ref c, .ref d] (some 2) none))
    exact q pa _ [.ref c, .ref d] s1 (by rw [upd_same, cut2]) ⟨⟨c, rfl, PAt.tk (tk_same s1) h3⟩, ⟨d, rfl, PAt.tk (tk_same s1) h4⟩, trivial⟩
  | give j t =>
    refine itF rfl ⟨_, rfl, a, _, _, _, rfl, rfl, SqT.of hd, at0, sz (by show 2 ≤ 100000; decide), fun t1 ht1 => ⟨t1, _, rfl, .inr (SqT.of upd_same), rfl, rfl, _, rfl, itT rfl ⟨sz (by show 0 ≤ 100000; decide), fun pa hpa => ?_⟩⟩⟩
    exact q pa _ [] ((same_new ht1 _).trans (same_new hpa _)) upd_same trivial
  | ask g ts j =>
    refine itF rfl ⟨_, rfl, a, _, _, _, rfl, rfl, SqT.of hd, at0, sz (by show 2 ≤ 100000; decide), fun t1 ht1 => ⟨t1, _, rfl, .inr (SqT.of upd_same), rfl, rfl, _, rfl, itT rfl ⟨sz (by show 0 ≤ 100000; decide), fun pa hpa => ?_⟩⟩⟩
    exact q pa _ [] ((same_new ht1 _).trans (same_new hpa _)) upd_same trivial
  | tell x t p1 =>
    obtain ⟨b, c, h1, h2, h3⟩ := hA'
    refine itF rfl ⟨_, rfl, a, _, _, _, rfl, rfl, SqT.of h1, at0, sz (by show 2 ≤ 100000; decide), fun t1 ht1 => ⟨t1, _, rfl, .inr (SqT.of upd_same), rfl, rfl, _, rfl, itF rfl ?_⟩⟩
    have s0 := same_new ht1 (.tup [.str "give", .str "ask"])
    refine ⟨_, rfl, _, rfl, a, _, rfl, SqT.of (s0 _ _ h1), fun z => absurd z (not_whole (by decide) len3), fun _ pa hpa => ?_⟩
    have s1 := s0.trans (same_new hpa (.tup (cutV [.str "tell", .str x, .ref b, .ref c] (some 3) none)))
    exact q pa _ [.ref c] s1 (by rw [upd_same, cut3]) ⟨⟨c, rfl, PAt.tk (tk_same s1) h3⟩, trivial⟩
  | lett x t p1 =>
    obtain ⟨b, c, h1, h2, h3⟩ := hA'
    refine itF rfl ⟨_, rfl, a, _, _, _, rfl, rfl, SqT.of h1, at0, sz (by show 2 ≤ 100000; decide), fun t1 ht1 => ⟨t1, _, rfl, .inr (SqT.of upd_same), rfl, rfl, _, rfl, itF rfl ?_⟩⟩
    have s0 := same_new ht1 (.tup [.str "give", .str "ask"])
    refine ⟨_, rfl, _, rfl, a, _, rfl, SqT.of (s0 _ _ h1), fun z => absurd z (not_whole (by decide) len3), fun _ pa hpa => ?_⟩
    have s1 := s0.trans (same_new hpa (.tup (cutV [.str "let", .str x, .ref b, .ref c] (some 3) none)))
    exact q pa _ [.ref c] s1 (by rw [upd_same, cut3]) ⟨⟨c, rfl, PAt.tk (tk_same s1) h3⟩, trivial⟩
  | post j x p1 p2 =>
    obtain ⟨c, d, h1, h2, h3⟩ := hA'
    refine itF rfl ⟨_, rfl, a, _, _, _, rfl, rfl, SqT.of h1, at0, sz (by show 2 ≤ 100000; decide), fun t1 ht1 => ⟨t1, _, rfl, .inr (SqT.of upd_same), rfl, rfl, _, rfl, itF rfl ?_⟩⟩
    have s0 := same_new ht1 (.tup [.str "give", .str "ask"])
    refine ⟨_, rfl, _, rfl, a, _, rfl, SqT.of (s0 _ _ h1), fun z => absurd z (not_whole (by decide) len3), fun _ pa hpa => ?_⟩
    have s1 := s0.trans (same_new hpa (.tup (cutV [.str "post", .str j, .str x, .ref c, .ref d] (some 3) none)))
    exact q pa _ [.ref c, .ref d] s1 (by rw [upd_same, cut3]) ⟨⟨c, rfl, PAt.tk (tk_same s1) h2⟩, ⟨d, rfl, PAt.tk (tk_same s1) h3⟩, trivial⟩
/-! ### turned_parts -/
abbrev sturned_parts : Stmt := top 21
theorem scturned_parts : FnScope ["part"] ["part"] (defScope sturned_parts) := ⟨rfl, rfl, rfl, by decide +kernel, rfl, by decide +kernel, by decide +kernel⟩
theorem ok_tparts (hS : ∃ a, mg "SIMPLE_HEADS" = some (.ref a) ∧ ∀ H, SqT K H a heads) {f f1 f2 f3 : Addr} {fd d1 d2 d3 : FuncData} (F : Fun K "turned_parts" "turned_parts" sturned_parts f fd) (Gparts_of : FnOk P w K mg base CX0 1 f1 d1 ["term"] spParts) (Rparts_of : Ref K mg "parts_of" f1 d1 ["term"])
    (Gterms_in : FnOk P w K mg base CX0 1 f2 d2 ["part"] spTermsIn) (Rterms_in : Ref K mg "terms_in" f2 d2 ["part"]) (Grest_of : FnOk P w K mg base CX0 1 f3 d3 ["part"] (spKids TrP)) (Rrest_of : Ref K mg "rest_of" f3 d3 ["part"]) : FnOk P w K mg base CX0 2 f fd ["part"] (spKids TrN) := by
  refine F.ok scturned_parts (fun vs H Q E h => ?_) (fun cdv A outer s H vs Q E hr h => ?_)
  · obtain ⟨p, a, rfl, _⟩ := h
    rfl
  obtain ⟨n, a, rfl, hA, q⟩ := h
  obtain ⟨sh, msh, hsh⟩ := hS
  refine ⟨_, (pss_cons (ps_if (pt_cmpR op_in_seq (pe_ix ix_tup (pv 0) pe_int (fun _ _ => rfl)) (pe_glob (v := .ref sh) rfl msh rfl) rfl) (pss_one (ps_ret (pe_call Gparts_of (hr.mono (by omega)) rfl Rparts_of.m Rparts_of.k Rparts_of.b .nil pass0 (pa_cons (pv 0) pa_nil)))) pss_nil)
    (pss_one (ps_ret (pe_op op_catA (pe_call Gterms_in (hr.mono (by omega)) rfl Rterms_in.m Rterms_in.k Rterms_in.b .nil pass0 (pa_cons (pv 0) pa_nil)) (pe_call Grest_of (hr.mono (by omega)) rfl Rrest_of.m Rrest_of.k Rrest_of.b .nil pass0 (pa_cons (pv 0) pa_nil)))))), ?_⟩
  cases n with
  | inr t =>
    obtain ⟨hT, hsi⟩ := hA
    obtain ⟨h, n, k⟩ := t
    obtain ⟨ys, l, hk⟩ := hT
    obtain ⟨r, hd⟩ := l.head
    obtain ⟨e1, e2⟩ := simple_mk hsi
    refine ⟨_, rfl, a, _, _, _, rfl, rfl, SqT.of hd, at0, sh, _, rfl, .inr (hsh _), rfl, rfl, _, rfl, itT ?_ ⟨_, rfl, a, h, _, rfl, l, fun p H1 s1 h1 => ?_⟩⟩
    · show inV (.str (hs h)) heads = true
      rw [flat_in2, e1]
    · refine q p H1 _ s1 h1 ?_
      have z := all2_fn (k := k) (ys := ys) fun i => (hk i).mono s1
      refine All2.map (f := Sum.inr) (all2_mem z fun u hu v hv => ?_)
      obtain ⟨b, rfl, hb⟩ := hv
      obtain ⟨i, rfl⟩ := List.mem_ofFn.mp hu
      exact ⟨b, rfl, hb, e2 i⟩
  | inl p =>
    obtain ⟨hA', hk⟩ : PAt H p a ∧ kP p := hA
    obtain ⟨r, hd⟩ := hA'.head
    refine ⟨_, rfl, a, _, _, _, rfl, rfl, SqT.of hd, at0, sh, _, rfl, .inr (hsh _), rfl, rfl, _, rfl, itF ?_ ⟨_, rfl, a, p, rfl, hA', fun H1 b1 us1 s1 g1 k1 => ?_⟩⟩
    · show inV (.str (hsP p)) heads = false
      cases p <;> rfl
    · refine ⟨_, rfl, p, a, rfl, PAt.tk (tk_same s1) hA', fun b2 H2 us2 s2 g2 k2 => ?_⟩
      have z1 := k1.len
      have z2 := k2.len
      have l1 : (termsP p).length ≤ 4 := by
        cases p with
        | ask f ts j => exact hk.2.2.1
        | _ => show (_ : List Tm).length ≤ 4; simp [termsP]
      have l2 : (restP p).length ≤ 2 := by cases p <;> simp [restP]
      refine catA_of (s2 _ _ g1) g2 (by show us1.length + us2.length ≤ 100000; rw [z1, z2]; show (termsP p).length + (restP p).length ≤ 100000; omega) fun b3 H3 s3 g3 => ?_
      refine q b3 H3 _ ((s1.trans s2).trans s3) g3 ?_
      refine All2.app (All2.map (f := Sum.inr) (all2_mem k1 fun t ht v hv => ?_)) (All2.map (f := Sum.inl) (all2_mem k2 fun u hu v hv => ?_))
      · obtain ⟨b, e, hb⟩ := hv
        exact ⟨b, e, hb.mono (s2.trans s3), kP_terms hk t ht⟩
      · obtain ⟨b, e, hb⟩ := hv
        exact ⟨b, e, PAt.tk (tk_same s3) hb, kP_rest hk u hu⟩
/-! ### hand_of -/
def spHandOf : Sp := fun vs H Q _ => ∃ (a : Addr) (p : Pt), vs = [.ref a] ∧ PAt H p a ∧ Q (handV p) H
abbrev shand_of : Stmt := top 22
theorem schand_of : FnScope ["part"] ["part"] (defScope shand_of) := ⟨rfl, rfl, rfl, by decide +kernel, rfl, by decide +kernel, by decide +kernel⟩
theorem ok_handof {f : Addr} {fd : FuncData} (F : Fun K "hand_of" "hand_of" shand_of f fd) : FnOk P w K mg base CX0 1 f fd ["part"] spHandOf := by
  refine F.ok schand_of (fun vs H Q E h => ?_) (fun cdv A outer s H vs Q E hr h => ?_)
  · obtain ⟨p, a, rfl, _⟩ := h
    rfl
  obtain ⟨a, p, rfl, hA, q⟩ := h
  refine ⟨_, (pss_cons (ps_if (pt_cmpR op_eq (pe_ix ix_tup (pv 0) pe_int (fun _ _ => rfl)) pe_str (nomark _)) (pss_one (ps_ret (pe_ix ix_tup (pv 0) pe_int (fun _ _ => rfl)))) pss_nil)
    (pss_cons (ps_if (pt_cmpR op_eq (pe_ix ix_tup (pv 0) pe_int (fun _ _ => rfl)) pe_str (nomark _)) (pss_one (ps_ret (pe_ix ix_tup (pv 0) pe_int (fun _ _ => rfl)))) pss_nil)
    (pss_one (ps_ret pe_non)))), ?_⟩
  obtain ⟨r, hd⟩ := hA.head
  refine ⟨_, rfl, a, _, _, _, rfl, rfl, SqT.of hd, at0, rfl, _, rfl, ?_⟩
  cases p with
  | give j t =>
    obtain ⟨b, h1, _⟩ := hA
    exact itT rfl ⟨_, rfl, a, _, _, _, rfl, rfl, SqT.of h1, at1, q⟩
  | ask g ts j =>
    obtain ⟨b, us, h1, _⟩ := hA
    exact itF rfl ⟨_, rfl, a, _, _, _, rfl, rfl, SqT.of h1, at0, rfl, _, rfl, itT rfl ⟨_, rfl, a, _, _, _, rfl, rfl, SqT.of h1, at_of (j := 3) rfl rfl, q⟩⟩
  | _ => exact itF rfl ⟨_, rfl, a, _, _, _, rfl, rfl, SqT.of hd, at0, rfl, _, rfl, itF rfl q⟩
end
end KB

namespace KB
open PySem L2 HT

/-! ### idle posts -/
def passed : Pt → Str → Bool
  | .give _ t, x => PyData.eqv (pd t) (.tuple [.str "name", .str x])
  | _, _ => false
def handed (j : Str) (p : Pt) : Bool := (TrP.pre p).any fun u => decide (handV u = .str j)
def idleP : Pt → Bool
  | .post j x p q => passed p x || !handed j q
  | _ => false
def idleN : Nd → Bool
  | .inl p => idleP p
  | .inr _ => false
def PlS (H : Hp) (x : Str × List Int) (v : V) : Prop := ∃ r, v = .ref r ∧ H r = some (.tup (.str x.1 :: x.2.map V.int))
theorem PlS.tk {H H' : Hp} (e : TK H H') {x : Str × List Int} {v : V} (h : PlS H x v) : PlS H' x v := let ⟨r, a, b⟩ := h; ⟨r, a, e _ _ b⟩
def idleOf (e : TEr) : List (Str × List Int) := ((plQ e.2.2).filter (idleN ·.2)).map fun x => (e.1, x.1)
def idleAll (es : List TEr) : List (Str × List Int) := (es.map idleOf).flatten
theorem shaped_nm {x : Str} (h : isV x = true) : SeqAt.shaped (.tuple [.str "name", .str x]) = true := by
  refine shaped_of (lay_cons (lay_lit (by decide +kernel)) (lay_cons (lay_lit (isV_ok h)) rfl)) ?_
  have : (PyData.tuple [.str "name", .str x]).depth ≤ 0 + 1 := depth_tup fun d hd => by
    rcases List.mem_cons.mp hd with z | z
    · rw [z]; exact Nat.le_refl 0
    · rw [List.mem_singleton.mp z]; exact Nat.le_refl 0
  omega
theorem STm.shaped {t : Tm} (h : STm t) : SeqAt.shaped (pd t) = true := shaped_of h.lay (Nat.le_trans h.dep (by decide))
theorem at3 {x y z u : V} {r : List V} : atI (x :: y :: z :: u :: r) 3 = some u := at_of (j := 3) rfl rfl
theorem at4 {x y z u t : V} {r : List V} : atI (x :: y :: z :: u :: t :: r) 4 = some t := at_of (j := 4) rfl rfl
theorem sz_plQ {p : Pt} {m : List Int × Nd} (h : m ∈ plQ p) : szN m.2 ≤ ncnt p := TrN.sz_pl _ (.inl p) (Nat.le_refl _) m h
theorem idleOf_len {e : TEr} (h : ncnt e.2.2 ≤ 1000) : (idleOf e).length ≤ 1000 := by
  unfold idleOf
  rw [List.length_map]
  have h1 := List.length_filter_le (idleN ·.2) (plQ e.2.2)
  have h2 : (plQ e.2.2).length = ncnt e.2.2 := TrN.pl_len _ (.inl e.2.2) (Nat.le_refl _)
  omega
theorem idleAll_len {es : List TEr} (hc : ∀ e ∈ es, ncnt e.2.2 ≤ 1000) : (idleAll es).length ≤ 1000 * es.length := by
  induction es with
  | nil => exact Nat.zero_le _
  | cons e r ih =>
    have h1 := ih fun x hx => hc x (List.mem_cons_of_mem _ hx)
    have h2 := idleOf_len (hc e List.mem_cons_self)
    have h3 : idleAll (e :: r) = idleOf e ++ idleAll r := rfl
    rw [h3, List.length_append, List.length_cons]
    omega
theorem idleAll_take {es : List TEr} {i : Nat} {e : TEr} (h : es[i]? = some e) : idleAll (es.take (i + 1)) = idleAll (es.take i) ++ idleOf e := by
  obtain ⟨hi, he⟩ := List.getElem?_eq_some_iff.mp h
  unfold idleAll
  rw [List.take_succ_eq_append_getElem hi, List.map_append, List.flatten_append, he]
  simp

section
variable {P : Program} {w : World} {K : PySem.W.Frag} {mg : Str → Option Value} {base : Heap}
/-! ### is_handed_to -/
def spHanded : Sp := fun vs H Q _ => ∃ (j : Str) (a : Addr) (p : Pt), vs = [.str j, .ref a] ∧ PAt H p a ∧ pcnt p ≤ 1000 ∧ ∀ H', Same H H' → Q (.bl (handed j p)) H'
/-! ### is_passed_on -/
def spPassed : Sp := fun vs H Q _ => ∃ (j x : Str) (p p2 : Pt) (a : Addr), vs = [.ref a] ∧ PAt H (.post j x p p2) a ∧ kP (.post j x p p2) ∧ ∀ H', Same H H' → Q (.bl (passed p x)) H'
/-! ### is_idle -/
def spIdle : Sp := fun vs H Q _ => ∃ (n : Nd) (a : Addr), vs = [.ref a] ∧ NAt H n a ∧ szN n ≤ 1000 ∧ ∀ H', Same H H' → Q (.bl (idleN n)) H'
theorem pcnt_le_ncnt : ∀ p : Pt, pcnt p ≤ ncnt p
  | .give j t => by show 1 ≤ 1 + cnt t; omega
  | .ask f ts j => by show 1 ≤ 1 + cnts ts; omega
  | .tell x t p => by have := pcnt_le_ncnt p; show 1 + pcnt p ≤ 1 + cnt t + ncnt p; omega
  | .lett x t p => by have := pcnt_le_ncnt p; show 1 + pcnt p ≤ 1 + cnt t + ncnt p; omega
  | .iff t p q => by have := pcnt_le_ncnt p; have := pcnt_le_ncnt q; show 1 + pcnt p + pcnt q ≤ 1 + cnt t + ncnt p + ncnt q; omega
  | .post j x p q => by have := pcnt_le_ncnt p; have := pcnt_le_ncnt q; show 1 + pcnt p + pcnt q ≤ 1 + ncnt p + ncnt q; omega
/-! ### idle_places -/
structure TkE (e : TEr) : Prop where
  k : kP e.2.2
  n : ncnt e.2.2 ≤ 1000
  w : isW e.1 = true
def spIdles : Sp := fun vs H Q _ => ∃ (p : Addr) (es : List TEr) (us : List V), vs = [.ref p] ∧ TBkAt H es us p ∧ es.length ≤ 6 ∧ (∀ e ∈ es, TkE e) ∧
  ∀ p' H' its, H p' = none → Same H H' → H' p' = some (.lst its) → All2 (PlS H') (idleAll es) its → Q (.ref p') H'
end
end KB

namespace KB
open PySem L2 HT

/-! ### the law's own walks -/
def lkids : Pt → List (Int × Pt)
  | .give _ _ => []
  | .ask _ _ _ => []
  | .tell _ _ p => [(1, p)]
  | .lett _ _ p => [(1, p)]
  | .iff _ p q => [(1, p), (2, q)]
  | .post _ _ p q => [(0, p), (1, q)]
def allP : Pt → List (List Int × Pt)
  | .give j t => [([], .give j t)]
  | .ask f ts j => [([], .ask f ts j)]
  | .tell x t p => ([], .tell x t p) :: ((allP p).map (fun e => ((1 : Int) :: e.1, e.2)) ++ [])
  | .lett x t p => ([], .lett x t p) :: ((allP p).map (fun e => ((1 : Int) :: e.1, e.2)) ++ [])
  | .iff t p q => ([], .iff t p q) :: ((allP p).map (fun e => ((1 : Int) :: e.1, e.2)) ++ ((allP q).map (fun e => ((2 : Int) :: e.1, e.2)) ++ []))
  | .post j x p q => ([], .post j x p q) :: ((allP p).map (fun e => ((0 : Int) :: e.1, e.2)) ++ ((allP q).map (fun e => ((1 : Int) :: e.1, e.2)) ++ []))
def allK (ks : List (Int × Pt)) : List (List Int × Pt) := (ks.map fun k => (allP k.2).map fun e => (k.1 :: e.1, e.2)).flatten
theorem allP_mk (p : Pt) : allP p = ([], p) :: allK (lkids p) := by cases p <;> rfl
def endsP : Pt → List Str
  | .give j _ => [j]
  | .ask _ _ j => [j]
  | .tell _ _ p => endsP p ++ []
  | .lett _ _ p => endsP p ++ []
  | .iff _ p q => endsP p ++ (endsP q ++ [])
  | .post _ _ p q => endsP p ++ (endsP q ++ [])
def endsK (ks : List (Int × Pt)) : List Str := (ks.map fun k => endsP k.2).flatten
def idleL : Pt → Bool
  | .post j x p q => passed p x || !inV (.str j) ((endsP q).map V.str)
  | _ => false
theorem pc_pos : ∀ p : Pt, 1 ≤ pcnt p := fun p => TrP.pos p
theorem allP_len : ∀ p : Pt, (allP p).length = pcnt p
  | .give j t => rfl
  | .ask f ts j => rfl
  | .tell x t p => by simp [allP, pcnt, allP_len p]; omega
  | .lett x t p => by simp [allP, pcnt, allP_len p]; omega
  | .iff t p q => by simp [allP, pcnt, allP_len p, allP_len q]; omega
  | .post j x p q => by simp [allP, pcnt, allP_len p, allP_len q]; omega
theorem endsP_len : ∀ p : Pt, (endsP p).length ≤ pcnt p
  | .give j t => Nat.le_refl 1
  | .ask f ts j => Nat.le_refl 1
  | .tell x t p => by have := endsP_len p; simp [endsP, pcnt]; omega
  | .lett x t p => by have := endsP_len p; simp [endsP, pcnt]; omega
  | .iff t p q => by have := endsP_len p; have := endsP_len q; simp [endsP, pcnt]; omega
  | .post j x p q => by have := endsP_len p; have := endsP_len q; simp [endsP, pcnt]; omega
theorem lk_len (p : Pt) : (lkids p).length ≤ 2 := by cases p <;> simp [lkids]
theorem lk_cnt {p : Pt} {k : Int × Pt} (h : k ∈ lkids p) : pcnt k.2 < pcnt p := by
  cases p with
  | give j t => cases h
  | ask f ts j => cases h
  | tell x t p => rw [List.mem_singleton.mp h]; show pcnt p < 1 + pcnt p; omega
  | lett x t p => rw [List.mem_singleton.mp h]; show pcnt p < 1 + pcnt p; omega
  | iff t p q =>
    rcases List.mem_cons.mp h with z | z
    · rw [z]; show pcnt p < 1 + pcnt p + pcnt q; omega
    · rw [List.mem_singleton.mp z]; show pcnt q < 1 + pcnt p + pcnt q; omega
  | post j x p q =>
    rcases List.mem_cons.mp h with z | z
    · rw [z]; show pcnt p < 1 + pcnt p + pcnt q; omega
    · rw [List.mem_singleton.mp z]; show pcnt q < 1 + pcnt p + pcnt q; omega
def kcnt (ks : List (Int × Pt)) : Nat := (ks.map fun k => pcnt k.2).sum
theorem kcnt_lk (p : Pt) : kcnt (lkids p) < pcnt p := by
  cases p <;> simp [kcnt, lkids, pcnt] <;> omega
theorem kcnt_take (ks : List (Int × Pt)) (i : Nat) : kcnt (ks.take i) ≤ kcnt ks := by
  have e : kcnt ks = kcnt (ks.take i) + kcnt (ks.drop i) := by
    unfold kcnt
    rw [← List.sum_append, ← List.map_append, List.take_append_drop]
  omega
theorem allK_len : ∀ ks : List (Int × Pt), (allK ks).length = kcnt ks
  | [] => rfl
  | k :: r => by
    show ((allP k.2).map (fun e => (k.1 :: e.1, e.2)) ++ allK r).length = pcnt k.2 + kcnt r
    rw [List.length_append, List.length_map, allP_len, allK_len r]
theorem endsK_len : ∀ ks : List (Int × Pt), (endsK ks).length ≤ kcnt ks
  | [] => Nat.le_refl _
  | k :: r => by
    have := endsK_len r
    have := endsP_len k.2
    show (endsP k.2 ++ endsK r).length ≤ pcnt k.2 + kcnt r
    rw [List.length_append]
    omega
theorem allK_take {ks : List (Int × Pt)} {i : Nat} {k : Int × Pt} (h : ks[i]? = some k) : allK (ks.take (i + 1)) = allK (ks.take i) ++ (allP k.2).map fun e => (k.1 :: e.1, e.2) := by
  obtain ⟨hi, he⟩ := List.getElem?_eq_some_iff.mp h
  unfold allK
  rw [List.take_succ_eq_append_getElem hi, List.map_append, List.flatten_append, he]
  simp
theorem endsK_take {ks : List (Int × Pt)} {i : Nat} {k : Int × Pt} (h : ks[i]? = some k) : endsK (ks.take (i + 1)) = endsK (ks.take i) ++ endsP k.2 := by
  obtain ⟨hi, he⟩ := List.getElem?_eq_some_iff.mp h
  unfold endsK
  rw [List.take_succ_eq_append_getElem hi, List.map_append, List.flatten_append, he]
  simp
/-- a part within, by its number -/
def KidV (H : Hp) (k : Int × Pt) (v : V) : Prop := ∃ q b, v = .ref q ∧ H q = some (.tup [.int k.1, .ref b]) ∧ PAt H k.2 b
theorem KidV.tk {H H' : Hp} (e : TK H H') {k : Int × Pt} {v : V} (h : KidV H k v) : KidV H' k v := let ⟨q, b, e1, h1, h2⟩ := h; ⟨q, b, e1, e _ _ h1, h2.tk e⟩
theorem EntV.deep {H : Hp} {pre : List V} {i : Int} {e : List Int × Pt} {v : V} (h : EntV PAt H (pre ++ [.int i]) e v) : EntV PAt H pre (i :: e.1, e.2) v := by
  obtain ⟨q, r, b, e1, h1, h2, h3⟩ := h
  refine ⟨q, r, b, e1, h1, ?_, h3⟩
  rw [h2, List.append_assoc]
  rfl
theorem EntV.tkP {H H' : Hp} (e : TK H H') {pre : List V} {kt : List Int × Pt} {v : V} (h : EntV PAt H pre kt v) : EntV PAt H' pre kt v := EntV.tk (fun t z => PAt.tk t z) e h
theorem flat_strs : ∀ xs : List Str, (xs.map V.str).all flatV = true
  | [] => rfl
  | x :: r => by
    rw [List.map_cons, List.all_cons, flat_strs r]
    rfl

theorem hsP_give {p : Pt} (h : hsP p = "give") : ∃ j t, p = .give j t := by
  cases p <;> dsimp only [hsP] at h <;> first | exact ⟨_, _, rfl⟩ | exact absurd h (by decide)
theorem hsP_ask {p : Pt} (h : hsP p = "ask") : ∃ f ts j, p = .ask f ts j := by
  cases p <;> dsimp only [hsP] at h <;> first | exact ⟨_, _, _, rfl⟩ | exact absurd h (by decide)
section
variable {P : Program} {w : World} {K : PySem.W.Frag} {mg : Str → Option Value} {base : Heap}
/-! ### _law_kids -/
def spLKids : Sp := fun vs H Q _ => ∃ (a : Addr) (p : Pt), vs = [.ref a] ∧ PAt H p a ∧ ∀ r H' us, H r = none → Same H H' → H' r = some (.lst us) → All2 (KidV H') (lkids p) us → Q (.ref r) H'
abbrev s_law_kids : Stmt := top 62
theorem scLkids : FnScope ["part"] ["part"] (defScope s_law_kids) := ⟨rfl, rfl, rfl, by decide +kernel, rfl, by decide +kernel, by decide +kernel⟩
theorem ok_lkids {f : Addr} {fd : FuncData} (F : Fun K "_law_kids" "_law_kids" s_law_kids f fd) : FnOk P w K mg base CX0 1 f fd ["part"] spLKids := by
  refine F.ok scLkids (fun vs H Q E h => ?_) (fun cdv A outer s H vs Q E hr h => ?_)
  · obtain ⟨a, p, rfl, _⟩ := h
    rfl
  obtain ⟨a, p, rfl, hA, q⟩ := h
  refine ⟨_, (pss_cons (ps_if (PW.pt (pw_or (pt_cmpR op_eq (pe_ix ix_tup (pv 0) pe_int (fun _ _ => rfl)) pe_str (nomark _)) (pw_or1 (pt_cmpR op_eq (pe_ix ix_tup (pv 0) pe_int (fun _ _ => rfl)) pe_str (nomark _))))) (pss_one (ps_ret (pe_lst pa_nil))) pss_nil)
    (pss_cons (ps_if (pt_cmpR op_eq (pe_ix ix_tup (pv 0) pe_int (fun _ _ => rfl)) pe_str (nomark _)) (pss_one (ps_ret (pe_lst (pa_cons (pe_tup (pa_cons pe_int (pa_cons (pe_ix ix_tup (pv 0) pe_int (fun _ _ => rfl)) pa_nil))) (pa_cons (pe_tup (pa_cons pe_int (pa_cons (pe_ix ix_tup (pv 0) pe_int (fun _ _ => rfl)) pa_nil))) pa_nil))))) pss_nil)
    (pss_cons (ps_if (pt_cmpR op_eq (pe_ix ix_tup (pv 0) pe_int (fun _ _ => rfl)) pe_str (nomark _)) (pss_one (ps_ret (pe_lst (pa_cons (pe_tup (pa_cons pe_int (pa_cons (pe_ix ix_tup (pv 0) pe_int (fun _ _ => rfl)) pa_nil))) (pa_cons (pe_tup (pa_cons pe_int (pa_cons (pe_ix ix_tup (pv 0) pe_int (fun _ _ => rfl)) pa_nil))) pa_nil))))) pss_nil)
    (pss_one (ps_ret (pe_lst (pa_cons (pe_tup (pa_cons pe_int (pa_cons (pe_ix ix_tup (pv 0) pe_int (fun _ _ => rfl)) pa_nil))) pa_nil))))))), ?_⟩
  obtain ⟨r0, hd⟩ := hA.head
  refine ⟨_, rfl, a, _, _, _, rfl, rfl, SqT.of hd, at0, rfl, _, rfl, ?_⟩
  cases p with
  | give j t => exact itT rfl (itT rfl ⟨sz (by show 0 ≤ 100000; decide), fun r hr => q r _ [] hr (same_new hr _) upd_same trivial⟩)
  | ask g ts j => exact itF rfl ⟨_, rfl, a, _, _, _, rfl, rfl, SqT.of hd, at0, rfl, _, rfl, itT rfl ⟨sz (by show 0 ≤ 100000; decide), fun r hr => q r _ [] hr (same_new hr _) upd_same trivial⟩⟩
  | post j x p p2 =>
    obtain ⟨c, d, h1, h2, h3⟩ := hA
    refine itF rfl ⟨_, rfl, a, _, _, _, rfl, rfl, SqT.of h1, at0, rfl, _, rfl, itF rfl ⟨_, rfl, a, _, _, _, rfl, rfl, SqT.of h1, at0, rfl, _, rfl, itT rfl ?_⟩⟩
    refine ⟨_, rfl, a, _, _, _, rfl, rfl, SqT.of h1, at3, sz (by show 2 ≤ 100000; decide), fun t1 ht1 => ?_⟩
    have s1 := same_new ht1 (.tup [.int 0, .ref c])
    refine ⟨_, rfl, a, _, _, _, rfl, rfl, SqT.of (s1 _ _ h1), at4, sz (by show 2 ≤ 100000; decide), fun t2 ht2 => ?_⟩
    have s2 := same_new ht2 (.tup [.int 1, .ref d])
    refine ⟨sz (by show 2 ≤ 100000; decide), fun r hr => ?_⟩
    have s3 := same_new hr (.lst [.ref t1, .ref t2])
    have s := s1.trans (s2.trans s3)
    exact q r _ _ ((s1.trans s2).free hr) s upd_same ⟨⟨t1, c, rfl, (s2.trans s3) _ _ upd_same, h2.tk (tk_same s)⟩, ⟨t2, d, rfl, s3 _ _ upd_same, h3.tk (tk_same s)⟩, trivial⟩
  | iff t p p2 =>
    obtain ⟨b, c, d, h1, h2, h3, h4⟩ := hA
    refine itF rfl ⟨_, rfl, a, _, _, _, rfl, rfl, SqT.of h1, at0, rfl, _, rfl, itF rfl ⟨_, rfl, a, _, _, _, rfl, rfl, SqT.of h1, at0, rfl, _, rfl, itF rfl ⟨_, rfl, a, _, _, _, rfl, rfl, SqT.of h1, at0, rfl, _, rfl, itT rfl ?_⟩⟩⟩
    refine ⟨_, rfl, a, _, _, _, rfl, rfl, SqT.of h1, at2, sz (by show 2 ≤ 100000; decide), fun t1 ht1 => ?_⟩
    have s1 := same_new ht1 (.tup [.int 1, .ref c])
    refine ⟨_, rfl, a, _, _, _, rfl, rfl, SqT.of (s1 _ _ h1), at3, sz (by show 2 ≤ 100000; decide), fun t2 ht2 => ?_⟩
    have s2 := same_new ht2 (.tup [.int 2, .ref d])
    refine ⟨sz (by show 2 ≤ 100000; decide), fun r hr => ?_⟩
    have s3 := same_new hr (.lst [.ref t1, .ref t2])
    have s := s1.trans (s2.trans s3)
    exact q r _ _ ((s1.trans s2).free hr) s upd_same ⟨⟨t1, c, rfl, (s2.trans s3) _ _ upd_same, h3.tk (tk_same s)⟩, ⟨t2, d, rfl, s3 _ _ upd_same, h4.tk (tk_same s)⟩, trivial⟩
  | tell x t p =>
    obtain ⟨b, c, h1, h2, h3⟩ := hA
    refine itF rfl ⟨_, rfl, a, _, _, _, rfl, rfl, SqT.of h1, at0, rfl, _, rfl, itF rfl ⟨_, rfl, a, _, _, _, rfl, rfl, SqT.of h1, at0, rfl, _, rfl, itF rfl ⟨_, rfl, a, _, _, _, rfl, rfl, SqT.of h1, at0, rfl, _, rfl, itF rfl ?_⟩⟩⟩
    refine ⟨_, rfl, a, _, _, _, rfl, rfl, SqT.of h1, at3, sz (by show 2 ≤ 100000; decide), fun t1 ht1 => ?_⟩
    have s1 := same_new ht1 (.tup [.int 1, .ref c])
    refine ⟨sz (by show 1 ≤ 100000; decide), fun r hr => ?_⟩
    have s3 := same_new hr (.lst [.ref t1])
    exact q r _ _ (s1.free hr) (s1.trans s3) upd_same ⟨⟨t1, c, rfl, s3 _ _ upd_same, h3.tk (tk_same (s1.trans s3))⟩, trivial⟩
  | lett x t p =>
    obtain ⟨b, c, h1, h2, h3⟩ := hA
    refine itF rfl ⟨_, rfl, a, _, _, _, rfl, rfl, SqT.of h1, at0, rfl, _, rfl, itF rfl ⟨_, rfl, a, _, _, _, rfl, rfl, SqT.of h1, at0, rfl, _, rfl, itF rfl ⟨_, rfl, a, _, _, _, rfl, rfl, SqT.of h1, at0, rfl, _, rfl, itF rfl ?_⟩⟩⟩
    refine ⟨_, rfl, a, _, _, _, rfl, rfl, SqT.of h1, at3, sz (by show 2 ≤ 100000; decide), fun t1 ht1 => ?_⟩
    have s1 := same_new ht1 (.tup [.int 1, .ref c])
    refine ⟨sz (by show 1 ≤ 100000; decide), fun r hr => ?_⟩
    have s3 := same_new hr (.lst [.ref t1])
    exact q r _ _ (s1.free hr) (s1.trans s3) upd_same ⟨⟨t1, c, rfl, s3 _ _ upd_same, h3.tk (tk_same (s1.trans s3))⟩, trivial⟩
/-! ### _law_all -/
def spLAll : Nat → Sp
  | 0 => fun _ _ _ _ => False
  | n + 1 => fun vs H Q _ => ∃ (a pl : Addr) (p : Pt) (pre : List V), vs = [.ref a, .ref pl] ∧ PAt H p a ∧ pcnt p ≤ n + 1 ∧ pcnt p ≤ 1000 ∧ H pl = some (.tup pre) ∧ pre.length + n ≤ 2000 ∧ ∀ r H' us, H r = none → Same H H' → H' r = some (.lst us) → All2 (EntV PAt H' pre) (allP p) us → Q (.ref r) H'
abbrev s_law_all : Stmt := top 63
theorem scLall : FnScope ["part", "place", "found", "number", "one"] ["part", "place"] (defScope s_law_all) := ⟨rfl, rfl, rfl, by decide +kernel, rfl, by decide +kernel, by decide +kernel⟩
theorem ok_lall (n : Nat) {f f1 : Addr} {fd d1 : FuncData} (F : Fun K "_law_all" "_law_all" s_law_all f fd) (G_law_kids : FnOk P w K mg base CX0 1 f1 d1 ["part"] spLKids) (R_law_kids : Ref K mg "_law_kids" f1 d1 ["part"])
    (G_law_all : FnOk P w K mg base CX0 (n + 1) f fd ["part", "place"] (spLAll n)) (R_law_all : Ref K mg "_law_all" f fd ["part", "place"]) : FnOk P w K mg base CX0 (n + 2) f fd ["part", "place"] (spLAll (n + 1)) := by
  refine F.ok scLall (fun vs H Q E h => ?_) (fun cdv A outer s H vs Q E hr h => ?_)
  · obtain ⟨a, pl, p, pre, rfl, _⟩ := h
    rfl
  obtain ⟨a, pl, p, pre, rfl, hA, hn, hk, hpl, hpr, q⟩ := h
  refine ⟨_, (pss_cons (ps_set (i := 2) scLall.nd rfl (Or.inl rfl) (pe_lst (pa_cons (pe_tup (pa_cons (pv 1) (pa_cons (pv 0) pa_nil))) pa_nil)))
    (pss_cons (ps_for PassesOwn.never rfl (pi_list (pe_call G_law_kids (hr.mono (by omega)) rfl R_law_kids.m R_law_kids.k R_law_kids.b .nil pass0 (pa_cons (pv 0) pa_nil))) (pg_tup rfl (pgs_cons (pg_name (i := 3) scLall.nd rfl (Or.inl rfl)) (pgs_cons (pg_name (i := 4) scLall.nd rfl (Or.inl rfl)) pgs_nil))) (pss_one (ps_set (i := 2) scLall.nd rfl (Or.inl rfl) (pe_op op_cat (pv 2) (pe_call G_law_all (hr.mono (by omega)) rfl R_law_all.m R_law_all.k R_law_all.b .nil pass0 (pa_cons (pv 4) (pa_cons (pe_op op_catA (pv 1) (pe_tup (pa_cons (pv 3) pa_nil))) pa_nil)))))))
    (pss_one (ps_ret (pv 2))))), ?_⟩
  refine ⟨_, rfl, _, rfl, sz (by show 2 ≤ 100000; decide), fun t0 ht0 => ?_⟩
  have s1 := same_new ht0 (.tup [.ref pl, .ref a])
  refine ⟨sz (by show 1 ≤ 100000; decide), fun fl0 hfl0 => ?_⟩
  have s2 := same_new hfl0 (.lst [.ref t0])
  have s12 := s1.trans s2
  refine ⟨_, rfl, a, p, rfl, hA.tk (tk_same s12), fun kl H1 ks hkl s3 hk1 kk1 => ?_⟩
  have s13 := s12.trans s3
  have hlk := kk1.len
  refine ⟨kl, rfl, ⟨_, SqL.of hk1⟩, for_list (K := K) (a := kl) (xs := ks) (fun i σ H' => ∃ fl fv o3 o4, σ = [some (.ref a), some (.ref pl), some (.ref fl), o3, o4] ∧ H fl = none ∧ Same H1 H' ∧ H' fl = some (.lst fv) ∧ All2 (EntV PAt H' pre) (([], p) :: allK ((lkids p).take i)) fv) ?_ ?_ ?_ ?_⟩
  · refine ⟨fl0, [.ref t0], none, none, rfl, s1.free hfl0, Same.refl _, s3 _ _ upd_same, ?_⟩
    rw [List.take_zero]
    refine ⟨⟨t0, pl, a, rfl, s3 _ _ (s2 _ _ upd_same), ?_, hA.tk (tk_same s13)⟩, trivial⟩
    rw [List.map_nil, List.append_nil]
    exact s13 _ _ hpl
  · rintro i σ H' _ ⟨fl, fv, o3, o4, rfl, _, s4, _⟩
    exact SqL.of (s4 _ _ hk1)
  · rintro i x σ H2 hx ⟨fl, fv, o3, o4, rfl, hf0, s4, hf, kf⟩
    obtain ⟨k, hk', qa, b, rfl, g1, g2⟩ := kk1.get hx
    have hkm := mem_of_get hk'
    have hkc := lk_cnt hkm
    refine ⟨qa, _, rfl, SqT.of (s4 _ _ g1), rfl, _, _, rfl, _, _, rfl, rfl, ?_⟩
    have sH2 := s13.trans s4
    refine ⟨_, rfl, _, rfl, _, rfl, _, rfl, sz (by show 1 ≤ 100000; decide), fun t1 ht1 => ?_⟩
    have s5 := same_new ht1 (.tup [.int k.1])
    refine catA_of (s5 _ _ (sH2 _ _ hpl)) upd_same (by show pre.length + 1 ≤ 100000; omega) fun t2 H3 s6 g3 => ?_
    have s56 := s5.trans s6
    cases n with
    | zero => have := pc_pos k.2; omega
    | succ n =>
      refine ⟨b, t2, k.2, _, rfl, (g2.tk (tk_same s4)).tk (tk_same s56), by omega, by omega, g3, by rw [List.length_append, List.length_singleton]; omega, fun r H4 us hr4 s7 g4 k4 => ?_⟩
      have s57 := s56.trans s7
      have e1 := kf.len
      have e2 := k4.len
      rw [allP_len] at e2
      have e3 : (([], p) :: allK ((lkids p).take i)).length ≤ 1000 := by
        rw [List.length_cons, allK_len]
        have := kcnt_take (lkids p) i
        have := kcnt_lk p
        omega
      refine ⟨fl, r, _, _, rfl, rfl, s57 _ _ hf, g4, sz (by omega), fun p5 hp5 => ?_⟩
      have s8 := same_new hp5 (.lst (fv ++ us))
      refine ⟨p5, fv ++ us, _, _, rfl, ?_, s4.trans (s57.trans s8), upd_same, ?_⟩
      · exact (sH2.trans s57).free hp5
      · rw [allK_take hk']
        exact All2.app (as := ([], p) :: allK ((lkids p).take i)) (kf.imp fun _ _ z => EntV.tkP (tk_same (s57.trans s8)) z) (All2.map (f := fun (e : List Int × Pt) => (k.1 :: e.1, e.2)) (k4.imp fun _ _ z => EntV.tkP (tk_same s8) (EntV.deep z)))
  · rintro σ H2 ⟨fl, fv, o3, o4, rfl, hf0, s4, hf, kf⟩
    refine ⟨_, rfl, ?_⟩
    rw [hlk, List.take_length, ← allP_mk] at kf
    exact q fl H2 fv hf0 (s13.trans s4) hf kf
theorem all_lall {f f1 : Addr} {fd d1 : FuncData} (F : Fun K "_law_all" "_law_all" s_law_all f fd) (G_law_kids : FnOk P w K mg base CX0 1 f1 d1 ["part"] spLKids) (R_law_kids : Ref K mg "_law_kids" f1 d1 ["part"]) (R_law_all : Ref K mg "_law_all" f fd ["part", "place"]) : ∀ n : Nat, FnOk P w K mg base CX0 (n + 1) f fd ["part", "place"] (spLAll n)
  | 0 => no_sp
  | n + 1 => ok_lall n F G_law_kids R_law_kids (all_lall F G_law_kids R_law_kids R_law_all n) R_law_all
/-! ### _law_ends -/
def spLEnds : Nat → Sp
  | 0 => fun _ _ _ _ => False
  | n + 1 => fun vs H Q _ => ∃ (a : Addr) (p : Pt), vs = [.ref a] ∧ PAt H p a ∧ pcnt p ≤ n + 1 ∧ pcnt p ≤ 1000 ∧ ∀ r H', H r = none → Same H H' → H' r = some (.lst ((endsP p).map V.str)) → Q (.ref r) H'
/-! ### _law_is_idle -/
def spLIdle : Sp := fun vs H Q _ => ∃ (a : Addr) (p : Pt), vs = [.ref a] ∧ PAt H p a ∧ kP p ∧ pcnt p ≤ 30 ∧ ∀ H', Same H H' → Q (.bl (idleL p)) H'
/-! ### _law_all_of -/
def EnS (H : Hp) (x : Str × List Int × Pt) (v : V) : Prop := EntV PAt H [.str x.1] x.2 v
def allOf (es : List TEr) : List (Str × List Int × Pt) := (es.map fun e => (allP e.2.2).map fun x => (e.1, x)).flatten
theorem allOf_take {es : List TEr} {i : Nat} {e : TEr} (h : es[i]? = some e) : allOf (es.take (i + 1)) = allOf (es.take i) ++ (allP e.2.2).map fun x => (e.1, x) := by
  obtain ⟨hi, he⟩ := List.getElem?_eq_some_iff.mp h
  unfold allOf
  rw [List.take_succ_eq_append_getElem hi, List.map_append, List.flatten_append, he]
  simp
theorem allOf_len {es : List TEr} (hc : ∀ e ∈ es, pcnt e.2.2 ≤ 30) : (allOf es).length ≤ 30 * es.length := by
  induction es with
  | nil => exact Nat.zero_le _
  | cons e r ih =>
    have h1 := ih fun x hx => hc x (List.mem_cons_of_mem _ hx)
    have h2 := hc e List.mem_cons_self
    have h3 : allOf (e :: r) = (allP e.2.2).map (fun x => (e.1, x)) ++ allOf r := rfl
    rw [h3, List.length_append, List.length_cons, List.length_map, allP_len]
    omega
def spLAllOf : Sp := fun vs H Q _ => ∃ (p : Addr) (es : List TEr) (us : List V), vs = [.ref p] ∧ TBkAt H es us p ∧ es.length ≤ 6 ∧ (∀ e ∈ es, pcnt e.2.2 ≤ 30) ∧
  ∀ r H' its, H r = none → Same H H' → H' r = some (.lst its) → All2 (EnS H') (allOf es) its → Q (.ref r) H'
end
end KB

namespace KB
open PySem L2 HT
/-! ### terms as data -/
/-! ### parts of turned books as data -/
/-- a part whose words are words -/
def kP_9 : Pt → Prop
  | .give j t => PySem.PyData.strOk j = true ∧ STm t
  | .ask f ts j => PySem.PyData.strOk j = true ∧ isW f = true ∧ ts.length ≤ 4 ∧ ∀ t ∈ ts, STm t
  | .tell x t p => isW x = true ∧ STm t ∧ kP_9 p
  | .lett x t p => isW x = true ∧ STm t ∧ kP_9 p
  | .iff t p q => STm t ∧ kP_9 p ∧ kP_9 q
  | .post j x p q => isW j = true ∧ isW x = true ∧ kP_9 p ∧ kP_9 q
/-! ### all parts and terms of a part, counted -/
end KB

namespace KB
open PySem L2 HT

def kidsT : Tm → List Tm | .mk _ _ k => List.ofFn k
def hdT : Tm → Hd | .mk h _ _ => h
def noT : Tm := mkL .plus []
theorem kids_len {h : Hd} {n : Nat} {k : _root_.Fin n → Tm} : (kidsT (.mk h n k)).length = n := List.length_ofFn
theorem all2_fnR {H : Hp} : ∀ {n : Nat} {k : _root_.Fin n → Tm} {ys : _root_.Fin n → Addr}, (∀ i, At H (k i) (ys i)) → All2 (RefV H) (List.ofFn k) (Rfs ys)
  | 0, _, _, _ => trivial
  | n + 1, k, ys, h => by
    unfold Rfs
    rw [List.ofFn_succ, List.ofFn_succ]
    exact ⟨⟨ys 0, rfl, h 0⟩, all2_fnR (k := fun i => k i.succ) (ys := fun i => ys i.succ) fun i => h i.succ⟩
theorem At.kids {H : Hp} {t : Tm} {a : Addr} (h : At H t a) : ∃ xs, Lay H a (hdT t) xs ∧ All2 (RefV H) (kidsT t) xs := by
  cases t with
  | mk hd n k =>
    obtain ⟨ys, l, r⟩ := h
    exact ⟨Rfs ys, l, all2_fnR r⟩
section
variable {P : Program} {w : World} {K : PySem.W.Frag} {mg : Str → Option Value} {base : Heap}
/-! ### last_taken -/
end
end KB

namespace KB
open PySem PySem.Spec PyProof.Rows L2 LamX NdefX

/-! ### what stays where tables of code objects may grow -/
def Sx (H H' : Hp) : Prop := ExtN H H' ∧ ∀ b, H' b = none → H b = none
theorem Sx.refl (H : Hp) : Sx H H := ⟨ExtN.refl H, fun _ z => z⟩
theorem Sx.trans {H H1 H2 : Hp} (a : Sx H H1) (b : Sx H1 H2) : Sx H H2 := ⟨a.1.trans b.1, fun x z => a.2 x (b.2 x z)⟩
theorem Sx.free {H H' : Hp} (s : Sx H H') {b : Addr} (z : H' b = none) : H b = none := s.2 b z
theorem Sx.at_ {H H' : Hp} (s : Sx H H') {b : Addr} {o : HO} (h : H b = some o) (n : ∀ ps, o ≠ .tbl ps) : H' b = some o := s.1 b o h n
theorem Sx.t {H H' : Hp} (s : Sx H H') {b : Addr} {xs : List V} (h : H b = some (.tup xs)) : H' b = some (.tup xs) := s.1 b _ h fun _ z => nomatch z
theorem Sx.l {H H' : Hp} (s : Sx H H') {b : Addr} {xs : List V} (h : H b = some (.lst xs)) : H' b = some (.lst xs) := s.1 b _ h fun _ z => nomatch z
theorem Sx.d {H H' : Hp} (s : Sx H H') {b : Addr} {kvs : List (Key × V)} (h : H b = some (.dK kvs)) : H' b = some (.dK kvs) := s.1 b _ h fun _ z => nomatch z
theorem Sx.tk {H H' : Hp} (s : Sx H H') : TK H H' := fun _ _ h => s.t h
theorem Sx.code {H H' : Hp} (s : Sx H H') {c : Addr} {q : Str} (h : H c = some (CodeO c q)) : H' c = some (CodeO c q) := s.1 c _ h codeO_ne
theorem sx_same {H H' : Hp} (s : Same H H') : Sx H H' := ⟨fun b o h _ => s b o h, fun b z => s.free z⟩
theorem sx_new {H : Hp} {p : Addr} (h : H p = none) (o : HO) : Sx H (upd H p o) := sx_same (same_new h o)
theorem sx_mut {H H' : Hp} (s : Sx H H') {a : Addr} (h : H a = none) (o : HO) : Sx H (upd H' a o) := by
  refine ⟨fun b u z n => ?_, fun b z => ?_⟩
  · rw [upd_ne (ne_of_none z h)]
    exact s.1 b u z n
  · by_cases e : b = a
    · rw [e]; exact h
    · rw [upd_ne e] at z
      exact s.2 b z
theorem tabs_new {T : List (Addr × Str)} {H H' : Hp} (t : Tabs T H) (s : Same H H') : Tabs T H' := t.ext fun b o h => s b o h
/-- nothing that is a table is written -/
theorem tabs_mut {T : List (Addr × Str)} {H : Hp} (t : Tabs T H) {a : Addr} {xs : List V} (h : H a = some (.lst xs)) (o : HO) : Tabs T (upd H a o) := fun p hp => by
  obtain ⟨ps, h1, h2, h3⟩ := t p hp
  refine ⟨ps, by rw [upd_ne (ne_of h1 h (fun z => nomatch z))]; exact h1, h2, fun pos cv hc => ?_⟩
  obtain ⟨c, e1, e2⟩ := h3 pos cv hc
  refine ⟨c, e1, ?_⟩
  rw [upd_ne (ne_of e2 h (fun z => by unfold CodeO at z; cases z))]
  exact e2
/-! ### a lambda with parameters -/
/-- its words, the cells that it captured, its code object -/
structure LF where
  qual : Str
  pr : Arguments
  bd : Expr
  sc : Scope
  cl : List (Str × Addr)
  c : Addr
abbrev LF.obj (F : LF) (pm ctv : Value) : Obj := PySem.W.kla_obj "<lambda>" F.qual F.pr F.bd F.sc F.cl pm F.c ctv
def LamO (f : Addr) (F : LF) : HO := .ext fun h => ∃ pm ctv : Value, h.get? f = some (F.obj pm ctv)
theorem lamO_ne {f : Addr} {F : LF} (ps : Array Value) : LamO f F ≠ .tbl ps := fun z => by
  unfold LamO at z
  cases z
theorem lamO_at {P : Program} {w : World} {H : Hp} {h : Heap} {f : Addr} {F : LF} (ok : HOk P w H h) (e : H f = some (LamO f F)) : ∃ pm ctv : Value, h.get? f = some (F.obj pm ctv) := (ok f _ e).1
/-- what is known of a lambda at f -/
def Kn (f : Addr) (F : LF) (H : Hp) : Prop := H f = some (LamO f F) ∧ H F.c = some (CodeO F.c F.qual)
theorem Kn.sx {f : Addr} {F : LF} {H H' : Hp} (s : Sx H H') (k : Kn f F H) : Kn f F H' := ⟨s.1 f _ k.1 lamO_ne, s.code k.2⟩
section
variable {X : Cx} {pins : List (Addr × Obj)} {σ : L2.St} {H : Hp} {s : Shared}
theorem inv_lam {F : LF} {pm ctv : Value} {t' : Nat} (I : Inv X pins σ H s) : Inv X pins σ (upd H s.heap.objs.size (LamO s.heap.objs.size F)) { s with heap := s.heap.push (F.obj pm ctv), toks := t' } := by
  have e : (s.heap.push (F.obj pm ctv)).get? s.heap.objs.size = some (F.obj pm ctv) := Heap.get?_push_size _ rfl
  exact I.laid (fun b u z => Heap.get?_push_of_some _ z) (Nat.le_refl _) ⟨⟨pm, ctv, e⟩, ⟨_, e⟩, fun h1 h2 z st => let ⟨p, t, y⟩ := z; ⟨p, t, st _ y⟩⟩
/-- the lambda is made; what was known stays, nothing that was known is gone -/
theorem lam_mk {T : List (Addr × Str)} {c P : Addr} {pr : Arguments} {bd : Expr} {sc : Scope} {pos : Pos} {E Q : Value → Shared → Prop} (I : Inv X pins σ H s) (TB : TabB X.base X.mg c P) (hcode : X.env.code = .ref c)
    (hm : (P, X.env.qual ++ "<lambda>") ∈ T) (hu : ∀ p ∈ T, p.1 = P → p.2 = X.env.qual ++ "<lambda>") (hT : Tabs T H) (hdef : defaultsOf pr X.env = ([], [])) (hfree : ∀ y ∈ sc.names, y.2 = .free → ∃ c, X.env.cells.lookup y.1 = some c)
    (h : ∀ (f c' : Addr) (H1 : Hp) (s' : Shared), Inv X pins σ H1 s' → Sx H H1 → Tabs T H1 → H f = none → Kn f ⟨X.env.qual ++ "<lambda>", pr, bd, sc, cloFrom X.env.cells sc.names [], c'⟩ H1 → Q (.ref f) s') :
    wpAny (model X.prog X.w) X.A (eval (.Lambda pr bd sc pos) X.env) Q E s := by
  obtain ⟨tb, kP_9, kt, ka⟩ := hT _ hm
  have heapP := I.hok P _ kP_9
  have heapP : s.heap.get? P = some { cls := .none, data := .fields tb } := heapP
  apply PySem.W.kla_eval hdef
  cases hc : codeAmong pos tb.toList with
  | some cv =>
    obtain ⟨c', rfl, known⟩ := ka pos cv hc
    apply PySem.W.kla_makeFunctionHit (mg := X.mg) (c := c) (P := P) (ps := tb) (closure_ok hfree) I.ok.glob (I.mod.glob.keeps I.bk) hcode (TB.code.keeps I.bk) heapP kt hc (TB.bm.keeps I.bk)
    intro ctv h' tk ext big
    have J : Inv X pins σ H { s with heap := h', toks := tk } := I.kept ext
    have nF : H h'.objs.size = none := J.hok.fresh (Nat.le_refl _)
    have up := sx_new nF (LamO h'.objs.size ⟨X.env.qual ++ "<lambda>", pr, bd, sc, cloFrom X.env.cells sc.names [], c'⟩)
    exact h h'.objs.size c' _ _ (inv_lam J) up (tabs_new hT (same_new nF _)) nF ⟨upd_same, up.code known⟩
  | none =>
    apply PySem.W.kla_makeFunction (mg := X.mg) (c := c) (P := P) (ps := tb) (closure_ok hfree) I.ok.glob (I.mod.glob.keeps I.bk) hcode (TB.code.keeps I.bk) heapP kt hc TB.gP (TB.bm.keeps I.bk)
    intro c' ctv h' tk ext lo hi rec tab
    obtain ⟨c2, oc, vs, t, e2, hoc, hd, hv⟩ := rec
    cases e2
    have newC : H c' = none := I.hok.fresh lo
    have J := inv_table (t' := tk) (more := #[rawInt pos.line, rawInt pos.col, .ref c']) (h' := h') (q := X.env.qual ++ "<lambda>") I kP_9 (fun b o n e => ext b o n e) tab lo ⟨oc, vs, t, hoc, hd, hv⟩
    have up : Sx H (upd (upd H P (.tbl (tb ++ #[rawInt pos.line, rawInt pos.col, .ref c']))) c' (CodeO c' (X.env.qual ++ "<lambda>"))) := by
      refine ⟨fun b o e n => ?_, fun b e => upd_none (upd_none e)⟩
      have n1 : b ≠ c' := ne_of_none e newC
      have n2 : b ≠ P := fun z => by
        rw [z, kP_9] at e
        exact n tb (Option.some.inj e).symm
      rw [upd_ne n1, upd_ne n2]
      exact e
    have T1 : Tabs T (upd (upd H P (.tbl (tb ++ #[rawInt pos.line, rawInt pos.col, .ref c']))) c' (CodeO c' (X.env.qual ++ "<lambda>"))) := fun p hp => by
      by_cases hb : p.1 = P
      · rw [hu p hp hb, hb]
        have eL : (tb ++ #[rawInt pos.line, rawInt pos.col, Value.ref c']).toList = tb.toList ++ [rawInt pos.line, rawInt pos.col, .ref c'] := by simp
        refine ⟨_, (upd_ne (ne_of_none kP_9 newC)).trans upd_same, by rw [eL]; exact PySem.TriplesOk_snoc _ _ _ _ kt, fun p' cv hcv => ?_⟩
        rw [eL] at hcv
        rcases among_app _ kt hcv with z | z
        · obtain ⟨c0, q1, q2⟩ := ka p' cv z
          exact ⟨c0, q1, up.code q2⟩
        · exact ⟨c', z, upd_same⟩
      · obtain ⟨ps', q1, q2, q3⟩ := hT p hp
        refine ⟨ps', (upd_ne (ne_of_none q1 newC)).trans ((upd_ne hb).trans q1), q2, fun pos' cv hcv => ?_⟩
        obtain ⟨c0, z1, z2⟩ := q3 pos' cv hcv
        exact ⟨c0, z1, up.code z2⟩
    have nF := J.hok.fresh (Nat.le_refl _)
    have up2 := sx_new nF (LamO h'.objs.size ⟨X.env.qual ++ "<lambda>", pr, bd, sc, cloFrom X.env.cells sc.names [], c'⟩)
    exact h h'.objs.size c' _ _ (inv_lam J) (up.trans up2) (tabs_new T1 (same_new nF _)) (up.free nF) ⟨upd_same, up2.code upd_same⟩
/-- a lambda, by what it leaves -/
def tLambda (T : List (Addr × Str)) (mk : Addr → LF) : TE := fun σ H Q => Tabs T H ∧ ∀ (f c' : Addr) (H1 : Hp), Sx H H1 → Tabs T H1 → H f = none → Kn f (mk c') H1 → Q (.ref f) H1
theorem pe_lambda {T : List (Addr × Str)} {c P : Addr} {pr : Arguments} {bd : Expr} {sc : Scope} {pos : Pos} (TB : TabB X.base X.mg c P) (hcode : X.env.code = .ref c) (hm : (P, X.env.qual ++ "<lambda>") ∈ T) (hu : ∀ p ∈ T, p.1 = P → p.2 = X.env.qual ++ "<lambda>")
    (hdef : defaultsOf pr X.env = ([], [])) (hfree : ∀ y ∈ sc.names, y.2 = .free → X.env.scope.names.lookup y.1 = some .cell ∨ X.env.scope.names.lookup y.1 = some .free) :
    PE X (.Lambda pr bd sc pos) (tLambda T fun c' => ⟨X.env.qual ++ "<lambda>", pr, bd, sc, cloFrom X.env.cells sc.names [], c'⟩) := by
  refine ⟨fun pins s σ H Q I h => ?_⟩
  obtain ⟨hT, h⟩ := h
  have hfr : ∀ y ∈ sc.names, y.2 = .free → ∃ c, X.env.cells.lookup y.1 = some c := fun y hy e => (hfree y hy e).elim (fun z => I.ok.has _ (.inl z)) fun z => I.ok.has _ (.inr z)
  exact lam_mk I TB hcode hm hu hT hdef hfr fun f c' H1 s' J up T1 nf kn => ⟨.ref f, H1, J, rfl, h f c' H1 up T1 nf kn⟩
end
/-- that a lambda stands at f from (s, H) on, as long as kn: what the def that got it may lean on -/
structure LamAt (P : Program) (w : World) (K : PySem.W.Frag) (mg : Str → Option Value) (base : Heap) (fs : List Addr) (k : Nat) (f : Addr) (kn : Hp → Prop) (sp : List V → Hp → VK → Prop) (s : Shared) (H : Hp) : Prop where
  kp : ∀ H1 H2, Sx H1 H2 → kn H1 → kn H2
  fn : ∀ (s1 : Shared) (H1 : Hp), HOk P w H1 s1.heap → kn H1 → PySem.W.FnAt f s1.heap
  run : ∀ (A : Around) (outer : List Env) (s1 : Shared) (H1 : Hp) (us : List Value) (vs : List V) (Q : VK), Room k A → Env0 P w K mg base A outer s1 H1 → Un fs [] H H1 s.heap s1.heap → kn H1 → Vals vs us → sp vs H1 Q →
    codeAny (model P w) A (.call (.ref f) ⟨us, []⟩) (CR CX0 outer P w H1 s1 Q E0) s1
theorem cells_un {cl : List (Str × Addr)} {fr : List Str} {ws : List (Option V)} {fs : List Addr} {h h1 : Heap} {H H1 : Hp} (C : CellsAt cl fr ws h H) (un : Un fs [] H H1 h h1) : CellsAt cl fr ws h1 H1 := by
  have kp : ∀ y c, cl.lookup y = some c → ∀ v, h.IsCell c v → h1.IsCell c v := fun y c e v ⟨o, ho, hd⟩ => by
    obtain ⟨sl, q⟩ := un.any ho (C.all y c e).1 (by simp)
    exact ⟨_, q, hd⟩
  refine ⟨C.len, fun y c e => ?_, C.inj, fun i y e => ?_⟩
  · obtain ⟨n, v, z⟩ := C.all y c e
    refine ⟨?_, v, kp y c e v z⟩
    obtain ⟨o, ho, _⟩ := z
    exact un.free c o ho n (by simp)
  · obtain ⟨c, hc, hv⟩ := C.has i y e
    refine ⟨c, hc, fun v ev => ?_⟩
    obtain ⟨u, r, z⟩ := hv v ev
    exact ⟨u, r, kp y c hc _ z⟩
section
variable {X : Cx} {pins : List (Addr × Obj)} {σ : L2.St} {H : Hp} {s : Shared}
theorem lam_at {N ps fr : List Str} {js : List Nat} {k : Nat} {f : Addr} {F : LF} {tb : TE} (I : Inv X pins σ H s) (S : NScope N ps fr F.sc) (cp : Caps X F.cl fr js)
    (hbind : ∀ (pm ctv : Value) (us : List Value), us.length = ps.length → bindArgs (PySem.W.kla_fn "<lambda>" F.qual F.pr F.bd F.sc F.cl pm (.ref F.c) ctv) ⟨us, []⟩ = pure (ps.zip us))
    (hb : ∀ (A : Around) (outer : List Env) (s1 : Shared) (H1 : Hp), Room k (A.deeper (envF ⟨"<lambda>", F.qual, F.pr, [], F.sc, F.cl, F.c⟩ f s1.heap.objs.size)) →
      PE (ncx CX0 X.prog X.w X.K X.mg X.base N ⟨"<lambda>", F.qual, F.pr, [], F.sc, F.cl, F.c⟩ f A outer s1 H1 E0) F.bd tb) :
    LamAt X.prog X.w X.K X.mg X.base (frs X.stack) (k + 1) f (Kn f F) (fun vs H1 Q => vs.length = ps.length ∧ tb (startF N vs (js.map (slotAt σ))) H1 Q) s H := by
  refine ⟨fun H1 H2 sx kn => kn.sx sx, fun s1 H1 ok kn => ?_, fun A outer s1 H1 us vs Q hr e0 un kn r hsp => ?_⟩
  · obtain ⟨pm, ctv, e⟩ := lamO_at ok kn.1
    exact ⟨_, _, _, _, e⟩
  obtain ⟨hl, ht⟩ := hsp
  obtain ⟨pm, ctv, e⟩ := lamO_at e0.hok kn.1
  have lim : s1.heap.NoLimit := e0.mod.nolimit.keeps fun b o e => (e0.bs b o e).1
  have C := cells_un (cells_of I cp) un
  refine PySem.W.kla_callFunE hr.depth e rfl S.co S.gen rfl (codeO_at e0.hok kn.2) ?_
  rw [hbind pm ctv us (by rw [← r.length]; exact hl)]
  refine wpAny_pure (wpAny_newFunctionEnv S.nocell (fun y hy => S.par y.1 (List.of_mem_zip hy).1) (fun h1 ns sb => ⟨lim.fresh _ sb, ?_⟩) S.kind)
  show codeAny _ _ (.expr F.bd (envF ⟨"<lambda>", F.qual, F.pr, [], F.sc, F.cl, F.c⟩ f s1.heap.objs.size)) _ _
  have kp : ∀ b o, s1.heap.get? b = some o → h1.get? b = some o := fun b o e => sb.extBut b o (Nat.ne_of_lt (Heap.lt_size e)) (Heap.get?_push_of_some _ e)
  have J : Inv (ncx CX0 X.prog X.w X.K X.mg X.base N ⟨"<lambda>", F.qual, F.pr, [], F.sc, F.cl, F.c⟩ f A outer s1 H1 E0) [] (startF N vs (js.map (slotAt σ))) H1 { s1 with heap := h1, toks := s1.toks + (ps.zip us).length } := inv_startN S hr.hd e0 hl r C ns kp
  refine PySem.W.kla_codeExpr (wpAny_mono ((hb A outer s1 H1 (hr.deeper _)).run [] _ _ H1 Q J ht) (fun v s' z => ?_) fun e s' z => z)
  obtain ⟨x, H2, J2, rv, qv⟩ := z
  exact ⟨x, H2, J2.os, J2.bare, J2.base, J2.hok, rv, qv⟩
end
/-! ### a parameter that holds a lambda, called -/
def tCallM (i : Nat) (f : Addr) (kn : Hp → Prop) (sp : List V → Hp → VK → Prop) (t : TA) : TE := fun σ H Q => (σ[i]? = some (some (.ref f)) ∧ kn H) ∧ t σ H fun vs H1 => kn H1 ∧ sp vs H1 Q
theorem pe_callM {CX : CXT} {P : Program} {w : World} {K : PySem.W.Frag} {mg : Str → Option Value} {base : Heap} {N : List Str} {x a : Str} {sg : Scope} {g f : Addr} {cd : Value} {A : Around} {outer : List Env} {s : Shared} {H : Hp} {E : XK} {k i : Nat} {kn : Hp → Prop} {sp : List V → Hp → VK → Prop} {t : TA} {e : Expr} {es : List Expr} {p pos : Pos}
    (L : LamAt P w K mg base (frs outer) k f kn sp s H) (hr : Room k (A.deeper (envOfC x sg s.heap.objs.size g cd))) (hN : N[i]? = some a) (hv : Vis sg a) (ha : PA (cxOf CX P w K mg base N x sg g cd A outer s H E).nox (e :: es) t)
    (hd : (a == ("__debug__" : Str)) = false := by decide) (hcd : (a == ("__classdict__" : Str)) = false := by decide)
    (he : starEach (e :: es) (cxOf CX P w K mg base N x sg g cd A outer s H E).nox.env = (false, eval e (cxOf CX P w K mg base N x sg g cd A outer s H E).nox.env) :: starEach es (cxOf CX P w K mg base N x sg g cd A outer s H E).nox.env := by rfl)
    (hpl : (backTo pos (starEach es (cxOf CX P w K mg base N x sg g cd A outer s H E).nox.env)).any (·.1) = false := by rfl) :
    PE (cxOf CX P w K mg base N x sg g cd A outer s H E).nox (.Call (.Name a p) (e :: es) [] pos) (tCallM i f kn sp t) := by
  refine ⟨fun pins s0 σ H0 Q I h => ?_⟩
  obtain ⟨⟨hs, hkn⟩, ht⟩ := h
  refine wpAny_Call_Name_kw (thn ((pe_var (pos := p) hN hv hd hcd).run pins s0 σ H0 (fun v H1 => v = .ref f ∧ H1 = H0) I ⟨.ref f, hs, rfl, rfl⟩) fun u s1 z => ?_)
  obtain ⟨v, H1, I1, r1, rfl, rfl⟩ := z
  obtain rfl : u = Value.ref f := r1
  refine PySem.W.callWith_F (first := []) (L.fn s1 _ I1.hok hkn) (thn (ha.run pos pins s1 σ _ _ I1 ht) fun us s2 z => ?_) he hpl
  obtain ⟨vs, H2, I2, r, hkn2, q⟩ := z
  refine ⟨L.fn s2 H2 I2.hok hkn2, wpAny_call (codeAny_mono (L.run _ _ s2 H2 us vs Q hr I2.env0 I2.base hkn2 r q) fun res s' y => ?_)⟩
  match res, y with
  | .ok (.ret u), y => exact I2.after y
  | .ok .next, y => exact False.elim y
  | .ok .brk, y => exact False.elim y
  | .ok .cont, y => exact False.elim y
  | .error _, y => exact False.elim y
/-! ### a def that is handed a lambda -/
/-- what is promised of a def whose parameter is a lambda: by the lambda's promise -/
abbrev SpL := Addr → (Hp → Prop) → (List V → Hp → VK → Prop) → Sp
structure FnL (P : Program) (w : World) (K : PySem.W.Frag) (mg : Str → Option Value) (base : Heap) (kl k : Nat) (f : Addr) (fd : FuncData) (ps : List Str) (sp : SpL) : Prop where
  ln : ∀ fl kn sl vs H Q E, sp fl kn sl vs H Q E → vs.length = ps.length
  go : ∀ (A : Around) (outer : List Env) (s : Shared) (H : Hp) (us : List Value) (vs : List V) (Q : VK) (fl : Addr) (kn : Hp → Prop) (sl : List V → Hp → VK → Prop), Room (k + kl) A → Env0 P w K mg base A outer s H → LamAt P w K mg base (frs outer) kl fl kn sl s H → BindsTo s fd ⟨us, []⟩ (ps.zip us) → Vals vs us → sp fl kn sl vs H Q E0 →
    codeAny (model P w) A (.call (.ref f) ⟨us, []⟩) (CR CX0 outer P w H s Q E0) s
theorem okL {P : Program} {w : World} {K : PySem.W.Frag} {mg : Str → Option Value} {base : Heap} {x qual : Str} {st : Stmt} {f : Addr} {fd : FuncData} {N ps : List Str} {kl k : Nat} {sp : SpL} (F : L2.Fun K x qual st f fd) (S : FnScope N ps (defScope st)) (len : ∀ fl kn sl vs H Q E, sp fl kn sl vs H Q E → vs.length = ps.length)
    (hb : ∀ (cdv : Value) (A : Around) (outer : List Env) (s : Shared) (H : Hp) (vs : List V) (Q : VK) (fl : Addr) (kn : Hp → Prop) (sl : List V → Hp → VK → Prop), Room (k + kl) (A.deeper (envOfC qual (defScope st) s.heap.objs.size f cdv)) → LamAt P w K mg base (frs outer) kl fl kn sl s H → sp fl kn sl vs H Q E0 →
      ∃ t, PSs (cxOf CX0 P w K mg base N qual (defScope st) f cdv A outer s H E0).nox (defBody st) t ∧ t { nx := fun _ H' => Q .non H', rt := Q } (start N vs) H) : FnL P w K mg base kl (k + 1) f fd ps sp := by
  obtain ⟨_, _, _, _, _, _, cv, _, _, rfl, look, code⟩ := F.ex
  refine ⟨len, fun A outer s H us vs Q fl kn sl room e0 L bnd rel want => ?_⟩
  have grow := fun b u e => (e0.bs b u e).1
  have inK : K.In s.heap := e0.mod.kin.keeps grow
  have nolim : s.heap.NoLimit := e0.mod.nolimit.keeps grow
  have room' : Room (k + kl + 1) A := room.mono (by omega)
  apply codeAny_call_function room.depth (inK _ _ look) rfl S.co S.gen rfl (PySem.W.codeRec_of inK code)
  apply bnd
  apply wpAny_newFunctionEnv_cells S.kind
  · rintro ⟨n, v⟩ hy
    cases S.par n (List.of_mem_zip hy).1 with
    | inl q => exact Or.inl q
    | inr q => exact Or.inr ⟨q, PySem.W.cellsFrom_some _ _ _ (Or.inl q)⟩
  intro env he s1 z
  subst he
  refine ⟨nolim.keeps z.toInCall.keep, codeAny_func ?_⟩
  obtain ⟨t, ht, hq⟩ := hb cv A outer s H vs Q fl kn sl (room'.deeper _) L want
  apply wpAny_mono (ht.nox.run [] s1 (start N vs) H _ (inv_start S room.hd e0 (len _ _ _ _ _ _ _ want) rel z) hq)
  · intro fl s' z
    cases fl with
    | ret u =>
      obtain ⟨v, σ', H', J, rv, q⟩ := z
      exact ⟨v, H', J.os, J.bare, J.base, J.hok, rv, q⟩
    | next =>
      obtain ⟨σ', H', J, q⟩ := z
      exact ⟨.non, H', J.os, J.bare, J.base, J.hok, rfl, q⟩
    | brk => exact z.choose_spec.choose_spec.2.elim
    | cont => exact z.choose_spec.choose_spec.2.elim
  · intro e s' z
    exact z
/-- a def called with a lambda among what it is handed -/
def tCallLm (N : List Str) (n : Nat) (js : List Nat) (tb : TE) (mk : Addr → LF) (sp : SpL) (t : TA) : TE := fun σ H Q => t σ H fun vs H1 => ∃ f c', Kn f (mk c') H1 ∧ sp f (Kn f (mk c')) (fun us H2 Q' => us.length = n ∧ tb (startF N us (js.map (slotAt σ))) H2 Q') vs H1 Q E0
theorem pe_callLm {X : Cx} {kl k : Nat} {g : Addr} {gd : FuncData} {gps : List Str} {sp : SpL} {x : Str} {p pos : Pos} {e : Expr} {es : List Expr} {t : TA} {N ps fr : List Str} {js : List Nat} {mk : Addr → LF} {tb : TE}
    (G : FnL X.prog X.w X.K X.mg X.base (kl + 1) k g gd gps sp) (hr : Room (k + (kl + 1)) X.A) (hg : Gl X x) (hm : X.mg x = some (.ref g)) (hk : PySem.W.keepIn X.K (.ref g) = true) (hbg : Binds X.K gd gps []) (ha : PA X (e :: es) t)
    (S : ∀ c', NScope N ps fr (mk c').sc) (cp : X.Ok → ∀ c', Caps X (mk c').cl fr js)
    (hbind : ∀ (c' : Addr) (pm ctv : Value) (us : List Value), us.length = ps.length → bindArgs (PySem.W.kla_fn "<lambda>" (mk c').qual (mk c').pr (mk c').bd (mk c').sc (mk c').cl pm (.ref (mk c').c) ctv) ⟨us, []⟩ = pure (ps.zip us))
    (hb : ∀ (f c' : Addr) (A : Around) (outer : List Env) (s1 : Shared) (H1 : Hp), Room kl (A.deeper (envF ⟨"<lambda>", (mk c').qual, (mk c').pr, [], (mk c').sc, (mk c').cl, (mk c').c⟩ f s1.heap.objs.size)) →
      PE (ncx CX0 X.prog X.w X.K X.mg X.base N ⟨"<lambda>", (mk c').qual, (mk c').pr, [], (mk c').sc, (mk c').cl, (mk c').c⟩ f A outer s1 H1 E0) (mk c').bd tb)
    (hdb : (x == ("__debug__" : Str)) = false := by decide) (he : starEach (e :: es) X.env = (false, eval e X.env) :: starEach es X.env := by rfl) (hpl : (backTo pos (starEach es X.env)).any (·.1) = false := by rfl) :
    PE X (.Call (.Name x p) (e :: es) [] pos) (tCallLm N ps.length js tb mk sp t) := by
  refine ⟨fun pins s σ H Q I h => ?_⟩
  apply wpAny_Call_Name_kw (ld_glob I hg hm ?_ hdb)
  apply PySem.W.callWith_K (h₀ := X.base) I.ok.mod.kin hk ?_ he hpl
  apply thn (ha.run pos pins s σ H _ I h)
  rintro us s1 ⟨vs, H1, I1, rv, f, c', kn, want⟩
  refine ⟨I1.kIn, ?_⟩
  have L := lam_at (k := kl) I1 (S c') (cp I1.ok c') (hbind c') (fun A outer s2 H2 room => hb f c' A outer s2 H2 room)
  have hl : (us ++ []).length = gps.length := by
    rw [List.append_nil, ← rv.length]
    exact G.ln _ _ _ _ _ _ _ want
  have bd := hbg s1 us I1.kIn hl
  rw [List.append_nil] at bd
  apply wpAny_call
  apply codeAny_mono (G.go X.A X.stack s1 H1 us vs Q f _ _ hr I1.env0 L bd rv want)
  intro res s' q
  match res, q with
  | .ok (.ret u), q => exact I1.after q
  | .ok .next, q => exact False.elim q
  | .ok .brk, q => exact False.elim q
  | .ok .cont, q => exact False.elim q
  | .error e, q => exact False.elim q
end KB

namespace KB
open PySem L2 HT

theorem All2.take {α : Type} {S : α → V → Prop} : ∀ {as : List α} {vs : List V} (n : Nat), All2 S as vs → All2 S (as.take n) (vs.take n)
  | _, _, 0, _ => trivial
  | [], [], _ + 1, _ => trivial
  | a :: as, v :: vs, n + 1, h => ⟨h.1, All2.take n h.2⟩
  | [], _ :: _, _ + 1, h => h.elim
  | _ :: _, [], _ + 1, h => h.elim
/-! ### remade as a machine of data -/
section
variable {N B : Type} (R : Tre N) (g : N → List B → B) (F : N → B)
end
section
variable {P : Program} {w : World} {K : PySem.W.Frag} {mg : Str → Option Value} {base : Heap} {N B : Type}
def WtV (R : Tre N) (H : Hp) (e : N × Bool) (v : V) : Prop := ∃ q a, v = .ref q ∧ H q = some (.tup [.ref a, .bl e.2]) ∧ R.A H e.1 a
theorem WtV.tk {R : Tre N} {H H' : Hp} (k : TK H H') {e : N × Bool} {v : V} (h : WtV R H e v) : WtV R H' e v := let ⟨q, a, e1, h1, h2⟩ := h; ⟨q, a, e1, k _ _ h1, R.tk k h2⟩
/-- what stays of what a def leans on -/
structure Jx (J : Hp → Prop) : Prop where
  sm : ∀ {H H' : Hp}, Same H H' → J H → J H'
  mu : ∀ {H : Hp} {a : Addr} {xs : List V} {o : HO}, H a = some (.lst xs) → J H → J (upd H a o)
/-- remade, where what is made of a part may fill tables -/
def spRemX (R : Tre N) (S : Hp → B → V → Prop) (g : N → List B → B) (F : N → B) (J : Hp → Prop) (gp : Addr) : SpL := fun gm kn sl vs H Q _ => ∃ (n : N) (a : Addr), vs = [.ref a, .ref gp, .ref gm] ∧ kn H ∧ J H ∧ R.A H n a ∧ R.sz n ≤ 5000 ∧
  (∀ (H1 : Hp) (m : N) (b q : Addr) (bs : List B) (us : List V) (Q' : VK), Sx H H1 → kn H1 → J H1 → R.A H1 m b → H1 q = some (.tup us) → All2 (S H1) bs us → bs.length = (R.kids m).length → (∀ v H2, Sx H1 H2 → J H2 → S H2 (g m bs) v → Q' v H2) → sl [.ref b, .ref q] H1 Q') ∧
  ∀ v H', Sx H H' → J H' → S H' (F n) v → Q v H'
end
end KB

namespace KB
open PySem PySem.Spec PyProof.Rows L2 LamX NdefX

/-! ### a def whose code object is known -/
structure FunC (K : PySem.W.Frag) (x qual : Str) (st : Stmt) (f : Addr) (fd : FuncData) (c : Addr) : Prop where
  ex : ∃ (oc : Value) (od : Option Addr) (kV doc pm : Value) (an : Option Addr) (ct : Value) (osl : Array (Option Value)),
    fd = PySem.W.fnOf x qual (defArgs st) (defBody st) (defScope st) .none kV doc pm an (.ref c) ct ∧ K.lookup f = some ⟨oc, od, .func fd, osl⟩ ∧ PySem.W.codeIn K (.ref c) qual = true
section
variable {P : Program} {w : World} {K : PySem.W.Frag} {mg : Str → Option Value} {base : Heap}
theorem okC {x qual : Str} {st : Stmt} {f c : Addr} {fd : FuncData} {N ps : List Str} {k : Nat} {sp : Sp} (F : FunC K x qual st f fd c) (S : FnScope N ps (defScope st)) (len : ∀ vs H Q E, sp vs H Q E → vs.length = ps.length)
    (hb : ∀ (A : Around) (outer : List Env) (s : Shared) (H : Hp) (vs : List V) (Q : VK) (E : XK), Room k (A.deeper (envOfC qual (defScope st) s.heap.objs.size f (.ref c))) → sp vs H Q E →
      ∃ t, PSs (cxOf CX0 P w K mg base N qual (defScope st) f (.ref c) A outer s H E).nox (defBody st) t ∧ t { nx := fun _ H' => Q .non H', rt := Q } (start N vs) H) : FnOk P w K mg base CX0 (k + 1) f fd ps sp := by
  obtain ⟨oc, od, kV, doc, pm, an, ct, osl, rfl, look, code⟩ := F.ex
  refine fn_of look code S len fun A outer s H vs Q E room want => ?_
  obtain ⟨t, ht, hq⟩ := hb A outer s H vs Q E room want
  exact ⟨t, ht.nox, hq⟩
end
/-- g(e, e2, lambda ..) -/
theorem pe_callLam {X : Cx} {kl k : Nat} {g : Addr} {gd : FuncData} {gps : List Str} {sp : SpL} {x : Str} {p pos lpos : Pos} {e e2 : Expr} {t1 t2 : TE} {pr : Arguments} {bd : Expr} {sc : Scope} {T : List (Addr × Str)} {c P : Addr} {N ps fr : List Str} {js : List Nat} {tb : TE}
    (TB : TabB X.base X.mg c P) (hcode : X.env.code = .ref c) (hm : (P, X.env.qual ++ "<lambda>") ∈ T) (hu : ∀ p ∈ T, p.1 = P → p.2 = X.env.qual ++ "<lambda>")
    (G : FnL X.prog X.w X.K X.mg X.base (kl + 1) k g gd gps sp) (hr : Room (k + (kl + 1)) X.A) (hg : Gl X x) (hmg : X.mg x = some (.ref g)) (hk : PySem.W.keepIn X.K (.ref g) = true) (hbg : Binds X.K gd gps []) (h1 : PE X e t1) (h2 : PE X e2 t2)
    (S : NScope N ps fr sc) (hfree : ∀ y ∈ sc.names, y.2 = .free → X.env.scope.names.lookup y.1 = some .cell ∨ X.env.scope.names.lookup y.1 = some .free) (hfr : ∀ y ∈ fr, (y, NameKind.free) ∈ sc.names) (hjs : js.map (fun j => X.N[j]?) = fr.map some)
    (hbind : ∀ (q : Str) (cl : List (Str × Addr)) (c' : Addr) (pm ctv : Value) (us : List Value), us.length = ps.length → bindArgs (PySem.W.kla_fn "<lambda>" q pr bd sc cl pm (.ref c') ctv) ⟨us, []⟩ = pure (ps.zip us))
    (hb : ∀ (q : Str) (cl : List (Str × Addr)) (f c' : Addr) (A : Around) (outer : List Env) (s1 : Shared) (H1 : Hp), Room kl (A.deeper (envF ⟨"<lambda>", q, pr, [], sc, cl, c'⟩ f s1.heap.objs.size)) →
      PE (ncx CX0 X.prog X.w X.K X.mg X.base N ⟨"<lambda>", q, pr, [], sc, cl, c'⟩ f A outer s1 H1 E0) bd tb)
    (hdef : defaultsOf pr X.env = ([], []) := by rfl) (hdb : (x == ("__debug__" : Str)) = false := by decide)
    (he : starEach [e, e2, .Lambda pr bd sc lpos] X.env = (false, eval e X.env) :: starEach [e2, .Lambda pr bd sc lpos] X.env := by rfl) (hpl : (backTo pos (starEach [e2, .Lambda pr bd sc lpos] X.env)).any (·.1) = false := by rfl)
    (hs2 : starEach [e2, .Lambda pr bd sc lpos] X.env = (false, eval e2 X.env) :: starEach [.Lambda pr bd sc lpos] X.env := by rfl) (hs3 : starEach [.Lambda pr bd sc lpos] X.env = (false, eval (.Lambda pr bd sc lpos) X.env) :: starEach [] X.env := by rfl) :
    PE X (.Call (.Name x p) [e, e2, .Lambda pr bd sc lpos] [] pos) (tCallLm N ps.length js tb (fun c' => ⟨X.env.qual ++ "<lambda>", pr, bd, sc, cloFrom X.env.cells sc.names [], c'⟩) sp (tCons t1 (tCons t2 (tCons (tLambda T fun c' => ⟨X.env.qual ++ "<lambda>", pr, bd, sc, cloFrom X.env.cells sc.names [], c'⟩) tNil)))) :=
  pe_callLm G hr hg hmg hk hbg (pa_cons h1 (pa_cons h2 (pa_cons (pe_lambda TB hcode hm hu hdef hfree) pa_nil hs3) hs2) he) (fun _ => S) (fun ok c' => Caps.made ok hfree hfr hjs) (fun c' pm ctv us hl => hbind _ _ c' pm ctv us hl) (fun f c' A outer s1 H1 room => hb _ _ f c' A outer s1 H1 room) hdb he hpl
end KB

namespace KB
open PySem PySem.Spec PyProof.Rows L2

/-! ### {**d, k: v} -/
section
variable {prog : Program} {w : World} {K : Type} [DecidableEq K] {knd : KeyKind prog w K} {A : Around} {E : Value → Shared → Prop} {s : Shared}
theorem put_pairs {a : Addr} {ps : List (K × Value)} {c : K} {cv u : Value} {Q : Unit → Shared → Prop} (hc : knd.is c cv = true) (hm : s.heap.DictOf knd a ps) (hz : ps.length ≤ sizeLine)
    (q : ∀ g, g.DictOf knd a (stored ps c u) → Heap.SameBut a s.heap g → Q () { s with heap := g }) : wpAny (model prog w) A (dictPut a (knd.hash c) cv u) Q E s := by
  obtain ⟨ob, ds, n, h1, h2, h3, h4, h5, h6⟩ := hm
  have hds : ds.size ≤ sizeLine := by
    have e1 := h5.length
    have e2 : ds.toList.length = ds.size := by simp
    omega
  unfold dictPut
  refine wpAny_bind (wpAny_dictFind_of hc h1 h3 h4 ?_)
  have hx : (ds.findIdx? fun e => knd.is c e.key) = ps.findIdx? fun p => decide (p.1 = c) := by
    rw [← h5.findIdx c]
    obtain ⟨l⟩ := ds
    simp
  cases hi : ds.findIdx? fun e => knd.is c e.key with
  | some i =>
    refine wpAny_updateDict h1 h3 (q _ ⟨_, _, n, Heap.get?_update_self _ h1 (Obj.isFreed_of_dict (Obj.data_mapDict h3 _)), h2.mapDict _, Obj.data_mapDict h3 _, h4.modify _ _, ?_, ?_⟩ (Heap.SameBut.update ..))
    · rw [stored, if_pos (any_of_findIdx_some (hx ▸ hi))]
      have hl : (ds.toList.findIdx? fun e => knd.is c e.key) = some i := by
        rw [← hi]
        obtain ⟨l⟩ := ds
        simp
      have := h5.modify h6 hl u
      obtain ⟨l⟩ := ds
      simpa using this
    · rw [stored, if_pos (any_of_findIdx_some (hx ▸ hi)), keys_map_store]
      exact h6
  | none =>
    have hno : c ∉ ps.map (·.1) := not_mem_of_findIdx_none (hx ▸ hi)
    have hany : ¬ (ps.any fun p => decide (p.1 = c)) = true := by
      rw [List.any_eq_true]
      rintro ⟨p, hp, he⟩
      exact hno (List.mem_map.mpr ⟨p, hp, of_decide_eq_true he⟩)
    refine wpAny_updateDictKeys (hz := hds) h1 h3 (q _ ⟨_, _, n + 1, Heap.get?_update_self _ h1 (Obj.isFreed_of_dict (Obj.data_mapDictKeys h3 _)), h2.mapDictKeys _, Obj.data_mapDictKeys h3 _, h4.push hc _, ?_, ?_⟩ (Heap.SameBut.update ..))
    · rw [stored, if_neg hany]
      have := h5.append hc (knd.hash c) u
      obtain ⟨l⟩ := ds
      simpa using this
    · rw [stored, if_neg hany, List.map_append, List.nodup_append]
      refine ⟨h6, by simp, ?_⟩
      intro x hx1 y hy
      simp only [List.map_cons, List.map_nil, List.mem_singleton] at hy
      subst hy
      exact fun e => hno (e ▸ hx1)
theorem merge_pairs {a b : Addr} {ps rs : List (K × Value)} {Q : Unit → Shared → Prop} (hab : a ≠ b) (hb : (b == sysModules) = false) (ha : s.heap.DictOf knd a ps) (hr : s.heap.DictOf knd b rs) (hz : ps.length + rs.length ≤ sizeLine)
    (q : ∀ g, g.DictOf knd a (merged ps rs) → Heap.SameBut a s.heap g → Q () { s with heap := g }) : wpAny (model prog w) A (mergeMapping a (.ref b) false) Q E s := by
  obtain ⟨oa, da, na, a1, a2, a3, a4, a5, a6⟩ := id ha
  obtain ⟨ob, db, nb, b1, b2, b3, b4, b5, b6⟩ := id hr
  have hlen : rs.length = db.size := by rw [← b5.length]; simp
  unfold mergeMapping
  refine wpAny_bind (wpAny_isInstance hr.typeIs isSubtype_dict_dict ?_)
  dsimp only
  rw [if_pos rfl]
  refine wpAny_bind (wpAny_specialOf hr.typeIs F.slot_dict_iter.lookup ?_)
  refine wpAny_bind (wpAny_pure ?_)
  rw [beq_self_eq_true]
  dsimp only
  rw [if_neg (by rw [hb]; exact Bool.false_ne_true)]
  refine wpAny_bind (wpAny_dictEntries a1 a3 ?_)
  have main : wpAny (model prog w) A (do
      let l ← dictEntries b
      let ep ← dictEpoch b
      forIn (List.range l.size) PUnit.unit fun i (_ : PUnit) => (do
        let l2 ← dictEntries b
        match l2[i]? with
        | some e => do
          holding [e.key, e.val] (dictPut a e.hash e.key e.val)
          let ep2 ← dictEpoch b
          if (ep2 != ep) = true then do
            unsupported "dict.changed-during-merge"
            pure (ForInStep.yield PUnit.unit)
          else pure (ForInStep.yield PUnit.unit)
        | x => do
          unsupported "dict.changed-during-merge"
          pure (ForInStep.yield PUnit.unit) : Sem (ForInStep PUnit))
      pure ()) Q E s := by
    refine wpAny_bind (wpAny_dictEntries b1 b3 ?_)
    refine wpAny_bind (wpAny_dictEpoch b1 b3 ?_)
    refine wpAny_bind ?_
    rw [List.range_eq_range']
    refine wpAny_forIn_list _
      (fun rest _ s' => ∃ g i, s' = { s with heap := g } ∧ rest = List.range' i (db.size - i) ∧ i ≤ db.size ∧ g.DictOf knd a (merged ps (rs.take i)) ∧ g.get? b = some ob ∧ Heap.SameBut a s.heap g)
      _ ?_ ?_ _ _ ⟨s.heap, 0, rfl, by simp, Nat.zero_le _, by simpa [merged] using ha, b1, Heap.SameBut.refl _ _⟩
    · rintro x rest u s' ⟨g, i, rfl, h1, h2, h3, h4, h5⟩
      have hlt : i < db.size := by
        rcases Nat.lt_or_ge i db.size with h | h
        · exact h
        · rw [Nat.sub_eq_zero_of_le h] at h1
          simp at h1
      obtain ⟨rfl, hrest⟩ : x = i ∧ rest = List.range' (i + 1) (db.size - (i + 1)) := by
        have e : db.size - i = (db.size - (i + 1)) + 1 := by omega
        rw [e, List.range'_succ] at h1
        injection h1 with e1 e2
        exact ⟨e1, e2⟩
      refine wpAny_bind (wpAny_dictEntries h4 b3 ?_)
      rw [Array.getElem?_eq_getElem hlt]
      obtain ⟨⟨c, u2⟩, hkv⟩ : ∃ p, rs[x]? = some p := ⟨rs[x]'(by rw [hlen]; exact hlt), List.getElem?_eq_getElem _⟩
      obtain ⟨g1, g2⟩ := b5.get? (e := db[x]) (by simp [hlt]) hkv
      obtain ⟨c2, g3, g4⟩ := b4 db[x] (Array.getElem_mem hlt)
      obtain rfl : c2 = c := knd.inj _ _ _ g3 g1
      dsimp only
      rw [g4, g2]
      have hmx : (merged ps (rs.take x)).length ≤ sizeLine := by
        have e1 := merged_length_le ps (rs.take x)
        have e2 : (rs.take x).length ≤ rs.length := by rw [List.length_take]; omega
        omega
      refine wpAny_bind (wpAny_holding (put_pairs g1 h3 hmx fun g' d' s' => ?_))
      have h4' : g'.get? b = some ob := (s'.2 b (Ne.symm hab)).trans h4
      refine wpAny_bind (wpAny_dictEpoch h4' b3 ?_)
      rw [if_neg (by simp)]
      exact wpAny_pure ⟨g', x + 1, rfl, hrest, hlt, by rw [merged_take_succ ps rs x (c2, u2) hkv]; exact d', h4', h5.trans s'⟩
    · rintro u s' ⟨g, i, rfl, h1, h2, h3, h4, h5⟩
      have hin : i = db.size := by
        rcases Nat.lt_or_ge i db.size with h | h
        · have e : db.size - i = (db.size - (i + 1)) + 1 := by omega
          rw [e, List.range'_succ] at h1
          exact nomatch h1
        · exact Nat.le_antisymm h2 h
      rw [hin, ← hlen, List.take_length] at h3
      exact wpAny_pure (q g h3 h5)
  by_cases he : da.isEmpty = true
  · rw [if_pos he]
    refine wpAny_bind (wpAny_dictEntries b1 b3 ?_)
    have quiet : (forIn db PUnit.unit fun e (_ : PUnit) => (match e.key with
        | Value.ref a => do
          let x ← specialOf e.key (Str.ofString "__eq__")
          if (x != some (Value.builtin "object.__eq__")) = true then
            if (Array.filter (fun y => y.hash == e.hash) db).size > 1 then do
              unsupported "dict.merge-into-an-empty-dict:keys-of-equal-hash"
              pure (ForInStep.yield PUnit.unit)
            else pure (ForInStep.yield PUnit.unit)
          else pure (ForInStep.yield PUnit.unit)
        | x => pure (ForInStep.yield PUnit.unit) : Sem (ForInStep PUnit))) = pure PUnit.unit := by
      rw [← Array.forIn_toList]
      refine forIn_yield_id _ fun e hm c => ?_
      obtain ⟨k, hkey, _⟩ := b4 e (Array.mem_toList_iff.mp hm)
      have hv := knd.byValue k _ hkey
      split
      · rename_i z hz
        rw [hz] at hv
        exact absurd hv Bool.false_ne_true
      · rfl
    refine wpAny_bind (wpAny_of_eq quiet ?_)
    exact main
  · rw [if_neg he]
    exact main
/-- a dict display that begins with ** and has one pair behind -/
theorem dd_is (v k u : Sem Value) : dictDisplay [(none, v), (some k, u)] = (do
    let d ← alloc { cls := .type "dict", data := .dict #[] }
    let m ← holding [.ref d] v
    (((holding [.ref d, m] (mergeMapping d m false)).onRaise fun x => do let _ ← holding [.ref d, m, x] (runValue (.builtin "proto.let_go" {}))).tryCatch fun e => do
        if ← isInstance e (.type "AttributeError") then
          rule "dict.display.not-a-mapping"; raiseError "TypeError" s!"'{← typeNameOf m}' object is not a mapping"
        throw e).onRaise fun x => do let _ ← holding [.ref d, x] (runValue (.builtin "proto.let_go" {}))
    let sub ← holding [.ref d] (subDict [(k, u)])
    (holding [.ref d, .ref sub] (mergeMapping d (.ref sub) false)).onRaise fun x => do let _ ← holding [.ref d, x] (runValue (.builtin "proto.let_go" {}))
    pure (.ref d)) := by
  unfold dictDisplay
  simp
end
section
variable {X : Cx}
/-- {**d, k: v} -/
def tDD (tv : TE) (trs : List (TE × TE)) : TE := fun σ H Q => ∀ p, H p = none → tv σ (upd H p (.dK [])) fun x H1 => ∃ (o : Addr) (ps : List (Key × V)), x = .ref o ∧ o ≠ p ∧ H1 p = some (.dK []) ∧ H1 o = some (.dK ps) ∧
  ∀ q, upd H1 p (.dK ps) q = none → tPairs trs σ (upd (upd H1 p (.dK ps)) q (.dK [])) fun us H2 => H2 q = some (.dK []) ∧ H2 p = some (.dK ps) ∧ q ≠ p ∧ ∃ rs : List (Key × V), us = rs.map (fun kv => (kV kv.1, kv.2)) ∧ rs.length ≤ 15 ∧ ps.length + rs.length ≤ sizeLine ∧
    Q (.ref p) (upd (upd H2 q (.dK (mergeK [] rs))) p (.dK (mergeK ps (mergeK [] rs))))
theorem pe_dd {pos : Pos} {ve ke ue : Expr} {tv : TE} {trs : List (TE × TE)} (hv : PE X ve tv) (h : PPs X pos [some ke] [ue] trs) : PE X (.Dict [none, some ke] [ve, ue] pos) (tDD tv trs) := by
  refine ⟨fun pins s σ H Q I q => ?_⟩
  rw [arm_eval_Dict]
  show wpAny _ _ (do standAt pos; dictDisplay [(none, do let x ← eval ve X.env; standAt pos; pure x), (some (eval ke X.env), do let x ← eval ue X.env; standAt pos; pure x)]) _ _ _
  rw [dd_is]
  refine wpAny_bind (wpAny_standAt (wpAny_bind (wpAny_alloc (wpAny_bind (wpAny_holding ?_)))))
  have hn := I.hok.fresh (Nat.le_refl s.heap.objs.size)
  have I1 := I.laid (a := s.heap.objs.size) (o := .dK []) (h' := s.heap.push { cls := .type "dict", data := .dict #[] }) (t' := s.toks) (fun _ _ q => Heap.get?_push_of_some _ q) (Nat.le_refl _) (dk_empty s.heap I.big)
  refine wpAny_bind (thn (hv.run pins _ σ _ _ I1 (q _ hn)) fun u s1 ⟨x, H1, I2, rx, o, ps, ex, hop, e1, e2, q1⟩ => wpAny_bind (wpAny_standAt (wpAny_pure ?_)))
  subst ex
  obtain rfl : u = Value.ref o := rx
  obtain ⟨z1, hd1, vs1, r1, dd1⟩ := dk_of I2.hok e1
  cases r1
  obtain ⟨z2, hd2, vs2, r2, dd2⟩ := dk_of I2.hok e2
  refine wpAny_bind (wpAny_onRaise (wpAny_tryCatch (wpAny_onRaise (wpAny_holding (merge_pairs (Ne.symm hop) hd2 dd1 dd2 (by rw [List.length_nil, Nat.zero_add, ← r2.length]; exact z2) fun g dg hs => ?_)))))
  have hnd : (vs2.map (·.1)).Nodup := by
    obtain ⟨_, _, _, _, _, _, _, _, hx⟩ := dd2
    exact hx
  rw [merged_nil_of_nodup vs2 hnd] at dg
  have he : ∃ y, g.get? s.heap.objs.size = some y := let ⟨y, _, _, hy, _⟩ := dg; ⟨y, hy⟩
  have I3 := d_write (t' := s1.toks) I2 (by rw [e1]; exact True.intro) hs he (dk_new (H' := upd H1 s.heap.objs.size (.dK ps)) z2 hd1 r2 dg)
  have hq := I3.hok.fresh (Nat.le_refl g.objs.size)
  have I4 := I3.laid (a := g.objs.size) (o := .dK []) (h' := g.push { cls := .type "dict", data := .dict #[] }) (t' := s1.toks) (fun _ _ q => Heap.get?_push_of_some _ q) (Nat.le_refl _) (dk_empty g I3.big)
  refine wpAny_bind (wpAny_holding (wpAny_subDict (knd := mixKind X.prog X.w) (pairs := pairTrees [some ke] [ue] X.env pos) (by show 1 ≤ 15; decide) (thn (h.run pins _ σ _ _ I4 (q1 _ hq)) fun ws s2 ⟨us, H2, I5, rel, f1, f2, hqp, rs, eu, l15, lz, q2⟩ => ?_)))
  subst eu
  obtain ⟨cs, c, rk⟩ := carries_of (P := X.prog) (w := X.w) rel
  obtain ⟨z5, hd5, vs5, r5, dd5⟩ := dk_of I5.hok f1
  cases r5
  refine ⟨cs, c, dd5, fun g' dg' hs' => ?_⟩
  have hz : (mergeK [] rs).length ≤ sizeLine := by
    have h1 := length_mergeK rs []
    rw [List.length_nil] at h1
    rw [sizeLine_eq]
    omega
  have he' : ∃ y, g'.get? g.objs.size = some y := let ⟨y, _, _, hy, _⟩ := dg'; ⟨y, hy⟩
  have I6 := d_write (t' := s2.toks + ws.length) I5 (by rw [f1]; exact True.intro) hs' he' (dk_new (H' := upd H2 g.objs.size (.dK (mergeK [] rs))) hz hd5 (rk.merge .nil) dg')
  have f3 : upd H2 g.objs.size (.dK (mergeK [] rs)) s.heap.objs.size = some (.dK ps) := by
    rw [upd_ne (Ne.symm hqp)]
    exact f2
  obtain ⟨z7, hd7, vs7, r7, dd7⟩ := dk_of I6.hok f3
  obtain ⟨z8, hd8, vs8, r8, dd8⟩ := dk_of I6.hok (upd_same (H := H2) (a := g.objs.size) (o := .dK (mergeK [] rs)))
  have hl8 : vs7.length + vs8.length ≤ sizeLine := by
    rw [← r7.length, ← r8.length]
    have h1 := length_mergeK rs []
    rw [List.length_nil] at h1
    omega
  refine wpAny_bind (wpAny_onRaise (wpAny_holding (merge_pairs (Ne.symm hqp) hd8 dd7 dd8 hl8 fun g2 dg2 hs2 => ?_)))
  have he2 : ∃ y, g2.get? s.heap.objs.size = some y := let ⟨y, _, _, hy, _⟩ := dg2; ⟨y, hy⟩
  have hz9 : (mergeK ps (mergeK [] rs)).length ≤ sizeLine := by
    have h1 := length_mergeK rs []
    have h2 := length_mergeK (mergeK [] rs) ps
    rw [List.length_nil] at h1
    omega
  exact wpAny_pure ⟨.ref s.heap.objs.size, _, d_write (t' := s2.toks + ws.length) I6 (by rw [f3]; exact True.intro) hs2 he2 (dk_new hz9 hd7 (r8.merge r7) dg2), rfl, q2⟩
end
end KB

namespace KB
open PySem L2 HT
open PySem.Sem (wp)
open RZ (nextOf_tuple_item nextOf_tuple_end)

/-! ### dict(zip(xs, ys)) of two tuples: the pair that was given out stands still -/
section
variable {prog : Program} {w : World} {A : Around} {E : Value → Shared → Prop} {s : Shared}
structure ZT (h : Heap) (z TI i1 i2 l1 l2 : Addr) (xs ys : Array Value) (k : Nat) : Prop where
  pr : IsPair h TI (.ref i1) (.ref i2)
  a1 : h.IsTupleIter i1 l1 k
  a2 : h.IsTupleIter i2 l2 k
  t1 : h.IsTuple l1 xs
  t2 : h.IsTuple l2 ys
theorem ZT.at {h h' : Heap} {z TI i1 i2 l1 l2 : Addr} {xs ys : Array Value} {k : Nat} (x : ZT h z TI i1 i2 l1 l2 xs ys k) (e : ∀ c, c = TI ∨ c = i1 ∨ c = i2 ∨ c = l1 ∨ c = l2 → ∀ o, h.get? c = some o → h'.get? c = some o) :
    ZT h' z TI i1 i2 l1 l2 xs ys k :=
  ⟨e _ (by simp) _ x.pr, x.a1.at fun o => e _ (by simp) o, x.a2.at fun o => e _ (by simp) o, x.t1.at fun o => e _ (by simp) o, x.t2.at fun o => e _ (by simp) o⟩
/-- up to the first of the two steps inside zip's next, its pair still out -/
theorem zt_go {z TI TO T i1 i2 l1 l2 : Addr} {f : Bool} {oT : Obj} {k : Nat} {xs ys : Array Value} {Q : Fin → Shared → Prop}
    (hz : IsZipHeld s.heap z TI TO T f) (hT : s.heap.get? T = some oT) (st : ZT s.heap z TI i1 i2 l1 l2 xs ys k)
    (h : ∀ h1, IsZipHeld h1 z TI TO T true → Heap.SameBut z s.heap h1 →
      wpAny (model prog w) A (Builtin.SmallTypes.nextOf (.ref i1)) (fun x s2 => wpAny (model prog w) A (Builtin.SmallTypes.nextOf (.ref i2)) (fun y s3 => wpAny (model prog w) A (newTuple [x, y]) (fun v s4 => Q (.done (.ret v)) s4) E s3) E s2) E { s with heap := h1 }) :
    wpAny (model prog w) A (Builtin.«zip.__next__» ⟨[.ref z], []⟩) Q E s := by
  show wpAny _ _ (field (.ref z) 2 >>= _) _ _ _
  refine wpAny_bind (wpAny_field hz rfl (x := .bool false) rfl ?_)
  show wpAny _ _ (field (.ref z) 3 >>= _) _ _ _
  refine wpAny_bind (wpAny_field hz rfl (x := .ref TI) rfl (wpAny_bind (wpAny_seqItems st.pr rfl ?_)))
  show wpAny _ _ (Builtin.SmallTypes.ownedTupleIsFree (.ref z) >>= _) _ _ _
  refine wpAny_bind (wpAny_tupleHeld_zip hz hT fun h1 z1 b1 => ?_)
  simp only [Bool.false_eq_true, if_false]
  refine wpAny_bind ?_
  rw [← Array.forIn_toList]
  simp only [List.forIn_cons, List.forIn_nil]
  refine wpAny_bind (wpAny_bind (wpAny_holding ?_))
  show wpAny _ _ (Builtin.SmallTypes.nextOf (.ref i1) >>= _) _ _ _
  refine wpAny_bind (thn (h h1 z1 b1) fun x s2 q => ?_)
  refine wpAny_pure ?_
  refine wpAny_pure ?_
  refine wpAny_bind (wpAny_bind (wpAny_holding ?_))
  show wpAny _ _ (Builtin.SmallTypes.nextOf (.ref i2) >>= _) _ _ _
  refine wpAny_bind (thn q fun y s3 q => ?_)
  refine wpAny_pure ?_
  refine wpAny_pure ?_
  refine wpAny_pure ?_
  show wpAny _ _ (newTuple [x, y] >>= _) _ _ _
  exact wpAny_bind (thn q fun v s4 q => wpAny_pure q)
theorem zt_item {z TI TO T i1 i2 l1 l2 : Addr} {f : Bool} {oT : Obj} {k : Nat} {xs ys : Array Value} {x y : Value} {Q : Option Value → Shared → Prop} (D : ZipApart z TI TO i1 i2 l1 l2)
    (hz : IsZipHeld s.heap z TI TO T f) (hT : s.heap.get? T = some oT) (st : ZT s.heap z TI i1 i2 l1 l2 xs ys k) (hx : xs[k]? = some x) (hy : ys[k]? = some y)
    (hQ : ∀ h', IsZipHeld h' z TI TO T true → ZT h' z TI i1 i2 l1 l2 xs ys (k + 1) → IsPair h' s.heap.objs.size x y →
      (∀ c o, c ≠ z → c ≠ i1 → c ≠ i2 → s.heap.get? c = some o → h'.get? c = some o) → Q (some (.ref s.heap.objs.size)) { s with heap := h' }) :
    wpAny (model prog w) A (pyNext (.ref z)) Q E s := by
  have hTy : s.TypeIs (.ref z) "zip" := ⟨_, hz, rfl⟩
  unfold pyNext
  refine wpAny_bind (wpAny_attempt (wpAny_callSpecial?_slot (name := Str.ofString "__next__") hTy F.slot_zip_next
    (wpAny_call_entry F.slot_zip_next hTy F.entry_zip_next (zt_go hz hT st fun h1 z1 b1 => ?_) (F.args_zip_next_1 _))))
  refine nextOf_tuple_item (s := { s with heap := h1 }) (st.a1.at fun o e => (b1.extBut _ _ D.i1z e)) (st.t1.at fun o e => b1.extBut _ _ D.l1z e) hx fun h2 a1 b2 => ?_
  refine nextOf_tuple_item (s := { s with heap := h2 }) (st.a2.at fun o e => b2.extBut _ _ D.i12.symm (b1.extBut _ _ D.i2z e)) (st.t2.at fun o e => b2.extBut _ _ D.l2i1 (b1.extBut _ _ D.l2z e)) hy fun h3 a2 b3 => ?_
  refine wpAny_newTuple ?_
  have hsz : h3.objs.size = s.heap.objs.size := by rw [b3.1, b2.1, b1.1]
  have k3 : ∀ c o, c ≠ z → c ≠ i1 → c ≠ i2 → s.heap.get? c = some o → h3.get? c = some o := fun c o c1 c2 c3 e => b3.extBut _ _ c3 (b2.extBut _ _ c2 (b1.extBut _ _ c1 e))
  have hp : IsPair (h3.push { cls := .type "tuple", data := .seq #[x, y] }) h3.objs.size x y := Heap.get?_push_size _ rfl
  refine ⟨_, rfl, wpAny_pure ?_⟩
  show Q (some (.ref h3.objs.size)) _
  rw [hsz] at hp ⊢
  exact hQ _ (Heap.get?_push_of_some _ (b3.extBut _ _ D.i2z.symm (b2.extBut _ _ D.i1z.symm z1)))
    ⟨Heap.get?_push_of_some _ (k3 _ _ D.TIz D.TIi1 D.TIi2 st.pr), a1.at fun o e => Heap.get?_push_of_some _ (b3.extBut _ _ D.i12 e), a2.at fun o e => Heap.get?_push_of_some _ e,
      st.t1.at fun o e => Heap.get?_push_of_some _ (k3 _ o D.l1z D.l1i1 D.l1i2 e), st.t2.at fun o e => Heap.get?_push_of_some _ (k3 _ o D.l2z D.l2i1 D.l2i2 e)⟩
    hp fun c o c1 c2 c3 e => Heap.get?_push_of_some _ (k3 c o c1 c2 c3 e)
theorem zt_end {z TI TO T i1 i2 l1 l2 : Addr} {f : Bool} {oT : Obj} {k : Nat} {xs ys : Array Value} {Q : Option Value → Shared → Prop} (hh : A.handled = none) (D : ZipApart z TI TO i1 i2 l1 l2)
    (hz : IsZipHeld s.heap z TI TO T f) (hT : s.heap.get? T = some oT) (st : ZT s.heap z TI i1 i2 l1 l2 xs ys k) (he : xs[k]? = none ∨ ys[k]? = none)
    (hQ : ∀ h', (∀ c o, c ≠ z → c ≠ i1 → c ≠ i2 → s.heap.get? c = some o → h'.get? c = some o) → Q none { s with heap := h' }) :
    wpAny (model prog w) A (pyNext (.ref z)) Q E s := by
  have hTy : s.TypeIs (.ref z) "zip" := ⟨_, hz, rfl⟩
  have hfin : ∀ (h' : Heap) (e : Addr), (∀ c o, c ≠ z → c ≠ i1 → c ≠ i2 → s.heap.get? c = some o → h'.get? c = some o) → (∃ o, h'.get? e = some o ∧ o.cls = .type "StopIteration") →
      wpAny (model prog w) A (isInstance (.ref e) (.type "StopIteration")) (fun b s' => b = true ∧ s' = { s with heap := h' }) E { s with heap := h' } := fun h' e _ ⟨o, ho, hc⟩ =>
    wpAny_isInstance (T := "StopIteration") (b := true) ⟨o, ho, hc⟩ isSubtype_stop ⟨rfl, rfl⟩
  unfold pyNext
  refine wpAny_bind (wpAny_attempt (wpAny_callSpecial?_slot (name := Str.ofString "__next__") hTy F.slot_zip_next
    (wpAny_call_entry F.slot_zip_next hTy F.entry_zip_next (zt_go hz hT st fun h1 z1 b1 => ?_) (F.args_zip_next_1 _))))
  cases hx : xs[k]? with
  | none =>
    refine nextOf_tuple_end (s := { s with heap := h1 }) hh (st.a1.at fun o e => (b1.extBut _ _ D.i1z e)) (st.t1.at fun o e => b1.extBut _ _ D.l1z e) hx fun h2 e b2 ho => ?_
    have kk : ∀ c o, c ≠ z → c ≠ i1 → c ≠ i2 → s.heap.get? c = some o → h2.get? c = some o := fun c o c1 c2 _ e => b2 _ _ c2 (b1.extBut _ _ c1 e)
    refine wpAny_bind (thn (hfin h2 e kk ho) fun b s' hb => ?_)
    obtain ⟨rfl, rfl⟩ := hb
    exact wpAny_pure (hQ _ kk)
  | some x =>
    have hy : ys[k]? = none := he.resolve_left (by rw [hx]; exact Option.some_ne_none _)
    refine nextOf_tuple_item (s := { s with heap := h1 }) (st.a1.at fun o e => (b1.extBut _ _ D.i1z e)) (st.t1.at fun o e => b1.extBut _ _ D.l1z e) hx fun h2 a1 b2 => ?_
    refine nextOf_tuple_end (s := { s with heap := h2 }) hh (st.a2.at fun o e => b2.extBut _ _ D.i12.symm (b1.extBut _ _ D.i2z e)) (st.t2.at fun o e => b2.extBut _ _ D.l2i1 (b1.extBut _ _ D.l2z e)) hy fun h3 e b3 ho => ?_
    have kk : ∀ c o, c ≠ z → c ≠ i1 → c ≠ i2 → s.heap.get? c = some o → h3.get? c = some o := fun c o c1 c2 c3 e => b3 _ _ c3 (b2.extBut _ _ c2 (b1.extBut _ _ c1 e))
    refine wpAny_bind (thn (hfin h3 e kk ho) fun b s' hb => ?_)
    obtain ⟨rfl, rfl⟩ := hb
    exact wpAny_pure (hQ _ kk)

/-- what is told of a zip of tuples as an argument of dict -/
theorem argZipT (z TI TO i1 i2 l1 l2 : Addr) (D : ZipApart z TI TO i1 i2 l1 l2) (xs ys : Array Value) :
    PairArg prog w "zip" z [z, TI, TO, i1, i2, l1, l2] [z, TO, i1, i2] (min xs.size ys.size) (fun i k v => xs[i]? = some k ∧ ys[i]? = some v)
      (fun h => IsZip h z TI TO .none ∧ (∃ a b, IsPair h TO a b) ∧ ZT h z TI i1 i2 l1 l2 xs ys 0) where
  type := fun s ok => ⟨_, ok.1, rfl⟩
  notDict := by decide
  keep := fun h h' ⟨hz, ⟨a, b, ho⟩, st⟩ k => ⟨k _ _ hz, ⟨a, b, k _ _ ho⟩, st.at fun c _ o e => k c o e⟩
  there := fun h ⟨hz, ⟨a, b, ho⟩, st⟩ c hc => by
    obtain ⟨p, ⟨o1, e1, _⟩, ⟨o2, e2, _⟩, ⟨o3, e3, _⟩, ⟨o4, e4, _⟩⟩ := st
    simp only [List.mem_cons, List.not_mem_nil, or_false] at hc
    rcases hc with rfl | rfl | rfl | rfl | rfl | rfl | rfl
    · exact ⟨_, hz⟩
    · exact ⟨_, p⟩
    · exact ⟨_, ho⟩
    · exact ⟨_, e1⟩
    · exact ⟨_, e2⟩
    · exact ⟨_, e3⟩
    · exact ⟨_, e4⟩
  sub := fun c hc => by
    simp only [List.mem_cons, List.not_mem_nil, or_false] at hc ⊢
    rcases hc with h | h | h | h <;> simp [h]
  noKeys := fun A s Q E hA ok h => getAttrOr_miss_zip ok.1 rfl rfl rfl zip_no_keys (by decide +kernel) hA h
  iter := fun A s d Q E hA ok hd hdf h => by
    obtain ⟨hz, ⟨a, b, ho⟩, st⟩ := ok
    simp only [List.mem_cons, List.not_mem_nil, or_false, not_or] at hdf
    obtain ⟨dz, dTI, dTO, di1, di2, dl1, dl2⟩ := hdf
    refine wpAny_pyIter_zip hz (h z [z, TO, i1, i2] (fun i h => ZT h z TI i1 i2 l1 l2 xs ys i ∧
      ((IsZip h z TI TO .none ∧ ∃ a b, IsPair h TO a b) ∨ ∃ T f oT, IsZipHeld h z TI TO T f ∧ h.get? T = some oT ∧ T ≠ z ∧ T ≠ i1 ∧ T ≠ i2 ∧ T ≠ d)) s.heap s.toks ?_
      ⟨st, .inl ⟨hz, a, b, ho⟩⟩ (fun _ _ e => e) fun c hc => .inl hc)
    refine { off := ?_, frame := ?_, item := ?_, done := ?_ }
    · intro hm
      simp only [List.mem_cons, List.not_mem_nil, or_false] at hm
      rcases hm with e | e | e | e
      · exact dz e
      · exact dTO e
      · exact di1 e
      · exact di2 e
    · rintro i h1 h2 ⟨st, hz⟩ hk
      refine ⟨st.at fun c hc o e => hk c o ?_ e, ?_⟩
      · rcases hc with rfl | rfl | rfl | rfl | rfl
        · exact Ne.symm dTI
        · exact Ne.symm di1
        · exact Ne.symm di2
        · exact Ne.symm dl1
        · exact Ne.symm dl2
      · rcases hz with ⟨hz, a, b, ho⟩ | ⟨T, f, oT, hz, hT, r1, r2, r3, r4⟩
        · exact .inl ⟨hk _ _ (Ne.symm dz) hz, a, b, hk _ _ (Ne.symm dTO) ho⟩
        · exact .inr ⟨T, f, oT, hk _ _ (Ne.symm dz) hz, hk _ _ r4 hT, r1, r2, r3, r4⟩
    · rintro i s1 Q1 E1 hi ⟨st, hz⟩ hds hQ
      have ex := Array.getElem?_eq_getElem (Nat.lt_of_lt_of_le hi (Nat.min_le_left xs.size ys.size))
      have ey := Array.getElem?_eq_getElem (Nat.lt_of_lt_of_le hi (Nat.min_le_right xs.size ys.size))
      have n1 : s1.heap.objs.size ≠ i1 := let ⟨_, e, _⟩ := st.a1; Nat.ne_of_gt (Heap.lt_size e)
      have n2 : s1.heap.objs.size ≠ i2 := let ⟨_, e, _⟩ := st.a2; Nat.ne_of_gt (Heap.lt_size e)
      rcases hz with ⟨hz, a, b, ho⟩ | ⟨T, f, oT, hz, hT, r1, r2, r3, r4⟩
      · refine RZ.pyNext_zipT_item D hz st.pr ho st.a1 st.a2 st.t1 st.t2 ex ey fun h' z1 p1 c1 c2 p2 _ hk => ?_
        exact hQ s1.heap.objs.size _ _ h' s1.toks ⟨ex, ey⟩ (.inl ⟨_, p2, rfl, _, rfl⟩)
          ⟨⟨hk _ _ D.TIz D.TITO D.TIi1 D.TIi2 st.pr, c1, c2, st.t1.at fun o e => hk _ o D.l1z D.l1TO D.l1i1 D.l1i2 e, st.t2.at fun o e => hk _ o D.l2z D.l2TO D.l2i1 D.l2i2 e⟩,
            .inr ⟨s1.heap.objs.size, false, _, z1, p2, Nat.ne_of_gt (Heap.lt_size hz), n1, n2, Nat.ne_of_gt hds⟩⟩
          fun c o hc e => hk c o (fun x => hc (by simp [x])) (fun x => hc (by simp [x])) (fun x => hc (by simp [x])) (fun x => hc (by simp [x])) e
      · refine zt_item D hz hT st ex ey fun h' z1 st1 p2 hk => ?_
        exact hQ s1.heap.objs.size _ _ h' s1.toks ⟨ex, ey⟩ (.inl ⟨_, p2, rfl, _, rfl⟩) ⟨st1, .inr ⟨T, true, oT, z1, hk _ _ r1 r2 r3 hT, r1, r2, r3, r4⟩⟩
          fun c o hc e => hk c o (fun x => hc (by simp [x])) (fun x => hc (by simp [x])) (fun x => hc (by simp [x])) e
    · rintro s1 Q1 E1 ⟨st, hz⟩ hQ
      have he : xs[min xs.size ys.size]? = none ∨ ys[min xs.size ys.size]? = none := by
        rcases Nat.le_total xs.size ys.size with h | h
        · exact .inl (Array.getElem?_eq_none (by omega))
        · exact .inr (Array.getElem?_eq_none (by omega))
      rcases hz with ⟨hz, a, b, ho⟩ | ⟨T, f, oT, hz, hT, r1, r2, r3, r4⟩
      · exact RZ.pyNext_zipT_end hA D hz st.pr ho st.a1 st.a2 st.t1 st.t2 he fun h' hk => hQ h' s1.toks fun c o hc e => hk c o (fun x => hc (by simp [x])) (fun x => hc (by simp [x])) (fun x => hc (by simp [x])) (fun x => hc (by simp [x])) e
      · exact zt_end hA D hz hT st he fun h' hk => hQ h' s1.toks fun c o hc e => hk c o (fun x => hc (by simp [x])) (fun x => hc (by simp [x])) (fun x => hc (by simp [x])) e
end
end KB

namespace KB
open PySem L2 HT
open PySem.Sem (wp)
section
variable {X : Cx}
theorem kvs_of {P : Program} {w : World} : ∀ {ks : List Key} {ys : List V} {us vs : List Value}, ks.length = ys.length → Vals (ks.map kV) us → Vals ys vs →
    ∃ prs : List (Key × Value), KV (ks.zip ys) prs ∧ prs.length = us.length ∧ us.length = vs.length ∧ ∀ (i : Nat) (k v : Value), us[i]? = some k → vs[i]? = some v → ∃ q, prs[i]? = some (q, v) ∧ keyIs q k = true
  | [], [], us, vs, _, ru, rv => by
    cases ru
    cases rv
    exact ⟨[], .nil, rfl, rfl, fun i k v e => by simp at e⟩
  | [], _ :: _, _, _, h, _, _ => by simp at h
  | _ :: _, [], _, _, h, _, _ => by simp at h
  | k :: ks, y :: ys, us, vs, h, ru, rv => by
    rw [List.map_cons] at ru
    cases ru with
    | cons r1 r2 =>
      cases rv with
      | cons p1 p2 =>
        obtain ⟨prs, a, b, c, d⟩ := kvs_of (P := P) (w := w) (by simpa using h) r2 p2
        refine ⟨(k, _) :: prs, .cons ⟨rfl, p1⟩ a, by simp [b], by simp [c], fun i k' v' e1 e2 => ?_⟩
        cases i with
        | zero =>
          simp only [List.getElem?_cons_zero, Option.some.injEq] at e1 e2
          subst e1 e2
          exact ⟨k, rfl, kV_is (P := P) (w := w) r1⟩
        | succ i => simpa using d i k' v' (by simpa using e1) (by simpa using e2)
/-- dict(zip(a, b)) of two tuples of one length, the first one of ints and texts -/
def tDictZip (K : PySem.W.Frag) (ta : TA) : TE := fun σ H Q => ta σ H fun vs H1 => ∃ (a b : Addr) (ks : List Key) (ys : List V), vs = [.ref a, .ref b] ∧ SqT K H1 a (ks.map kV) ∧ SqT K H1 b ys ∧
  ks.length = ys.length ∧ ∀ p, H1 p = none → Q (.ref p) (upd H1 p (.dK (mergeK [] (ks.zip ys))))
theorem pe_dictZip {e e2 : Expr} {ta : TA} {p p2 q pos : Pos} (hg : Gl X "dict") (hm : X.mg "dict" = none) (hg2 : Gl X "zip") (hm2 : X.mg "zip" = none) (ha : PA X [e, e2] ta) (hc : X.calm = true := by rfl)
    (hs : starEach [e, e2] X.env = (false, eval e X.env) :: starEach [e2] X.env := by rfl) (hpl : (backTo q (starEach [e2] X.env)).any (·.1) = false := by rfl) :
    PE X (.Call (.Name "dict" p) [.Call (.Name "zip" p2) [e, e2] [] q] [] pos) (tDictZip X.K ta) := by
  refine ⟨fun pins s σ H Q I h => ?_⟩
  refine wpAny_Call_Name_kw (ld_blt I hg hm PyProof.Rows.boot_dict ?_ (by decide) (by decide))
  refine PyProof.Rows.callWith_type1 (T := "dict") (e := .Call (.Name "zip" p2) [e, e2] [] q) (rest := []) (env := X.env) (Calls.spliced_cons (thn (Q := fun v s1 => wpAny (model X.prog X.w) X.A (call (.type "dict") [v]) (EP X pins σ Q) X.xe s1) ?_ fun v s1 hv => Calls.spliced_nil hv)) (by rfl) (by rfl)
  refine wpAny_Call_Name_kw (ld_blt I hg2 hm2 PyProof.Rows.boot_zip ?_ (by decide) (by decide))
  refine PyProof.Rows.callWith_type1 (thn (ha.run q pins s σ H _ I h) fun us s1 ⟨vs, H1, I1, r1, q1⟩ => ?_) hs hpl
  obtain ⟨a, b, ks, ys, ex, h1, h2, hl, q1⟩ := q1
  subst ex
  obtain ⟨ua, ub, eu, ra, rb⟩ := vals2 r1
  subst eu
  cases ra
  cases rb
  obtain ⟨its, rv, p1, z1⟩ := I1.tuple h1
  obtain ⟨its2, rv2, p2', z2⟩ := I1.tuple h2
  obtain ⟨o1, ho1, _⟩ := id p1
  obtain ⟨o2, ho2, _⟩ := id p2'
  obtain ⟨prs, kv, e1, e2', hp⟩ := kvs_of (P := X.prog) (w := X.w) hl rv rv2
  refine RZ.call_zipT (show s1.heap.IsTuple a its.toArray from p1) (show s1.heap.IsTuple b its2.toArray from p2') fun h' hz hTI hTO a1 a2 hsz hk => ?_
  have D := PySem.W.ktu_apart s1.heap.objs.size a b (Heap.lt_size ho1) (Heap.lt_size ho2)
  have P := argZipT (prog := X.prog) (w := X.w) _ _ _ _ _ a b D its.toArray its2.toArray
  have st : ZT h' (s1.heap.objs.size + 4) (s1.heap.objs.size + 2) s1.heap.objs.size (s1.heap.objs.size + 1) a b its.toArray its2.toArray 0 :=
    ⟨hTI, a1, a2, (show s1.heap.IsTuple a its.toArray from p1).at fun o e => hk _ o e, (show s1.heap.IsTuple b its2.toArray from p2').at fun o e => hk _ o e⟩
  rw [List.length_map] at z1
  have hn : its.length = ks.length := by simpa using rv.length.symm
  refine call_dict_pairs (s := { s1 with heap := h' }) (knd := mixKind X.prog X.w) (kvs := prs) P (I1.ok.hd hc) ⟨hz, ⟨_, _, hTO⟩, st⟩ ⟨by simp only [List.size_toArray]; omega, fun i key v hr => ?_⟩ (by simp only [List.size_toArray]; omega) fun h2' tk hd' k2 => ?_
  · obtain ⟨q', e3, e4⟩ := hp i key v (by simpa using hr.1) (by simpa using hr.2)
    exact ⟨q', e3, e4⟩
  · have hm' : (h'.objs.size == sysModules) = false := beq_eq_false_iff_ne.mpr (Nat.ne_of_gt (Nat.lt_of_lt_of_le I1.big (by omega)))
    have hlen : (mergeK [] (ks.zip ys)).length ≤ sizeLine := by
      refine Nat.le_trans (length_mergeK _ []) ?_
      rw [List.length_nil, Nat.zero_add, kv.length, e1, hn]
      exact z1
    have kk : ∀ c o, s1.heap.get? c = some o → h2'.get? c = some o := fun c o ec => k2 c o (fun hmem => by
      have hlt := Heap.lt_size ec
      simp only [List.mem_cons, List.not_mem_nil, or_false] at hmem
      rcases hmem with h | h | h | h
      · exact absurd (h ▸ hlt) (Nat.not_lt.mpr (Nat.le_add_right _ 4))
      · exact absurd (h ▸ hlt) (Nat.not_lt.mpr (Nat.le_add_right _ 3))
      · exact absurd (h ▸ hlt) (Nat.lt_irrefl _)
      · exact absurd (h ▸ hlt) (Nat.not_lt.mpr (Nat.le_add_right _ 1))) (hk c o ec)
    exact ⟨.ref h'.objs.size, upd H1 h'.objs.size (.dK (mergeK [] (ks.zip ys))), I1.laid (t' := tk) kk (by omega) (show ObjOk X.prog X.w _ _ _ (.dK (mergeK [] (ks.zip ys))) from ⟨hlen, hm', merged [] prs, KV.merge kv .nil, hd'⟩), rfl,
      q1 _ (I1.hok.fresh (by omega))⟩
end
end KB

namespace KB
open PySem PySem.Spec PyProof.Rows L2

/-! ### a def's promise where no repr is under way -/
structure FnG (P : Program) (w : World) (K : PySem.W.Frag) (mg : Str → Option Value) (base : Heap) (CX : CXT) (k : Nat) (f : Addr) (fd : FuncData) (ps : List Str) (sp : Sp) : Prop where
  ln : ∀ vs H Q E, sp vs H Q E → vs.length = ps.length
  go : ∀ (A : Around) (o : List Env) (s : Shared) (H : Hp) (as : Args) (us : List Value) (vs : List V) (Q : VK) (E : XK), A.guards = some [] → Room k A → Env0 P w K mg base A o s H → BindsTo s fd as (ps.zip us) →
    Vals vs us → sp vs H Q E → codeAny (model P w) A (.call (.ref f) as) (CR CX o P w H s Q E) s
section
variable {P : Program} {w : World} {K : PySem.W.Frag} {mg : Str → Option Value} {base : Heap}
end

section
variable {X : Cx}
end

/-! ### the law's call -/
section
variable {P : Program} {w : World} {K : PySem.W.Frag} {mg mb : Str → Option Value} {k : Nat} {fa a : Addr} {fd : FuncData} {x : Str} {sp : Sp} {s : Shared} {vs : List Value} {ns : List Int}
/-- how the law's call ends -/
def Told (s : Shared) (r : Result) (s' : Shared) : Prop := r = .ok (.ret (.bool true)) ∧ OldK s.heap s'.heap ∧ s'.os = s.os ∧ AllBare s'.gens
end
end KB

namespace KB
open PySem PySem.Spec PyProof.Rows L2 LamX

/-! ### the end of a law that writes out and makes lambdas: tables of code objects, and no repr under way -/
section
variable {P : Program} {w : World} {K : PySem.W.Frag} {mg mb : Str → Option Value} {k : Nat} {fa a : Addr} {cs : List (Addr × Addr)} {fd : FuncData} {x : Str} {sp : Sp} {s : Shared} {vs : List Value} {ns : List Int}
/-- what the head knows of the tables -/
structure HeadT (K : PySem.W.Frag) (mg : Str → Option Value) (h : Heap) (cs : List (Addr × Addr)) : Prop where
  empty : ∀ p ∈ cs, h.get? p.2 = some { cls := .none, data := .fields #[] }
  own : ∀ p ∈ cs, K.lookup p.2 = none
  code : ∀ p ∈ cs, PySem.W.CodeHd h p.1 p.2
  blt : ∃ (bm : Addr) (ob : Obj), mg "__builtins__" = some (.ref bm) ∧ bm ≠ builtinsNs ∧ h.get? bm = some ob ∧ ob.cls = .type "module" ∧ ob.dict = some builtinsNs ∧ ob.data = .plain
theorem HeadT.at_ {h : Heap} (T : HeadT K mg h cs) {b : Addr} (m : b ∈ cs.map (·.2)) : h.get? b = some { cls := .none, data := .fields #[] } ∧ K.lookup b = none := by
  obtain ⟨p, hp, rfl⟩ := List.mem_map.mp m
  exact ⟨T.empty p hp, T.own p hp⟩
theorem law_atT (T : HeadT K mg s.heap cs) (KX : K.In s.heap) (n1 : s.heap.Ns mainGlobals mg) (n2 : s.heap.Ns builtinsNs mb) (n3 : ∀ x : Str, x ≠ "__name__" → mb x = bootBuiltins x) (n4 : s.heap.NoLimit) (hg : s.gens = #[])
    (ha : s.heap.get? a = some { cls := .type "list", data := .seq vs.toArray }) (room : Room k callerA) (F : ∀ base : Heap, K.In base → base.Ns mainGlobals mg → (∀ p ∈ cs, TabB base mg p.1 p.2) → FnG P w K mg base CX0 k fa fd [x] sp)
    (bnd : ∀ (s : Shared) (u : Value), BindsTo s fd ⟨[u], []⟩ [(x, u)]) {H : Hp} (want : sp [.ref a] H (fun v _ => v = .bl true) fun _ _ _ => False) (tabs : ∀ p ∈ cs, H p.2 = some (.tbl #[]))
    (only : ∀ b, H b = none ∨ b ∈ cs.map (·.2) ∨ (b = a ∧ ∃ o xs, H b = some (.frz o (.lst xs)))) (hok : HOk P w H s.heap) (hK : H a ≠ none → K.lookup a = none) :
    codeAny (model P w) callerA (.call (.ref fa) ⟨[.ref a], []⟩) (Told s) s := by
  -- nothing that is no list and no empty table is followed
  have noB : ∀ (b : Addr) (o : Obj), s.heap.get? b = some o → (∀ us n, o.data ≠ .seq us n) → o.data ≠ .fields #[] → H b = none := by
    intro b o e h1 h2
    rcases only b with z | z | ⟨z, _⟩
    · exact z
    · have e2 := (T.at_ z).1
      rw [e] at e2
      exact absurd (by rw [Option.some.inj e2]) h2
    · rw [z, ha] at e
      exact absurd (by rw [← Option.some.inj e]) (h1 vs.toArray _)
  have stay : ∀ (b : Addr) (o : Obj), s.heap.get? b = some o → (∀ us n, o.data ≠ .seq us n) → o.data ≠ .fields #[] → (hidT s.heap H).get? b = some o := fun b o e h1 h2 => hidT_get e (noB b o e h1 h2)
  have nsH : ∀ (b : Addr) (m : Str → Option Value), s.heap.Ns b m → (hidT s.heap H).Ns b m := by
    rintro b m ⟨o, es, ep, e, d, r⟩
    exact ⟨o, es, ep, stay b o e (fun us n z => by rw [d] at z; cases z) (fun z => by rw [d] at z; cases z), d, r⟩
  have inH : K.In (hidT s.heap H) := by
    intro b o e
    refine hidT_get (KX b o e) ?_
    rcases only b with z | z | ⟨z, _⟩
    · exact z
    · rw [(T.at_ z).2] at e
      cases e
    · apply Classical.byContradiction
      intro y
      rw [z] at e y
      rw [hK y] at e
      cases e
  obtain ⟨mc, c1, c2⟩ := n4
  have TB : ∀ p ∈ cs, TabB (hidT s.heap H) mg p.1 p.2 := by
    intro p hp
    have hE := T.empty p hp
    constructor
    · obtain ⟨o, us, q1, q2, q3, q4, q5, q6, q7, e1, r1, r2, r3, r4, r5, r6, r7, r8, r9⟩ := T.code p hp
      refine ⟨o, us, q1, q2, q3, q4, q5, q6, q7, ?_, r1, r2, r3, r4, r5, r6, r7, r8, r9⟩
      refine stay _ o e1 (fun us n z => by rw [r2] at z; cases z) (fun z => ?_)
      rw [r2] at z
      cases z
      simp at r3
    · obtain ⟨bm, ob, b1, b2, b3, b4, b5, b6⟩ := T.blt
      refine ⟨bm, ob, b1, b2, fun q => ?_, fun q => ?_, stay _ _ b3 (fun us n z => by rw [b6] at z; cases z) (fun z => by rw [b6] at z; cases z), b4, b5, b6⟩
      · obtain ⟨o, es, ep, e, d, _⟩ := n1
        rw [← q, b3] at e
        rw [← Option.some.inj e, b6] at d
        cases d
      · rw [q, hE] at b3
        rw [← Option.some.inj b3] at b6
        cases b6
    · intro q
      obtain ⟨o, es, ep, e, d, _⟩ := n1
      rw [q, hE] at e
      rw [← Option.some.inj e] at d
      cases d
  have e0 : Env0 P w K mg (hidT s.heap H) callerA [] s H := by
    constructor
    · rfl
    · exact ⟨inH, nsH _ _ n1, ⟨mb, nsH _ _ n2, n3⟩, ⟨mc, nsH _ _ c1, c2⟩⟩
    · exact fun b o e => of_hidT e
    · exact Nat.le_of_eq (hidT_size _ _)
    · trivial
    · intro b z
      cases (show b ∈ ([] : List Addr) from z)
    · exact hok
    · exact .of_eq hg
  apply codeAny_mono ((F _ inH (nsH _ _ n1) TB).go callerA [] s H ⟨[.ref a], []⟩ [.ref a] [.ref a] _ _ rfl room e0 (bnd s (.ref a)) (.cons rfl .nil) want)
  intro r s' q
  match r, q with
  | .error e, q => exact q.elim
  | .ok .next, q => exact False.elim q
  | .ok .brk, q => exact False.elim q
  | .ok .cont, q => exact False.elim q
  | .ok (.ret u), ⟨v, H', os, bare, un, hok', rv, tv⟩ =>
    have tv : v = .bl true := tv
    subst tv
    have rv : u = Value.bool true := rv
    subst rv
    -- a table may only have grown
    have grown : ∀ b ∈ cs.map (·.2), ∃ more : Array Value, s'.heap.get? b = some { cls := .none, data := .fields more } := by
      intro b m
      obtain ⟨p, hp, rfl⟩ := List.mem_map.mp m
      obtain ⟨more, z⟩ := un.tbls p.2 #[] (tabs p hp)
      exact ⟨_, hok' p.2 _ z⟩
    have kept : ∀ b o, b ∉ cs.map (·.2) → s.heap.get? b = some o → s'.heap.get? b = some o := by
      intro b o nb e
      rcases only b with z | z | ⟨z, ob, xs, z2⟩
      · exact un.keep b o e z (by intro y; cases (show b ∈ ([] : List Addr) from y)) (by simp)
      · exact absurd z nb
      · have f2 := un.frzs b ob _ z2
        have g1 := (hok b _ z2).1
        have g2 := (hok' b _ f2).1
        rw [e] at g1
        rw [g2, g1]
    refine ⟨rfl, ⟨fun b o e => ?_, fun b o e => ?_⟩, os, bare⟩
    · by_cases m : b ∈ cs.map (·.2)
      · obtain ⟨more, hm⟩ := grown b m
        obtain ⟨p, hp, ep⟩ := List.mem_map.mp m
        have e1 := (T.at_ m).1
        rw [e] at e1
        have e2 := Option.some.inj e1
        subst e2
        have ct := ((T.code p hp).tab (T.empty p hp)).isCodeTable
        rw [ep] at ct
        exact .inr (.inl ⟨ct, rfl, #[], more, rfl, by rw [Array.empty_append]; exact hm⟩)
      · exact .inl (kept b o m e)
    · by_cases m : b ∈ cs.map (·.2)
      · obtain ⟨more, hm⟩ := grown b m
        exact ⟨_, hm⟩
      · exact ⟨o, kept b o m e⟩
theorem law_callGT (T : HeadT K mg s.heap cs) (KX : K.In s.heap) (n1 : s.heap.Ns mainGlobals mg) (n2 : s.heap.Ns builtinsNs mb) (n3 : ∀ x : Str, x ≠ "__name__" → mb x = bootBuiltins x) (n4 : s.heap.NoLimit) (hg : s.gens = #[])
    (ha : s.heap.get? a = some { cls := .type "list", data := .seq vs.toArray }) (hi : IntsAre vs ns) (hl : ns.length ≤ sizeLine) (room : Room k callerA) (F : ∀ base : Heap, K.In base → base.Ns mainGlobals mg → (∀ p ∈ cs, TabB base mg p.1 p.2) → FnG P w K mg base CX0 k fa fd [x] sp)
    (bnd : ∀ (s : Shared) (u : Value), BindsTo s fd ⟨[u], []⟩ [(x, u)]) (want : ∀ H : Hp, (∀ p ∈ cs, H p.2 = some (.tbl #[])) → SqL K H a (ns.map V.int) → sp [.ref a] H (fun v _ => v = .bl true) fun _ _ _ => False) :
    codeAny (model P w) callerA (.call (.ref fa) ⟨[.ref a], []⟩) (Told s) s := by
  have rel := vals_ints hi
  have hlen : (ns.map V.int).length ≤ sizeLine := by
    rw [List.length_map]
    exact hl
  have notT : a ∉ cs.map (·.2) := fun z => by
    have e := (T.at_ z).1
    rw [ha] at e
    cases (Option.some.inj e)
  obtain ⟨tb, t1, t2⟩ : ∃ tb : Hp, (∀ b ∈ cs.map (·.2), tb b = some (.tbl #[])) ∧ ∀ b, b ∉ cs.map (·.2) → tb b = none := ⟨fun b => if b ∈ cs.map (·.2) then some (.tbl #[]) else none, fun b h => if_pos h, fun b h => if_neg h⟩
  have mem : ∀ p ∈ cs, p.2 ∈ cs.map (·.2) := fun p hp => List.mem_map.mpr ⟨p, hp, rfl⟩
  have cls : ∀ b, tb b = none ∨ b ∈ cs.map (·.2) := fun b => by
    by_cases m : b ∈ cs.map (·.2)
    · exact .inr m
    · exact .inl (t2 b m)
  have okT : ∀ b u, tb b = some u → b ∈ cs.map (·.2) ∧ u = .tbl #[] := fun b u z => by
    rcases cls b with m | m
    · rw [m] at z
      cases z
    · rw [t1 b m] at z
      exact ⟨m, (Option.some.inj z).symm⟩
  cases look : K.lookup a with
  | some o =>
    have e := KX a o look
    rw [ha] at e
    cases e
    refine law_atT (H := tb) T KX n1 n2 n3 n4 hg ha room F bnd (want _ (fun p hp => t1 _ (mem p hp)) ?_) (fun p hp => t1 _ (mem p hp)) (fun b => (cls b).elim .inl fun m => .inr (.inl m)) (fun b u z => ?_) (fun z => absurd (t2 a notT) z)
    · refine .inr ⟨_, vs.toArray, _, look, rfl, rfl, rfl, ?_, by simpa using rel⟩
      rw [List.size_toArray, hi.length]
      exact hl
    · obtain ⟨m, rfl⟩ := okT b u z
      exact (T.at_ m).1
  | none =>
    obtain ⟨H, h1, h2⟩ : ∃ H : Hp, H a = some (.frz { cls := .type "list", data := .seq vs.toArray } (.lst (ns.map V.int))) ∧ ∀ b, b ≠ a → H b = tb b := ⟨upd tb a _, upd_same, fun b h => upd_ne h⟩
    have ht : ∀ p ∈ cs, H p.2 = some (.tbl #[]) := fun p hp => by
      rw [h2 p.2 (fun z => notT (z ▸ mem p hp))]
      exact t1 _ (mem p hp)
    refine law_atT (H := H) T KX n1 n2 n3 n4 hg ha room F bnd (want _ ht (.inl (.inr ⟨_, h1⟩))) ht (fun b => ?_) (fun b u z => ?_) (fun _ => look)
    · by_cases e : b = a
      · exact .inr (.inr ⟨e, _, _, by rw [e]; exact h1⟩)
      · rw [h2 b e]
        exact (cls b).elim .inl fun m => .inr (.inl m)
    · by_cases e : b = a
      · subst e
        rw [h1] at z
        cases z
        exact ⟨ha, hlen, vs, _, rel, ha⟩
      · rw [h2 b e] at z
        obtain ⟨m, rfl⟩ := okT b u z
        exact (T.at_ m).1
end
/-- the law's row, where it writes out and makes lambdas -/
theorem walk_GT {l : PySem.W.OpenLaw} {n k : Nat} {q : Program} {loose : List Str} {XP : (Str → Option Value) → Heap → Prop} {YP : World → Heap → Prop} {d : DefRec} {K : Params → PySem.W.Frag} {x : Str}
    (hn : l.most = some n) (hs : n ≤ sizeLine) (hdf : d.params.defaults = []) (room : Room k callerA) (hY : ∀ (w : World) (h : Heap), YP w h → (K w.params).In h)
    (F : ∀ (w : World) (mg : Str → Option Value) (fa : Addr) (h : Heap), YP w h → (K w.params).In h → h.Ns mainGlobals mg → mg d.name = some (.ref fa) →
      ∃ (fd : FuncData) (cs : List (Addr × Addr)) (sp : Sp), (∀ p ∈ cs, h.get? p.2 = some { cls := .none, data := .fields #[] }) ∧ (∀ p ∈ cs, (K w.params).lookup p.2 = none) ∧ (∀ p ∈ cs, PySem.W.CodeHd h p.1 p.2) ∧ (∀ (s : Shared) (u : Value), BindsTo s fd ⟨[u], []⟩ [(x, u)]) ∧
        (∀ (H : Hp) (a : Addr) (ns : List Int), ns.length ≤ n → (∀ p ∈ cs, H p.2 = some (.tbl #[])) → SqL (K w.params) H a (ns.map V.int) → sp [.ref a] H (fun v _ => v = .bl true) fun _ _ _ => False) ∧
        ∀ base : Heap, (K w.params).In base → base.Ns mainGlobals mg → (∀ p ∈ cs, TabB base mg p.1 p.2) → FnG l.prog w (K w.params) mg base CX0 k fa fd [x] sp) :
    PySem.W.WalkO q loose XP YP l.row.toRowW d [] (fun f vs => PySem.call f vs) := by
  apply Att.attach_call hn hdf
  intro w s0 s1 mg mb fa o pm cd doc a vs ns G Y ho hd hcd hmg hobj hints hlen hg
  have inK := hY w _ Y
  obtain ⟨fd, cs, sp, e1, e2, e3, hb, want, hF⟩ := F w mg fa _ Y inK G.T.g hmg
  exact law_callGT ⟨e1, e2, e3, G.T.bmain⟩ inK G.T.g G.T.b G.T.builtins G.T.nolimit hg hobj hints (Nat.le_trans hlen hs) room hF hb fun H h z => want H a ns hlen h z
end KB

namespace KB
open PySem L2

/-! ### the number of a simple term -/
abbrev Env := Str → Option Int
def evH (env : Env) : Hd → List Int → Int
  | .num z, _ => z
  | .nam x, _ => (env x).getD 0
  | .plus, l => Int.fmod (l.getD 0 0 + l.getD 1 0) 1000
  | .less, l => Int.fmod (l.getD 0 0 - l.getD 1 0) 1000
  | _, _ => 0
def evS (env : Env) : Tm → Int
  | .mk h _ k => evH env h (List.ofFn fun i => evS env (k i))
/-- each name of a simple term has its number -/
def hasN (env : Env) : Tm → Prop
  | .mk h _ k => (match h with | .nam x => ∃ z, env x = some z | _ => True) ∧ ∀ i, hasN env (k i)
section
variable {P : Program} {w : World} {K : PySem.W.Frag} {mg : Str → Option Value} {base : Heap}
def spValue (n : Nat) : Sp := fun vs H Q _ => ∃ (tb nb : Addr) (t : Tm) (env : Env) (kvs : List (Key × V)), vs = [.ref tb, .ref nb] ∧ At H t tb ∧ simple t = true ∧ HtLe n t ∧ hasN env t ∧ H nb = some (.dK kvs) ∧ (∀ x : Str, valV kvs (Sum.inr x) = (env x).map V.int) ∧ ∀ H', Same H H' → Q (.int (evS env t)) H'
abbrev s_law_value : Stmt := top 53
theorem scLvalue : FnScope ["term", "names", "one", "other"] ["term", "names"] (defScope s_law_value) := ⟨rfl, rfl, rfl, by decide +kernel, rfl, by decide +kernel, by decide +kernel⟩
theorem ok_value (T : Txt K mg) (n : Nat) {f : Addr} {fd : FuncData} (F : Fun K "_law_value" "_law_value" s_law_value f fd) (G_law_value : FnOk P w K mg base CX0 n f fd ["term", "names"] (spValue n)) (R_law_value : Ref K mg "_law_value" f fd ["term", "names"]) : FnOk P w K mg base CX0 (n + 1) f fd ["term", "names"] (spValue (n + 1)) := by
  refine F.ok scLvalue (fun vs H Q E h => ?_) (fun cdv A outer s H vs Q E hr h => ?_)
  · obtain ⟨tb, nb, t, env, kvs, rfl, _⟩ := h
    rfl
  obtain ⟨tb, nb, t, env, kvs, rfl, hA, hs, hh, hN, hn, hv, q⟩ := h
  refine ⟨_, (pss_cons (ps_if (pt_cmpR op_eq (pe_ix ix_tup (pv 0) pe_int (fun _ _ => rfl)) pe_str (nomark _)) (pss_one (ps_ret (pe_ix ix_tup (pv 0) pe_int (fun _ _ => rfl)))) pss_nil)
    (pss_cons (ps_if (pt_cmpR op_eq (pe_ix ix_tup (pv 0) pe_int (fun _ _ => rfl)) pe_str (nomark _)) (pss_one (ps_ret (pe_dget (hu_of hr) (pv 1) (pe_ix ix_tup (pv 0) pe_int (fun _ _ => rfl)) (fun _ _ => rfl)))) pss_nil)
    (pss_cons (ps_set (i := 2) scLvalue.nd rfl (Or.inl rfl) (pe_call G_law_value (hr.mono (by omega)) rfl R_law_value.m R_law_value.k R_law_value.b .nil pass0 (pa_cons (pe_ix ix_tup (pv 0) pe_int (fun _ _ => rfl)) (pa_cons (pv 1) pa_nil))))
    (pss_cons (ps_set (i := 3) scLvalue.nd rfl (Or.inl rfl) (pe_call G_law_value (hr.mono (by omega)) rfl R_law_value.m R_law_value.k R_law_value.b .nil pass0 (pa_cons (pe_ix ix_tup (pv 0) pe_int (fun _ _ => rfl)) (pa_cons (pv 1) pa_nil))))
    (pss_one (ps_ret (pe_op op_modN (pe_ix ix_list (pe_lst (pa_cons (pe_op op_add (pv 2) (pv 3)) (pa_cons (pe_op op_sub (pv 2) (pv 3)) pa_nil))) (pe_callTy call_int1 (by rfl) T.m_int (by decide +kernel) (pa_cons (pe_cmpR op_eq (pe_ix ix_tup (pv 0) pe_int (fun _ _ => rfl)) pe_str (nomark _)) pa_nil)) (fun _ _ => rfl)) pe_int))))))), ?_⟩
  cases t with
  | mk h m k =>
    obtain ⟨ys, l, r⟩ := hA
    obtain ⟨r0, hhd⟩ := l.head
    have hsm : flatHd h = true ∧ ∀ i, simple (k i) = true := by
      have hs' : (flatHd h && (List.ofFn fun i => simple (k i)).all id) = true := hs
      rw [Bool.and_eq_true, List.all_eq_true] at hs'
      exact ⟨hs'.1, fun i => hs'.2 _ (List.mem_ofFn.mpr ⟨i, rfl⟩)⟩
    have e0 : (Rfs ys).length = m := by
      unfold Rfs
      rw [List.length_ofFn]
    refine ⟨_, rfl, tb, _, _, _, rfl, rfl, SqT.of hhd, at0, rfl, _, rfl, ?_⟩
    cases h with
    | num z =>
      refine itT rfl ⟨_, rfl, tb, _, _, _, rfl, rfl, SqT.of l.2, at1, ?_⟩
      exact q H (Same.refl H)
    | nam x =>
      refine itF rfl ⟨_, rfl, tb, _, _, _, rfl, rfl, SqT.of hhd, at0, rfl, _, rfl, ?_⟩
      obtain ⟨z, hz⟩ : ∃ z, env x = some z := hN.1
      refine itT rfl ⟨_, rfl, _, rfl, tb, _, _, _, rfl, rfl, SqT.of l.2, at1, nb, .int z, rfl, get_of hn (by rw [hv, hz]; rfl), ?_⟩
      have := q H (Same.refl H)
      have e : evS env (.mk (.nam x) m k) = z := by
        show (env x).getD 0 = z
        rw [hz]
        rfl
      rw [e] at this
      exact this
    | tell => exact absurd hsm.1 (by decide)
    | lett x => exact absurd hsm.1 Bool.false_ne_true
    | iff => exact absurd hsm.1 (by decide)
    | ask g => exact absurd hsm.1 Bool.false_ne_true
    | plus =>
      have hm : m = 2 := by rw [← e0]; exact l.1
      subst hm
      have l2 := l.2
      rw [show Rfs ys = [V.ref (ys 0), .ref (ys 1)] from rfl] at l2
      refine itF rfl ⟨_, rfl, tb, _, _, _, rfl, rfl, SqT.of hhd, at0, rfl, _, rfl, ?_⟩
      refine itF rfl ⟨_, rfl, tb, _, _, _, rfl, rfl, SqT.of l2, at1, _, rfl, ys 0, nb, k 0, env, kvs, rfl, r 0, hsm.2 0, hh 0, hN.2 0, hn, hv, fun H1 s1 => ?_⟩
      refine ⟨_, rfl, tb, _, _, _, rfl, rfl, SqT.of (s1 _ _ l2), at2, _, rfl, ys 1, nb, k 1, env, kvs, rfl, (r 1).mono s1, hsm.2 1, hh 1, hN.2 1, s1 _ _ hn, hv, fun H2 s2 => ?_⟩
      have s12 := s1.trans s2
      refine ⟨_, rfl, _, rfl, _, _, rfl, rfl, _, rfl, _, rfl, _, _, rfl, rfl, sz (by show 2 ≤ 100000; decide), fun p hp => ?_⟩
      have s3 := same_new hp (.lst [V.int (evS env (k 0) + evS env (k 1)), .int (evS env (k 0) - evS env (k 1))])
      refine ⟨_, rfl, tb, _, _, _, rfl, rfl, SqT.of (s3 _ _ (s12 _ _ l2)), at0, rfl, .inr ⟨_, rfl, p, _, _, _, rfl, rfl, SqL.of upd_same, at0, _, _, rfl, rfl, (by show (1000 : Int) ≠ 0; decide), ?_⟩⟩
      exact q _ (s12.trans s3)
    | less =>
      have hm : m = 2 := by rw [← e0]; exact l.1
      subst hm
      have l2 := l.2
      rw [show Rfs ys = [V.ref (ys 0), .ref (ys 1)] from rfl] at l2
      refine itF rfl ⟨_, rfl, tb, _, _, _, rfl, rfl, SqT.of hhd, at0, rfl, _, rfl, ?_⟩
      refine itF rfl ⟨_, rfl, tb, _, _, _, rfl, rfl, SqT.of l2, at1, _, rfl, ys 0, nb, k 0, env, kvs, rfl, r 0, hsm.2 0, hh 0, hN.2 0, hn, hv, fun H1 s1 => ?_⟩
      refine ⟨_, rfl, tb, _, _, _, rfl, rfl, SqT.of (s1 _ _ l2), at2, _, rfl, ys 1, nb, k 1, env, kvs, rfl, (r 1).mono s1, hsm.2 1, hh 1, hN.2 1, s1 _ _ hn, hv, fun H2 s2 => ?_⟩
      have s12 := s1.trans s2
      refine ⟨_, rfl, _, rfl, _, _, rfl, rfl, _, rfl, _, rfl, _, _, rfl, rfl, sz (by show 2 ≤ 100000; decide), fun p hp => ?_⟩
      have s3 := same_new hp (.lst [V.int (evS env (k 0) + evS env (k 1)), .int (evS env (k 0) - evS env (k 1))])
      refine ⟨_, rfl, tb, _, _, _, rfl, rfl, SqT.of (s3 _ _ (s12 _ _ l2)), at0, rfl, .inr ⟨_, rfl, p, _, _, _, rfl, rfl, SqL.of upd_same, at1, _, _, rfl, rfl, (by show (1000 : Int) ≠ 0; decide), ?_⟩⟩
      exact q _ (s12.trans s3)
theorem all_value (T : Txt K mg) {f : Addr} {fd : FuncData} (F : Fun K "_law_value" "_law_value" s_law_value f fd) (R_law_value : Ref K mg "_law_value" f fd ["term", "names"]) : ∀ n : Nat, FnOk P w K mg base CX0 n f fd ["term", "names"] (spValue n)
  | 0 => ⟨fun vs H Q E h => (by obtain ⟨tb, nb, t, env, kvs, rfl, _⟩ := h; rfl), fun _ _ _ _ _ _ _ _ _ _ _ _ _ h => (by obtain ⟨_, _, t, _, _, _, _, _, hh, _⟩ := h; exact hh.elim)⟩
  | n + 1 => ok_value T n F (all_value T F R_law_value n) R_law_value
end
end KB

namespace KB
open PySem L2

/-! ### what a run wants of parts -/
/-- simple, its names within these -/
structure RTm (xs : List Str) (t : Tm) : Prop where
  ok : okT t
  si : simple t = true
  n : ∀ env : Env, (∀ x ∈ xs, ∃ z, env x = some z) → hasN env t
  cn : cnt t ≤ 200
  ht : HtLe 64 t
def rP (hd : Str → Option Nat) : Pt → List Str → List Str → Prop
  | .give j t, xs, hs => j ∈ hs ∧ RTm xs t
  | .ask f ts j, xs, hs => j ∈ hs ∧ isW f = true ∧ hd f = some ts.length ∧ ts.length ≤ 4 ∧ ∀ t ∈ ts, RTm xs t
  | .tell x t p, xs, hs => isW x = true ∧ RTm xs t ∧ rP hd p (xs ++ [x]) hs
  | .lett x t p, xs, hs => isW x = true ∧ RTm xs t ∧ rP hd p (xs ++ [x]) hs
  | .iff t p q, xs, hs => RTm xs t ∧ rP hd p xs hs ∧ rP hd q xs hs
  | .post j x p q, xs, hs => isW j = true ∧ isW x = true ∧ rP hd p (xs ++ [x]) hs ∧ rP hd q xs (hs ++ [j])
structure RTE (hF : Str → Option Nat) (e : TEr) : Prop where
  w : isW e.1 = true
  ws : ∀ x ∈ e.2.1, isW x = true
  n4 : e.2.1.length ≤ 5
  ok : rP hF e.2.2 e.2.1 ["home"]
  cn : pcnt e.2.2 ≤ 900
  hf : hF e.1 = some e.2.1.length
  nd : e.2.1.Nodup
theorem hasN_of {hd : Str → Option Nat} {env : Env} : ∀ {t : Tm} {xs : List Str}, simple t = true → okS hd t xs → (∀ x ∈ xs, ∃ z, env x = some z) → hasN env t := by
  intro t
  induction t with
  | mk h n k ih =>
    intro xs hs ho he
    obtain ⟨hf, hk⟩ := simple_mk hs
    obtain ⟨o1, o2⟩ := ho
    refine ⟨?_, fun i => ih i (hk i) ?_ he⟩
    · cases h with
      | nam x => exact he x o1
      | _ => exact trivial
    · have e := o2 i
      cases h with
      | lett x => exact absurd hf Bool.false_ne_true
      | _ => exact e
theorem SmT.rtm {hd : Str → Option Nat} {xs : List Str} {t : Tm} (h : SmT hd xs t) : RTm xs t := ⟨h.ok, h.si, fun env he => hasN_of h.si h.sc he, Nat.le_trans h.cn (by decide), h.ht.le (by decide)⟩
theorem rP_of {hd : Str → Option Nat} : ∀ {p : Pt} {xs js : List Str}, okP hd p xs js → rP hd p xs js
  | .give _ _, _, _, h => ⟨h.1, h.2.rtm⟩
  | .ask _ _ _, _, _, h => ⟨h.1, h.2.1, h.2.2.1, h.2.2.2.1, fun t ht => (h.2.2.2.2 t ht).rtm⟩
  | .tell _ _ _, _, _, h => ⟨h.1, h.2.1.rtm, rP_of h.2.2⟩
  | .lett _ _ _, _, _, h => ⟨h.1, h.2.1.rtm, rP_of h.2.2⟩
  | .iff _ _ _, _, _, h => ⟨h.1.rtm, rP_of h.2.1, rP_of h.2.2⟩
  | .post _ _ _ _, _, _, h => ⟨h.1, h.2.1, rP_of h.2.2.1, rP_of h.2.2.2⟩
theorem GdTE.rt {hd : Str → Option Nat} {e : TEr} (g : GdTE hd e) : RTE hd e := ⟨g.w, g.ws, Nat.le_trans g.n4 (by decide), rP_of g.ok, Nat.le_trans g.cn (by decide), g.hf, (List.nodup_append.mp g.un).1⟩

/-! ### a turned run as a machine of data; wt and lim are for its end alone -/
inductive Ev | ask (f : Str) (ns : List Int) | tell (z : Int)
inductive Fe | no | done (z : Int) | long
/-- a hand-on that was made: its word, T, what was around it (hand-ons by number, 0 the end), how high it is -/
structure HR where
  x : Str
  T : Pt
  env : Env
  hs : Str → Option Nat
  h : Int
  wt : Nat
structure CT where
  most : Nat
  asked : Nat
  trail : List Ev
  fin : Fe
  deepest : Int
  made : Int
  part : Pt
  env : Env
  hs : Str → Option Nat
  tab : List HR
  lim : Nat
def setE (env : Env) (x : Str) (z : Int) : Env := fun y => if y = x then some z else env y
def setH (hs : Str → Option Nat) (j : Str) (i : Nat) : Str → Option Nat := fun y => if y = j then some i else hs y
def envOf : List Str → List Int → Env
  | x :: xs, n :: ns => fun y => if y = x then some n else envOf xs ns y
  | _, _ => fun _ => none
def wtAt (tab : List HR) : Nat → Nat
  | 0 => 0
  | k + 1 => (tab[k]?.map (·.wt)).getD 0
def hiAt (tab : List HR) : Nat → Int
  | 0 => 0
  | k + 1 => (tab[k]?.map (·.h)).getD 0
def hAt (hs : Str → Option Nat) (j : Str) : Nat := (hs j).getD 0
def askT (es : List TEr) (c : CT) (f : Str) (ns : List Int) (i : Nat) : CT :=
  if c.asked = c.most then { c with fin := .long } else
  match es.find? (fun e => decide (e.1 = f)) with
  | none => c
  | some e => { c with asked := c.asked + 1, trail := c.trail ++ [.ask f ns], deepest := max c.deepest (hiAt c.tab i), part := e.2.2, env := envOf e.2.1 ns, hs := fun y => if y = "home" then some i else none }
def stepT (es : List TEr) (c : CT) : CT :=
  match c.part with
  | .give j t =>
    match hAt c.hs j with
    | 0 => { c with fin := .done (evS c.env t) }
    | k + 1 =>
      match c.tab[k]? with
      | none => c
      | some r => { c with part := r.T, env := setE r.env r.x (evS c.env t), hs := r.hs, lim := r.wt - pcnt r.T }
  | .ask f ts j => askT es c f (ts.map (evS c.env)) (hAt c.hs j)
  | .tell x t p => { c with trail := c.trail ++ [.tell (evS c.env t)], env := setE c.env x (evS c.env t), part := p }
  | .lett x t p => { c with env := setE c.env x (evS c.env t), part := p }
  | .iff t p q => { c with part := if evS c.env t = 0 then q else p }
  | .post j x p q => { c with made := c.made + 1, tab := c.tab ++ [⟨x, p, c.env, c.hs, hiAt c.tab (hAt c.hs "home") + 1, pcnt p + c.lim⟩], hs := setH c.hs j (c.tab.length + 1), part := q, lim := pcnt p + c.lim }

/-! ### what holds all along -/
def fU : Fe → Nat
  | .no => 1
  | _ => 0
def muB (B : Nat) (c : CT) : Nat := (c.most - c.asked) * B + (pcnt c.part + c.lim) + fU c.fin
def muT (c : CT) : Nat := muB 1000 c
theorem pcnt_pos (p : Pt) : 1 ≤ pcnt p := by
  cases p <;> unfold pcnt <;> omega
/-- words and hand-ons are around, up to so many hand-ons -/
structure InE (hd : Str → Option Nat) (tab : List HR) (n : Nat) (p : Pt) (env : Env) (hs : Str → Option Nat) (xs js : List Str) (lim : Nat) : Prop where
  ok : rP hd p xs js
  e : ∀ x ∈ xs, ∃ z, env x = some z
  h : ∀ j ∈ js, ∃ i, hs j = some i
  b : ∀ j i, hs j = some i → i ≤ n ∧ wtAt tab i ≤ lim
  m : ("home" : Str) ∈ js
structure RecOk (hd : Str → Option Nat) (tab : List HR) (k : Nat) (r : HR) : Prop where
  sc : ∃ xs js, InE hd tab k r.T (setE r.env r.x 0) r.hs (xs ++ [r.x]) js (r.wt - pcnt r.T)
  w : pcnt r.T ≤ r.wt
structure WfT (es : List TEr) (hd : Str → Option Nat) (c : CT) : Prop where
  go : c.fin = .no
  as_ : c.asked ≤ c.most
  at_ : ∃ xs js, InE hd c.tab c.tab.length c.part c.env c.hs xs js c.lim
  tb : ∀ (k : Nat) (r : HR), c.tab[k]? = some r → RecOk hd c.tab k r
structure TEsOk (es : List TEr) (hd : Str → Option Nat) : Prop where
  er : ∀ e ∈ es, RTE hd e
  dom : ∀ f n, hd f = some n → f ∈ es.map (·.1)
theorem TEsOk.found {es : List TEr} {hd : Str → Option Nat} (E : TEsOk es hd) {f : Str} {n : Nat} (h : hd f = some n) : ∃ e, es.find? (fun e => decide (e.1 = f)) = some e ∧ e ∈ es ∧ e.1 = f ∧ e.2.1.length = n := by
  obtain ⟨e0, h0, h1⟩ := List.mem_map.mp (E.dom f n h)
  cases hf : es.find? (fun e => decide (e.1 = f)) with
  | none => exact absurd (decide_eq_true h1) (List.find?_eq_none.mp hf e0 h0)
  | some e =>
    have hm := List.mem_of_find?_eq_some hf
    have he : e.1 = f := of_decide_eq_true (List.find?_some (p := fun e : TEr => decide (e.1 = f)) hf)
    have g := (E.er e hm).hf
    rw [he, h] at g
    exact ⟨e, rfl, hm, he, (Option.some.inj g).symm⟩
theorem envOf_some : ∀ {xs : List Str} {ns : List Int} {x : Str}, xs.length = ns.length → x ∈ xs → ∃ z, envOf xs ns x = some z
  | [], _, _, _, h => by cases h
  | _ :: _, [], _, h, _ => by simp at h
  | y :: ys, n :: ns, x, hl, h => by
    by_cases c : x = y
    · exact ⟨n, if_pos c⟩
    · obtain ⟨z, hz⟩ := envOf_some (xs := ys) (ns := ns) (by simpa using hl) (by
        rcases List.mem_cons.mp h with q | q
        · exact absurd q c
        · exact q)
      exact ⟨z, (if_neg c).trans hz⟩
theorem wtAt_app {tab : List HR} {r : HR} {i : Nat} (h : i ≤ tab.length) : wtAt (tab ++ [r]) i = wtAt tab i := by
  cases i with
  | zero => rfl
  | succ k =>
    show (((tab ++ [r])[k]?).map (·.wt)).getD 0 = ((tab[k]?).map (·.wt)).getD 0
    rw [List.getElem?_append_left (by omega)]
theorem wtAt_last {tab : List HR} {r : HR} : wtAt (tab ++ [r]) (tab.length + 1) = r.wt := by
  show (((tab ++ [r])[tab.length]?).map (·.wt)).getD 0 = r.wt
  rw [List.getElem?_append_right (Nat.le_refl _), Nat.sub_self]
  rfl
theorem InE.app {hd : Str → Option Nat} {tab : List HR} {r : HR} {n : Nat} {p : Pt} {env : Env} {hs : Str → Option Nat} {xs js : List Str} {lim : Nat} (I : InE hd tab n p env hs xs js lim) (hn : n ≤ tab.length) : InE hd (tab ++ [r]) n p env hs xs js lim :=
  ⟨I.ok, I.e, I.h, fun j i e => let ⟨a, b⟩ := I.b j i e; ⟨a, by rw [wtAt_app (by omega)]; exact b⟩, I.m⟩
theorem setE_some {env : Env} {xs : List Str} {x : Str} {z : Int} (h : ∀ y ∈ xs, ∃ z, env y = some z) : ∀ y ∈ xs ++ [x], ∃ w, setE env x z y = some w := by
  intro y hy
  unfold setE
  by_cases c : y = x
  · exact ⟨z, if_pos c⟩
  · rw [if_neg c]
    rcases List.mem_append.mp hy with q | q
    · exact h y q
    · exact absurd (List.mem_singleton.mp q) c
/-- one step keeps it, and something falls -/
theorem wf_stepB {es : List TEr} {hd : Str → Option Nat} (E : TEsOk es hd) {B : Nat} (hB : ∀ e ∈ es, pcnt e.2.2 < B) {c : CT} (w : WfT es hd c) : (WfT es hd (stepT es c) ∨ (stepT es c).fin ≠ .no) ∧ muB B (stepT es c) < muB B c := by
  obtain ⟨xs, js, I⟩ := w.at_
  have hgo := w.go
  have ok := I.ok
  cases hp : c.part with
  | give j t =>
    rw [hp] at ok
    obtain ⟨i, hi⟩ := I.h j ok.1
    have hA : hAt c.hs j = i := by
      unfold hAt
      rw [hi]
      rfl
    obtain ⟨bi, bw⟩ := I.b j i hi
    cases i with
    | zero =>
      have eS : stepT es c = { c with fin := .done (evS c.env t) } := by
        unfold stepT
        rw [hp]
        show (match hAt c.hs j with | 0 => _ | k + 1 => _) = _
        rw [hA]
      rw [eS]
      refine ⟨.inr (fun z => by cases z), ?_⟩
      unfold muB
      rw [hgo]
      show (c.most - c.asked) * B + (pcnt c.part + c.lim) + 0 < (c.most - c.asked) * B + (pcnt c.part + c.lim) + 1
      omega
    | succ k =>
      have hk : k < c.tab.length := by omega
      have hr : c.tab[k]? = some c.tab[k] := List.getElem?_eq_getElem hk
      generalize c.tab[k] = r at hr
      have R := w.tb k r hr
      have hw : wtAt c.tab (k + 1) = r.wt := by
        show ((c.tab[k]?).map (·.wt)).getD 0 = r.wt
        rw [hr]
        rfl
      rw [hw] at bw
      have eS : stepT es c = { c with part := r.T, env := setE r.env r.x (evS c.env t), hs := r.hs, lim := r.wt - pcnt r.T } := by
        unfold stepT
        rw [hp]
        show (match hAt c.hs j with | 0 => _ | k + 1 => _) = _
        rw [hA]
        show (match c.tab[k]? with | none => c | some r => _) = _
        rw [hr]
      rw [eS]
      obtain ⟨xs', js', J⟩ := R.sc
      refine ⟨.inl ⟨hgo, w.as_, ⟨xs' ++ [r.x], js', J.ok, ?_, J.h, fun j i e => let ⟨a, b⟩ := J.b j i e; ⟨by show i ≤ c.tab.length; omega, b⟩, J.m⟩, w.tb⟩, ?_⟩
      · intro y hy
        obtain ⟨z, hz⟩ := J.e y hy
        show ∃ z, setE r.env r.x (evS c.env t) y = some z
        unfold setE at hz ⊢
        by_cases q : y = r.x
        · exact ⟨_, if_pos q⟩
        · rw [if_neg q] at hz ⊢
          exact ⟨z, hz⟩
      · have h1 := R.w
        unfold muB
        rw [hp]
        show (c.most - c.asked) * B + (pcnt r.T + (r.wt - pcnt r.T)) + fU c.fin < (c.most - c.asked) * B + (1 + c.lim) + fU c.fin
        omega
  | ask f ts j =>
    rw [hp] at ok
    obtain ⟨i, hi⟩ := I.h j ok.1
    have hA : hAt c.hs j = i := by
      unfold hAt
      rw [hi]
      rfl
    obtain ⟨bi, bw⟩ := I.b j i hi
    have eS : stepT es c = askT es c f (ts.map (evS c.env)) (hAt c.hs j) := by
      unfold stepT
      rw [hp]
    rw [eS, hA]
    obtain ⟨e, f1, f2, f3, f4⟩ := E.found ok.2.2.1
    have ge := E.er e f2
    unfold askT
    by_cases ha : c.asked = c.most
    · rw [if_pos ha]
      refine ⟨.inr (fun z => by cases z), ?_⟩
      unfold muB
      rw [hgo]
      show (c.most - c.asked) * B + (pcnt c.part + c.lim) + 0 < (c.most - c.asked) * B + (pcnt c.part + c.lim) + 1
      omega
    · rw [if_neg ha, f1]
      have has := w.as_
      refine ⟨.inl ⟨hgo, by show c.asked + 1 ≤ c.most; omega, ⟨e.2.1, ["home"], ge.ok, fun x hx => envOf_some (by rw [f4, List.length_map]) hx, fun y hy => ⟨i, if_pos (List.mem_singleton.mp hy)⟩, fun y i2 h2 => ?_, List.mem_cons_self⟩, w.tb⟩, ?_⟩
      · have h2 : (if y = "home" then some i else none) = some i2 := h2
        by_cases q : y = "home"
        · rw [if_pos q] at h2
          cases h2
          exact ⟨bi, bw⟩
        · rw [if_neg q] at h2
          cases h2
      · have hc := hB e f2
        have hmul : (c.most - c.asked) * B = (c.most - (c.asked + 1)) * B + B := by
          have e1 : c.most - c.asked = (c.most - (c.asked + 1)) + 1 := by omega
          rw [e1, Nat.succ_mul]
        have hpp := pcnt_pos c.part
        unfold muB
        show (c.most - (c.asked + 1)) * B + (pcnt e.2.2 + c.lim) + fU c.fin < (c.most - c.asked) * B + (pcnt c.part + c.lim) + fU c.fin
        omega
  | tell x t p =>
    rw [hp] at ok
    have eS : stepT es c = { c with trail := c.trail ++ [.tell (evS c.env t)], env := setE c.env x (evS c.env t), part := p } := by
      unfold stepT
      rw [hp]
    rw [eS]
    refine ⟨.inl ⟨hgo, w.as_, ⟨xs ++ [x], js, ok.2.2, setE_some I.e, I.h, I.b, I.m⟩, w.tb⟩, ?_⟩
    unfold muB
    rw [hp]
    show (c.most - c.asked) * B + (pcnt p + c.lim) + fU c.fin < (c.most - c.asked) * B + (1 + pcnt p + c.lim) + fU c.fin
    omega
  | lett x t p =>
    rw [hp] at ok
    have eS : stepT es c = { c with env := setE c.env x (evS c.env t), part := p } := by
      unfold stepT
      rw [hp]
    rw [eS]
    refine ⟨.inl ⟨hgo, w.as_, ⟨xs ++ [x], js, ok.2.2, setE_some I.e, I.h, I.b, I.m⟩, w.tb⟩, ?_⟩
    unfold muB
    rw [hp]
    show (c.most - c.asked) * B + (pcnt p + c.lim) + fU c.fin < (c.most - c.asked) * B + (1 + pcnt p + c.lim) + fU c.fin
    omega
  | iff t p q =>
    rw [hp] at ok
    have eS : stepT es c = { c with part := if evS c.env t = 0 then q else p } := by
      unfold stepT
      rw [hp]
    rw [eS]
    refine ⟨.inl ⟨hgo, w.as_, ⟨xs, js, ?_, I.e, I.h, I.b, I.m⟩, w.tb⟩, ?_⟩
    · show rP hd (if evS c.env t = 0 then q else p) xs js
      split
      · exact ok.2.2
      · exact ok.2.1
    · unfold muB
      rw [hp]
      show (c.most - c.asked) * B + (pcnt (if evS c.env t = 0 then q else p) + c.lim) + fU c.fin < (c.most - c.asked) * B + (1 + pcnt p + pcnt q + c.lim) + fU c.fin
      split <;> omega
  | post j x p q =>
    rw [hp] at ok
    have eS : stepT es c = { c with made := c.made + 1, tab := c.tab ++ [⟨x, p, c.env, c.hs, hiAt c.tab (hAt c.hs "home") + 1, pcnt p + c.lim⟩], hs := setH c.hs j (c.tab.length + 1), part := q, lim := pcnt p + c.lim } := by
      unfold stepT
      rw [hp]
    rw [eS]
    refine ⟨.inl ⟨hgo, w.as_, ⟨xs, js ++ [j], ok.2.2.2, I.e, ?_, ?_, List.mem_append_left _ I.m⟩, ?_⟩, ?_⟩
    · intro y hy
      show ∃ i, setH c.hs j (c.tab.length + 1) y = some i
      unfold setH
      by_cases e : y = j
      · exact ⟨_, if_pos e⟩
      · rw [if_neg e]
        rcases List.mem_append.mp hy with z | z
        · exact I.h y z
        · exact absurd (List.mem_singleton.mp z) e
    · intro y i hi
      have hi : (if y = j then some (c.tab.length + 1) else c.hs y) = some i := hi
      show i ≤ (c.tab ++ [_]).length ∧ wtAt (c.tab ++ [_]) i ≤ pcnt p + c.lim
      rw [List.length_append]
      by_cases e : y = j
      · rw [if_pos e] at hi
        cases hi
        refine ⟨Nat.le_refl _, ?_⟩
        rw [wtAt_last]
        exact Nat.le_refl _
      · rw [if_neg e] at hi
        obtain ⟨a, b⟩ := I.b y i hi
        refine ⟨by omega, ?_⟩
        rw [wtAt_app a]
        omega
    · intro k r hk
      by_cases hlt : k < c.tab.length
      · have hk : (c.tab ++ [_])[k]? = some r := hk
        rw [List.getElem?_append_left hlt] at hk
        have R := w.tb k r hk
        obtain ⟨xs', js', J⟩ := R.sc
        exact ⟨⟨xs', js', J.app (by omega)⟩, R.w⟩
      · have hk : (c.tab ++ [_])[k]? = some r := hk
        have hlen := (List.getElem?_eq_some_iff.mp hk).1
        rw [List.length_append, List.length_singleton] at hlen
        have hk2 : k = c.tab.length := by omega
        subst hk2
        rw [List.getElem?_append_right (Nat.le_refl _), Nat.sub_self] at hk
        have hr := (Option.some.inj hk).symm
        subst hr
        refine ⟨⟨xs, js, (InE.mk ok.2.2.1 (setE_some I.e) I.h (fun y i e => ?_) I.m : InE hd c.tab c.tab.length p _ _ _ _ _).app (Nat.le_refl _)⟩, Nat.le_add_right _ _⟩
        obtain ⟨a, b⟩ := I.b y i e
        refine ⟨a, ?_⟩
        show wtAt c.tab i ≤ pcnt p + c.lim - pcnt p
        omega
    · unfold muB
      rw [hp]
      show (c.most - c.asked) * B + (pcnt q + (pcnt p + c.lim)) + fU c.fin < (c.most - c.asked) * B + (1 + pcnt p + pcnt q + c.lim) + fU c.fin
      omega
theorem wf_stepT {es : List TEr} {hd : Str → Option Nat} (E : TEsOk es hd) {c : CT} (w : WfT es hd c) : (WfT es hd (stepT es c) ∨ (stepT es c).fin ≠ .no) ∧ muT (stepT es c) < muT c := wf_stepB E (fun e he => by have := (E.er e he).cn; omega) w
end KB

namespace KB
open PySem L2 HT LamX NdefX

/-! ### simple terms as a tree -/
def plV : Tm → List (List Int × Tm)
  | .mk h n k => ([], .mk h n k) :: (List.ofFn fun i : Fin n => (plV (k i)).map (fun e => ((i.val : Int) :: e.1, e.2))).flatten
theorem plV_fn : ∀ {n : Nat} {k : Fin n → Tm} {j : Nat}, (List.ofFn fun i : Fin n => (plV (k i)).map (fun e => (((j + i.val : Nat) : Int) :: e.1, e.2))).flatten = plL plV j (List.ofFn k)
  | 0, _, _ => rfl
  | n + 1, k, j => by
    rw [List.ofFn_succ, List.ofFn_succ, List.flatten_cons]
    show _ = (plV (k 0)).map (fun e => ((j : Int) :: e.1, e.2)) ++ plL plV (j + 1) _
    rw [← plV_fn (k := fun i => k i.succ) (j := j + 1)]
    congr 3
    · funext i
      have e : j + (i.succ).val = j + 1 + i.val := by
        rw [Fin.val_succ]
        omega
      rw [e]
theorem plV_mk {h : Hd} {n : Nat} {k : Fin n → Tm} : plV (.mk h n k) = ([], .mk h n k) :: plL plV 0 (List.ofFn k) := by
  rw [← plV_fn]
  show _ :: _ = _
  congr 4
  funext i
  rw [Nat.zero_add]
/-- simple, each name with its number -/
def VAt (env : Env) (H : Hp) (t : Tm) (a : Addr) : Prop := At H t a ∧ simple t = true ∧ hasN env t
def TrV (env : Env) : Tre Tm where
  kids := kidsT
  sz := cnt
  pl := plV
  A := VAt env
  tk e h := ⟨h.1.tk e, h.2⟩
  szk n := by
    obtain ⟨h, m, k⟩ := n
    exact cnt_mk
  plk n := by
    obtain ⟨h, m, k⟩ := n
    exact plV_mk
theorem map_fn {α β : Type} (f : α → β) : ∀ {n : Nat} {k : Fin n → α}, (List.ofFn k).map f = List.ofFn fun i => f (k i)
  | 0, _ => rfl
  | n + 1, k => by
    rw [List.ofFn_succ, List.ofFn_succ, List.map_cons, map_fn f]
theorem evS_eq (env : Env) (t : Tm) : evS env t = evH env (hdT t) ((kidsT t).map (evS env)) := by
  obtain ⟨h, m, k⟩ := t
  show evH env h (List.ofFn fun i => evS env (k i)) = evH env h ((List.ofFn k).map (evS env))
  rw [map_fn]
theorem all2_kids {env : Env} {H : Hp} : ∀ {ts : List Tm} {xs : List V}, All2 (RefV H) ts xs → (∀ t ∈ ts, simple t = true ∧ hasN env t) → All2 ((TrV env).V H) ts xs
  | [], [], _, _ => trivial
  | t :: ts, x :: xs, ⟨⟨b, e, h⟩, h2⟩, g => ⟨⟨b, e, h, g t List.mem_cons_self⟩, all2_kids h2 fun u hu => g u (List.mem_cons_of_mem _ hu)⟩
  | [], _ :: _, h, _ => h.elim
  | _ :: _, [], h, _ => h.elim
theorem kids_v {env : Env} {t : Tm} (h1 : simple t = true) (h2 : hasN env t) : ∀ u ∈ kidsT t, simple u = true ∧ hasN env u := by
  obtain ⟨h, m, k⟩ := t
  intro u hu
  obtain ⟨i, rfl⟩ := List.mem_ofFn.mp hu
  exact ⟨(simple_mk h1).2 i, h2.2 i⟩
/-- what is asked of the numbers' table: a name for the number of each word -/
def EnvAt (H : Hp) (env : Env) (b : Addr) : Prop := ∃ kvs : List (Key × V), H b = some (.dK kvs) ∧ kvs.length ≤ 1000 ∧ ∀ x : Str, valV kvs (Sum.inr x) = (env x).map V.int
theorem EnvAt.sx {H H' : Hp} (s : Sx H H') {env : Env} {b : Addr} (h : EnvAt H env b) : EnvAt H' env b := let ⟨kvs, h1, h2⟩ := h; ⟨kvs, s.d h1, h2⟩
/-- what the program's text names besides -/
structure TxT (K : PySem.W.Frag) (mg : Str → Option Value) : Prop where
  num : ∃ t, mg "NUMBERS" = some (.int 1000 t)
  home : ∃ t, mg "HOME" = some (.str "home" t)
section
variable {P : Program} {w : World} {K : PySem.W.Frag} {mg : Str → Option Value} {base : Heap}
theorem kids_p {env : Env} {k : Nat} {f : Addr} {fd : FuncData} (G : FnOk P w K mg base CX0 k f fd ["term"] spParts) : FnOk P w K mg base CX0 k f fd ["term"] (spKids (TrV env)) :=
  G.imp fun vs H Q E h => by
    obtain ⟨n, a, rfl, hA, q⟩ := h
    obtain ⟨xs, l, k⟩ := hA.1.kids
    exact ⟨a, hdT n, xs, rfl, l, fun p H' s hp => q p H' xs s hp (all2_kids (k.imp fun _ _ z => z.tk (tk_same s)) (kids_v hA.2.1 hA.2.2))⟩
/-! ### combined -/
def combI (hd : Str) (a b : Int) : Int := if hd = "plus" then Int.fmod (a + b) 1000 else Int.fmod (a - b) 1000
def spCombd : Sp := fun vs H Q _ => ∃ (hd : Str) (a b : Int), vs = [.str hd, .int a, .int b] ∧ Q (.int (combI hd a b)) H
abbrev scombined : Stmt := top 33
theorem sccombined : FnScope ["head", "first", "second"] ["head", "first", "second"] (defScope scombined) := ⟨rfl, rfl, rfl, by decide +kernel, rfl, by decide +kernel, by decide +kernel⟩
theorem ok_combined (T : TxT K mg) {f : Addr} {fd : FuncData} (F : Fun K "combined" "combined" scombined f fd) : FnOk P w K mg base CX0 1 f fd ["head", "first", "second"] spCombd := by
  refine F.ok sccombined (fun vs H Q E h => ?_) (fun cdv A outer s H vs Q E hr h => ?_)
  · obtain ⟨hd, a, b, rfl, _⟩ := h
    rfl
  obtain ⟨hd, a, b, rfl, q⟩ := h
  obtain ⟨tn, mN⟩ := T.num
  refine ⟨_, pss_cons (ps_if (pt_cmpR op_eq (pv 0) pe_str (nomark _)) (pss_one (ps_ret (pe_op op_modN (pe_op op_add (pv 1) (pv 2)) (pe_glob (v := .int 1000) rfl mN ⟨_, rfl⟩)))) pss_nil)
    (pss_one (ps_ret (pe_op op_modN (pe_op op_sub (pv 1) (pv 2)) (pe_glob (v := .int 1000) rfl mN ⟨_, rfl⟩)))), ?_⟩
  refine ⟨_, rfl, rfl, _, rfl, ?_⟩
  by_cases c : hd = "plus"
  · refine itT (decide_eq_true (congrArg V.str c)) ⟨_, rfl, _, rfl, _, _, rfl, rfl, _, _, rfl, rfl, (by show (1000 : Int) ≠ 0; decide), ?_⟩
    unfold combI at q
    rw [if_pos c] at q
    exact q
  · refine itF (decide_eq_false fun z => c (V.str.inj z)) ⟨_, rfl, _, rfl, _, _, rfl, rfl, _, _, rfl, rfl, (by show (1000 : Int) ≠ 0; decide), ?_⟩
    unfold combI at q
    rw [if_neg c] at q
    exact q
/-! ### number_by_parts -/
def spNbp : Sp := fun vs H Q _ => ∃ (a q wb : Addr) (t : Tm) (env : Env) (bs : List Int), vs = [.ref a, .ref q, .ref wb] ∧ VAt env H t a ∧ H q = some (.tup (bs.map V.int)) ∧ bs.length = (kidsT t).length ∧ EnvAt H env wb ∧ ∀ H', Same H H' → Q (.int (evH env (hdT t) bs)) H'
abbrev snumber_by_parts : Stmt := top 35
theorem scnumber_by_parts : FnScope ["term", "told", "words"] ["term", "told", "words"] (defScope snumber_by_parts) := ⟨rfl, rfl, rfl, by decide +kernel, rfl, by decide +kernel, by decide +kernel⟩
theorem ok_nbp {f f1 : Addr} {fd d1 : FuncData} (F : Fun K "number_by_parts" "number_by_parts" snumber_by_parts f fd) (Gcombined : FnOk P w K mg base CX0 1 f1 d1 ["head", "first", "second"] spCombd) (Rcombined : Ref K mg "combined" f1 d1 ["head", "first", "second"]) :
    FnOk P w K mg base CX0 2 f fd ["term", "told", "words"] spNbp := by
  refine F.ok scnumber_by_parts (fun vs H Q E h => ?_) (fun cdv A outer s H vs Q E hr h => ?_)
  · obtain ⟨a, q, wb, t, env, bs, rfl, _⟩ := h
    rfl
  obtain ⟨a, q0, wb, t, env, bs, rfl, ⟨hA, hs, hN⟩, hq, hl, ⟨kvs, hw, _, hv⟩, q⟩ := h
  refine ⟨_, (pss_cons (ps_if (pt_cmpR op_eq (pe_ix ix_tup (pv 0) pe_int (fun _ _ => rfl)) pe_str (nomark _)) (pss_one (ps_ret (pe_ix ix_tup (pv 0) pe_int (fun _ _ => rfl)))) pss_nil)
    (pss_cons (ps_if (pt_cmpR op_eq (pe_ix ix_tup (pv 0) pe_int (fun _ _ => rfl)) pe_str (nomark _)) (pss_one (ps_ret (pe_dget (hu_of hr) (pv 2) (pe_ix ix_tup (pv 0) pe_int (fun _ _ => rfl)) (fun _ _ => rfl)))) pss_nil)
    (pss_one (ps_ret (pe_call Gcombined (hr.mono (by omega)) rfl Rcombined.m Rcombined.k Rcombined.b .nil pass0 (pa_cons (pe_ix ix_tup (pv 0) pe_int (fun _ _ => rfl)) (pa_cons (pe_ix ix_tup (pv 1) pe_int (fun _ _ => rfl)) (pa_cons (pe_ix ix_tup (pv 1) pe_int (fun _ _ => rfl)) pa_nil)))))))), ?_⟩
  obtain ⟨h, m, k⟩ := t
  have hk : (kidsT (.mk h m k)).length = m := kids_len
  rw [hk] at hl
  obtain ⟨ys, l, r⟩ := hA
  obtain ⟨r0, hhd⟩ := l.head
  have hf := (simple_mk hs).1
  have e0 : (Rfs ys).length = m := by
    unfold Rfs
    rw [List.length_ofFn]
  have q := q H (Same.refl H)
  refine ⟨_, rfl, a, _, _, _, rfl, rfl, SqT.of hhd, at0, rfl, _, rfl, ?_⟩
  cases h with
  | num z => exact itT rfl ⟨_, rfl, a, _, _, _, rfl, rfl, SqT.of l.2, at1, q⟩
  | nam x =>
    obtain ⟨z, hz⟩ : ∃ z, env x = some z := hN.1
    refine itF rfl ⟨_, rfl, a, _, _, _, rfl, rfl, SqT.of hhd, at0, rfl, _, rfl, ?_⟩
    refine itT rfl ⟨_, rfl, _, rfl, a, _, _, _, rfl, rfl, SqT.of l.2, at1, wb, .int z, rfl, get_of hw (by rw [hv, hz]; rfl), ?_⟩
    have e : evH env (.nam x) bs = z := by
      show (env x).getD 0 = z
      rw [hz]
      rfl
    exact e ▸ q
  | plus =>
    have hm : m = 2 := by rw [← e0]; exact l.1
    subst hm
    obtain ⟨b0, b1, rfl⟩ : ∃ b0 b1, bs = [b0, b1] := match bs, hl with | [b0, b1], _ => ⟨b0, b1, rfl⟩
    refine itF rfl ⟨_, rfl, a, _, _, _, rfl, rfl, SqT.of hhd, at0, rfl, _, rfl, ?_⟩
    exact itF rfl ⟨_, rfl, a, _, _, _, rfl, rfl, SqT.of hhd, at0, _, rfl, q0, _, _, _, rfl, rfl, SqT.of hq, at0, _, rfl, q0, _, _, _, rfl, rfl, SqT.of hq, at1, _, b0, b1, rfl, q⟩
  | less =>
    have hm : m = 2 := by rw [← e0]; exact l.1
    subst hm
    obtain ⟨b0, b1, rfl⟩ : ∃ b0 b1, bs = [b0, b1] := match bs, hl with | [b0, b1], _ => ⟨b0, b1, rfl⟩
    refine itF rfl ⟨_, rfl, a, _, _, _, rfl, rfl, SqT.of hhd, at0, rfl, _, rfl, ?_⟩
    exact itF rfl ⟨_, rfl, a, _, _, _, rfl, rfl, SqT.of hhd, at0, _, rfl, q0, _, _, _, rfl, rfl, SqT.of hq, at0, _, rfl, q0, _, _, _, rfl, rfl, SqT.of hq, at1, _, b0, b1, rfl, q⟩
  | tell => exact absurd hf (by decide)
  | lett x => exact absurd hf Bool.false_ne_true
  | iff => exact absurd hf (by decide)
  | ask g => exact absurd hf Bool.false_ne_true
/-! ### number_of -/
def spNof (TT : List (Addr × Str)) : Sp := fun vs H Q _ => ∃ (tb wb : Addr) (t : Tm) (env : Env), vs = [.ref tb, .ref wb] ∧ VAt env H t tb ∧ cnt t ≤ 5000 ∧ EnvAt H env wb ∧ Tabs TT H ∧ ∀ H', Sx H H' → Tabs TT H' → Q (.int (evS env t)) H'
abbrev snumber_of : Stmt := top 34
theorem scnumber_of : FnScope ["term", "words"] ["term", "words"] (defScope snumber_of) := ⟨rfl, rfl, rfl, by decide +kernel, rfl, by decide +kernel, by decide +kernel⟩
def SInt (H : Hp) (z : Int) (v : V) : Prop := v = .int z
theorem sint_map {H : Hp} : ∀ {bs : List Int} {us : List V}, All2 (SInt H) bs us → us = bs.map V.int
  | [], [], _ => rfl
  | b :: bs, u :: us, ⟨e, h⟩ => by
    have e : u = .int b := e
    rw [e, sint_map h]
    rfl
  | [], _ :: _, h => h.elim
  | _ :: _, [], h => h.elim
theorem ok_nof (T : Txt K mg) {c Pt0 : Addr} {TT : List (Addr × Str)} (TB : TabB base mg c Pt0) (hm : (Pt0, ("number_of.<locals>.<lambda>" : Str)) ∈ TT) (hu : ∀ p ∈ TT, p.1 = Pt0 → p.2 = "number_of.<locals>.<lambda>") {f f1 f2 f3 : Addr} {fd d1 d2 d3 : FuncData} (F : FunC K "number_of" "number_of" snumber_of f fd c)
    (Gremade : ∀ env : Env, FnL P w K mg base 3 3 f1 d1 ["body", "parts", "made"] (spRemX (TrV env) SInt (fun t bs => evH env (hdT t) bs) (evS env) (Tabs TT) f2)) (Rremade : Ref K mg "remade" f1 d1 ["body", "parts", "made"]) (Rparts_of : Ref K mg "parts_of" f2 d2 ["term"])
    (Gnbp : FnOk P w K mg base CX0 2 f3 d3 ["term", "told", "words"] spNbp) (Rnumber_by_parts : Ref K mg "number_by_parts" f3 d3 ["term", "told", "words"]) : FnOk P w K mg base CX0 8 f fd ["term", "words"] (spNof TT) := by
  refine okC F scnumber_of (fun vs H Q E h => ?_) (fun A outer s H vs Q E hr h => ?_)
  · obtain ⟨tb, wb, t, env, rfl, _⟩ := h
    rfl
  obtain ⟨tb, wb, t, env, rfl, hA, hc, hE, hTb, q⟩ := h
  refine ⟨_, (pss_one (ps_ret (pe_callLam (T := TT) (N := ["part", "told", "words"]) (ps := ["part", "told"]) (fr := ["words"]) (js := [1]) TB rfl hm hu
        (Gremade env) (hr.mono (by omega)) rfl Rremade.m Rremade.k Rremade.b (pv 0) (pe_glob (v := .ref f2) rfl Rparts_of.m rfl) (nscope_by (by decide +kernel)) (by change ∀ y : Str × NameKind, y ∈ _ → y.2 = NameKind.free → (defScope snumber_of).names.lookup y.1 = some NameKind.cell ∨ (defScope snumber_of).names.lookup y.1 = some NameKind.free; decide +kernel) (by decide +kernel) (by rfl) (fun _ _ _ _ _ us hl => match us, hl with | [_, _], _ => rfl)
        (fun _ _ _ _ _ _ _ _ room => pe_call Gnbp (room.mono (by omega)) rfl Rnumber_by_parts.m Rnumber_by_parts.k Rnumber_by_parts.b .nil pass0 (pa_cons (pv 0) (pa_cons (pv 1) (pa_cons (pv 2) pa_nil))))))), ?_⟩
  refine ⟨_, rfl, hTb, fun fl c' H1 s1 T1 hfl kn1 => ?_⟩
  refine ⟨fl, c', kn1, t, tb, rfl, kn1, T1, (TrV env).tk s1.tk hA, hc, ?_, fun v H2 s2 T2 r2 => ?_⟩
  · intro H3 m b3 q3 bs us Q' s3 kn3 T3 hm3 h3 k3 l3 q'
    refine ⟨rfl, ?_⟩
    have e3 := sint_map k3
    subst e3
    exact ⟨_, rfl, _, rfl, _, rfl, b3, q3, wb, m, env, bs, rfl, hm3, h3, l3, hE.sx (s1.trans s3), fun H4 s4 => q' _ H4 (sx_same s4) (tabs_new T3 s4) rfl⟩
  · have r2 : v = .int (evS env t) := r2
    subst r2
    exact q H2 (s1.trans s2) T2
end
end KB

namespace KB
open PySem L2 HT

theorem map_gi {ns : List Int} {j : Nat} {x : V} (h : (ns.map V.int)[j]? = some x) : ∃ z, ns[j]? = some z ∧ V.int z = x := by
  rw [List.getElem?_map] at h
  cases e : ns[j]? with
  | none =>
    rw [e] at h
    cases h
  | some z =>
    rw [e] at h
    exact ⟨z, rfl, Option.some.inj h⟩
theorem passX {X : Cx} {P : Program} {w : World} : Passes (L2.CX P w) X E0 := fun _ _ _ _ _ _ _ h => by
  obtain ⟨_, _, _, _, _, _, _, _, _, _, _, _, z⟩ := h
  exact z.elim
/-- an own class of exceptions, over ValueError, without __init__ -/
structure XcT (K : PySem.W.Frag) (mg : Str → Option Value) (x : Str) (C : Addr) : Prop where
  g : mg x = some (.ref C)
  x : PySem.W.excIn K C [.type "ValueError", .type "Exception", .type "BaseException", .type "object"] "ValueError.__new__" = true
  k : PySem.W.keepIn K (.ref C) = true
  b : PySem.W.subIn K (.ref C) (.type "BaseException") = some true
  t : PySem.W.typeIn K (.ref C) = some (.type "type")
section
variable {P : Program} {w : World} {K : PySem.W.Frag} {mg : Str → Option Value} {base : Heap} {CN CM : Addr}
/-! ### is_whole -/
def spWhole : Sp := fun vs H Q _ => ∃ z : Int, vs = [.int z] ∧ Q (.bl true) H
abbrev sis_whole : Stmt := top 10
theorem scis_whole : FnScope ["thing"] ["thing"] (defScope sis_whole) := ⟨rfl, rfl, rfl, by decide +kernel, rfl, by decide +kernel, by decide +kernel⟩
theorem ok_whole (T : Txt K mg) {f : Addr} {fd : FuncData} (F : Fun K "is_whole" "is_whole" sis_whole f fd) : FnOk P w K mg base CX0 1 f fd ["thing"] spWhole := by
  refine F.ok scis_whole (fun vs H Q E h => ?_) (fun cdv A outer s H vs Q E hr h => ?_)
  · obtain ⟨z, rfl, _⟩ := h
    rfl
  obtain ⟨z, rfl, q⟩ := h
  refine ⟨_, (pss_one (ps_ret (pe_and (pe_callB call_isi (by rfl) T.m_isinstance (by decide +kernel) (pa_cons (pv 0) (pa_cons (pe_bltn (v := .ty "int") rfl T.m_int (by decide +kernel) rfl) pa_nil))) (pe_one (pe_not (pe_callB call_isi (by rfl) T.m_isinstance (by decide +kernel) (pa_cons (pv 0) (pa_cons (pe_bltn (v := .ty "bool") rfl T.m_bool (by decide +kernel) rfl) pa_nil)))))))), ?_⟩
  refine ⟨_, rfl, .int z, .ty "int", .type "int", .type "int", true, rfl, .ty "int", .base (.int z), kit_ty (by decide +kernel), _, rfl, ?_⟩
  refine itT rfl ⟨_, rfl, .int z, .ty "bool", .type "int", .type "bool", false, rfl, .ty "bool", .base (.int z), kit_ty (by decide +kernel), _, rfl, ?_⟩
  exact q
/-! ### errand_named in a turned book, any name -/
def spNamT : Sp := fun vs H Q _ => ∃ (p : Addr) (es : List TEr) (us : List V) (f : Str), vs = [.ref p, .str f] ∧ TBkAt H es us p ∧ (∀ i e, es[i]? = some e → e.1 = f → (∀ (j : Nat) e', j < i → es[j]? = some e' → e'.1 ≠ f) → ∀ v, TErV H e v → Q v H) ∧ ((∀ e ∈ es, e.1 ≠ f) → Q .non H)
abbrev serrand_named : Stmt := top 12
theorem scerrand_named : FnScope ["book", "f", "errand"] ["book", "f"] (defScope serrand_named) := ⟨rfl, rfl, rfl, by decide +kernel, rfl, by decide +kernel, by decide +kernel⟩
theorem ok_nam {f : Addr} {fd : FuncData} (F : Fun K "errand_named" "errand_named" serrand_named f fd) : FnOk P w K mg base CX0 1 f fd ["book", "f"] spNamT := by
  refine F.ok scerrand_named (fun vs H Q E h => ?_) (fun cdv A outer s H vs Q E hr h => ?_)
  · obtain ⟨p, es, us, f, rfl, _⟩ := h
    rfl
  obtain ⟨p, es, us, nm, rfl, hB, q1, q2⟩ := h
  refine ⟨_, (pss_cons (ps_for PassesOwn.never rfl (pi_tup (pv 0)) (pg_name (i := 2) scerrand_named.nd rfl (Or.inl rfl)) (pss_one (ps_if (pt_cmpR op_eq (pe_ix ix_tup (pv 2) pe_int (fun _ _ => rfl)) (pv 1) (nomark _)) (pss_one (ps_ret (pv 2))) pss_nil)))
    (pss_one (ps_ret pe_non))), ?_⟩
  refine ⟨_, rfl, p, rfl, ⟨_, SqT.of hB.1⟩, for_tup (xs := us) (fun j σ H' => ∃ o, σ = [some (.ref p), some (.str nm), o] ∧ H' = H ∧ ∀ i e, i < j → es[i]? = some e → e.1 ≠ nm) ⟨_, rfl, rfl, fun i e h => absurd h (Nat.not_lt_zero _)⟩ ?_ ?_ ?_⟩
  · rintro j σ H' _ ⟨o, rfl, rfl, _⟩
    exact SqT.of hB.1
  · rintro j x σ H' hx ⟨o, rfl, rfl, hj⟩
    obtain ⟨e, he, hev⟩ := hB.2.get hx
    obtain ⟨qa, r, b, rfl, g1, g2, g3⟩ := id hev
    refine ⟨_, rfl, qa, _, _, _, rfl, rfl, SqT.of g1, at0, _, rfl, rfl, _, rfl, ?_⟩
    by_cases c : e.1 = nm
    · exact itT (decide_eq_true (congrArg V.str c)) ⟨_, rfl, q1 j e he c (fun i e' hi he' => hj i e' hi he') _ hev⟩
    · refine itF (decide_eq_false fun z => c (V.str.inj z)) ⟨_, rfl, rfl, fun i e' hi he' => ?_⟩
      by_cases z : i = j
      · subst z
        rw [he] at he'
        cases he'
        exact c
      · exact hj i e' (by omega) he'
  · rintro σ H' ⟨o, rfl, rfl, hj⟩
    refine q2 fun e he => ?_
    obtain ⟨i, hi⟩ := List.mem_iff_getElem?.mp he
    refine hj i e ?_ hi
    rw [hB.2.len]
    exact (List.getElem?_eq_some_iff.mp hi).1
/-! ### need_errand -/
def spNeedE (CN : Addr) : Sp := fun vs H Q E => ∃ (p : Addr) (es : List TEr) (us : List V) (f : Str), vs = [.ref p, .str f] ∧ TBkAt H es us p ∧ ((∃ e ∈ es, e.1 = f) → Q .non H) ∧ ((∀ e ∈ es, e.1 ≠ f) → E (.ref CN) none H)
abbrev sneed_errand : Stmt := top 14
theorem scneed_errand : FnScope ["book", "f"] ["book", "f"] (defScope sneed_errand) := ⟨rfl, rfl, rfl, by decide +kernel, rfl, by decide +kernel, by decide +kernel⟩
theorem ok_needE (XNoAsking : XcT K mg "NoAsking" CN) {f f1 : Addr} {fd d1 : FuncData} (F : Fun K "need_errand" "need_errand" sneed_errand f fd)
    (Gerrand_named : FnOk P w K mg base CX0 1 f1 d1 ["book", "f"] spNamT) (Rerrand_named : Ref K mg "errand_named" f1 d1 ["book", "f"]) : FnOk P w K mg base (L2.CX P w) 2 f fd ["book", "f"] (spNeedE CN) := by
  refine F.okX scneed_errand (fun vs H Q E h => ?_) (fun cdv A outer s H vs Q E hr h => ?_)
  · obtain ⟨p, es, us, f, rfl, _⟩ := h
    rfl
  obtain ⟨p, es, us, nm, rfl, hB, q1, q2⟩ := h
  refine ⟨_, (pss_one (ps_if (pt_cmpR op_isN (pe_call Gerrand_named (hr.mono (by omega)) rfl Rerrand_named.m Rerrand_named.k Rerrand_named.b .nil pass0 (pa_cons (pv 0) (pa_cons (pv 1) pa_nil))) pe_non (nomark _)) (pss_one (ps_raise rfl (takes_of rfl rfl rfl rfl) (pmk_own PySem.F.excBase_ValueError XNoAsking.x XNoAsking.g XNoAsking.k (raises_own XNoAsking.b XNoAsking.t) rfl))) pss_nil)), ?_⟩
  refine ⟨_, rfl, _, rfl, p, es, us, nm, rfl, hB, fun i e he hn hj v hv => ?_, fun hno => ?_⟩
  · obtain ⟨qa, r, b, rfl, g1, g2, g3⟩ := hv
    exact ⟨rfl, _, rfl, itF (decide_eq_false (by intro z; cases z)) (q1 ⟨e, mem_of_get he, hn⟩)⟩
  · exact ⟨rfl, _, rfl, itT (decide_eq_true rfl) (q2 hno)⟩
theorem nd_ixE : ∀ {es : List TEr} {i : Nat} {e e' : TEr}, (es.map (·.1)).Nodup → es[i]? = some e → e' ∈ es → e.1 = e'.1 → e = e' := by
  intro es i e e' h he he' hn
  have hm := mem_of_get he
  clear he
  induction es with
  | nil => cases he'
  | cons a r ih =>
    rw [List.map_cons, List.nodup_cons] at h
    rcases List.mem_cons.mp hm with ha | ha <;> rcases List.mem_cons.mp he' with hb | hb
    · rw [ha, hb]
    · exact absurd (List.mem_map.mpr ⟨e', hb, by rw [← hn, ha]⟩) h.1
    · exact absurd (List.mem_map.mpr ⟨e, ha, by rw [hn, hb]⟩) h.1
    · exact ih h.2 hb ha
/-! ### need_asking -/
def spNeed : Sp := fun vs H Q E => ∃ (p nb : Addr) (es : List TEr) (us : List V) (e : TEr) (ns : List Int), vs = [.ref p, .str e.1, .ref nb] ∧ TBkAt H es us p ∧ (es.map (·.1)).Nodup ∧ H nb = some (.tup (ns.map V.int)) ∧ ns.length ≤ 100 ∧ e ∈ es ∧ e.2.1.length = ns.length ∧ ∀ H', Same H H' → Q .non H'
abbrev sneed_asking : Stmt := top 15
theorem scneed_asking : FnScope ["book", "f", "numbers", "errand", "number"] ["book", "f", "numbers"] (defScope sneed_asking) := ⟨rfl, rfl, rfl, by decide +kernel, rfl, by decide +kernel, by decide +kernel⟩
theorem ok_need (T : Txt K mg) (XNoAsking : XcT K mg "NoAsking" CN) {f f1 f2 f3 : Addr} {fd d1 d2 d3 : FuncData} (F : Fun K "need_asking" "need_asking" sneed_asking f fd)
    (Gneed_errand : FnOk P w K mg base (L2.CX P w) 2 f3 d3 ["book", "f"] (spNeedE CN)) (Rneed_errand : Ref K mg "need_errand" f3 d3 ["book", "f"])
    (Gerrand_named : FnOk P w K mg base CX0 1 f1 d1 ["book", "f"] spNamT) (Rerrand_named : Ref K mg "errand_named" f1 d1 ["book", "f"])
    (Gis_whole : FnOk P w K mg base CX0 1 f2 d2 ["thing"] spWhole) (Ris_whole : Ref K mg "is_whole" f2 d2 ["thing"]) : FnOk P w K mg base (L2.CX P w) 3 f fd ["book", "f", "numbers"] spNeed := by
  refine F.okX scneed_asking (fun vs H Q E h => ?_) (fun cdv A outer s H vs Q E hr h => ?_)
  · obtain ⟨p, nb, es, us, f, ns, rfl, _⟩ := h
    rfl
  obtain ⟨p, nb, es, us, e, ns, rfl, hB, hnd, hnb, hl, he, hen, q1⟩ := h
  refine ⟨_, (pss_cons (ps_expr (pe_call Gneed_errand (hr.mono (by omega)) rfl Rneed_errand.m Rneed_errand.k Rneed_errand.b .nil passX (pa_cons (pv 0) (pa_cons (pv 1) pa_nil))))
    (pss_cons (ps_set (i := 3) scneed_asking.nd rfl (Or.inl rfl) (pe_call Gerrand_named (hr.mono (by omega)) rfl Rerrand_named.m Rerrand_named.k Rerrand_named.b .nil pass0 (pa_cons (pv 0) (pa_cons (pv 1) pa_nil))))
    (pss_cons (ps_if (PW.pt (pw_or (pt_not (pt_val (pe_callB call_isi (by rfl) T.m_isinstance (by decide +kernel) (pa_cons (pv 2) (pa_cons (pe_bltn (v := .ty "tuple") rfl T.m_tuple (by decide +kernel) rfl) pa_nil))))) (pw_or1 (pt_not (pt_val (pe_callB (cr_all rfl) (by rfl) T.m_all (by decide +kernel) (pa_cons (pe_lc (own := [("number", 4)]) (g := gName 4) (by rfl) scneed_asking.nd (pi_tup (pv 2)) (blkOk_by (own := [("number", 4)]) (N := ["book", "f", "numbers", "errand", "number"]) (sc := defScope sneed_asking) (by decide +kernel)) (fun _ _ _ _ _ => (pg_name (i := 4) scneed_asking.nd rfl (Or.inl rfl))) (fun _ _ _ _ _ => pts_nil) (fun _ _ _ _ _ => (pe_call Gis_whole (hr.mono (by omega)) rfl Ris_whole.m Ris_whole.k Ris_whole.b .nil pass0 (pa_cons (pv 4) pa_nil)))) pa_nil))))))) (pss_one (ps_raise rfl (takes_of rfl rfl rfl rfl) (pmk_own PySem.F.excBase_ValueError XNoAsking.x XNoAsking.g XNoAsking.k (raises_own XNoAsking.b XNoAsking.t) rfl))) pss_nil)
    (pss_one (ps_if (pt_cmpR op_ne (pe_callB call_len_seq (by rfl) T.m_len PySem.boot_len (pa_cons (pv 2) pa_nil)) (pe_callB call_len_seq (by rfl) T.m_len PySem.boot_len (pa_cons (pe_ix ix_tup (pv 3) pe_int (fun _ _ => rfl)) pa_nil)) (nomark _)) (pss_one (ps_raise rfl (takes_of rfl rfl rfl rfl) (pmk_own PySem.F.excBase_ValueError XNoAsking.x XNoAsking.g XNoAsking.k (raises_own XNoAsking.b XNoAsking.t) rfl))) pss_nil))))), ?_⟩
  refine ⟨_, rfl, _, rfl, p, es, us, e.1, rfl, hB, fun _ => ?_, fun hno => absurd rfl (hno e he)⟩
  refine ⟨_, rfl, _, rfl, p, es, us, e.1, rfl, hB, fun i e1 he1 hn1 _ v hv => ?_, fun hno => absurd rfl (hno e he)⟩
  obtain rfl := nd_ixE hnd he1 he hn1
  obtain ⟨qa, r, b, rfl, g1, g2, g3⟩ := hv
  refine ⟨_, rfl, .ref nb, .ty "tuple", .type "tuple", .type "tuple", true, rfl, .ty "tuple", .base (.tup hnb), kit_ty (by decide +kernel), _, rfl, ?_⟩
  refine iteF ?_
  refine ⟨_, rfl, nb, rfl, ⟨_, SqT.of hnb⟩, fun D hD => lc_tup (K := K) (a := nb) (xs := ns.map V.int) (fun j H' => Same H H' ∧ H' D = some (.lst (((ns.take j).map fun _ => true).map V.bl))) ⟨same_new hD _, upd_same⟩ ?_ ?_ ?_⟩
  · rintro j H' _ ⟨s1, _⟩
    exact SqT.of (s1 _ _ hnb)
  · rintro j x H1 hx ⟨s1, h1⟩
    obtain ⟨z, hz, rfl⟩ := map_gi hx
    obtain ⟨hj, hj2⟩ := List.getElem?_eq_some_iff.mp hz
    refine ⟨rfl, ?_⟩
    dsimp only [tYes]
    refine iteT ⟨_, rfl, z, rfl, _, h1, Nat.lt_of_le_of_lt (m := 100) ?_ (by decide), same_mut s1 hD, ?_⟩
    · rw [List.length_map, List.length_map, List.length_take]
      omega
    · rw [upd_same, List.take_succ_eq_append_getElem hj, List.map_append, List.map_append]
      rfl
  · rintro H1 ⟨s1, h1⟩
    refine ⟨D, _, rfl, SqL.of h1, _, rfl, ?_⟩
    have eall : (((ns.take (ns.map V.int).length).map fun _ => true).all id) = true := by
      rw [List.all_map]
      exact List.all_eq_true.mpr fun _ _ => rfl
    refine itF (by rw [eall]; rfl) ?_
    refine ⟨_, rfl, nb, _, rfl, .inr (SqT.of (s1 _ _ hnb)), _, rfl, qa, _, _, _, rfl, rfl, SqT.of (s1 _ _ g1), at1, r, _, rfl, .inr (SqT.of (s1 _ _ g2)), rfl, _, rfl, ?_⟩
    rw [List.length_map, List.length_map]
    exact itF (by rw [hen]; simp) (q1 _ s1)
/-! ### need_most -/
def spMost (CM : Addr) : Sp := fun vs H Q E => ∃ (m : Int), vs = [.int m, .int 0, .int 3000] ∧ (0 ≤ m ∧ m ≤ 3000 → Q .non H) ∧ (¬ (0 ≤ m ∧ m ≤ 3000) → E (.ref CM) none H)
abbrev sneed_most : Stmt := top 16
theorem scneed_most : FnScope ["most", "least", "greatest"] ["most", "least", "greatest"] (defScope sneed_most) := ⟨rfl, rfl, rfl, by decide +kernel, rfl, by decide +kernel, by decide +kernel⟩
theorem ok_most (X : XcT K mg "NoMost" CM) {f f2 : Addr} {fd d2 : FuncData} (F : Fun K "need_most" "need_most" sneed_most f fd)
    (Gis_whole : FnOk P w K mg base CX0 1 f2 d2 ["thing"] spWhole) (Ris_whole : Ref K mg "is_whole" f2 d2 ["thing"]) : FnOk P w K mg base (L2.CX P w) 2 f fd ["most", "least", "greatest"] (spMost CM) := by
  refine F.okX scneed_most (fun vs H Q E h => ?_) (fun cdv A outer s H vs Q E hr h => ?_)
  · obtain ⟨m, rfl, _⟩ := h
    rfl
  obtain ⟨m, rfl, q1, q2⟩ := h
  refine ⟨_, (pss_one (ps_if (PW.pt (pw_or (pt_not (pt_val (pe_call Gis_whole (hr.mono (by omega)) rfl Ris_whole.m Ris_whole.k Ris_whole.b .nil pass0 (pa_cons (pv 0) pa_nil)))) (pw_or1 (pt_not (pt_chain op_le op_le (pv 1) (pv 0) (pv 2)))))) (pss_one (ps_raise rfl (takes_of rfl rfl rfl rfl) (pmk_own PySem.F.excBase_ValueError X.x X.g X.k (raises_own X.b X.t) rfl))) pss_nil)), ?_⟩
  refine ⟨_, rfl, m, rfl, _, rfl, ?_⟩
  refine iteF ⟨_, rfl, _, rfl, _, _, rfl, rfl, _, rfl, ?_⟩
  by_cases c1 : 0 ≤ m
  · refine itT (decide_eq_true c1) ⟨_, rfl, _, _, rfl, rfl, _, rfl, ?_⟩
    by_cases c2 : m ≤ 3000
    · exact itF (by rw [decide_eq_true c2]; rfl) (q1 ⟨c1, c2⟩)
    · exact itT (by rw [decide_eq_false c2]; rfl) (q2 fun z => c2 z.2)
  · exact itF (decide_eq_false c1) ⟨_, rfl, itT rfl (q2 fun z => c1 z.1)⟩
end
end KB

namespace KB
open PySem L2 HT

section
variable {P : Program} {w : World} {K : PySem.W.Frag} {mg : Str → Option Value} {base : Heap}
/-! ### _law_numbers -/
def numsL : List V := [.int 0, .int 1, .int 2, .int 3, .int 4, .int 5, .int 7, .int 999]
theorem numsL_int {v : V} (h : v ∈ numsL) : ∃ z : Int, v = .int z ∧ 0 ≤ z ∧ z < 1000 := by
  have e : numsL = ([0, 1, 2, 3, 4, 5, 7, 999] : List Int).map V.int := rfl
  rw [e] at h
  obtain ⟨z, hz, rfl⟩ := List.mem_map.mp h
  have : ∀ x ∈ ([0, 1, 2, 3, 4, 5, 7, 999] : List Int), 0 ≤ x ∧ x < 1000 := by decide
  exact ⟨z, rfl, this z hz⟩
def spNums : Sp := fun vs H Q _ => ∃ (tp : Addr) (n : Nat), vs = [.ref tp, .int n] ∧ Tp H tp ∧ n ≤ 100 ∧ ∀ (p : Addr) (H' : Hp) (ns : List Int), H p = none → But1 tp H H' → Tp H' tp → H' p = some (.tup (ns.map V.int)) → ns.length = n → (∀ z ∈ ns, 0 ≤ z ∧ z < 1000) → Q (.ref p) H'
abbrev s_law_numbers : Stmt := top 52
theorem scLnumbers : FnScope ["tape", "many", "k"] ["tape", "many"] (defScope s_law_numbers) := ⟨rfl, rfl, rfl, by decide +kernel, rfl, by decide +kernel, by decide +kernel⟩
theorem ok_nums (T : Txt K mg) {f g : Addr} {fd gd : FuncData} (F : Fun K "_law_numbers" "_law_numbers" s_law_numbers f fd) (G_law_digit : FnOk P w K mg base CX0 1 g gd ["tape", "many"] spDig) (R_law_digit : Ref K mg "_law_digit" g gd ["tape", "many"]) : FnOk P w K mg base CX0 2 f fd ["tape", "many"] spNums := by
  refine F.ok scLnumbers (fun vs H Q E h => ?_) (fun cdv A outer s H vs Q E hr h => ?_)
  · obtain ⟨tp, n, rfl, _⟩ := h
    rfl
  obtain ⟨tp, n, rfl, ht, hn, q⟩ := h
  refine ⟨_, (pss_one (ps_ret (pe_callTy call_tuple_of (by rfl) T.m_tuple (by decide +kernel) (pa_cons (pe_lc (own := [("k", 2)]) (g := gName 2) (te := tOp (rIxL K) (tLst (tCons (tC (.int 0)) (tCons (tC (.int 1)) (tCons (tC (.int 2)) (tCons (tC (.int 3)) (tCons (tC (.int 4)) (tCons (tC (.int 5)) (tCons (tC (.int 7)) (tCons (tC (.int 999)) tNil))))))))) (tCall spDig [] E0 (tCons (tVar 0) (tCons (tC (.int 8)) tNil)))) (by rfl) scLnumbers.nd (pi_range1 rfl T.m_range (pa_cons (pv 1) pa_nil)) (blkOk_by (own := [("k", 2)]) (N := ["tape", "many", "k"]) (sc := defScope s_law_numbers) (by decide +kernel)) (fun _ _ _ _ _ => (pg_name (i := 2) scLnumbers.nd rfl (Or.inl rfl))) (fun _ _ _ _ _ => pts_nil) (fun _ _ _ _ _ => (pe_ix ix_list (pe_lst (pa_cons pe_int (pa_cons pe_int (pa_cons pe_int (pa_cons pe_int (pa_cons pe_int (pa_cons pe_int (pa_cons pe_int (pa_cons pe_int pa_nil))))))))) (pe_call G_law_digit (hr.mono (by omega)) rfl R_law_digit.m R_law_digit.k R_law_digit.b .nil pass0 (pa_cons (pv 0) (pa_cons pe_int pa_nil))) (fun _ _ => rfl)))) pa_nil)))), ?_⟩
  have htn : ∀ {x : Addr} {H' : Hp}, Tp H' tp → H' x = none → x ≠ tp := fun {x H'} t hx => by
    obtain ⟨z, hz⟩ := t
    exact (ne_of_none hz hx).symm
  refine ⟨_, rfl, n, rfl, by omega, by omega, fun D hD => lc_range (lo := 0) (n := n) (fun i H' => But1 tp H H' ∧ Tp H' tp ∧ ∃ ns : List Int, H' D = some (.lst (ns.map V.int)) ∧ ns.length = i ∧ ∀ z ∈ ns, 0 ≤ z ∧ z < 1000) ⟨but_same (same_new hD _), ht.same (same_new hD _), [], upd_same, rfl, fun z hz => by cases hz⟩ ?_ ?_⟩
  · rintro i H1 hi ⟨b1, t1, ns, h1, hl, hz⟩
    have nD : D ≠ tp := htn ht hD
    refine ⟨rfl, ?_⟩
    dsimp only [tYes]
    refine iteT ?_
    refine ⟨sz (by show 8 ≤ 100000; decide), fun p hp => ?_⟩
    have s2 := same_new hp (.lst numsL)
    have np : p ≠ tp := htn t1 hp
    refine ⟨_, rfl, tp, 8, rfl, t1.same s2, by decide, by decide, fun r H3 r0 r1 b3 t3 => ?_⟩
    obtain ⟨v, hv, hm⟩ := at_some (xs := numsL) r0 r1
    obtain ⟨z, rfl, hz1⟩ := numsL_int hm
    refine ⟨p, _, _, _, rfl, rfl, SqL.of (b3 _ _ np upd_same), hv, ?_⟩
    have h3 := b3 _ _ nD (s2 _ _ h1)
    refine ⟨_, h3, Nat.lt_of_le_of_lt (m := 100) (by rw [List.length_map]; omega) (by decide), ?_⟩
    have bA := (b1.trans (but_same s2)).trans b3
    refine ⟨fun b o hb ho => ?_, ?_, ns ++ [z], ?_, by rw [List.length_append, hl]; rfl, fun y hy => ?_⟩
    · rw [upd_ne (ne_of_none ho hD)]
      exact bA b o hb ho
    · obtain ⟨y, hy⟩ := t3
      exact ⟨y, by rw [upd_ne nD.symm]; exact hy⟩
    · rw [upd_same, List.map_append]
      rfl
    · rcases List.mem_append.mp hy with h | h
      · exact hz y h
      · rw [List.mem_singleton.mp h]
        exact hz1
  · rintro H1 ⟨b1, t1, ns, h1, hl, hz⟩
    refine ⟨D, _, rfl, .inl ⟨SqL.of h1, fun p hp => ?_⟩⟩
    have s2 := same_new hp (.tup (ns.map V.int))
    refine q p _ ns ?_ (b1.trans (but_same s2)) (t1.same s2) upd_same hl hz
    cases e : H p with
    | none => rfl
    | some o =>
      rw [b1 _ _ (htn t1 hp) e] at hp
      cases hp
end
end KB

namespace KB
open PySem L2 HT LamX NdefX

variable {CR : Addr}
/-! ### what stays where objects of classes are written -/
def Ix (CR : Addr) (H H' : Hp) : Prop := (∀ b o, H b = some o → (∀ d fs, o ≠ .ins CR d fs) → (∀ ps, o ≠ .tbl ps) → H' b = some o) ∧ ∀ b, H' b = none → H b = none
theorem Ix.refl (H : Hp) : Ix CR H H := ⟨fun _ _ z _ _ => z, fun _ z => z⟩
theorem Ix.trans {H H1 H2 : Hp} (a : Ix CR H H1) (b : Ix CR H1 H2) : Ix CR H H2 := ⟨fun x o h n m => b.1 x o (a.1 x o h n m) n m, fun x z => a.2 x (b.2 x z)⟩
theorem Ix.free {H H' : Hp} (s : Ix CR H H') {b : Addr} (z : H' b = none) : H b = none := s.2 b z
theorem Ix.t {H H' : Hp} (s : Ix CR H H') {b : Addr} {xs : List V} (h : H b = some (.tup xs)) : H' b = some (.tup xs) := s.1 b _ h (fun _ _ z => nomatch z) fun _ z => nomatch z
theorem Ix.l {H H' : Hp} (s : Ix CR H H') {b : Addr} {xs : List V} (h : H b = some (.lst xs)) : H' b = some (.lst xs) := s.1 b _ h (fun _ _ z => nomatch z) fun _ z => nomatch z
theorem Ix.d {H H' : Hp} (s : Ix CR H H') {b : Addr} {kvs : List (Key × V)} (h : H b = some (.dK kvs)) : H' b = some (.dK kvs) := s.1 b _ h (fun _ _ z => nomatch z) fun _ z => nomatch z
theorem Ix.tk {H H' : Hp} (s : Ix CR H H') : TK H H' := fun _ _ h => s.t h
theorem ix_sx {H H' : Hp} (s : Sx H H') : Ix CR H H' := ⟨fun b o h _ m => s.1 b o h m, s.2⟩
theorem ix_same {H H' : Hp} (s : Same H H') : Ix CR H H' := ix_sx (sx_same s)
theorem ix_mut {H H' : Hp} (s : Ix CR H H') {a : Addr} (h : H a = none) (o : HO) : Ix CR H (upd H' a o) := by
  refine ⟨fun b u z n m => ?_, fun b z => ?_⟩
  · rw [upd_ne (ne_of_none z h)]
    exact s.1 b u z n m
  · by_cases e : b = a
    · rw [e]; exact h
    · rw [upd_ne e] at z
      exact s.2 b z
theorem ix_ins {H H' : Hp} (s : Ix CR H H') {a : Addr} {d : Addr} {fs : List (Str × V)} (h : H a = some (.ins CR d fs)) (o : HO) : Ix CR H (upd H' a o) := by
  refine ⟨fun b u z n m => ?_, fun b z => ?_⟩
  · have e : b ≠ a := fun e => by
      subst e
      rw [h] at z
      exact n _ _ (Option.some.inj z).symm
    rw [upd_ne e]
    exact s.1 b u z n m
  · by_cases e : b = a
    · subst e
      rw [upd_same] at z
      cases z
    · rw [upd_ne e] at z
      exact s.2 b z
theorem sx_mut2 {H H' : Hp} (s : Sx H H') {a : Addr} (h : H a = none) (o : HO) : Sx H (upd H' a o) := sx_mut s h o
theorem tabs_mutD {T : List (Addr × Str)} {H : Hp} (t : Tabs T H) {a : Addr} {kvs : List (Key × V)} (h : H a = some (.dK kvs)) (o : HO) : Tabs T (upd H a o) := fun p hp => by
  obtain ⟨ps, h1, h2, h3⟩ := t p hp
  refine ⟨ps, by rw [upd_ne (ne_of h1 h (fun z => nomatch z))]; exact h1, h2, fun pos cv hc => ?_⟩
  obtain ⟨c, e1, e2⟩ := h3 pos cv hc
  refine ⟨c, e1, ?_⟩
  rw [upd_ne (ne_of e2 h (fun z => by unfold CodeO at z; cases z))]
  exact e2
/-! ### words and hand-ons around -/
abbrev HsT := Str → Option Nat
def EnvN (H : Hp) (env : Env) (n : Nat) (b : Addr) : Prop := ∃ kvs : List (Key × V), H b = some (.dK kvs) ∧ kvs.length ≤ n ∧ ∀ x : Str, valV kvs (Sum.inr x) = (env x).map V.int
theorem EnvN.ix {H H' : Hp} (s : Ix CR H H') {env : Env} {n : Nat} {b : Addr} (h : EnvN H env n b) : EnvN H' env n b := let ⟨kvs, h1, h2⟩ := h; ⟨kvs, s.d h1, h2⟩
theorem EnvN.at_ {H : Hp} {env : Env} {n : Nat} {b : Addr} (h : EnvN H env n b) (hn : n ≤ 1000) : EnvAt H env b := let ⟨kvs, h1, h2, h3⟩ := h; ⟨kvs, h1, Nat.le_trans h2 hn, h3⟩
theorem putK_len {kvs : List (Key × V)} {k : Key} {v : V} : (putK kvs k v).length ≤ kvs.length + 1 := by
  unfold putK
  split
  · rw [List.length_map]
    exact Nat.le_succ _
  · rw [List.length_append]
    exact Nat.le_refl _
theorem EnvN.le {H : Hp} {env : Env} {n m : Nat} {b : Addr} (e : n ≤ m) (h : EnvN H env n b) : EnvN H env m b := let ⟨kvs, h1, h2, h3⟩ := h; ⟨kvs, h1, Nat.le_trans h2 e, h3⟩
theorem env_put {kvs : List (Key × V)} {env : Env} {x : Str} {z : Int} (h : ∀ y : Str, valV kvs (Sum.inr y) = (env y).map V.int) : ∀ y : Str, valV (putK kvs (Sum.inr x) (.int z)) (Sum.inr y) = (setE env x z y).map V.int := by
  intro y
  rw [valV_put]
  unfold setE
  by_cases c : y = x
  · rw [if_pos c, c, if_pos rfl]
    rfl
  · rw [if_neg c, if_neg (fun e => c (Sum.inr.inj e))]
    exact h y
/-! ### a part passed, as data -/
/-- hand-ons, whatever they are kept as -/
structure GM (CR : Addr) (G : Type) where
  new : G → Str → Pt → Env → HsT → G
  nid : G → Nat
  HV : Hp → G → Nat → V → Prop
  ix : ∀ {H H' : Hp} {g : G} {i : Nat} {v : V}, Ix CR H H' → HV H g i v → HV H' g i v
  mu : ∀ {H : Hp} {a : Addr} {xs : List V} {o : HO} {g : G} {i : Nat} {v : V}, H a = some (.lst xs) → HV H g i v → HV (upd H a o) g i v
  mono : ∀ {H : Hp} {g : G} {x : Str} {p : Pt} {env : Env} {hs : HsT} {i : Nat} {v : V}, HV H g i v → HV H (new g x p env hs) i v
def HdN {G : Type} (M : GM CR G) (g : G) (H : Hp) (hs : HsT) (n : Nat) (b : Addr) : Prop := ∃ kvs : List (Key × V), H b = some (.dK kvs) ∧ kvs.length ≤ n ∧ ∀ (j : Str) (i : Nat), hs j = some i → ∃ v, M.HV H g i v ∧ valV kvs (Sum.inr j) = some v
theorem HdN.ix {G : Type} {M : GM CR G} {g : G} {H H' : Hp} (s : Ix CR H H') {hs : HsT} {n : Nat} {b : Addr} (h : HdN M g H hs n b) : HdN M g H' hs n b := let ⟨kvs, h1, h2, h3⟩ := h; ⟨kvs, s.d h1, h2, fun j i e => let ⟨v, a, c⟩ := h3 j i e; ⟨v, M.ix s a, c⟩⟩
theorem HdN.le {G : Type} {M : GM CR G} {g : G} {H : Hp} {hs : HsT} {n m : Nat} {b : Addr} (e : n ≤ m) (h : HdN M g H hs n b) : HdN M g H hs m b := let ⟨kvs, h1, h2, h3⟩ := h; ⟨kvs, h1, Nat.le_trans h2 e, h3⟩
abbrev PR (G : Type) := List Int × Pt × Env × HsT × G
def passT {G : Type} (M : GM CR G) : Pt → Env → HsT → G → List Int → PR G
  | .give j t, env, hs, g, told => (told, .give j t, env, hs, g)
  | .ask f ts j, env, hs, g, told => (told, .ask f ts j, env, hs, g)
  | .tell x t p, env, hs, g, told => passT M p (setE env x (evS env t)) hs g (told ++ [evS env t])
  | .lett x t p, env, hs, g, told => passT M p (setE env x (evS env t)) hs g told
  | .iff t p q, env, hs, g, told => if evS env t = 0 then passT M q env hs g told else passT M p env hs g told
  | .post j x p q, env, hs, g, told => passT M q env (setH hs j (M.nid g)) (M.new g x p env hs) told
/-- what is around, told by words and hand-ons -/
structure Sc (p : Pt) (env : Env) (hs : HsT) : Prop where
  ok : ∃ hd xs js, rP hd p xs js ∧ (∀ x ∈ xs, ∃ z, env x = some z) ∧ (∀ j ∈ js, ∃ i, hs j = some i) ∧ ("home" : Str) ∈ js
theorem Sc.home {p : Pt} {env : Env} {hs : HsT} (h : Sc p env hs) : ∃ i, hs "home" = some i := let ⟨_, _, _, _, _, c, d⟩ := h.ok; c _ d
/-- how a give or an ask is told -/
def StdAt {G : Type} (M : GM CR G) (g : G) (H : Hp) (env : Env) (hs : HsT) (st : Addr) : Pt → Prop
  | .give j t => ∃ i v, hs j = some i ∧ M.HV H g i v ∧ H st = some (.tup [.str "give", .int (evS env t), v])
  | .ask f ts j => ∃ i v nb, hs j = some i ∧ M.HV H g i v ∧ H st = some (.tup [.str "ask", .str f, .ref nb, v]) ∧ H nb = some (.tup ((ts.map (evS env)).map V.int))
  | _ => False
structure JxG {G : Type} (J : Hp → G → Prop) : Prop where
  sx : ∀ {H H' : Hp} {g : G}, Sx H H' → J H g → J H' g
  mu : ∀ {H : Hp} {a : Addr} {xs : List V} {o : HO} {g : G}, H a = some (.lst xs) → J H g → J (upd H a o) g
section
variable {P : Program} {w : World} {K : PySem.W.Frag} {mg : Str → Option Value} {base : Heap} {G : Type}
/-- J holds whatever stands at these -/
def JA (J : Hp → G → Prop) (A : List Addr) (H : Hp) (g : G) : Prop := ∀ H', (∀ b, b ∉ A → H' b = H b) → J H' g
/-! ### passed -/
/-- what the lambda promises that makes a hand-on -/
def LMade (M : GM CR G) (J : Hp → G → Prop) (TT : List (Addr × Str)) (kn : Hp → Prop) (sl : List V → Hp → VK → Prop) (H : Hp) : Prop :=
  ∀ (H1 : Hp) (g1 : G) (j x : Str) (p q : Pt) (env : Env) (hs : HsT) (n : Nat) (pa wb hb : Addr) (A : List Addr) (Q' : VK), Ix CR H H1 → kn H1 → (∀ a ∈ A, ∃ kvs, H1 a = some (.dK kvs)) → wb ∉ A → hb ∉ A → JA J A H1 g1 → Tabs TT H1 → PAt H1 (.post j x p q) pa → EnvN H1 env n wb → (∀ H', (∀ b, b ∉ A → H' b = H1 b) → HdN M g1 H' hs n hb) → n + 1 + pcnt p ≤ 1000 →
    (∃ i, hs "home" = some i) → (∃ hd xs js, rP hd p (xs ++ [x]) js ∧ (∀ x ∈ xs, ∃ z, env x = some z) ∧ (∀ j ∈ js, ∃ i, hs j = some i) ∧ ("home" : Str) ∈ js) →
    (∀ v H2, Ix CR H1 H2 → JA J A H2 (M.new g1 x p env hs) → Tabs TT H2 → (∀ H', (∀ b, b ∉ A → H' b = H2 b) → M.HV H' (M.new g1 x p env hs) (M.nid g1) v) → Q' v H2) → sl [.ref pa, .ref wb, .ref hb] H1 Q'
def spPassed_9 (M : GM CR G) (J : Hp → G → Prop) (TT : List (Addr × Str)) : SpL := fun gm kn sl vs H Q _ => ∃ (pa wb hb : Addr) (p : Pt) (env : Env) (hs : HsT) (g : G) (n : Nat),
  vs = [.ref pa, .ref wb, .ref hb, .ref gm] ∧ kn H ∧ (∀ H1 H2, Ix CR H1 H2 → kn H1 → kn H2) ∧ J H g ∧ Tabs TT H ∧ PAt H p pa ∧ EnvN H env n wb ∧ HdN M g H hs n hb ∧ n + pcnt p ≤ 1000 ∧ Sc p env hs ∧ LMade M J TT kn sl H ∧
  ∀ H' q tl st told pf env' hs' g', Ix CR H H' → J H' g' → Tabs TT H' → passT M p env hs g [] = (told, pf, env', hs', g') → H' q = some (.tup [.ref tl, .ref st]) → H tl = none → H' tl = some (.lst (told.map V.int)) → StdAt M g' H' env' hs' st pf → Q (.ref q) H'
abbrev spassed : Stmt := top 37
theorem scpassed : FnScope ["part", "words", "hands", "made", "told", "head", "number", "numbers", "term", "hand"] ["part", "words", "hands", "made"] (defScope spassed) := ⟨rfl, rfl, rfl, by decide +kernel, rfl, by decide +kernel, by decide +kernel⟩
def PassInv (M : GM CR G) (J : Hp → G → Prop) (TT : List (Addr × Str)) (kn : Hp → Prop) (gm : Addr) (H0 : Hp) (tot : PR G) (tl : Addr) (m : Nat) (σ : St) (H : Hp) : Prop :=
  ∃ pa wb hb p env hs g n told o5 o6, σ = [some (.ref pa), some (.ref wb), some (.ref hb), some (.ref gm), some (.ref tl), o5, o6, none, none, none] ∧ Ix CR H0 H ∧ J H g ∧ Tabs TT H ∧ PAt H p pa ∧ EnvN H env n wb ∧ HdN M g H hs n hb ∧ n + pcnt p ≤ 1000 ∧ Sc p env hs ∧
  H tl = some (.lst (told.map V.int)) ∧ told.length + pcnt p ≤ 1000 ∧ m = pcnt p ∧ passT M p env hs g told = tot
theorem ok_passed (M : GM CR G) {J : Hp → G → Prop} (jx : JxG J) (T : Txt K mg) {TT : List (Addr × Str)} {f f1 f2 f3 : Addr} {fd d1 d2 d3 : FuncData} (F : Fun K "passed" "passed" spassed f fd)
    (Gnumber_of : FnOk P w K mg base CX0 8 f1 d1 ["term", "words"] (spNof TT)) (Rnumber_of : Ref K mg "number_of" f1 d1 ["term", "words"]) (Gterms_in : FnOk P w K mg base CX0 1 f2 d2 ["part"] spTermsIn) (Rterms_in : Ref K mg "terms_in" f2 d2 ["part"])
    (Ghand_of : FnOk P w K mg base CX0 1 f3 d3 ["part"] spHandOf) (Rhand_of : Ref K mg "hand_of" f3 d3 ["part"]) : FnL P w K mg base 5 9 f fd ["part", "words", "hands", "made"] (spPassed_9 M J TT) := by
  refine okL F scpassed (fun fl kn sl vs H Q E h => ?_) (fun cdv A outer s H vs Q fl kn sl hr L h => ?_)
  · obtain ⟨pa, wb, hb, p, env, hs, g, n, rfl, _⟩ := h
    rfl
  obtain ⟨pa, wb, hb, p, env, hs, g, n, rfl, hkn, hkp, hJ, hT, hA, hE, hD, hn, hSc, hM, q⟩ := h
  refine ⟨_, (pss_cons (ps_set (i := 4) scpassed.nd rfl (Or.inl rfl) (pe_lst pa_nil))
    (pss_cons (ps_while PassesOwn.never (pt_cmpR op_notIn_seq (pe_ix ix_tup (pv 0) pe_int (fun _ _ => rfl)) (pe_tup (pa_cons pe_str (pa_cons pe_str pa_nil))) rfl) (pss_cons (ps_set (i := 5) scpassed.nd rfl (Or.inl rfl) (pe_ix ix_tup (pv 0) pe_int (fun _ _ => rfl)))
    (pss_one (ps_if (pt_cmpR op_eq (pv 5) pe_str (nomark _)) (pss_cons (ps_set (i := 2) scpassed.nd rfl (Or.inl rfl) (pe_dd (pv 2) (pps_cons (pe_ix ix_tup (pv 0) pe_int (fun _ _ => rfl)) (pe_callM (i := 3) L (hr.mono (by omega)) rfl (.inl rfl) (pa_cons (pv 0) (pa_cons (pv 1) (pa_cons (pv 2) pa_nil))) (by decide) (by decide)) pps_nil)))
    (pss_one (ps_set (i := 0) scpassed.nd rfl (Or.inl rfl) (pe_ix ix_tup (pv 0) pe_int (fun _ _ => rfl))))) (pss_one (ps_if (pt_cmpR op_eq (pv 5) pe_str (nomark _)) (pss_one (ps_set (i := 0) scpassed.nd rfl (Or.inl rfl) (pe_ifExp (pt_cmpR op_eq (pe_call Gnumber_of (hr.mono (by omega)) rfl Rnumber_of.m Rnumber_of.k Rnumber_of.b .nil pass0 (pa_cons (pe_ix ix_tup (pv 0) pe_int (fun _ _ => rfl)) (pa_cons (pv 1) pa_nil))) pe_int (nomark _)) (pe_ix ix_tup (pv 0) pe_int (fun _ _ => rfl)) (pe_ix ix_tup (pv 0) pe_int (fun _ _ => rfl))))) (pss_cons (ps_set (i := 6) scpassed.nd rfl (Or.inl rfl) (pe_call Gnumber_of (hr.mono (by omega)) rfl Rnumber_of.m Rnumber_of.k Rnumber_of.b .nil pass0 (pa_cons (pe_ix ix_tup (pv 0) pe_int (fun _ _ => rfl)) (pa_cons (pv 1) pa_nil))))
    (pss_cons (ps_if (pt_cmpR op_eq (pv 5) pe_str (nomark _)) (pss_one (ps_expr (pe_bm PySem.F.plainAttrs_list PySem.F.slot_list_append PySem.F.type_list_append mt_append (pv 4) (pa_cons (pv 6) pa_nil)))) pss_nil)
    (pss_cons (ps_set (i := 1) scpassed.nd rfl (Or.inr rfl) (pe_dd (pv 1) (pps_cons (pe_ix ix_tup (pv 0) pe_int (fun _ _ => rfl)) (pv 6) pps_nil)))
    (pss_one (ps_set (i := 0) scpassed.nd rfl (Or.inl rfl) (pe_ix ix_tup (pv 0) pe_int (fun _ _ => rfl)))))))))))))
    (pss_cons (ps_set (i := 7) scpassed.nd rfl (Or.inl rfl) (pe_callTy call_tuple_of (by rfl) T.m_tuple (by decide +kernel) (pa_cons (pe_lc (own := [("term", 8)]) (g := gName 8) (by rfl) scpassed.nd (pi_tup (pe_call Gterms_in (hr.mono (by omega)) rfl Rterms_in.m Rterms_in.k Rterms_in.b .nil pass0 (pa_cons (pv 0) pa_nil))) (blkOk_by (own := [("term", 8)]) (N := ["part", "words", "hands", "made", "told", "head", "number", "numbers", "term", "hand"]) (sc := defScope spassed) (by decide +kernel)) (fun _ _ _ _ _ => (pg_name (i := 8) scpassed.nd rfl (Or.inl rfl))) (fun _ _ _ _ _ => pts_nil) (fun _ _ _ _ _ => (pe_call Gnumber_of (hr.mono (by omega)) rfl Rnumber_of.m Rnumber_of.k Rnumber_of.b .nil pass0 (pa_cons (pv 8) (pa_cons (pv 1) pa_nil))))) pa_nil)))
    (pss_cons (ps_set (i := 9) scpassed.nd rfl (Or.inl rfl) (pe_dget (hu_of hr) (pv 2) (pe_call Ghand_of (hr.mono (by omega)) rfl Rhand_of.m Rhand_of.k Rhand_of.b .nil pass0 (pa_cons (pv 0) pa_nil)) (fun _ _ => rfl)))
    (pss_cons (ps_if (pt_cmpR op_eq (pe_ix ix_tup (pv 0) pe_int (fun _ _ => rfl)) pe_str (nomark _)) (pss_one (ps_ret (pe_tup (pa_cons (pv 4) (pa_cons (pe_tup (pa_cons pe_str (pa_cons (pe_ix ix_tup (pv 7) pe_int (fun _ _ => rfl)) (pa_cons (pv 9) pa_nil)))) pa_nil))))) pss_nil)
    (pss_one (ps_ret (pe_tup (pa_cons (pv 4) (pa_cons (pe_tup (pa_cons pe_str (pa_cons (pe_ix ix_tup (pv 0) pe_int (fun _ _ => rfl)) (pa_cons (pv 7) (pa_cons (pv 9) pa_nil))))) pa_nil)))))))))), ?_⟩
  obtain ⟨tot, htot⟩ : ∃ tot, passT M p env hs g [] = tot := ⟨_, rfl⟩
  have hto0 := htot
  refine ⟨sz (by show 0 ≤ 100000; decide), fun tl htl => ?_⟩
  have s0 := same_new htl (.lst [])
  refine ⟨PassInv M J TT kn fl H tot tl, ⟨_, pa, wb, hb, p, env, hs, g, n, [], none, none, rfl, ix_same s0, jx.sx (sx_same s0) hJ, tabs_new hT s0, PAt.tk (tk_same s0) hA, hE.ix (ix_same (CR := CR) s0), hD.ix (ix_same (CR := CR) s0), hn, hSc, upd_same, by show 0 + _ ≤ _; omega, rfl, htot⟩, ?_⟩
  clear hJ hT hA hE hD hn hSc s0 htot
  rintro m σ H1 ⟨pa, wb, hb, p, env, hs, g, n, told, o5, o6, rfl, s1, hJ, hT, hA, hE, hD, hn, hSc, htl1, hto, rfl, htot⟩
  obtain ⟨hd, xs, js, hok, hxs, hjs, hho⟩ := id hSc.ok
  obtain ⟨r0, hhd⟩ := hA.head
  refine ⟨_, rfl, pa, _, _, _, rfl, rfl, SqT.of hhd, at0, sz (by show 2 ≤ 100000; decide), fun tp htp => ?_⟩
  have s2 := same_new htp (.tup [.str "give", .str "ask"])
  refine ⟨tp, _, rfl, .inr (SqT.of upd_same), rfl, rfl, _, rfl, ?_⟩
  have s12 := s1.trans (ix_same s2)
  have hJ := jx.sx (sx_same s2) hJ
  have hT := tabs_new hT s2
  have hA := PAt.tk (tk_same s2) hA
  have hE := hE.ix (ix_same (CR := CR) s2)
  have hD := hD.ix (ix_same (CR := CR) s2)
  have htl1 := s2 _ _ htl1
  have hhd := s2 _ _ hhd
  generalize upd H1 tp (.tup [.str "give", .str "ask"]) = H2 at s12 hJ hT hA hE hD htl1 hhd
  cases p with
  | give j t =>
    refine itF rfl ?_
    refine ⟨_, rfl, pa, _, rfl, hA, fun H3 q3 vs s3 h3 k3 => ?_⟩
    have k3 : All2 (RefV H3) [t] vs := k3
    have hl3 := k3.len
    refine ⟨q3, rfl, ⟨_, SqT.of h3⟩, fun D hD3 => lc_tup (K := K) (a := q3) (xs := vs) (fun i H' => Sx H3 H' ∧ Tabs TT H' ∧ H' D = some (.lst ((([t].take i).map (evS env)).map V.int))) ⟨sx_same (same_new hD3 _), tabs_new (tabs_new hT s3) (same_new hD3 _), upd_same⟩ ?_ ?_ ?_⟩
    · rintro i H' _ ⟨sB, _⟩
      exact SqT.of (sB.t h3)
    · rintro i x H4 hx ⟨s4, T4, h4⟩
      obtain ⟨u, hu, b, rfl, hb4⟩ := k3.get hx
      have hum := (show RTm xs u by
        have z := mem_of_get hu
        rw [List.mem_singleton.mp z]
        exact hok.2)
      obtain ⟨hi, hi2⟩ := List.getElem?_eq_some_iff.mp hu
      refine ⟨rfl, ?_⟩
      dsimp only [tYes]
      refine iteT ⟨_, rfl, _, rfl, b, wb, u, env, rfl, ⟨hb4.tk s4.tk, hum.si, hum.n env hxs⟩, Nat.le_trans hum.cn (by decide), (hE.ix ((ix_same (CR := CR) s3).trans (ix_sx s4))).at_ (by omega), T4, fun H5 s5 T5 => ?_⟩
      have h5 := s5.l h4
      refine ⟨_, h5, Nat.lt_of_le_of_lt (m := 100) (by have e1 : ([t] : List Tm).length = 1 := rfl; rw [List.length_map, List.length_map, List.length_take]; omega) (by decide), sx_mut2 (s4.trans s5) hD3 _, tabs_mut T5 h5 _, ?_⟩
      rw [upd_same, List.take_succ_eq_append_getElem hi, hi2, List.map_append, List.map_append]
      rfl
    · rintro H4 ⟨s4, T4, h4⟩
      rw [hl3, List.take_length] at h4
      refine ⟨D, _, rfl, .inl ⟨SqL.of h4, fun nb hnb => ?_⟩⟩
      have s5 := (sx_same s3).trans (s4.trans (sx_new hnb (.tup (([t].map (evS env)).map V.int))))
      have T5 := tabs_new T4 (same_new hnb (.tup (([t].map (evS env)).map V.int)))
      have n5 : upd H4 nb (.tup (([t].map (evS env)).map V.int)) nb = some (.tup (([t].map (evS env)).map V.int)) := upd_same
      generalize upd H4 nb (.tup (([t].map (evS env)).map V.int)) = H5 at s5 T5 n5 ⊢
      have hD5 := hD.ix (ix_sx (CR := CR) s5)
      obtain ⟨kvs, d1, d2, d3⟩ := hD5
      obtain ⟨i, hi⟩ := hjs j hok.1
      obtain ⟨v, hv1, hv2⟩ := d3 j i hi
      refine ⟨_, rfl, _, rfl, pa, _, rfl, PAt.tk s5.tk hA, hb, v, rfl, get_of d1 hv2, ?_⟩
      have hh5 := s5.t hhd
      refine ⟨_, rfl, pa, _, _, _, rfl, rfl, SqT.of hh5, at0, rfl, _, rfl, ?_⟩
      refine itT rfl ?_
      have hto := htl
      refine ⟨_, rfl, _, rfl, nb, _, _, _, rfl, rfl, SqT.of n5, at0, _, rfl, sz (by show 3 ≤ 100000; decide), fun st hst => ?_⟩
      have s6 := sx_new hst (.tup [.str "give", .int (evS env t), v])
      have h6 : upd H5 st (.tup [.str "give", .int (evS env t), v]) st = some (.tup [.str "give", .int (evS env t), v]) := upd_same
      have T6 := tabs_new T5 (same_new hst (.tup [.str "give", .int (evS env t), v]))
      generalize upd H5 st (.tup [.str "give", .int (evS env t), v]) = H6 at s6 h6 T6 ⊢
      refine ⟨sz (by show 2 ≤ 100000; decide), fun rq hrq => ?_⟩
      have s7 := sx_new hrq (.tup [.ref tl, .ref st])
      have s57 := s5.trans (s6.trans s7)
      exact q _ rq tl st told (.give j t) env hs g (s12.trans (ix_sx s57)) (jx.sx s57 hJ) (tabs_new T6 (same_new hrq _)) (hto0.trans htot.symm) upd_same htl (s57.l htl1) ⟨i, v, hi, M.ix (ix_sx (CR := CR) (s6.trans s7)) hv1, s7.t h6⟩
  | ask f ts j =>
    refine itF rfl ?_
    refine ⟨_, rfl, pa, _, rfl, hA, fun H3 q3 vs s3 h3 k3 => ?_⟩
    have k3 : All2 (RefV H3) ts vs := k3
    have hl3 := k3.len
    refine ⟨q3, rfl, ⟨_, SqT.of h3⟩, fun D hD3 => lc_tup (K := K) (a := q3) (xs := vs) (fun i H' => Sx H3 H' ∧ Tabs TT H' ∧ H' D = some (.lst (((ts.take i).map (evS env)).map V.int))) ⟨sx_same (same_new hD3 _), tabs_new (tabs_new hT s3) (same_new hD3 _), upd_same⟩ ?_ ?_ ?_⟩
    · rintro i H' _ ⟨sB, _⟩
      exact SqT.of (sB.t h3)
    · rintro i x H4 hx ⟨s4, T4, h4⟩
      obtain ⟨u, hu, b, rfl, hb4⟩ := k3.get hx
      have hum := hok.2.2.2.2 u (mem_of_get hu)
      obtain ⟨hi, hi2⟩ := List.getElem?_eq_some_iff.mp hu
      refine ⟨rfl, ?_⟩
      dsimp only [tYes]
      refine iteT ⟨_, rfl, _, rfl, b, wb, u, env, rfl, ⟨hb4.tk s4.tk, hum.si, hum.n env hxs⟩, Nat.le_trans hum.cn (by decide), (hE.ix ((ix_same (CR := CR) s3).trans (ix_sx s4))).at_ (by omega), T4, fun H5 s5 T5 => ?_⟩
      have h5 := s5.l h4
      refine ⟨_, h5, Nat.lt_of_le_of_lt (m := 100) (by have := hok.2.2.2.1; rw [List.length_map, List.length_map, List.length_take]; omega) (by decide), sx_mut2 (s4.trans s5) hD3 _, tabs_mut T5 h5 _, ?_⟩
      rw [upd_same, List.take_succ_eq_append_getElem hi, hi2, List.map_append, List.map_append]
      rfl
    · rintro H4 ⟨s4, T4, h4⟩
      rw [hl3, List.take_length] at h4
      refine ⟨D, _, rfl, .inl ⟨SqL.of h4, fun nb hnb => ?_⟩⟩
      have s5 := (sx_same s3).trans (s4.trans (sx_new hnb (.tup ((ts.map (evS env)).map V.int))))
      have T5 := tabs_new T4 (same_new hnb (.tup ((ts.map (evS env)).map V.int)))
      have n5 : upd H4 nb (.tup ((ts.map (evS env)).map V.int)) nb = some (.tup ((ts.map (evS env)).map V.int)) := upd_same
      generalize upd H4 nb (.tup ((ts.map (evS env)).map V.int)) = H5 at s5 T5 n5 ⊢
      have hD5 := hD.ix (ix_sx (CR := CR) s5)
      obtain ⟨kvs, d1, d2, d3⟩ := hD5
      obtain ⟨i, hi⟩ := hjs j hok.1
      obtain ⟨v, hv1, hv2⟩ := d3 j i hi
      refine ⟨_, rfl, _, rfl, pa, _, rfl, PAt.tk s5.tk hA, hb, v, rfl, get_of d1 hv2, ?_⟩
      have hh5 := s5.t hhd
      refine ⟨_, rfl, pa, _, _, _, rfl, rfl, SqT.of hh5, at0, rfl, _, rfl, ?_⟩
      refine itF rfl ?_
      obtain ⟨aq, av, ha1, ha2, ha3⟩ := id hA
      refine ⟨_, rfl, _, rfl, pa, _, _, _, rfl, rfl, SqT.of (s5.t ha1), at1, _, rfl, _, rfl, sz (by show 4 ≤ 100000; decide), fun st hst => ?_⟩
      have s6 := sx_new hst (.tup [.str "ask", .str f, .ref nb, v])
      have h6 : upd H5 st (.tup [.str "ask", .str f, .ref nb, v]) st = some (.tup [.str "ask", .str f, .ref nb, v]) := upd_same
      have T6 := tabs_new T5 (same_new hst (.tup [.str "ask", .str f, .ref nb, v]))
      generalize upd H5 st (.tup [.str "ask", .str f, .ref nb, v]) = H6 at s6 h6 T6 ⊢
      refine ⟨sz (by show 2 ≤ 100000; decide), fun rq hrq => ?_⟩
      have s7 := sx_new hrq (.tup [.ref tl, .ref st])
      have s57 := s5.trans (s6.trans s7)
      exact q _ rq tl st told (.ask f ts j) env hs g (s12.trans (ix_sx s57)) (jx.sx s57 hJ) (tabs_new T6 (same_new hrq _)) (hto0.trans htot.symm) upd_same htl (s57.l htl1) ⟨i, v, nb, hi, M.ix (ix_sx (CR := CR) (s6.trans s7)) hv1, s7.t h6, (s6.trans s7).t n5⟩
  | tell x t p =>
    obtain ⟨b, c, h1, h2, h3⟩ := id hA
    have hok : isW x = true ∧ RTm xs t ∧ rP hd p (xs ++ [x]) js := hok
    have hpc : pcnt (Pt.tell x t p) = 1 + pcnt p := rfl
    refine itT rfl ⟨fun σ' H' => ∃ m', m' < pcnt (Pt.tell x t p) ∧ PassInv M J TT kn fl H tot tl m' σ' H', fun _ _ z => z, ?_⟩
    refine ⟨_, rfl, pa, _, _, _, rfl, rfl, SqT.of hhd, at0, ?_⟩
    refine ⟨_, rfl, rfl, _, rfl, itF rfl ?_⟩
    refine ⟨_, rfl, rfl, _, rfl, itF rfl ?_⟩
    refine ⟨_, rfl, pa, _, _, _, rfl, rfl, SqT.of h1, at2, _, rfl, b, wb, t, env, rfl, ⟨h2, hok.2.1.si, hok.2.1.n env hxs⟩, Nat.le_trans hok.2.1.cn (by decide), hE.at_ (by omega), hT, fun H3 s3 T3 => ?_⟩
    have s13 := s12.trans (ix_sx s3)
    have hJ3 := jx.sx s3 hJ
    have hE3 := hE.ix (ix_sx (CR := CR) s3)
    have hD3 := hD.ix (ix_sx (CR := CR) s3)
    have h13 := s3.t h1
    have h33 := PAt.tk s3.tk h3
    have ht3 := s3.l htl1
    clear s3 hJ hT hA hE hD htl1 hhd s12 h1 h2 h3
    refine ⟨_, rfl, rfl, _, rfl, itT rfl ?_⟩
    refine ⟨_, rfl, .inl ⟨rfl, _, SqL.of ht3⟩, _, rfl, tl, _, _, rfl, rfl, ht3, Nat.lt_of_le_of_lt (m := 1000) (by rw [List.length_map]; omega) (by decide), ?_⟩
    have j4 : J (upd H3 tl (.lst (told.map V.int ++ [.int (evS env t)]))) g := jx.mu ht3 hJ3
    have s14 := ix_mut s13 htl (.lst (told.map V.int ++ [.int (evS env t)]))
    have T4 := tabs_mut T3 ht3 (.lst (told.map V.int ++ [.int (evS env t)]))
    have tk4 := tk_put (o := .lst (told.map V.int ++ [.int (evS env t)])) ht3
    have ne4 : ∀ b2 kvs, H3 b2 = some (.dK kvs) → upd H3 tl (.lst (told.map V.int ++ [.int (evS env t)])) b2 = some (.dK kvs) := fun b2 kvs z => by rw [upd_ne (ne_of z ht3 (fun z => nomatch z))]; exact z
    have hE4 : EnvN (upd H3 tl (.lst (told.map V.int ++ [.int (evS env t)]))) env n wb := let ⟨kvs, a1, a2⟩ := hE3; ⟨kvs, ne4 _ _ a1, a2⟩
    have hD4 : HdN M g (upd H3 tl (.lst (told.map V.int ++ [.int (evS env t)]))) hs n hb := let ⟨kvs, a1, a2, a3⟩ := hD3; ⟨kvs, ne4 _ _ a1, a2, fun y i e => let ⟨u, z1, z2⟩ := a3 y i e; ⟨u, M.mu ht3 z1, z2⟩⟩
    have h14 := tk4 _ _ h13
    have h34 := PAt.tk tk4 h33
    have ht4 : upd H3 tl (.lst (told.map V.int ++ [.int (evS env t)])) tl = some (.lst ((told ++ [evS env t]).map V.int)) := by
      rw [upd_same, List.map_append]
      rfl
    clear ne4 tk4
    generalize upd H3 tl (.lst (told.map V.int ++ [.int (evS env t)])) = H4 at j4 s14 T4 hE4 hD4 h14 h34 ht4 ⊢
    obtain ⟨kvs, w1, w2, w3⟩ := id hE4
    intro p0 hp0
    have nwp : wb ≠ p0 := ne_of_none w1 hp0
    refine ⟨_, rfl, wb, kvs, rfl, nwp, upd_same, (upd_ne nwp).trans w1, fun q0 hq0 => ?_⟩
    have nqp : q0 ≠ p0 := fun z => by
      rw [z, upd_same] at hq0
      cases hq0
    have hq4 : H4 q0 = none := by
      rw [upd_ne nqp, upd_ne nqp] at hq0
      exact hq0
    have sA : Same H4 (upd (upd (upd H4 p0 (.dK [])) p0 (.dK kvs)) q0 (.dK [])) := same_mut (same_mut (same_new hp0 _) hp0) hq4
    refine ⟨_, rfl, pa, _, _, _, rfl, rfl, SqT.of (sA _ _ h14), at1, _, rfl, ?_⟩
    refine ⟨upd_same, by rw [upd_ne (Ne.symm nqp), upd_same], nqp, [(Sum.inr x, .int (evS env t))], rfl, by show 1 ≤ 15; decide, ?_, ?_⟩
    · rw [sizeLine_eq]
      show kvs.length + 1 ≤ _
      omega
    have sB : Same H4 (upd (upd (upd (upd (upd H4 p0 (.dK [])) p0 (.dK kvs)) q0 (.dK [])) q0 (.dK (mergeK [] [((Sum.inr x : Key), V.int (evS env t))]))) p0 (.dK (mergeK kvs (mergeK [] [((Sum.inr x : Key), V.int (evS env t))])))) := same_mut (same_mut sA hq4) hp0
    have pB : upd (upd (upd (upd (upd H4 p0 (.dK [])) p0 (.dK kvs)) q0 (.dK [])) q0 (.dK (mergeK [] [((Sum.inr x : Key), V.int (evS env t))]))) p0 (.dK (mergeK kvs (mergeK [] [((Sum.inr x : Key), V.int (evS env t))]))) p0 = some (.dK (putK kvs (Sum.inr x) (.int (evS env t)))) := upd_same
    generalize upd (upd (upd (upd (upd H4 p0 (.dK [])) p0 (.dK kvs)) q0 (.dK [])) q0 (.dK (mergeK [] [((Sum.inr x : Key), V.int (evS env t))]))) p0 (.dK (mergeK kvs (mergeK [] [((Sum.inr x : Key), V.int (evS env t))]))) = H5 at sB pB ⊢
    refine ⟨_, rfl, pa, _, _, _, rfl, rfl, SqT.of (sB _ _ h14), at3, ?_⟩
    refine ⟨pcnt p, by omega, c, p0, hb, p, setE env x (evS env t), hs, g, n + 1, told ++ [evS env t], _, _, rfl, s14.trans (ix_same sB), jx.sx (sx_same sB) j4, tabs_new T4 sB, PAt.tk (tk_same sB) h34, ⟨_, pB, Nat.le_trans putK_len (by omega), env_put w3⟩, (hD4.ix (ix_same (CR := CR) sB)).le (by omega), by omega, ⟨hd, xs ++ [x], js, hok.2.2, setE_some hxs, hjs, hho⟩, sB _ _ ht4, ?_, rfl, htot⟩
    rw [List.length_append, List.length_singleton]; omega
  | lett x t p =>
    obtain ⟨b, c, h1, h2, h3⟩ := id hA
    have hok : isW x = true ∧ RTm xs t ∧ rP hd p (xs ++ [x]) js := hok
    have hpc : pcnt (Pt.lett x t p) = 1 + pcnt p := rfl
    refine itT rfl ⟨fun σ' H' => ∃ m', m' < pcnt (Pt.lett x t p) ∧ PassInv M J TT kn fl H tot tl m' σ' H', fun _ _ z => z, ?_⟩
    refine ⟨_, rfl, pa, _, _, _, rfl, rfl, SqT.of hhd, at0, ?_⟩
    refine ⟨_, rfl, rfl, _, rfl, itF rfl ?_⟩
    refine ⟨_, rfl, rfl, _, rfl, itF rfl ?_⟩
    refine ⟨_, rfl, pa, _, _, _, rfl, rfl, SqT.of h1, at2, _, rfl, b, wb, t, env, rfl, ⟨h2, hok.2.1.si, hok.2.1.n env hxs⟩, Nat.le_trans hok.2.1.cn (by decide), hE.at_ (by omega), hT, fun H3 s3 T3 => ?_⟩
    have s13 := s12.trans (ix_sx s3)
    have hJ3 := jx.sx s3 hJ
    have hE3 := hE.ix (ix_sx (CR := CR) s3)
    have hD3 := hD.ix (ix_sx (CR := CR) s3)
    have h13 := s3.t h1
    have h33 := PAt.tk s3.tk h3
    have ht3 := s3.l htl1
    clear s3 hJ hT hA hE hD htl1 hhd s12 h1 h2 h3
    refine ⟨_, rfl, rfl, _, rfl, itF rfl ?_⟩
    have j4 := hJ3
    have s14 := s13
    have T4 := T3
    have hE4 := hE3
    have hD4 := hD3
    have h14 := h13
    have h34 := h33
    have ht4 := ht3
    clear hJ3 s13 T3 hE3 hD3 h13 h33 ht3
    generalize H3 = H4 at j4 s14 T4 hE4 hD4 h14 h34 ht4 ⊢
    obtain ⟨kvs, w1, w2, w3⟩ := id hE4
    intro p0 hp0
    have nwp : wb ≠ p0 := ne_of_none w1 hp0
    refine ⟨_, rfl, wb, kvs, rfl, nwp, upd_same, (upd_ne nwp).trans w1, fun q0 hq0 => ?_⟩
    have nqp : q0 ≠ p0 := fun z => by
      rw [z, upd_same] at hq0
      cases hq0
    have hq4 : H4 q0 = none := by
      rw [upd_ne nqp, upd_ne nqp] at hq0
      exact hq0
    have sA : Same H4 (upd (upd (upd H4 p0 (.dK [])) p0 (.dK kvs)) q0 (.dK [])) := same_mut (same_mut (same_new hp0 _) hp0) hq4
    refine ⟨_, rfl, pa, _, _, _, rfl, rfl, SqT.of (sA _ _ h14), at1, _, rfl, ?_⟩
    refine ⟨upd_same, by rw [upd_ne (Ne.symm nqp), upd_same], nqp, [(Sum.inr x, .int (evS env t))], rfl, by show 1 ≤ 15; decide, ?_, ?_⟩
    · rw [sizeLine_eq]
      show kvs.length + 1 ≤ _
      omega
    have sB : Same H4 (upd (upd (upd (upd (upd H4 p0 (.dK [])) p0 (.dK kvs)) q0 (.dK [])) q0 (.dK (mergeK [] [((Sum.inr x : Key), V.int (evS env t))]))) p0 (.dK (mergeK kvs (mergeK [] [((Sum.inr x : Key), V.int (evS env t))])))) := same_mut (same_mut sA hq4) hp0
    have pB : upd (upd (upd (upd (upd H4 p0 (.dK [])) p0 (.dK kvs)) q0 (.dK [])) q0 (.dK (mergeK [] [((Sum.inr x : Key), V.int (evS env t))]))) p0 (.dK (mergeK kvs (mergeK [] [((Sum.inr x : Key), V.int (evS env t))]))) p0 = some (.dK (putK kvs (Sum.inr x) (.int (evS env t)))) := upd_same
    generalize upd (upd (upd (upd (upd H4 p0 (.dK [])) p0 (.dK kvs)) q0 (.dK [])) q0 (.dK (mergeK [] [((Sum.inr x : Key), V.int (evS env t))]))) p0 (.dK (mergeK kvs (mergeK [] [((Sum.inr x : Key), V.int (evS env t))]))) = H5 at sB pB ⊢
    refine ⟨_, rfl, pa, _, _, _, rfl, rfl, SqT.of (sB _ _ h14), at3, ?_⟩
    refine ⟨pcnt p, by omega, c, p0, hb, p, setE env x (evS env t), hs, g, n + 1, told, _, _, rfl, s14.trans (ix_same sB), jx.sx (sx_same sB) j4, tabs_new T4 sB, PAt.tk (tk_same sB) h34, ⟨_, pB, Nat.le_trans putK_len (by omega), env_put w3⟩, (hD4.ix (ix_same (CR := CR) sB)).le (by omega), by omega, ⟨hd, xs ++ [x], js, hok.2.2, setE_some hxs, hjs, hho⟩, sB _ _ ht4, ?_, rfl, htot⟩
    omega
  | iff t p p2 =>
    obtain ⟨b, c, d, h1, h2, h3, h4⟩ := id hA
    have hok : RTm xs t ∧ rP hd p xs js ∧ rP hd p2 xs js := hok
    have hpc : pcnt (Pt.iff t p p2) = 1 + pcnt p + pcnt p2 := rfl
    refine itT rfl ⟨fun σ' H' => ∃ m', m' < pcnt (Pt.iff t p p2) ∧ PassInv M J TT kn fl H tot tl m' σ' H', fun _ _ z => z, ?_⟩
    refine ⟨_, rfl, pa, _, _, _, rfl, rfl, SqT.of hhd, at0, ?_⟩
    refine ⟨_, rfl, rfl, _, rfl, itF rfl ?_⟩
    refine ⟨_, rfl, rfl, _, rfl, itT rfl ?_⟩
    refine ⟨_, rfl, pa, _, _, _, rfl, rfl, SqT.of h1, at1, _, rfl, b, wb, t, env, rfl, ⟨h2, hok.1.si, hok.1.n env hxs⟩, Nat.le_trans hok.1.cn (by decide), hE.at_ (by omega), hT, fun H3 s3 T3 => ?_⟩
    refine ⟨rfl, _, rfl, ?_⟩
    have htot : (if evS env t = 0 then passT M p2 env hs g told else passT M p env hs g told) = tot := htot
    by_cases hz : evS env t = 0
    · rw [if_pos hz] at htot
      refine itT (decide_eq_true (congrArg V.int hz)) ?_
      refine ⟨_, rfl, pa, _, _, _, rfl, rfl, SqT.of (s3.t h1), at3, ?_⟩
      exact ⟨pcnt p2, by omega, d, wb, hb, p2, env, hs, g, n, told, _, _, rfl, s12.trans (ix_sx s3), jx.sx s3 hJ, T3, PAt.tk s3.tk h4, hE.ix (ix_sx (CR := CR) s3), hD.ix (ix_sx (CR := CR) s3), by omega, ⟨hd, xs, js, hok.2.2, hxs, hjs, hho⟩, s3.l htl1, by omega, rfl, htot⟩
    · rw [if_neg hz] at htot
      refine itF (decide_eq_false fun z => hz (V.int.inj z)) ?_
      refine ⟨_, rfl, pa, _, _, _, rfl, rfl, SqT.of (s3.t h1), at2, ?_⟩
      exact ⟨pcnt p, by omega, c, wb, hb, p, env, hs, g, n, told, _, _, rfl, s12.trans (ix_sx s3), jx.sx s3 hJ, T3, PAt.tk s3.tk h3, hE.ix (ix_sx (CR := CR) s3), hD.ix (ix_sx (CR := CR) s3), by omega, ⟨hd, xs, js, hok.2.1, hxs, hjs, hho⟩, s3.l htl1, by omega, rfl, htot⟩
  | post j x p p2 =>
    obtain ⟨c, d, h1, h2, h3⟩ := id hA
    have hok : isW j = true ∧ isW x = true ∧ rP hd p (xs ++ [x]) js ∧ rP hd p2 xs (js ++ [j]) := hok
    have hpc : pcnt (Pt.post j x p p2) = 1 + pcnt p + pcnt p2 := rfl
    refine itT rfl ⟨fun σ' H' => ∃ m', m' < pcnt (Pt.post j x p p2) ∧ PassInv M J TT kn fl H tot tl m' σ' H', fun _ _ z => z, ?_⟩
    refine ⟨_, rfl, pa, _, _, _, rfl, rfl, SqT.of hhd, at0, ?_⟩
    refine ⟨_, rfl, rfl, _, rfl, itT rfl ?_⟩
    obtain ⟨kvs, w1, w2, w3⟩ := id hD
    obtain ⟨kvw, v1, v2, v3⟩ := id hE
    intro p0 hp0
    have nhp : hb ≠ p0 := ne_of_none w1 hp0
    have nwp : wb ≠ p0 := ne_of_none v1 hp0
    refine ⟨_, rfl, hb, kvs, rfl, nhp, upd_same, (upd_ne nhp).trans w1, fun q0 hq0 => ?_⟩
    have nqp : q0 ≠ p0 := fun z => by
      rw [z, upd_same] at hq0
      cases hq0
    have hq2 : H2 q0 = none := by
      rw [upd_ne nqp, upd_ne nqp] at hq0
      exact hq0
    have sA : Same H2 (upd (upd (upd H2 p0 (.dK [])) p0 (.dK kvs)) q0 (.dK [])) := same_mut (same_mut (same_new hp0 _) hp0) hq2
    have pA : upd (upd (upd H2 p0 (.dK [])) p0 (.dK kvs)) q0 (.dK []) p0 = some (.dK kvs) := by rw [upd_ne (Ne.symm nqp), upd_same]
    have qA : upd (upd (upd H2 p0 (.dK [])) p0 (.dK kvs)) q0 (.dK []) q0 = some (.dK []) := upd_same
    have oA : ∀ b, b ∉ [p0, q0] → upd (upd (upd H2 p0 (.dK [])) p0 (.dK kvs)) q0 (.dK []) b = H2 b := fun b hb => by
      rw [List.mem_cons, List.mem_singleton, not_or] at hb
      rw [upd_ne hb.2, upd_ne hb.1, upd_ne hb.1]
    generalize upd (upd (upd H2 p0 (.dK [])) p0 (.dK kvs)) q0 (.dK []) = H3 at sA pA qA oA ⊢
    refine ⟨_, rfl, pa, _, _, _, rfl, rfl, SqT.of (sA _ _ h1), at1, ⟨rfl, hkp _ _ (s12.trans (ix_same sA)) hkn⟩, _, rfl, _, rfl, _, rfl, hkp _ _ (s12.trans (ix_same sA)) hkn, ?_⟩
    have sxA : ∀ H', (∀ b, b ∉ [p0, q0] → H' b = H3 b) → Sx H2 H' := fun H' hH' => by
      refine ⟨fun b o hb _ => ?_, fun b hb => ?_⟩
      · have nb : b ∉ [p0, q0] := by
          rw [List.mem_cons, List.mem_singleton, not_or]
          exact ⟨ne_of_none hb hp0, ne_of_none hb hq2⟩
        rw [hH' b nb, oA b nb]
        exact hb
      · by_cases nb : b ∈ [p0, q0]
        · rcases List.mem_cons.mp nb with z | z
          · rw [z]; exact hp0
          · rw [List.mem_singleton.mp z]; exact hq2
        · rw [hH' b nb, oA b nb] at hb
          exact hb
    refine hM H3 g j x p p2 env hs n pa wb hb [p0, q0] _ (s12.trans (ix_same sA)) (hkp _ _ (s12.trans (ix_same sA)) hkn) ?_ ?_ ?_ ?_ (tabs_new hT sA) (PAt.tk (tk_same sA) hA) (hE.ix (ix_same (CR := CR) sA)) (fun H' hH' => hD.ix (ix_sx (CR := CR) (sxA H' hH'))) (by omega) hSc.home ⟨hd, xs, js, hok.2.2.1, hxs, hjs, hho⟩ fun v H4 s4 J4 T4 hv4 => ?_
    · intro a ha
      rcases List.mem_cons.mp ha with z | z
      · exact ⟨_, by rw [z]; exact pA⟩
      · exact ⟨_, by rw [List.mem_singleton.mp z]; exact qA⟩
    · rw [List.mem_cons, List.mem_singleton, not_or]
      exact ⟨nwp, ne_of_none v1 hq2⟩
    · rw [List.mem_cons, List.mem_singleton, not_or]
      exact ⟨nhp, ne_of_none w1 hq2⟩
    · exact fun H' hH' => jx.sx (sxA H' hH') hJ
    have s14 := (s12.trans (ix_same sA)).trans s4
    refine ⟨s4.d qA, s4.d pA, nqp, [(Sum.inr j, v)], rfl, by show 1 ≤ 15; decide, ?_, ?_⟩
    · rw [sizeLine_eq]
      show kvs.length + 1 ≤ _
      omega
    have s24 : Ix CR H2 H4 := (ix_same sA).trans s4
    have sB : Ix CR H2 (upd (upd H4 q0 (.dK (mergeK [] [((Sum.inr j : Key), v)]))) p0 (.dK (mergeK kvs (mergeK [] [((Sum.inr j : Key), v)])))) := ix_mut (ix_mut s24 hq2 _) hp0 _
    have jB : J (upd (upd H4 q0 (.dK (mergeK [] [((Sum.inr j : Key), v)]))) p0 (.dK (mergeK kvs (mergeK [] [((Sum.inr j : Key), v)])))) (M.new g x p env hs) := J4 _ fun b hb => by
      rw [List.mem_cons, List.mem_singleton, not_or] at hb
      rw [upd_ne hb.1, upd_ne hb.2]
    have s45 : M.HV (upd (upd H4 q0 (.dK (mergeK [] [((Sum.inr j : Key), v)]))) p0 (.dK (mergeK kvs (mergeK [] [((Sum.inr j : Key), v)])))) (M.new g x p env hs) (M.nid g) v := hv4 _ fun b hb => by
      rw [List.mem_cons, List.mem_singleton, not_or] at hb
      rw [upd_ne hb.1, upd_ne hb.2]
    have TB : Tabs TT (upd (upd H4 q0 (.dK (mergeK [] [((Sum.inr j : Key), v)]))) p0 (.dK (mergeK kvs (mergeK [] [((Sum.inr j : Key), v)])))) := tabs_mutD (tabs_mutD T4 (s4.d qA) _) ((upd_ne (Ne.symm nqp)).trans (s4.d pA)) _
    have pB : upd (upd H4 q0 (.dK (mergeK [] [((Sum.inr j : Key), v)]))) p0 (.dK (mergeK kvs (mergeK [] [((Sum.inr j : Key), v)]))) p0 = some (.dK (putK kvs (Sum.inr j) v)) := upd_same
    generalize upd (upd H4 q0 (.dK (mergeK [] [((Sum.inr j : Key), v)]))) p0 (.dK (mergeK kvs (mergeK [] [((Sum.inr j : Key), v)]))) = H5 at sB pB jB TB s45 ⊢
    refine ⟨_, rfl, pa, _, _, _, rfl, rfl, SqT.of (sB.t h1), at4, ?_⟩
    refine ⟨pcnt p2, by omega, d, wb, p0, p2, env, setH hs j (M.nid g), M.new g x p env hs, n + 1, told, _, _, rfl, s12.trans sB, jB, TB, PAt.tk sB.tk h3, (hE.ix sB).le (by omega), ⟨_, pB, Nat.le_trans putK_len (by omega), fun y i hy => ?_⟩, by omega, ⟨hd, xs, js ++ [j], hok.2.2.2, hxs, fun y hy => ?_, List.mem_append_left _ hho⟩, sB.l htl1, by omega, rfl, htot⟩
    · have hy : (if y = j then some (M.nid g) else hs y) = some i := hy
      rw [valV_put]
      by_cases e : y = j
      · rw [if_pos e] at hy
        cases hy
        rw [if_pos (by rw [e])]
        exact ⟨v, s45, rfl⟩
      · rw [if_neg e] at hy
        rw [if_neg (fun z => e (Sum.inr.inj z))]
        obtain ⟨u, a1, a2⟩ := w3 y i hy
        exact ⟨u, M.mono (M.ix sB a1), a2⟩
    · show ∃ i, (if y = j then some (M.nid g) else hs y) = some i
      by_cases e : y = j
      · exact ⟨_, if_pos e⟩
      · rw [if_neg e]
        rcases List.mem_append.mp hy with z | z
        · exact hjs y z
        · exact absurd (List.mem_singleton.mp z) e
end
end KB

namespace KB
open PySem L2 HT LamX NdefX

/-! ### the attributes of a TurnedRunning and a HandOn -/
structure TV where
  (errands most trail fin deepest made asked part words hands : V)
def fsT (r : TV) : List (Str × V) := [("errands", r.errands), ("most", r.most), ("trail", r.trail), ("end", r.fin), ("deepest", r.deepest), ("made", r.made), ("asked", r.asked), ("part", r.part), ("words", r.words), ("hands", r.hands)]
def fsH (p w h n : V) : List (Str × V) := [("post", p), ("words", w), ("hands", h), ("height", n)]
theorem t_end (r : TV) (v : V) : putF "end" v (fsT r) = fsT { r with fin := v } := by rfl
theorem t_deep (r : TV) (v : V) : putF "deepest" v (fsT r) = fsT { r with deepest := v } := by rfl
theorem t_made (r : TV) (v : V) : putF "made" v (fsT r) = fsT { r with made := v } := by rfl
theorem t_asked (r : TV) (v : V) : putF "asked" v (fsT r) = fsT { r with asked := v } := by rfl
theorem t_part (r : TV) (v : V) : putF "part" v (fsT r) = fsT { r with part := v } := by rfl
theorem t_words (r : TV) (v : V) : putF "words" v (fsT r) = fsT { r with words := v } := by rfl
theorem t_hands (r : TV) (v : V) : putF "hands" v (fsT r) = fsT { r with hands := v } := by rfl
theorem tl_errands (r : TV) : (fsT r).lookup ("errands" : Str) = some r.errands := by rfl
theorem tl_most (r : TV) : (fsT r).lookup ("most" : Str) = some r.most := by rfl
theorem tl_trail (r : TV) : (fsT r).lookup ("trail" : Str) = some r.trail := by rfl
theorem tl_end (r : TV) : (fsT r).lookup ("end" : Str) = some r.fin := by rfl
theorem tl_deep (r : TV) : (fsT r).lookup ("deepest" : Str) = some r.deepest := by rfl
theorem tl_made (r : TV) : (fsT r).lookup ("made" : Str) = some r.made := by rfl
theorem tl_asked (r : TV) : (fsT r).lookup ("asked" : Str) = some r.asked := by rfl
theorem tl_part (r : TV) : (fsT r).lookup ("part" : Str) = some r.part := by rfl
theorem tl_words (r : TV) : (fsT r).lookup ("words" : Str) = some r.words := by rfl
theorem tl_hands (r : TV) : (fsT r).lookup ("hands" : Str) = some r.hands := by rfl
theorem hl_post (p w h n : V) : (fsH p w h n).lookup ("post" : Str) = some p := by rfl
theorem hl_words (p w h n : V) : (fsH p w h n).lookup ("words" : Str) = some w := by rfl
theorem hl_hands (p w h n : V) : (fsH p w h n).lookup ("hands" : Str) = some h := by rfl
theorem hl_height (p w h n : V) : (fsH p w h n).lookup ("height" : Str) = some n := by rfl
structure TxU (K : PySem.W.Frag) (mg : Str → Option Value) (CH CR : Addr) : Prop where
  ne : CH ≠ CR
  clH : Cls K CH
  hPost : NoAttr K CH "post"
  hWords : NoAttr K CH "words"
  hHands : NoAttr K CH "hands"
  hHeight : NoAttr K CH "height"
  clR : Cls K CR
  rErrands : NoAttr K CR "errands"
  rMost : NoAttr K CR "most"
  rTrail : NoAttr K CR "trail"
  rEnd : NoAttr K CR "end"
  rDeep : NoAttr K CR "deepest"
  rMade : NoAttr K CR "made"
  rAsked : NoAttr K CR "asked"
  rPart : NoAttr K CR "part"
  rWords : NoAttr K CR "words"
  rHands : NoAttr K CR "hands"
  mgH : mg "HandOn" = some (.ref CH)
  mgR : mg "TurnedRunning" = some (.ref CR)
  zip_ : mg "zip" = none
/-! ### hand-ons as objects -/
inductive HonAt (CH : Addr) (H : Hp) (tab : List HR) : Nat → V → Prop
  | fin (a dx wb hb : Addr) : H a = some (.ins CH dx (fsH .non (.ref wb) (.ref hb) (.int 0))) → HonAt CH H tab 0 (.ref a)
  | mk (k : Nat) (r : HR) (a dx pb wb hb : Addr) (n : Nat) (j : Str) (q : Pt) (kvs : List (Key × V)) (vf : Str → V) : tab[k]? = some r → H a = some (.ins CH dx (fsH (.ref pb) (.ref wb) (.ref hb) (.int r.h))) → PAt H (.post j r.x r.T q) pb → EnvN H r.env n wb →
      H hb = some (.dK kvs) → kvs.length ≤ n → n + 1 + pcnt r.T ≤ 1000 → (∀ j i, r.hs j = some i → valV kvs (Sum.inr j) = some (vf j)) → (∀ j i, r.hs j = some i → HonAt CH H tab i (vf j)) → HonAt CH H tab (k + 1) (.ref a)
theorem HonAt.keep {CH : Addr} {H H' : Hp} {tab tab' : List HR} (ht : ∀ (k : Nat) (r : HR), tab[k]? = some r → tab'[k]? = some r) (hi : ∀ a dx fs, H a = some (.ins CH dx fs) → H' a = some (.ins CH dx fs)) (htk : TK H H') (hd : ∀ a kvs, H a = some (.dK kvs) → H' a = some (.dK kvs)) :
    ∀ {i : Nat} {v : V}, HonAt CH H tab i v → HonAt CH H' tab' i v := by
  intro i v h
  induction h with
  | fin a dx wb hb h => exact .fin a dx wb hb (hi _ _ _ h)
  | mk k r a dx pb wb hb n j q kvs vf h1 h2 h3 h4 h5 h6 h7 h8 h9 ih =>
    obtain ⟨kvw, e1, e2⟩ := h4
    exact .mk k r a dx pb wb hb n j q kvs vf (ht _ _ h1) (hi _ _ _ h2) (PAt.tk htk h3) ⟨kvw, hd _ _ e1, e2⟩ (hd _ _ h5) h6 h7 h8 ih
structure TG where
  tab : List HR
  made : Int
  lim : Nat
def newG (g : TG) (x : Str) (p : Pt) (env : Env) (hs : HsT) : TG := ⟨g.tab ++ [⟨x, p, env, hs, hiAt g.tab (hAt hs "home") + 1, pcnt p + g.lim⟩], g.made + 1, pcnt p + g.lim⟩
theorem tab_app {tab : List HR} {r : HR} : ∀ (k : Nat) (s : HR), tab[k]? = some s → (tab ++ [r])[k]? = some s := fun k s h => by
  rw [List.getElem?_append_left (List.getElem?_eq_some_iff.mp h).1]
  exact h
def MT {CH CR : Addr} (ne : CH ≠ CR) : GM CR TG where
  new := newG
  nid g := g.tab.length + 1
  HV H g i v := HonAt CH H g.tab i v
  ix s h := h.keep (fun _ _ z => z) (fun a dx fs z => s.1 a _ z (fun d f e => ne (by cases e; rfl)) fun _ e => nomatch e) s.tk fun a kvs z => s.d z
  mu hl h := h.keep (fun _ _ z => z) (fun a dx fs z => by rw [upd_ne (ne_of z hl (fun e => nomatch e))]; exact z) (tk_put hl) fun a kvs z => by rw [upd_ne (ne_of z hl (fun e => nomatch e))]; exact z
  mono h := h.keep tab_app (fun _ _ _ z => z) (fun _ _ z => z) fun _ _ z => z
/-- what is known of the run's own object -/
def JT (CR : Addr) (p dx : Addr) (r : TV) (H : Hp) (g : TG) : Prop := H p = some (.ins CR dx (fsT { r with made := .int g.made }))
theorem jt_jx {CR p dx : Addr} {r : TV} : JxG (JT CR p dx r) := ⟨fun s h => s.at_ h (fun _ e => by cases e), fun hl h => by
  show upd _ _ _ _ = _
  rw [upd_ne (ne_of (show _ = _ from h) hl (fun e => by cases e))]
  exact h⟩
section
variable {P : Program} {w : World} {K : PySem.W.Frag} {mg : Str → Option Value} {base : Heap} {CH CR : Addr}
/-! ### HandOn(post, words, hands, height) -/
def spHonI (CH : Addr) : Sp := fun vs H Q _ => ∃ (p dx : Addr) (a b c d : V), vs = [.ref p, a, b, c, d] ∧ H p = some (.ins CH dx []) ∧ Q .non (upd H p (.ins CH dx (fsH a b c d)))
abbrev sHonI : Stmt := inClass (top 41) 0
theorem scHonI : FnScope ["self", "post", "words", "hands", "height"] ["self", "post", "words", "hands", "height"] (defScope sHonI) := ⟨rfl, rfl, rfl, by decide +kernel, rfl, by decide +kernel, by decide +kernel⟩
theorem ok_honI (X : TxU K mg CH CR) {f : Addr} {fd : FuncData} (F : Fun K "__init__" "HandOn.__init__" sHonI f fd) : FnOk P w K mg base CX0 1 f fd ["self", "post", "words", "hands", "height"] (spHonI CH) := by
  refine F.ok scHonI (fun vs H Q E h => ?_) (fun cdv A outer s H vs Q E hr h => ?_)
  · obtain ⟨p, dx, a, b, c, d, rfl, _⟩ := h
    rfl
  obtain ⟨p, dx, a, b, c, d, rfl, hp, q⟩ := h
  refine ⟨_, (pss_cons (ps_fld (pv 0) (pv 1) rfl) (pss_cons (ps_fld (pv 0) (pv 2) rfl) (pss_cons (ps_fld (pv 0) (pv 3) rfl) (pss_one (ps_fld (pv 0) (pv 4) rfl))))), ?_⟩
  refine ⟨_, rfl, _, rfl, p, CH, _, _, rfl, hp, X.clH, X.hPost, (by show 0 < 1000; decide), ?_⟩
  refine ⟨_, rfl, _, rfl, p, CH, _, _, rfl, upd_same, X.clH, X.hWords, (by show 1 < 1000; decide), ?_⟩
  refine ⟨_, rfl, _, rfl, p, CH, _, _, rfl, upd_same, X.clH, X.hHands, (by show 2 < 1000; decide), ?_⟩
  refine ⟨_, rfl, _, rfl, p, CH, _, _, rfl, upd_same, X.clH, X.hHeight, (by show 3 < 1000; decide), ?_⟩
  rw [upd_upd, upd_upd, upd_upd]
  exact q
/-! ### make -/
def spMk (CH CR : Addr) : Sp := fun vs H Q _ => ∃ (p pb wb hb dx : Addr) (r : TV) (z h : Int) (kvs : List (Key × V)) (ha dx2 : Addr) (a b c : V), vs = [.ref p, .ref pb, .ref wb, .ref hb] ∧ H p = some (.ins CR dx (fsT r)) ∧ r.made = .int z ∧ H hb = some (.dK kvs) ∧ valV kvs (Sum.inr ("home" : Str)) = some (.ref ha) ∧
  H ha = some (.ins CH dx2 (fsH a b c (.int h))) ∧
  ∀ x d3 H', H x = none → H d3 = none → (∀ b, b ≠ p → b ≠ x → b ≠ d3 → H' b = H b) → H' p = some (.ins CR dx (fsT { r with made := .int (z + 1) })) → H' x = some (.ins CH d3 (fsH (.ref pb) (.ref wb) (.ref hb) (.int (h + 1)))) → H' d3 ≠ none → Q (.ref x) H'
abbrev sMake : Stmt := inClass (top 42) 5
theorem scMake : FnScope ["self", "post", "words", "hands"] ["self", "post", "words", "hands"] (defScope sMake) := ⟨rfl, rfl, rfl, by decide +kernel, rfl, by decide +kernel, by decide +kernel⟩
theorem ok_make (X : TxU K mg CH CR) (Y : TxT K mg) {f fH : Addr} {fd hd : FuncData} (F : Fun K "make" "TurnedRunning.make" sMake f fd) (MH : Mk K CH fH) (GH : FnOk P w K mg base CX0 1 fH hd ["self", "post", "words", "hands", "height"] (spHonI CH)) (bH : Binds K hd ["self", "post", "words", "hands", "height"] []) :
    FnOk P w K mg base CX0 3 f fd ["self", "post", "words", "hands"] (spMk CH CR) := by
  refine F.ok scMake (fun vs H Q E h => ?_) (fun cdv A outer s H vs Q E hr h => ?_)
  · obtain ⟨p, pb, wb, hb, dx, r, z, h, kvs, ha, dx2, a, b, c, rfl, _⟩ := h
    rfl
  obtain ⟨p, pb, wb, hb, dx, r, z, h, kvs, ha, dx2, a, b, c, rfl, hp, hz, hk, hv, hh, q⟩ := h
  obtain ⟨th, eh⟩ := Y.home
  refine ⟨_, (pss_cons (ps_fldaug (pv 0) pe_int in_add)
    (pss_one (ps_ret (pe_make MH GH (hr.mono (by omega)) rfl X.mgH bH .nil pass0 (pa_cons (pv 1) (pa_cons (pv 2) (pa_cons (pv 3) (pa_cons (pe_op op_add (pe_fld (pe_dget (hu_of hr) (pv 3) (pe_glob (v := .str "home") rfl eh ⟨_, rfl⟩) (fun _ _ => rfl)) rfl) pe_int) pa_nil)))))))), ?_⟩
  refine ⟨_, rfl, p, CR, _, _, _, rfl, hp, X.clR, X.rMade, tl_made _, z, _, hz, rfl, _, _, hp, (by show 10 < 1000; decide), ?_⟩
  rw [t_made]
  have k1 : upd H p (.ins CR dx (fsT { r with made := .int (z + 1) })) hb = some (.dK kvs) := by
    rw [upd_ne (ne_of hk hp (fun e => by cases e))]
    exact hk
  have n1 : ha ≠ p := by
    intro e
    subst e
    rw [hh] at hp
    cases hp
  have h1 : upd H p (.ins CR dx (fsT { r with made := .int (z + 1) })) ha = some (.ins CH dx2 (fsH a b c (.int h))) := by
    rw [upd_ne n1]
    exact hh
  refine ⟨_, rfl, _, rfl, _, rfl, _, rfl, hb, .ref ha, rfl, get_of k1 hv, ha, CH, dx2, _, .int h, rfl, h1, X.clH, X.hHeight, hl_height _ _ _ _, _, _, rfl, rfl, ?_⟩
  intro x d3 hx hd3 hne
  refine ⟨x, d3, .ref pb, .ref wb, .ref hb, .int (h + 1), rfl, upd_same, rfl, ?_⟩
  rw [upd_upd]
  have f1 : ∀ y, upd H p (.ins CR dx (fsT { r with made := .int (z + 1) })) y = none → y ≠ p ∧ H y = none := fun y hy => by
    by_cases e : y = p
    · rw [e, upd_same] at hy
      cases hy
    · rw [upd_ne e] at hy
      exact ⟨e, hy⟩
  obtain ⟨x1, x2⟩ := f1 x hx
  obtain ⟨y1, y2⟩ := f1 d3 hd3
  refine q x d3 _ x2 y2 (fun b b1 b2 b3 => ?_) ?_ upd_same ?_
  · rw [upd_ne b2, upd_ne b3, upd_ne b1]
  · rw [upd_ne (Ne.symm x1), upd_ne (Ne.symm y1), upd_same]
  · rw [upd_ne hne, upd_same]
    intro e
    cases e
end
end KB

namespace KB
open PySem L2 HT LamX NdefX

/-! ### steps in a row -/
inductive RchT (es : List TEr) : CT → CT → Prop
  | refl (c : CT) : RchT es c c
  | snoc {c c1 : CT} : RchT es c c1 → c1.fin = .no → RchT es c (stepT es c1)
theorem RchT.trans {es : List TEr} {a b c : CT} (h : RchT es a b) (k : RchT es b c) : RchT es a c := by
  induction k with
  | refl => exact h
  | snoc _ e ih => exact .snoc ih e
theorem RchT.one {es : List TEr} {c : CT} (h : c.fin = .no) : RchT es c (stepT es c) := .snoc (.refl c) h
theorem RchT.wf {es : List TEr} {hd : Str → Option Nat} (E : TEsOk es hd) {c c' : CT} (h : RchT es c c') (w : WfT es hd c) : (WfT es hd c' ∨ c'.fin ≠ .no) ∧ muT c' ≤ muT c := by
  induction h with
  | refl => exact ⟨.inl w, Nat.le_refl _⟩
  | snoc _ e ih =>
    obtain ⟨a, b⟩ := wf_stepT E (ih.1.resolve_right fun z => z e)
    exact ⟨a, by have := ih.2; omega⟩
/-- how long what is told gets -/
def szT (c : CT) : Nat := c.trail.length + muT c
theorem step_trail {es : List TEr} {c : CT} : (stepT es c).trail.length ≤ c.trail.length + 1 := by
  unfold stepT askT
  repeat' split
  all_goals first | exact Nat.le_succ _ | (show (c.trail ++ [_]).length ≤ _; rw [List.length_append]; exact Nat.le_refl _)
theorem RchT.sz {es : List TEr} {hd : Str → Option Nat} (E : TEsOk es hd) {c c' : CT} (h : RchT es c c') (w : WfT es hd c) : szT c' ≤ szT c := by
  induction h with
  | refl => exact Nat.le_refl _
  | @snoc c1 h e ih =>
    obtain ⟨a, b⟩ := wf_stepT E ((h.wf E w).1.resolve_right fun z => z e)
    have := step_trail (es := es) (c := c1)
    unfold szT at ih ⊢
    omega
/-- the run where a part is passed -/
def gOf (c : CT) : TG := ⟨c.tab, c.made, c.lim⟩
def cOf (c : CT) (told : List Int) (p : Pt) (env : Env) (hs : HsT) (g : TG) : CT := { c with trail := c.trail ++ told.map Ev.tell, part := p, env := env, hs := hs, tab := g.tab, made := g.made, lim := g.lim }
theorem cOf_self (c : CT) : cOf c [] c.part c.env c.hs (gOf c) = c := by
  unfold cOf gOf
  rw [List.map_nil, List.append_nil]
def isEnd : Pt → Bool
  | .give _ _ => true
  | .ask _ _ _ => true
  | _ => false
theorem pass_reach {CH CR : Addr} (ne : CH ≠ CR) (es : List TEr) (c : CT) (hno : c.fin = .no) : ∀ (p : Pt) (env : Env) (hs : HsT) (g : TG) (t0 told : List Int) (pf : Pt) (env' : Env) (hs' : HsT) (g' : TG), passT (MT ne) p env hs g t0 = (told, pf, env', hs', g') →
    RchT es (cOf c t0 p env hs g) (cOf c told pf env' hs' g') ∧ isEnd pf = true
  | .give j t, env, hs, g, t0, told, pf, env', hs', g', h => by
    cases h
    exact ⟨.refl _, rfl⟩
  | .ask f ts j, env, hs, g, t0, told, pf, env', hs', g', h => by
    cases h
    exact ⟨.refl _, rfl⟩
  | .tell x t p, env, hs, g, t0, told, pf, env', hs', g', h => by
    obtain ⟨a, b⟩ := pass_reach ne es c hno p _ _ _ _ told pf env' hs' g' h
    refine ⟨RchT.trans (RchT.one hno) ?_, b⟩
    have e : stepT es (cOf c t0 (.tell x t p) env hs g) = cOf c (t0 ++ [evS env t]) p (setE env x (evS env t)) hs g := by
      show CT.mk _ _ (c.trail ++ t0.map Ev.tell ++ [Ev.tell (evS env t)]) _ _ _ _ _ _ _ _ = _
      unfold cOf
      rw [List.map_append, List.append_assoc]
      rfl
    rw [e]
    exact a
  | .lett x t p, env, hs, g, t0, told, pf, env', hs', g', h => by
    obtain ⟨a, b⟩ := pass_reach ne es c hno p _ _ _ _ told pf env' hs' g' h
    exact ⟨RchT.trans (RchT.one hno) a, b⟩
  | .iff t p q, env, hs, g, t0, told, pf, env', hs', g', h => by
    have h : (if evS env t = 0 then passT (MT ne) q env hs g t0 else passT (MT ne) p env hs g t0) = (told, pf, env', hs', g') := h
    have e : stepT es (cOf c t0 (.iff t p q) env hs g) = cOf c t0 (if evS env t = 0 then q else p) env hs g := rfl
    by_cases hz : evS env t = 0
    · rw [if_pos hz] at h e
      obtain ⟨a, b⟩ := pass_reach ne es c hno q _ _ _ _ told pf env' hs' g' h
      exact ⟨RchT.trans (RchT.one hno) (by rw [e]; exact a), b⟩
    · rw [if_neg hz] at h e
      obtain ⟨a, b⟩ := pass_reach ne es c hno p _ _ _ _ told pf env' hs' g' h
      exact ⟨RchT.trans (RchT.one hno) (by rw [e]; exact a), b⟩
  | .post j x p q, env, hs, g, t0, told, pf, env', hs', g', h => by
    obtain ⟨a, b⟩ := pass_reach ne es c hno q _ _ _ _ told pf env' hs' g' h
    exact ⟨RchT.trans (RchT.one hno) a, b⟩
/-! ### how a run on its way stands in the heap -/
structure AdT where
  dx : Addr
  ed : Addr
  tl : Addr
  ev : V
  tv : List V
def FeV (H : Hp) : Fe → V → Prop
  | .no, v => v = .non
  | .done z, v => ∃ q, v = .ref q ∧ H q = some (.tup [.str "done", .int z])
  | .long, v => ∃ q, v = .ref q ∧ H q = some (.tup [.str "long"])
def EvV (H : Hp) : Ev → V → Prop
  | .ask f ns, v => ∃ q r, v = .ref q ∧ H q = some (.tup [.str "ask", .str f, .ref r]) ∧ H r = some (.tup (ns.map V.int))
  | .tell z, v => ∃ q, v = .ref q ∧ H q = some (.tup [.str "tell", .int z])
theorem FeV.tk {H H' : Hp} (e : TK H H') {f : Fe} {v : V} (h : FeV H f v) : FeV H' f v := by
  cases f with
  | no => exact h
  | done z => exact let ⟨q, a, b⟩ := h; ⟨q, a, e _ _ b⟩
  | long => exact let ⟨q, a, b⟩ := h; ⟨q, a, e _ _ b⟩
theorem EvV.tk {H H' : Hp} (e : TK H H') {f : Ev} {v : V} (h : EvV H f v) : EvV H' f v := by
  cases f with
  | ask f ns => exact let ⟨q, r, a, b, c⟩ := h; ⟨q, r, a, e _ _ b, e _ _ c⟩
  | tell z => exact let ⟨q, a, b⟩ := h; ⟨q, a, e _ _ b⟩
theorem FeV.no {H : Hp} {f : Fe} {v : V} (h : FeV H f v) : v = .non ↔ f = .no := by
  cases f with
  | no => exact ⟨fun _ => rfl, fun _ => h⟩
  | done z => exact ⟨fun e => (by obtain ⟨q, a, _⟩ := h; rw [e] at a; cases a), fun e => nomatch e⟩
  | long => exact ⟨fun e => (by obtain ⟨q, a, _⟩ := h; rw [e] at a; cases a), fun e => nomatch e⟩
/-- the errands' table -/
def ErT (H : Hp) (es : List TEr) (D : Addr) : Prop := ∃ kvs : List (Key × V), H D = some (.dK kvs) ∧ ∀ e ∈ es, ∃ qa r b, valV kvs (Sum.inr e.1) = some (.ref qa) ∧ H qa = some (.tup [.ref r, .ref b]) ∧ H r = some (.tup (e.2.1.map V.str)) ∧ PAt H e.2.2 b
theorem ErT.ix {CR : Addr} {H H' : Hp} (s : Ix CR H H') {es : List TEr} {D : Addr} (h : ErT H es D) : ErT H' es D :=
  let ⟨kvs, a, b⟩ := h; ⟨kvs, s.d a, fun e he => let ⟨qa, r, b, c1, c2, c3, c4⟩ := b e he; ⟨qa, r, b, c1, s.t c2, s.t c3, PAt.tk s.tk c4⟩⟩
def tvOf (a : AdT) (c : CT) (pv wv hv : V) : TV := ⟨.ref a.ed, .int (c.most : Int), .ref a.tl, a.ev, .int c.deepest, .int c.made, .int (c.asked : Int), pv, wv, hv⟩
/-- all but the part that is due -/
structure RunB (CR : Addr) (TT : List (Addr × Str)) (H0 H : Hp) (es : List TEr) (p : Addr) (c : CT) (a : AdT) (pv wv hv : V) : Prop where
  n0 : H0 p = none
  nt : H0 a.tl = none
  sx : Ix CR H0 H
  tt : Tabs TT H
  ob : H p = some (.ins CR a.dx (fsT (tvOf a c pv wv hv)))
  er : ErT H es a.ed
  tr : H a.tl = some (.lst a.tv)
  te : All2 (EvV H) c.trail a.tv
  ev : FeV H c.fin a.ev
/-- the part that is due, with what is around -/
def PartAt {CH CR : Addr} (ne : CH ≠ CR) (H : Hp) (c : CT) (pv wv hv : V) : Prop := ∃ (pa wb hb : Addr) (n : Nat), pv = .ref pa ∧ wv = .ref wb ∧ hv = .ref hb ∧ PAt H c.part pa ∧ EnvN H c.env n wb ∧ HdN (MT ne) (gOf c) H c.hs n hb ∧ n + pcnt c.part ≤ 1000
def RunT {CH CR : Addr} (ne : CH ≠ CR) (TT : List (Addr × Str)) (H0 H : Hp) (es : List TEr) (p : Addr) (c : CT) : Prop := ∃ a pv wv hv, RunB CR TT H0 H es p c a pv wv hv ∧ (c.fin = .no → PartAt ne H c pv wv hv)
end KB

namespace KB
open PySem L2 HT LamX NdefX

theorem big {n : Nat} (h : n ≤ 10000000) : n < sizeLine := Nat.lt_of_le_of_lt h (by decide)
theorem max_eq (i j : Int) : (if j > i then j else i) = max i j := by
  rw [Int.max_def]
  by_cases c : j > i
  · rw [if_pos c, if_pos (by omega)]
  · rw [if_neg c]
    by_cases e : i ≤ j
    · rw [if_pos e]
      omega
    · rw [if_neg e]
theorem tabs_mutI {T : List (Addr × Str)} {H : Hp} (t : Tabs T H) {a c d : Addr} {fs : List (Str × V)} (h : H a = some (.ins c d fs)) (o : HO) : Tabs T (upd H a o) := fun p hp => by
  obtain ⟨ps, h1, h2, h3⟩ := t p hp
  refine ⟨ps, by rw [upd_ne (ne_of h1 h (fun z => nomatch z))]; exact h1, h2, fun pos cv hc => ?_⟩
  obtain ⟨c, e1, e2⟩ := h3 pos cv hc
  refine ⟨c, e1, ?_⟩
  rw [upd_ne (ne_of e2 h (fun z => by unfold CodeO at z; cases z))]
  exact e2
section
variable {CH CR : Addr} {ne : CH ≠ CR} {TT : List (Addr × Str)} {H0 H H' : Hp} {es : List TEr} {p : Addr} {c c' : CT} {a a' : AdT} {pv wv hv pv' wv' hv' : V}
theorem RunB.sxs (R : RunB CR TT H0 H es p c a pv wv hv) (s : Sx H H') (t : Tabs TT H') : RunB CR TT H0 H' es p c a pv wv hv :=
  ⟨R.n0, R.nt, R.sx.trans (ix_sx s), t, s.at_ R.ob (fun _ z => nomatch z), R.er.ix (CR := CR) (ix_sx s), s.l R.tr, R.te.imp fun _ _ z => z.tk s.tk, R.ev.tk s.tk⟩
theorem RunB.same (R : RunB CR TT H0 H es p c a pv wv hv) (s : Same H H') : RunB CR TT H0 H' es p c a pv wv hv := R.sxs (sx_same s) (tabs_new R.tt s)
/-- a field of the run's own is written -/
theorem RunB.put (R : RunB CR TT H0 H es p c a pv wv hv) (e1 : a'.dx = a.dx := by rfl) (e2 : a'.ed = a.ed := by rfl) (e3 : a'.tl = a.tl := by rfl) (e4 : a'.tv = a.tv := by rfl) (e5 : c'.trail = c.trail := by rfl) (hev : FeV (upd H p (.ins CR a.dx (fsT (tvOf a' c' pv' wv' hv')))) c'.fin a'.ev) :
    RunB CR TT H0 (upd H p (.ins CR a.dx (fsT (tvOf a' c' pv' wv' hv')))) es p c' a' pv' wv' hv' := by
  have s : Ix CR H (upd H p (.ins CR a.dx (fsT (tvOf a' c' pv' wv' hv')))) := ix_ins (Ix.refl H) R.ob _
  refine ⟨R.n0, by rw [e3]; exact R.nt, ix_mut R.sx R.n0 _, tabs_mutI R.tt R.ob _, by rw [e1]; exact upd_same, by rw [e2]; exact R.er.ix s, by rw [e3, e4]; exact s.l R.tr, by rw [e5, e4]; exact R.te.imp fun _ _ z => z.tk s.tk, hev⟩
/-- something more is told -/
theorem RunB.tell (R : RunB CR TT H0 H es p c a pv wv hv) {e : List Ev} {v : List V} (h : All2 (EvV H) e v) :
    RunB CR TT H0 (upd H a.tl (.lst (a.tv ++ v))) es p { c with trail := c.trail ++ e } { a with tv := a.tv ++ v } pv wv hv := by
  have tk : TK H (upd H a.tl (.lst (a.tv ++ v))) := tk_put R.tr
  obtain ⟨kvs, k1, k2⟩ := R.er
  refine ⟨R.n0, R.nt, ix_mut R.sx R.nt _, tabs_mut R.tt R.tr _, by rw [upd_ne (ne_of R.ob R.tr (fun z => nomatch z))]; exact R.ob, ⟨kvs, by rw [upd_ne (ne_of k1 R.tr (fun z => nomatch z))]; exact k1, fun e he => ?_⟩, upd_same, (R.te.imp fun _ _ z => z.tk tk).app (h.imp fun _ _ z => z.tk tk), R.ev.tk tk⟩
  obtain ⟨qa, r, b, c1, c2, c3, c4⟩ := k2 e he
  exact ⟨qa, r, b, c1, tk _ _ c2, tk _ _ c3, PAt.tk tk c4⟩
theorem PartAt.ix (s : Ix CR H H') (h : PartAt ne H c pv wv hv) : PartAt ne H' c pv wv hv :=
  let ⟨pa, wb, hb, n, a1, a2, a3, a4, a5, a6, a7⟩ := h; ⟨pa, wb, hb, n, a1, a2, a3, PAt.tk s.tk a4, a5.ix s, a6.ix s, a7⟩
theorem hon_ix {tab : List HR} {i : Nat} {v : V} (ne : CH ≠ CR) (s : Ix CR H H') (h : HonAt CH H tab i v) : HonAt CH H' tab i v := (MT ne).ix (g := ⟨tab, 0, 0⟩) s h
theorem hon_h {tab : List HR} {i : Nat} {v : V} (h : HonAt CH H tab i v) : ∃ b dx x y z, v = .ref b ∧ H b = some (.ins CH dx (fsH x y z (.int (hiAt tab i)))) := by
  cases h with
  | fin b dx wb hb h => exact ⟨b, dx, _, _, _, rfl, h⟩
  | mk k r b dx pb wb hb n j q kvs vf h1 h2 =>
    refine ⟨b, dx, .ref pb, .ref wb, .ref hb, rfl, ?_⟩
    have e : hiAt tab (k + 1) = r.h := by
      show (tab[k]?.map (·.h)).getD 0 = r.h
      rw [h1]
      rfl
    rw [e]
    exact h2
end
theorem zip_env : ∀ {ws : List Str} {ns : List Int} {acc : List (Key × V)}, ws.length = ns.length → ws.Nodup → ∀ x : Str,
    valV (mergeK acc ((ws.map Sum.inr).zip (ns.map V.int))) (Sum.inr x) = if x ∈ ws then (envOf ws ns x).map V.int else valV acc (Sum.inr x)
  | [], [], acc, _, _, x => by
    rw [if_neg (by simp)]
    rfl
  | [], _ :: _, _, h, _, _ => by simp at h
  | _ :: _, [], _, h, _, _ => by simp at h
  | y :: ws, n :: ns, acc, h, nd, x => by
    have nd' := List.nodup_cons.mp nd
    show valV (mergeK (putK acc (Sum.inr y) (V.int n)) ((ws.map Sum.inr).zip (ns.map V.int))) (Sum.inr x) = _
    rw [zip_env (by simpa using h) nd'.2 x]
    by_cases c : x = y
    · subst c
      rw [if_neg nd'.1, valV_put, if_pos rfl, if_pos List.mem_cons_self]
      show _ = Option.map V.int (if x = x then some n else _)
      rw [if_pos rfl]
      rfl
    · have e : envOf (y :: ws) (n :: ns) x = envOf ws ns x := if_neg c
      rw [e, valV_put, if_neg (fun z => c (Sum.inr.inj z))]
      by_cases m : x ∈ ws
      · rw [if_pos m, if_pos (List.mem_cons_of_mem _ m)]
      · rw [if_neg m, if_neg (fun z => (List.mem_cons.mp z).elim c m)]
theorem envOf_none : ∀ {ws : List Str} {ns : List Int} {x : Str}, x ∉ ws → envOf ws ns x = none
  | [], _, _, _ => by unfold envOf; rfl
  | _ :: _, [], _, _ => by unfold envOf; rfl
  | y :: ws, n :: ns, x, h => by
    have e : envOf (y :: ws) (n :: ns) x = envOf ws ns x := if_neg (fun (z : x = y) => h (by rw [z]; exact List.mem_cons_self))
    rw [e]
    exact envOf_none fun z => h (List.mem_cons_of_mem _ z)
theorem zip_env0 {ws : List Str} {ns : List Int} (h : ws.length = ns.length) (nd : ws.Nodup) (x : Str) : valV (mergeK [] ((ws.map Sum.inr).zip (ns.map V.int))) (Sum.inr x) = (envOf ws ns x).map V.int := by
  rw [zip_env h nd x]
  by_cases m : x ∈ ws
  · rw [if_pos m]
  · rw [if_neg m, envOf_none m]
    rfl
theorem length_mergeK' : ∀ (ps kvs : List (Key × V)), (mergeK kvs ps).length ≤ kvs.length + ps.length
  | [], kvs => Nat.le_refl _
  | (k, v) :: r, kvs => by
    have h1 := length_mergeK' r (putK kvs k v)
    have h2 := putK_len (kvs := kvs) (k := k) (v := v)
    show (mergeK (putK kvs k v) r).length ≤ kvs.length + (r.length + 1)
    omega
theorem merge_len {ws : List Str} {ns : List Int} : (mergeK [] ((ws.map Sum.inr).zip (ns.map V.int))).length ≤ ws.length := by
  refine Nat.le_trans (length_mergeK' _ []) ?_
  rw [List.length_nil, Nat.zero_add, List.length_zip, List.length_map]
  exact Nat.min_le_left _ _
section
variable {P : Program} {w : World} {K : PySem.W.Frag} {mg : Str → Option Value} {base : Heap} {CH CR : Addr}
/-! ### ask -/
def spAskT {CH CR : Addr} (ne : CH ≠ CR) (TT : List (Addr × Str)) : Sp := fun vs H Q _ => ∃ (H0 : Hp) (es : List TEr) (hd : Str → Option Nat) (p : Addr) (c : CT) (a : AdT) (xp xw xh : V) (f : Str) (nb ha : Addr) (ns : List Int) (i : Nat), vs = [.ref p, .str f, .ref nb, .ref ha] ∧ RunB CR TT H0 H es p c a xp xw xh ∧
  c.fin = .no ∧ TEsOk es hd ∧ hd f = some ns.length ∧ H nb = some (.tup (ns.map V.int)) ∧ HonAt CH H c.tab i (.ref ha) ∧ c.trail.length ≤ 9000000 ∧ ∀ H', RunT ne TT H0 H' es p (askT es c f ns i) → Q .non H'
abbrev sAskT : Stmt := inClass (top 42) 2
theorem scAskT : FnScope ["self", "f", "numbers", "home", "names", "body"] ["self", "f", "numbers", "home"] (defScope sAskT) := ⟨rfl, rfl, rfl, by decide +kernel, rfl, by decide +kernel, by decide +kernel⟩
theorem ok_askT (T : Txt K mg) (X : TxU K mg CH CR) (Y : TxT K mg) {TT : List (Addr × Str)} {f : Addr} {fd : FuncData} (F : Fun K "ask" "TurnedRunning.ask" sAskT f fd) : FnOk P w K mg base CX0 1 f fd ["self", "f", "numbers", "home"] (spAskT X.ne TT) := by
  refine F.ok scAskT (fun vs H Q E h => ?_) (fun cdv A outer s H vs Q E hr h => ?_)
  · obtain ⟨H0, es, hd, p, c, a, xp, xw, xh, f, nb, ha, ns, i, rfl, _⟩ := h
    rfl
  obtain ⟨H0, es, hd, p, c, a, xp, xw, xh, f, nb, ha, ns, i, rfl, R, hno, E0, hf, hnb, hon, htz, q⟩ := h
  obtain ⟨th, eh⟩ := Y.home
  refine ⟨_, (pss_cons (ps_if (pt_cmpR op_eq (pe_fld (pv 0) rfl) (pe_fld (pv 0) rfl) (nomark _)) (pss_cons (ps_fld (pv 0) (pe_tup (pa_cons pe_str pa_nil)) rfl)
    (pss_one ps_retN)) pss_nil)
    (pss_cons (ps_fldaug (pv 0) pe_int in_add)
    (pss_cons (ps_expr (pe_bm PySem.F.plainAttrs_list PySem.F.slot_list_append PySem.F.type_list_append mt_append (pe_fld (pv 0) rfl) (pa_cons (pe_tup (pa_cons pe_str (pa_cons (pv 1) (pa_cons (pv 2) pa_nil)))) pa_nil)))
    (pss_cons (ps_fld (pv 0) (pe_callB (call_max2 rfl) (by rfl) T.m_max (by decide +kernel) (pa_cons (pe_fld (pv 0) rfl) (pa_cons (pe_fld (pv 3) rfl) pa_nil))) rfl)
    (pss_cons (ps_asg (pe_dget (hu_of hr) (pe_fld (pv 0) rfl) (pv 1) (fun _ _ => rfl)) (pg_tup rfl (pgs_cons (pg_name (i := 4) scAskT.nd rfl (Or.inl rfl)) (pgs_cons (pg_name (i := 5) scAskT.nd rfl (Or.inl rfl)) pgs_nil))))
    (pss_cons (ps_fld (pv 0) (pv 5) rfl)
    (pss_cons (ps_fld (pv 0) (pe_dictZip rfl T.m_dict rfl X.zip_ (pa_cons (pv 4) (pa_cons (pv 2) pa_nil))) rfl)
    (pss_one (ps_fld (pv 0) (pe_disp (pps_cons (pe_glob (v := .str "home") rfl eh ⟨_, rfl⟩) (pv 3) pps_nil) (by rfl) (by rfl) (fun z => by cases z) (by decide)) rfl))))))))), ?_⟩
  refine ⟨_, rfl, p, CR, _, _, _, rfl, R.ob, X.clR, X.rAsked, tl_asked _, _, rfl, p, CR, _, _, _, rfl, R.ob, X.clR, X.rMost, tl_most _, rfl, _, rfl, ?_⟩
  by_cases hak : c.asked = c.most
  · refine itT (decide_eq_true (by show V.int (c.asked : Int) = V.int (c.most : Int); rw [hak])) ⟨by show 1 ≤ sizeLine; decide, fun t ht => ?_⟩
    have R1 := R.same (same_new ht (.tup [.str "long"]))
    refine ⟨_, rfl, p, CR, _, _, rfl, R1.ob, X.clR, X.rEnd, (by show 10 < 1000; decide), ?_⟩
    rw [t_end]
    have R2 := R1.put (c' := { c with fin := .long }) (a' := { a with ev := .ref t }) (pv' := xp) (wv' := xw) (hv' := xh) (hev := ⟨t, rfl, by rw [upd_ne (ne_of upd_same R1.ob (fun z => nomatch z))]; exact upd_same⟩)
    have eA : askT es c f ns i = { c with fin := .long } := by
      unfold askT
      rw [if_pos hak]
    rw [eA] at q
    exact q _ ⟨_, _, _, _, R2, fun z => by cases z⟩
  refine itF (decide_eq_false fun z => hak (by have := V.int.inj (show V.int (c.asked : Int) = V.int (c.most : Int) from z); omega)) ?_
  obtain ⟨e, he1, he2, he3, he4⟩ := E0.found hf
  have ge := E0.er e he2
  have eA : askT es c f ns i = { c with asked := c.asked + 1, trail := c.trail ++ [.ask f ns], deepest := max c.deepest (hiAt c.tab i), part := e.2.2, env := envOf e.2.1 ns, hs := fun y => if y = "home" then some i else none } := by
    unfold askT
    rw [if_neg hak, he1]
  rw [eA] at q
  -- self.asked += 1
  refine ⟨_, rfl, p, CR, _, _, _, rfl, R.ob, X.clR, X.rAsked, tl_asked _, _, _, rfl, rfl, _, _, R.ob, (by show 10 < 1000; decide), ?_⟩
  rw [t_asked]
  have R1 := R.put (c' := { c with asked := c.asked + 1 }) (a' := a) (pv' := xp) (wv' := xw) (hv' := xh) (hev := R.ev.tk (ix_ins (Ix.refl H) R.ob _).tk)
  have s1 : Ix CR H (upd H p (.ins CR a.dx (fsT (tvOf a { c with asked := c.asked + 1 } xp xw xh)))) := ix_ins (Ix.refl H) R.ob _
  have nb1 := s1.t hnb
  have hon1 := hon_ix X.ne s1 hon
  have eq1 : upd H p (.ins CR a.dx (fsT { tvOf a c xp xw xh with asked := .int ((c.asked : Int) + 1) })) = upd H p (.ins CR a.dx (fsT (tvOf a { c with asked := c.asked + 1 } xp xw xh))) := rfl
  rw [eq1]
  generalize upd H p (.ins CR a.dx (fsT (tvOf a { c with asked := c.asked + 1 } xp xw xh))) = H1 at R1 nb1 hon1 ⊢
  clear eq1 s1
  -- self.trail.append(("ask", f, numbers))
  refine ⟨_, rfl, p, CR, _, _, _, rfl, R1.ob, X.clR, X.rTrail, tl_trail _, .inl ⟨rfl, _, SqL.of R1.tr⟩, _, rfl, _, rfl, by show 3 ≤ sizeLine; decide, fun t ht => ?_⟩
  have s2 := same_new ht (.tup [.str "ask", .str f, .ref nb])
  have R2 := R1.same s2
  have hlen := R2.te.len
  refine ⟨a.tl, _, _, rfl, rfl, R2.tr, big (by rw [hlen]; show c.trail.length ≤ _; omega), ?_⟩
  have R3 := R2.tell (e := [.ask f ns]) (v := [.ref t]) ⟨⟨t, nb, rfl, upd_same, s2 _ _ nb1⟩, trivial⟩
  have nb3 := (tk_put (o := .lst (a.tv ++ [.ref t])) R2.tr) _ _ (s2 _ _ nb1)
  have hon3 : HonAt CH (upd (upd H1 t (.tup [.str "ask", .str f, .ref nb])) a.tl (.lst (a.tv ++ [.ref t]))) c.tab i (.ref ha) := (MT X.ne).mu (g := gOf c) R2.tr (hon_ix X.ne (ix_same s2) hon1)
  clear R1 R2 nb1 hon1 s2 hnb
  generalize upd (upd H1 t (.tup [.str "ask", .str f, .ref nb])) a.tl (.lst (a.tv ++ [.ref t])) = H3 at R3 nb3 hon3 ⊢
  -- self.deepest = max(self.deepest, home.height)
  obtain ⟨hb, hdx, hx, hy, hz, ehb, hh⟩ := hon_h hon3
  cases ehb
  refine ⟨_, rfl, p, CR, _, _, _, rfl, R3.ob, X.clR, X.rDeep, tl_deep _, _, rfl, ha, CH, _, _, _, rfl, hh, X.clH, X.hHeight, hl_height _ _ _ _, _, _, rfl, _, rfl, p, CR, _, _, rfl, R3.ob, X.clR, X.rDeep, (by show 10 < 1000; decide), ?_⟩
  rw [t_deep, max_eq]
  have R4 := R3.put (c' := { c with asked := c.asked + 1, trail := c.trail ++ [.ask f ns], deepest := max c.deepest (hiAt c.tab i) }) (a' := { a with tv := a.tv ++ [.ref t] }) (pv' := xp) (wv' := xw) (hv' := xh) (hev := R3.ev.tk (ix_ins (Ix.refl H3) R3.ob _).tk)
  have s4 : Ix CR H3 (upd H3 p (.ins CR a.dx (fsT (tvOf { a with tv := a.tv ++ [.ref t] } { c with asked := c.asked + 1, trail := c.trail ++ [.ask f ns], deepest := max c.deepest (hiAt c.tab i) } xp xw xh)))) := ix_ins (Ix.refl H3) R3.ob _
  have nb4 := s4.t nb3
  have hon4 := hon_ix X.ne s4 hon3
  have eq4 : upd H3 p (.ins CR a.dx (fsT { tvOf { a with tv := a.tv ++ [.ref t] } { c with asked := c.asked + 1, trail := c.trail ++ [.ask f ns] } xp xw xh with deepest := .int (max c.deepest (hiAt c.tab i)) })) = upd H3 p (.ins CR a.dx (fsT (tvOf { a with tv := a.tv ++ [.ref t] } { c with asked := c.asked + 1, trail := c.trail ++ [.ask f ns], deepest := max c.deepest (hiAt c.tab i) } xp xw xh))) := rfl
  rw [eq4]
  generalize upd H3 p (.ins CR a.dx (fsT (tvOf { a with tv := a.tv ++ [.ref t] } { c with asked := c.asked + 1, trail := c.trail ++ [.ask f ns], deepest := max c.deepest (hiAt c.tab i) } xp xw xh))) = H4 at R4 nb4 hon4 ⊢
  clear eq4 s4 R3 nb3 hon3 hh
  -- names, body = self.errands[f]
  obtain ⟨kvs, hk, hall⟩ := R4.er
  obtain ⟨qa, ra, ba, g1, g2, g3, g4⟩ := hall e he2
  rw [he3] at g1
  refine ⟨_, rfl, p, CR, _, _, _, rfl, R4.ob, X.clR, X.rErrands, tl_errands _, _, rfl, a.ed, .ref qa, rfl, get_of hk g1, qa, _, rfl, SqT.of g2, rfl, _, _, rfl, _, _, rfl, rfl, ?_⟩
  -- self.part = body
  refine ⟨_, rfl, _, rfl, p, CR, _, _, rfl, R4.ob, X.clR, X.rPart, (by show 10 < 1000; decide), ?_⟩
  rw [t_part]
  have R5 := R4.put (c' := { c with asked := c.asked + 1, trail := c.trail ++ [.ask f ns], deepest := max c.deepest (hiAt c.tab i) }) (a' := { a with tv := a.tv ++ [.ref t] }) (pv' := .ref ba) (wv' := xw) (hv' := xh) (hev := R4.ev.tk (ix_ins (Ix.refl H4) R4.ob _).tk)
  have s5 : Ix CR H4 (upd H4 p (.ins CR a.dx (fsT (tvOf { a with tv := a.tv ++ [.ref t] } { c with asked := c.asked + 1, trail := c.trail ++ [.ask f ns], deepest := max c.deepest (hiAt c.tab i) } (.ref ba) xw xh)))) := ix_ins (Ix.refl H4) R4.ob _
  have eq5 : ∀ v1 v2 v3 v4, upd H4 p (.ins CR v1 (fsT { tvOf v2 v3 xp xw xh with part := v4 })) = upd H4 p (.ins CR v1 (fsT (tvOf v2 v3 v4 xw xh))) := fun _ _ _ _ => rfl
  rw [eq5]
  generalize upd H4 p (.ins CR a.dx (fsT (tvOf { a with tv := a.tv ++ [.ref t] } { c with asked := c.asked + 1, trail := c.trail ++ [.ask f ns], deepest := max c.deepest (hiAt c.tab i) } (.ref ba) xw xh))) = H5 at R5 s5 ⊢
  have nb5 := s5.t nb4
  have hon5 := hon_ix X.ne s5 hon4
  have g35 := s5.t g3
  have g45 := PAt.tk s5.tk g4
  clear eq5 R4 nb4 hon4 g1 g2 g3 g4 hk hall s5
  -- self.words = dict(zip(names, numbers))
  have en : (e.2.1.map (Sum.inr : Str → Key)).map kV = e.2.1.map V.str := by rw [List.map_map]; rfl
  have g35' : H5 ra = some (.tup ((e.2.1.map (Sum.inr : Str → Key)).map kV)) := by rw [en]; exact g35
  refine ⟨_, rfl, _, rfl, ra, nb, _, _, rfl, SqT.of g35', SqT.of nb5, by rw [List.length_map, List.length_map]; exact he4, fun wa hwa => ?_⟩
  have s6 := same_new hwa (.dK (mergeK [] ((e.2.1.map Sum.inr).zip (ns.map V.int))))
  have hw6 : EnvN (upd H5 wa (.dK (mergeK [] ((e.2.1.map Sum.inr).zip (ns.map V.int))))) (envOf e.2.1 ns) 5 wa := ⟨_, upd_same, Nat.le_trans merge_len ge.n4, zip_env0 he4 ge.nd⟩
  have R6 := R5.same s6
  have hon6 := hon_ix X.ne (ix_same s6) hon5
  have g46 := PAt.tk (tk_same s6) g45
  generalize upd H5 wa (.dK (mergeK [] ((e.2.1.map Sum.inr).zip (ns.map V.int)))) = H6 at hw6 R6 hon6 g46 ⊢
  clear s6 hwa R5 nb5 hon5 g35 g35' g45
  refine ⟨_, rfl, p, CR, _, _, rfl, R6.ob, X.clR, X.rWords, (by show 10 < 1000; decide), ?_⟩
  rw [t_words]
  have R7 := R6.put (c' := { c with asked := c.asked + 1, trail := c.trail ++ [.ask f ns], deepest := max c.deepest (hiAt c.tab i) }) (a' := { a with tv := a.tv ++ [.ref t] }) (pv' := .ref ba) (wv' := .ref wa) (hv' := xh) (hev := R6.ev.tk (ix_ins (Ix.refl H6) R6.ob _).tk)
  have s7 : Ix CR H6 (upd H6 p (.ins CR a.dx (fsT (tvOf { a with tv := a.tv ++ [.ref t] } { c with asked := c.asked + 1, trail := c.trail ++ [.ask f ns], deepest := max c.deepest (hiAt c.tab i) } (.ref ba) (.ref wa) xh)))) := ix_ins (Ix.refl H6) R6.ob _
  have eq7 : ∀ v1 v2 v3 v4, upd H6 p (.ins CR v1 (fsT { tvOf v2 v3 (.ref ba) xw xh with words := v4 })) = upd H6 p (.ins CR v1 (fsT (tvOf v2 v3 (.ref ba) v4 xh))) := fun _ _ _ _ => rfl
  rw [eq7]
  generalize upd H6 p (.ins CR a.dx (fsT (tvOf { a with tv := a.tv ++ [.ref t] } { c with asked := c.asked + 1, trail := c.trail ++ [.ask f ns], deepest := max c.deepest (hiAt c.tab i) } (.ref ba) (.ref wa) xh))) = H7 at R7 s7 ⊢
  have hon7 := hon_ix X.ne s7 hon6
  have g47 := PAt.tk s7.tk g46
  have hw7 := hw6.ix s7
  clear eq7 R6 hon6 g46 hw6 s7
  -- self.hands = {HOME: home}
  intro d0 hd0
  have s8 := same_new hd0 (.dK [])
  refine ⟨_, rfl, upd_same, [(Sum.inr ("home" : Str), .ref ha)], rfl, by show 1 ≤ 15; decide, ?_⟩
  rw [upd_upd]
  have s9 := same_new hd0 (.dK (mergeK [] [((Sum.inr ("home" : Str) : Key), V.ref ha)]))
  have h9 : upd H7 d0 (.dK (mergeK [] [((Sum.inr ("home" : Str) : Key), V.ref ha)])) d0 = some (.dK [(Sum.inr ("home" : Str), .ref ha)]) := upd_same
  have R9 := R7.same s9
  have hon9 := hon_ix X.ne (ix_same s9) hon7
  have g49 := PAt.tk (tk_same s9) g47
  have hw9 := hw7.ix (ix_same (CR := CR) s9)
  generalize upd H7 d0 (.dK (mergeK [] [((Sum.inr ("home" : Str) : Key), V.ref ha)])) = H9 at h9 R9 hon9 g49 hw9 ⊢
  refine ⟨_, rfl, p, CR, _, _, rfl, R9.ob, X.clR, X.rHands, (by show 10 < 1000; decide), ?_⟩
  rw [t_hands]
  have eq9 : ∀ v1 v2 v3 v4, upd H9 p (.ins CR v1 (fsT { tvOf v2 v3 (.ref ba) (.ref wa) xh with hands := v4 })) = upd H9 p (.ins CR v1 (fsT (tvOf v2 v3 (.ref ba) (.ref wa) v4))) := fun _ _ _ _ => rfl
  rw [eq9]
  have sA : Ix CR H9 (upd H9 p (.ins CR a.dx (fsT (tvOf { a with tv := a.tv ++ [.ref t] } { c with asked := c.asked + 1, trail := c.trail ++ [.ask f ns], deepest := max c.deepest (hiAt c.tab i), part := e.2.2, env := envOf e.2.1 ns, hs := fun y => if y = "home" then some i else none } (.ref ba) (.ref wa) (.ref d0))))) := ix_ins (Ix.refl H9) R9.ob _
  have RA := R9.put (c' := { c with asked := c.asked + 1, trail := c.trail ++ [.ask f ns], deepest := max c.deepest (hiAt c.tab i), part := e.2.2, env := envOf e.2.1 ns, hs := fun y => if y = "home" then some i else none }) (a' := { a with tv := a.tv ++ [.ref t] }) (pv' := .ref ba) (wv' := .ref wa) (hv' := .ref d0) (hev := R9.ev.tk sA.tk)
  refine q _ ⟨_, _, _, _, RA, fun _ => ⟨ba, wa, d0, 5, rfl, rfl, rfl, PAt.tk sA.tk g49, hw9.ix sA, ⟨_, sA.d h9, by show 1 ≤ 5; decide, fun y k hy => ?_⟩, by have := ge.cn; show 5 + pcnt e.2.2 ≤ 1000; omega⟩⟩
  have hy : (if y = "home" then some i else none) = some k := hy
  by_cases ey : y = "home"
  · rw [if_pos ey] at hy
    cases hy
    refine ⟨.ref ha, hon_ix X.ne sA hon9, ?_⟩
    rw [ey]
    rfl
  · rw [if_neg ey] at hy
    cases hy
end
end KB

namespace KB
open PySem PySem.Spec PyProof.Rows L2 HT LamX NdefX

/-- g(e, e2, e3, lambda ..) -/
theorem pe_callLam3 {X : Cx} {kl k : Nat} {g : Addr} {gd : FuncData} {gps : List Str} {sp : SpL} {x : Str} {p pos lpos : Pos} {e e2 e3 : Expr} {t1 t2 t3 : TE} {pr : Arguments} {bd : Expr} {sc : Scope} {T : List (Addr × Str)} {c P : Addr} {N ps fr : List Str} {js : List Nat} {tb : TE}
    (TB : TabB X.base X.mg c P) (hcode : X.env.code = .ref c) (hm : (P, X.env.qual ++ "<lambda>") ∈ T) (hu : ∀ p ∈ T, p.1 = P → p.2 = X.env.qual ++ "<lambda>")
    (G : FnL X.prog X.w X.K X.mg X.base (kl + 1) k g gd gps sp) (hr : Room (k + (kl + 1)) X.A) (hg : Gl X x) (hmg : X.mg x = some (.ref g)) (hk : PySem.W.keepIn X.K (.ref g) = true) (hbg : Binds X.K gd gps []) (h1 : PE X e t1) (h2 : PE X e2 t2) (h3 : PE X e3 t3)
    (S : NScope N ps fr sc) (hfree : ∀ y ∈ sc.names, y.2 = .free → X.env.scope.names.lookup y.1 = some .cell ∨ X.env.scope.names.lookup y.1 = some .free) (hfr : ∀ y ∈ fr, (y, NameKind.free) ∈ sc.names) (hjs : js.map (fun j => X.N[j]?) = fr.map some)
    (hbind : ∀ (q : Str) (cl : List (Str × Addr)) (c' : Addr) (pm ctv : Value) (us : List Value), us.length = ps.length → bindArgs (PySem.W.kla_fn "<lambda>" q pr bd sc cl pm (.ref c') ctv) ⟨us, []⟩ = pure (ps.zip us))
    (hb : ∀ (q : Str) (cl : List (Str × Addr)) (f c' : Addr) (A : Around) (outer : List PySem.Env) (s1 : Shared) (H1 : Hp), Room kl (A.deeper (envF ⟨"<lambda>", q, pr, [], sc, cl, c'⟩ f s1.heap.objs.size)) →
      PE (ncx CX0 X.prog X.w X.K X.mg X.base N ⟨"<lambda>", q, pr, [], sc, cl, c'⟩ f A outer s1 H1 E0) bd tb)
    (hdef : defaultsOf pr X.env = ([], []) := by rfl) (hdb : (x == ("__debug__" : Str)) = false := by decide)
    (he : starEach [e, e2, e3, .Lambda pr bd sc lpos] X.env = (false, eval e X.env) :: starEach [e2, e3, .Lambda pr bd sc lpos] X.env := by rfl) (hpl : (backTo pos (starEach [e2, e3, .Lambda pr bd sc lpos] X.env)).any (·.1) = false := by rfl)
    (hs2 : starEach [e2, e3, .Lambda pr bd sc lpos] X.env = (false, eval e2 X.env) :: starEach [e3, .Lambda pr bd sc lpos] X.env := by rfl) (hs4 : starEach [e3, .Lambda pr bd sc lpos] X.env = (false, eval e3 X.env) :: starEach [.Lambda pr bd sc lpos] X.env := by rfl)
    (hs3 : starEach [.Lambda pr bd sc lpos] X.env = (false, eval (.Lambda pr bd sc lpos) X.env) :: starEach [] X.env := by rfl) :
    PE X (.Call (.Name x p) [e, e2, e3, .Lambda pr bd sc lpos] [] pos) (tCallLm N ps.length js tb (fun c' => ⟨X.env.qual ++ "<lambda>", pr, bd, sc, cloFrom X.env.cells sc.names [], c'⟩) sp (tCons t1 (tCons t2 (tCons t3 (tCons (tLambda T fun c' => ⟨X.env.qual ++ "<lambda>", pr, bd, sc, cloFrom X.env.cells sc.names [], c'⟩) tNil))))) :=
  pe_callLm G hr hg hmg hk hbg (pa_cons h1 (pa_cons h2 (pa_cons h3 (pa_cons (pe_lambda TB hcode hm hu hdef hfree) pa_nil hs3) hs4) hs2) he) (fun _ => S) (fun ok c' => Caps.made ok hfree hfr hjs) (fun c' pm ctv us hl => hbind _ _ c' pm ctv us hl) (fun f c' A outer s1 H1 room => hb _ _ f c' A outer s1 H1 room) hdb he hpl
/-! ### what a give does -/
def giveT (c : CT) (i : Nat) (z : Int) : CT :=
  match i with
  | 0 => { c with fin := .done z }
  | k + 1 => match c.tab[k]? with
    | none => c
    | some r => { c with part := r.T, env := setE r.env r.x z, hs := r.hs, lim := r.wt - pcnt r.T }
theorem step_give {es : List TEr} {c : CT} {j : Str} {t : Tm} {i : Nat} (h : c.part = .give j t) (hi : c.hs j = some i) : stepT es c = giveT c i (evS c.env t) := by
  obtain ⟨m, a, tr, f, d, md, pt, env, hs, tab, lim⟩ := c
  have h : pt = .give j t := h
  subst h
  have e : hAt hs j = i := by
    unfold hAt
    rw [show hs j = some i from hi]
    rfl
  unfold stepT
  show (match hAt hs j with | 0 => _ | k + 1 => _) = _
  rw [e]
  cases i with
  | zero => rfl
  | succ k => rfl
theorem step_ask {es : List TEr} {c : CT} {f j : Str} {ts : List Tm} {i : Nat} (h : c.part = .ask f ts j) (hi : c.hs j = some i) : stepT es c = askT es c f (ts.map (evS c.env)) i := by
  obtain ⟨m, a, tr, fi, d, md, pt, env, hs, tab, lim⟩ := c
  have h : pt = .ask f ts j := h
  subst h
  have e : hAt hs j = i := by
    unfold hAt
    rw [show hs j = some i from hi]
    rfl
  unfold stepT
  show askT es _ f _ (hAt hs j) = _
  rw [e]
section
variable {P : Program} {w : World} {K : PySem.W.Frag} {mg : Str → Option Value} {base : Heap} {CH CR : Addr}
/-! ### give -/
def spGiveT {CH CR : Addr} (ne : CH ≠ CR) (TT : List (Addr × Str)) : Sp := fun vs H Q _ => ∃ (H0 : Hp) (es : List TEr) (p : Addr) (c : CT) (a : AdT) (xp xw xh : V) (ha : Addr) (z : Int) (i : Nat), vs = [.ref p, .ref ha, .int z] ∧ RunB CR TT H0 H es p c a xp xw xh ∧
  c.fin = .no ∧ HonAt CH H c.tab i (.ref ha) ∧ ∀ H', RunT ne TT H0 H' es p (giveT c i z) → Q .non H'
abbrev sGive : Stmt := inClass (top 42) 4
theorem scGive : FnScope ["self", "hand", "number"] ["self", "hand", "number"] (defScope sGive) := ⟨rfl, rfl, rfl, by decide +kernel, rfl, by decide +kernel, by decide +kernel⟩
theorem ok_give (X : TxU K mg CH CR) {TT : List (Addr × Str)} {f : Addr} {fd : FuncData} (F : Fun K "give" "TurnedRunning.give" sGive f fd) : FnOk P w K mg base CX0 1 f fd ["self", "hand", "number"] (spGiveT X.ne TT) := by
  refine F.ok scGive (fun vs H Q E h => ?_) (fun cdv A outer s H vs Q E hr h => ?_)
  · obtain ⟨H0, es, p, c, a, xp, xw, xh, ha, z, i, rfl, _⟩ := h
    rfl
  obtain ⟨H0, es, p, c, a, xp, xw, xh, ha, z, i, rfl, R, hno, hon, q⟩ := h
  refine ⟨_, (pss_cons (ps_if (pt_cmpR op_isN (pe_fld (pv 1) rfl) pe_non (nomark _)) (pss_cons (ps_fld (pv 0) (pe_tup (pa_cons pe_str (pa_cons (pv 2) pa_nil))) rfl)
    (pss_one ps_retN)) pss_nil)
    (pss_cons (ps_fld (pv 0) (pe_ix ix_tup (pe_fld (pv 1) rfl) pe_int (fun _ _ => rfl)) rfl)
    (pss_cons (ps_fld (pv 0) (pe_dd (pe_fld (pv 1) rfl) (pps_cons (pe_ix ix_tup (pe_fld (pv 1) rfl) pe_int (fun _ _ => rfl)) (pv 2) pps_nil)) rfl)
    (pss_one (ps_fld (pv 0) (pe_fld (pv 1) rfl) rfl))))), ?_⟩
  have hon0 := hon
  cases hon with
  | fin b dx wb hb h =>
    refine ⟨_, rfl, ha, CH, _, _, _, rfl, h, X.clH, X.hPost, hl_post _ _ _ _, rfl, _, rfl, itT rfl ?_⟩
    refine ⟨_, rfl, by show 2 ≤ sizeLine; decide, fun t ht => ?_⟩
    have R1 := R.same (same_new ht (.tup [.str "done", .int z]))
    refine ⟨_, rfl, p, CR, _, _, rfl, R1.ob, X.clR, X.rEnd, (by show 10 < 1000; decide), ?_⟩
    rw [t_end]
    have R2 := R1.put (c' := { c with fin := .done z }) (a' := { a with ev := .ref t }) (pv' := xp) (wv' := xw) (hv' := xh) (hev := ⟨t, rfl, by rw [upd_ne (ne_of upd_same R1.ob (fun z => nomatch z))]; exact upd_same⟩)
    exact q _ ⟨_, _, _, _, R2, fun z => by cases z⟩
  | mk k r b dx pb wb hb n j pq kvs vf h1 h2 h3 h4 h5 h6 h7 h8 h9 =>
    have eG : giveT c (k + 1) z = { c with part := r.T, env := setE r.env r.x z, hs := r.hs, lim := r.wt - pcnt r.T } := by
      show (match c.tab[k]? with | none => c | some r => _) = _
      rw [h1]
    rw [eG] at q
    refine ⟨_, rfl, ha, CH, _, _, _, rfl, h2, X.clH, X.hPost, hl_post _ _ _ _, rfl, _, rfl, itF rfl ?_⟩
    obtain ⟨tc, td, g1, g2, g3⟩ := id h3
    -- self.part = hand.post[3]
    refine ⟨_, rfl, ha, CH, _, _, _, rfl, h2, X.clH, X.hPost, hl_post _ _ _ _, pb, _, _, _, rfl, rfl, SqT.of g1, at3, ?_⟩
    refine ⟨_, rfl, p, CR, _, _, rfl, R.ob, X.clR, X.rPart, (by show 10 < 1000; decide), ?_⟩
    rw [t_part]
    have R1 := R.put (c' := c) (a' := a) (pv' := .ref tc) (wv' := xw) (hv' := xh) (hev := R.ev.tk (ix_ins (Ix.refl H) R.ob _).tk)
    have s1 : Ix CR H (upd H p (.ins CR a.dx (fsT (tvOf a c (.ref tc) xw xh)))) := ix_ins (Ix.refl H) R.ob _
    have eq1 : ∀ v1 v2 v3 v4, upd H p (.ins CR v1 (fsT { tvOf v2 v3 xp xw xh with part := v4 })) = upd H p (.ins CR v1 (fsT (tvOf v2 v3 v4 xw xh))) := fun _ _ _ _ => rfl
    rw [eq1]
    generalize upd H p (.ins CR a.dx (fsT (tvOf a c (.ref tc) xw xh))) = H1 at R1 s1 ⊢
    have h21 : H1 ha = some (.ins CH dx (fsH (.ref pb) (.ref wb) (.ref hb) (.int r.h))) := s1.1 _ _ h2 (fun d f e => X.ne (by cases e; rfl)) fun _ e => nomatch e
    have g11 := s1.t g1
    have g21 := PAt.tk s1.tk g2
    have h41 := h4.ix s1
    have h51 := s1.d h5
    have h91 : ∀ j i, r.hs j = some i → HonAt CH H1 c.tab i (vf j) := fun j i e => hon_ix X.ne s1 (h9 j i e)
    clear eq1 s1 h2 h3 h4 h5 h9 hon0 g1 g2 g3 R
    -- self.words = {**hand.words, hand.post[2]: number}
    obtain ⟨kvw, w1, w2, w3⟩ := id h41
    intro p0 hp0
    have nwp : wb ≠ p0 := ne_of_none w1 hp0
    have nhp : ha ≠ p0 := ne_of_none h21 hp0
    refine ⟨_, rfl, ha, CH, _, _, _, rfl, (upd_ne nhp).trans h21, X.clH, X.hWords, hl_words _ _ _ _, wb, kvw, rfl, nwp, upd_same, (upd_ne nwp).trans w1, fun q0 hq0 => ?_⟩
    have nqp : q0 ≠ p0 := fun z => by
      rw [z, upd_same] at hq0
      cases hq0
    have hq1 : H1 q0 = none := by
      rw [upd_ne nqp, upd_ne nqp] at hq0
      exact hq0
    have sA : Same H1 (upd (upd (upd H1 p0 (.dK [])) p0 (.dK kvw)) q0 (.dK [])) := same_mut (same_mut (same_new hp0 _) hp0) hq1
    refine ⟨_, rfl, ha, CH, _, _, _, rfl, sA _ _ h21, X.clH, X.hPost, hl_post _ _ _ _, pb, _, _, _, rfl, rfl, SqT.of (sA _ _ g11), at2, _, rfl, ?_⟩
    refine ⟨upd_same, by rw [upd_ne (Ne.symm nqp), upd_same], nqp, [(Sum.inr r.x, .int z)], rfl, by show 1 ≤ 15; decide, ?_, ?_⟩
    · rw [sizeLine_eq]
      show kvw.length + 1 ≤ _
      omega
    have sB : Same H1 (upd (upd (upd (upd (upd H1 p0 (.dK [])) p0 (.dK kvw)) q0 (.dK [])) q0 (.dK (mergeK [] [((Sum.inr r.x : Key), V.int z)]))) p0 (.dK (mergeK kvw (mergeK [] [((Sum.inr r.x : Key), V.int z)])))) := same_mut (same_mut sA hq1) hp0
    have pB : upd (upd (upd (upd (upd H1 p0 (.dK [])) p0 (.dK kvw)) q0 (.dK [])) q0 (.dK (mergeK [] [((Sum.inr r.x : Key), V.int z)]))) p0 (.dK (mergeK kvw (mergeK [] [((Sum.inr r.x : Key), V.int z)]))) p0 = some (.dK (putK kvw (Sum.inr r.x) (.int z))) := upd_same
    generalize upd (upd (upd (upd (upd H1 p0 (.dK [])) p0 (.dK kvw)) q0 (.dK [])) q0 (.dK (mergeK [] [((Sum.inr r.x : Key), V.int z)]))) p0 (.dK (mergeK kvw (mergeK [] [((Sum.inr r.x : Key), V.int z)]))) = H2 at sB pB ⊢
    have R2 := R1.same sB
    refine ⟨_, rfl, p, CR, _, _, rfl, R2.ob, X.clR, X.rWords, (by show 10 < 1000; decide), ?_⟩
    rw [t_words]
    have R3 := R2.put (c' := c) (a' := a) (pv' := .ref tc) (wv' := .ref p0) (hv' := xh) (hev := R2.ev.tk (ix_ins (Ix.refl H2) R2.ob _).tk)
    have s3 : Ix CR H2 (upd H2 p (.ins CR a.dx (fsT (tvOf a c (.ref tc) (.ref p0) xh)))) := ix_ins (Ix.refl H2) R2.ob _
    have eq3 : ∀ v1 v2 v3 v4, upd H2 p (.ins CR v1 (fsT { tvOf v2 v3 (.ref tc) xw xh with words := v4 })) = upd H2 p (.ins CR v1 (fsT (tvOf v2 v3 (.ref tc) v4 xh))) := fun _ _ _ _ => rfl
    rw [eq3]
    generalize upd H2 p (.ins CR a.dx (fsT (tvOf a c (.ref tc) (.ref p0) xh))) = H3 at R3 s3 ⊢
    have s13 := (ix_same (CR := CR) sB).trans s3
    have h23 : H3 ha = some (.ins CH dx (fsH (.ref pb) (.ref wb) (.ref hb) (.int r.h))) := s13.1 _ _ h21 (fun d f e => X.ne (by cases e; rfl)) fun _ e => nomatch e
    have pB3 := s3.d pB
    -- self.hands = hand.hands
    refine ⟨_, rfl, ha, CH, _, _, _, rfl, h23, X.clH, X.hHands, hl_hands _ _ _ _, ?_⟩
    refine ⟨_, rfl, p, CR, _, _, rfl, R3.ob, X.clR, X.rHands, (by show 10 < 1000; decide), ?_⟩
    rw [t_hands]
    have eq4 : ∀ v1 v2 v3 v4, upd H3 p (.ins CR v1 (fsT { tvOf v2 v3 (.ref tc) (.ref p0) xh with hands := v4 })) = upd H3 p (.ins CR v1 (fsT (tvOf v2 v3 (.ref tc) (.ref p0) v4))) := fun _ _ _ _ => rfl
    rw [eq4]
    have s4 : Ix CR H3 (upd H3 p (.ins CR a.dx (fsT (tvOf a { c with part := r.T, env := setE r.env r.x z, hs := r.hs, lim := r.wt - pcnt r.T } (.ref tc) (.ref p0) (.ref hb))))) := ix_ins (Ix.refl H3) R3.ob _
    have R4 := R3.put (c' := { c with part := r.T, env := setE r.env r.x z, hs := r.hs, lim := r.wt - pcnt r.T }) (a' := a) (pv' := .ref tc) (wv' := .ref p0) (hv' := .ref hb) (hev := R3.ev.tk s4.tk)
    have s14 := s13.trans s4
    exact q _ ⟨_, _, _, _, R4, fun _ => ⟨tc, p0, hb, n + 1, rfl, rfl, rfl, PAt.tk s14.tk g21, ⟨_, s4.d pB3, Nat.le_trans putK_len (by omega), env_put w3⟩, ⟨kvs, s14.d h51, by omega, fun y i hy => ⟨vf y, hon_ix X.ne s14 (h91 y i hy), h8 y i hy⟩⟩, h7⟩⟩
end
end KB

namespace KB
open PySem L2 HT LamX NdefX

theorem tabs_frame {CR : Addr} {T : List (Addr × Str)} {H H' : Hp} (t : Tabs T H) (h : ∀ b o, H b = some o → (∀ d fs, o ≠ .ins CR d fs) → H' b = some o) : Tabs T H' := fun p hp => by
  obtain ⟨ps, h1, h2, h3⟩ := t p hp
  refine ⟨ps, h _ _ h1 (fun _ _ z => nomatch z), h2, fun pos cv hc => ?_⟩
  obtain ⟨c, e1, e2⟩ := h3 pos cv hc
  exact ⟨c, e1, h _ _ e2 (fun _ _ z => by unfold CodeO at z; cases z)⟩
theorem make_ok {CH CR : Addr} (ne : CH ≠ CR) {TT : List (Addr × Str)} {p dx : Addr} {r : TV} {H1 : Hp} {g1 : TG} {j x : Str} {P q : Pt} {env : Env} {hs : HsT} {n : Nat} {pa wb hb : Addr} {A : List Addr} {Q' : VK}
    (hA : ∀ a ∈ A, ∃ kvs, H1 a = some (.dK kvs)) (hwA : wb ∉ A) (hhA : hb ∉ A) (hJ : JA (JT CR p dx r) A H1 g1) (hT : Tabs TT H1) (hP : PAt H1 (.post j x P q) pa) (hE : EnvN H1 env n wb) (hD : ∀ H', (∀ b, b ∉ A → H' b = H1 b) → HdN (MT ne) g1 H' hs n hb) (hn : n + 1 + pcnt P ≤ 1000) (hho : ∃ i, hs "home" = some i)
    (q' : ∀ v H2, Ix CR H1 H2 → JA (JT CR p dx r) A H2 (newG g1 x P env hs) → Tabs TT H2 → (∀ H', (∀ b, b ∉ A → H' b = H2 b) → HonAt CH H' (newG g1 x P env hs).tab (g1.tab.length + 1) v) → Q' v H2) :
    spMk CH CR [.ref p, .ref pa, .ref wb, .ref hb] H1 Q' E0 := by
  have hob : H1 p = some (.ins CR dx (fsT { r with made := .int g1.made })) := hJ H1 fun _ _ => rfl
  obtain ⟨i, hi⟩ := hho
  obtain ⟨kvs, d1, d2, d3⟩ := hD H1 fun _ _ => rfl
  obtain ⟨v, hv1, hv2⟩ := d3 _ i hi
  obtain ⟨ha, dx2, a1, a2, a3, rfl, hh⟩ := hon_h hv1
  refine ⟨p, pa, wb, hb, dx, _, g1.made, _, kvs, ha, dx2, a1, a2, a3, rfl, hob, rfl, d1, hv2, hh, fun y d H2 hy hd hfr hp2 hy2 hd2 => ?_⟩
  have hpA : p ∉ A := fun z => by
    obtain ⟨k, e⟩ := hA p z
    rw [hob] at e
    cases e
  have hyA : y ∉ A := fun z => by
    obtain ⟨k, e⟩ := hA y z
    rw [hy] at e
    cases e
  have same : ∀ b o, H1 b = some o → (∀ d fs, o ≠ .ins CR d fs) → H2 b = some o := fun b o hb hn => by
    have n1 : b ≠ p := fun e => by
      subst e
      rw [hob] at hb
      exact hn _ _ (Option.some.inj hb).symm
    rw [hfr b n1 (ne_of_none hb hy) (ne_of_none hb hd)]
    exact hb
  have sx : Ix CR H1 H2 := ⟨fun b o hb hn _ => same b o hb hn, fun b hb => by
    by_cases e1 : b = p
    · rw [e1, hp2] at hb; cases hb
    by_cases e2 : b = y
    · rw [e2, hy2] at hb; cases hb
    by_cases e3 : b = d
    · rw [e3] at hb; exact absurd hb hd2
    rw [hfr b e1 e2 e3] at hb
    exact hb⟩
  refine q' _ _ sx (fun H3 h3 => ?_) (tabs_frame hT same) fun H3 h3 => ?_
  · show H3 p = _
    rw [h3 p hpA, hp2]
    rfl
  -- the heap as it was, but at A
  obtain ⟨Kh, hK1, hK2⟩ : ∃ Kh : Hp, (∀ b, b ∉ A → Kh b = H1 b) ∧ ∀ b, b ∈ A → Kh b = H3 b := ⟨fun b => if b ∈ A then H3 b else H1 b, fun b hb => if_neg hb, fun b hb => if_pos hb⟩
  have sK : Ix CR Kh H3 := by
    refine ⟨fun b o hb hn hm => ?_, fun b hb => ?_⟩
    · by_cases e : b ∈ A
      · rw [hK2 b e] at hb
        exact hb
      · rw [hK1 b e] at hb
        rw [h3 b e]
        exact same b o hb hn
    · by_cases e : b ∈ A
      · rw [hK2 b e]
        exact hb
      · rw [hK1 b e]
        rw [h3 b e] at hb
        exact sx.2 b hb
  have tkK : TK H1 Kh := fun b xs hb => by
    have e : b ∉ A := fun z => by
      obtain ⟨k, e⟩ := hA b z
      rw [hb] at e
      cases e
    rw [hK1 b e]
    exact hb
  obtain ⟨kvs3, c1, c2, c3⟩ := (hD Kh hK1).ix sK
  obtain ⟨kvw, w1, w2, w3⟩ := hE
  have w4 : H3 wb = some (.dK kvw) := by
    rw [h3 wb hwA]
    exact same _ _ w1 fun _ _ z => nomatch z
  have ey : H3 y = some (.ins CH d (fsH (.ref pa) (.ref wb) (.ref hb) (.int (hiAt g1.tab i + 1)))) := by
    rw [h3 y hyA]
    exact hy2
  have hat : hAt hs "home" = i := by
    unfold hAt
    rw [hi]
    rfl
  have tab1 : (newG g1 x P env hs).tab[g1.tab.length]? = some ⟨x, P, env, hs, hiAt g1.tab i + 1, pcnt P + g1.lim⟩ := by
    show (g1.tab ++ [_])[g1.tab.length]? = _
    rw [List.getElem?_append_right (Nat.le_refl _), Nat.sub_self, hat]
    rfl
  have vf : ∀ j i, hs j = some i → ∃ u, valV kvs3 (Sum.inr j) = some u ∧ HonAt CH H3 g1.tab i u := fun j i e => by
    obtain ⟨u, z1, z2⟩ := c3 j i e
    exact ⟨u, z2, z1⟩
  refine .mk g1.tab.length _ y d pa wb hb n j q kvs3 (fun j => (valV kvs3 (Sum.inr j)).getD .non) tab1 ey (PAt.tk sK.tk (PAt.tk tkK hP)) ⟨kvw, w4, w2, w3⟩ c1 c2 hn (fun j i e => ?_) fun j i e => ?_
  · obtain ⟨u, z1, z2⟩ := vf j i e
    show _ = some ((valV kvs3 (Sum.inr j)).getD .non)
    rw [z1]
    rfl
  · obtain ⟨u, z1, z2⟩ := vf j i e
    show HonAt CH H3 _ i ((valV kvs3 (Sum.inr j)).getD .non)
    rw [z1]
    exact z2.keep tab_app (fun _ _ _ z => z) (fun _ _ z => z) fun _ _ z => z
end KB

namespace KB
open PySem L2 HT LamX NdefX

theorem len_reach {es : List TEr} {hd : Str → Option Nat} (E : TEsOk es hd) {c c' : CT} (h : RchT es c c') (w : WfT es hd c) : c'.trail.length ≤ szT c := by
  have := h.sz E w
  unfold szT at this ⊢
  omega
theorem RunB.passed {CR : Addr} {TT : List (Addr × Str)} {H0 H H' : Hp} {es : List TEr} {p : Addr} {c c' : CT} {a : AdT} {pv wv hv : V} (R : RunB CR TT H0 H es p c a pv wv hv) (s : Ix CR H H') (t : Tabs TT H') (ob : H' p = some (.ins CR a.dx (fsT (tvOf a c' pv wv hv)))) (e : c'.trail = c.trail) (ef : c'.fin = c.fin) :
    RunB CR TT H0 H' es p c' a pv wv hv := ⟨R.n0, R.nt, R.sx.trans s, t, ob, R.er.ix s, s.l R.tr, by rw [e]; exact R.te.imp fun _ _ z => z.tk s.tk, by rw [ef]; exact R.ev.tk s.tk⟩
theorem tells_of {H : Hp} : ∀ {zs : List Int} {vs : List V}, All2 (fun z v => EvV H (.tell z) v) zs vs → All2 (EvV H) (zs.map Ev.tell) vs
  | [], [], _ => trivial
  | z :: zs, v :: vs, ⟨a, b⟩ => ⟨a, tells_of b⟩
  | [], _ :: _, h => h.elim
  | _ :: _, [], h => h.elim
section
variable {P : Program} {w : World} {K : PySem.W.Frag} {mg : Str → Option Value} {base : Heap} {CH CR : Addr}
/-! ### pass_part -/
def spPassP {CH CR : Addr} (ne : CH ≠ CR) (TT : List (Addr × Str)) : Sp := fun vs H Q _ => ∃ (H0 : Hp) (es : List TEr) (hd : Str → Option Nat) (p : Addr) (c : CT), vs = [.ref p] ∧ RunT ne TT H0 H es p c ∧ c.fin = .no ∧ WfT es hd c ∧ TEsOk es hd ∧ szT c ≤ 9000000 ∧
  ∀ H' c', RchT es c c' → muT c' < muT c → RunT ne TT H0 H' es p c' → Q .non H'
abbrev sPassP : Stmt := inClass (top 42) 3
theorem scPassP : FnScope ["self", "told", "stand", "number"] ["self"] (defScope sPassP) := ⟨rfl, rfl, rfl, by decide +kernel, rfl, by decide +kernel, by decide +kernel⟩
theorem ok_passP (T : Txt K mg) (X : TxU K mg CH CR) {cc Pt0 : Addr} {TT : List (Addr × Str)} (TB : TabB base mg cc Pt0) (hm : (Pt0, ("TurnedRunning.pass_part.<locals>.<lambda>" : Str)) ∈ TT) (hu : ∀ p ∈ TT, p.1 = Pt0 → p.2 = "TurnedRunning.pass_part.<locals>.<lambda>") {f f1 fm fa fg : Addr} {fd d1 dm da dg : FuncData} (F : FunC K "pass_part" "TurnedRunning.pass_part" sPassP f fd cc)
    (Gpassed : ∀ (p dx : Addr) (r : TV), FnL P w K mg base 5 9 f1 d1 ["part", "words", "hands", "made"] (spPassed_9 (MT X.ne) (JT CR p dx r) TT)) (Rpassed : Ref K mg "passed" f1 d1 ["part", "words", "hands", "made"])
    (Gm : FnOk P w K mg base CX0 3 fm dm ["self", "post", "words", "hands"] (spMk CH CR)) (bm : Binds K dm ["self", "post", "words", "hands"] []) (mm : Meth K CR "make" fm)
    (Ga : FnOk P w K mg base CX0 1 fa da ["self", "f", "numbers", "home"] (spAskT X.ne TT)) (ba : Binds K da ["self", "f", "numbers", "home"] []) (ma : Meth K CR "ask" fa)
    (Gg : FnOk P w K mg base CX0 1 fg dg ["self", "hand", "number"] (spGiveT X.ne TT)) (bg : Binds K dg ["self", "hand", "number"] []) (mg' : Meth K CR "give" fg) : FnOk P w K mg base CX0 15 f fd ["self"] (spPassP X.ne TT) := by
  refine okC F scPassP (fun vs H Q E h => ?_) (fun A outer s H vs Q E hr h => ?_)
  · obtain ⟨H0, es, hd, p, c, rfl, _⟩ := h
    rfl
  obtain ⟨H0, es, hd, p, c, rfl, ⟨a, xp, xw, xh, R, hpart⟩, hno, wf, E0, hsz, q⟩ := h
  obtain ⟨pa, wb, hb, n, rfl, rfl, rfl, hP, hE, hD, hn⟩ := hpart hno
  refine ⟨_, (pss_cons (ps_asg (pe_callLam3 (T := TT) (N := ["post", "words", "hands", "self"]) (ps := ["post", "words", "hands"]) (fr := ["self"]) (js := [0]) TB rfl hm hu
        (Gpassed p a.dx (tvOf a c (.ref pa) (.ref wb) (.ref hb))) (hr.mono (by omega)) rfl Rpassed.m Rpassed.k Rpassed.b (pe_fld (pv 0) rfl) (pe_fld (pv 0) rfl) (pe_fld (pv 0) rfl) (nscope_by (by decide +kernel)) (by change ∀ y : Str × NameKind, y ∈ _ → y.2 = NameKind.free → (defScope sPassP).names.lookup y.1 = some NameKind.cell ∨ (defScope sPassP).names.lookup y.1 = some NameKind.free; decide +kernel) (by decide +kernel) (by rfl) (fun _ _ _ _ _ us hl => match us, hl with | [_, _, _], _ => rfl)
        (fun _ _ _ _ _ _ _ _ room => pe_meth (pv 3) X.clR mm Gm (room.mono (by omega)) bm .nil pass0 (pa_cons (pv 0) (pa_cons (pv 1) (pa_cons (pv 2) pa_nil))))) (pg_tup rfl (pgs_cons (pg_name (i := 1) scPassP.nd rfl (Or.inl rfl)) (pgs_cons (pg_name (i := 2) scPassP.nd rfl (Or.inl rfl)) pgs_nil))))
    (pss_cons (ps_expr (pe_bm PySem.F.plainAttrs_list PySem.F.slot_list_extend PySem.F.type_list_extend mt_extend (pe_fld (pv 0) rfl) (pa_cons (pe_lc (own := [("number", 3)]) (g := gName 3) (by rfl) scPassP.nd (pi_list (pv 1)) (blkOk_by (own := [("number", 3)]) (N := ["self", "told", "stand", "number"]) (sc := defScope sPassP) (by decide +kernel)) (fun _ _ _ _ _ => (pg_name (i := 3) scPassP.nd rfl (Or.inl rfl))) (fun _ _ _ _ _ => pts_nil) (fun _ _ _ _ _ => (pe_tup (pa_cons pe_str (pa_cons (pv 3) pa_nil))))) pa_nil)))
    (pss_one (ps_if (pt_cmpR op_eq (pe_ix ix_tup (pv 2) pe_int (fun _ _ => rfl)) pe_str (nomark _)) (pss_one (ps_expr (pe_meth (pv 0) X.clR mg' Gg (hr.mono (by omega)) bg .nil pass0 (pa_cons (pe_ix ix_tup (pv 2) pe_int (fun _ _ => rfl)) (pa_cons (pe_ix ix_tup (pv 2) pe_int (fun _ _ => rfl)) pa_nil))))) (pss_one (ps_expr (pe_meth (pv 0) X.clR ma Ga (hr.mono (by omega)) ba .nil pass0 (pa_cons (pe_ix ix_tup (pv 2) pe_int (fun _ _ => rfl)) (pa_cons (pe_ix ix_tup (pv 2) pe_int (fun _ _ => rfl)) (pa_cons (pe_ix ix_tup (pv 2) pe_int (fun _ _ => rfl)) pa_nil)))))))))), ?_⟩
  refine ⟨_, rfl, p, CR, _, _, _, rfl, R.ob, X.clR, X.rPart, tl_part _, _, rfl, p, CR, _, _, _, rfl, R.ob, X.clR, X.rWords, tl_words _, _, rfl, p, CR, _, _, _, rfl, R.ob, X.clR, X.rHands, tl_hands _, R.tt, fun fl c' H1 s1 T1 hfl kn1 => ?_⟩
  have R1 := R.sxs s1 T1
  have i1 : Ix CR H H1 := ix_sx s1
  obtain ⟨xs, js, I⟩ := wf.at_
  refine ⟨fl, c', kn1, pa, wb, hb, c.part, c.env, c.hs, gOf c, n, rfl, kn1, fun Ha Hb sab kn => ?_, R1.ob, T1, PAt.tk i1.tk hP, hE.ix i1, hD.ix i1, hn, ⟨hd, xs, js, I.ok, I.e, I.h, I.m⟩, ?_, fun H2 q2 tl2 st told pf env' hs' g' s2 J2 T2 hpass hq2 htl2f htl2 hst => ?_⟩
  · exact ⟨sab.1 _ _ kn.1 (fun _ _ z => by unfold LamO at z; cases z) lamO_ne, sab.1 _ _ kn.2 (fun _ _ z => by unfold CodeO at z; cases z) codeO_ne⟩
  · intro Hx g1 j x P2 q2 env hs n2 pa2 wb2 hb2 Av Q' sx kx hA hwA hhA hJ hT hP2 hE2 hD2 hn2 hho hsc q'
    have hob : Hx p = _ := hJ Hx fun _ _ => rfl
    refine ⟨rfl, ?_⟩
    refine ⟨_, rfl, p, a.dx, _, rfl, hob, rfl, _, rfl, _, rfl, _, rfl, ?_⟩
    exact make_ok X.ne hA hwA hhA hJ hT hP2 hE2 hD2 hn2 hho fun v H3 s3 J3 T3 h3 => q' v H3 s3 J3 T3 h3
  obtain ⟨hreach, hend⟩ := pass_reach X.ne es c hno c.part c.env c.hs (gOf c) [] told pf env' hs' g' hpass
  rw [cOf_self] at hreach
  have wf1 := (hreach.wf E0 wf).1.resolve_right fun z => z hno
  have mu1 := (hreach.wf E0 wf).2
  have len1 := len_reach E0 hreach wf
  obtain ⟨wf2, mu2⟩ := wf_stepT E0 wf1
  have q := fun H' hR => q H' (stepT es (cOf c told pf env' hs' g')) (.snoc hreach hno) (by omega) hR
  have R2 : RunB CR TT H0 H2 es p { c with part := pf, env := env', hs := hs', tab := g'.tab, made := g'.made, lim := g'.lim } a (.ref pa) (.ref wb) (.ref hb) := R1.passed s2 T2 J2 rfl rfl
  -- told, stand
  refine ⟨q2, _, rfl, SqT.of hq2, rfl, _, _, rfl, _, _, rfl, rfl, ?_⟩
  have hlt : told.length ≤ 9000000 := by
    have e : (cOf c told pf env' hs' g').trail.length = c.trail.length + told.length := by
      show (c.trail ++ told.map Ev.tell).length = _
      rw [List.length_append, List.length_map]
    omega
  refine ⟨_, rfl, p, CR, _, _, _, rfl, R2.ob, X.clR, X.rTrail, tl_trail _, .inl ⟨rfl, _, SqL.of R2.tr⟩, ?_⟩
  refine ⟨_, rfl, tl2, rfl, ⟨_, SqL.of htl2⟩, fun D hD2 => lc_list (K := K) (a := tl2) (xs := told.map V.int) (fun i H' => Same H2 H' ∧ ∃ acc, H' D = some (.lst acc) ∧ All2 (fun z v => EvV H' (.tell z) v) (told.take i) acc) ⟨same_new hD2 _, [], upd_same, trivial⟩ ?_ ?_ ?_⟩
  · rintro i H' _ ⟨sB, _⟩
    exact SqL.of (sB _ _ htl2)
  · rintro i x H3 hx ⟨s3, acc, h3, k3⟩
    obtain ⟨z, hz, rfl⟩ := map_gi hx
    obtain ⟨hi, hi2⟩ := List.getElem?_eq_some_iff.mp hz
    have hal := k3.len
    rw [List.length_take] at hal
    refine ⟨rfl, ?_⟩
    dsimp only [tYes]
    refine iteT ⟨_, rfl, sz (by show 2 ≤ 100000; decide), fun t ht => ?_⟩
    have s4 := same_new ht (.tup [.str "tell", .int z])
    have h4 := s4 _ _ h3
    refine ⟨acc, h4, big (by omega), same_mut (s3.trans s4) hD2, _, upd_same, ?_⟩
    have tk := (tk_same s4).trans (tk_put (o := .lst (acc ++ [.ref t])) h4)
    rw [List.take_succ_eq_append_getElem hi, hi2]
    exact (k3.imp fun _ _ z => z.tk tk).app ⟨⟨t, rfl, tk_put (o := .lst (acc ++ [.ref t])) h4 _ _ upd_same⟩, trivial⟩
  · rintro H3 ⟨s3, acc, h3, k3⟩
    rw [List.length_map, List.take_length] at k3
    have hal := k3.len
    have R3 := R2.same s3
    have hl3 := R3.te.len
    refine ⟨a.tl, D, _, _, rfl, rfl, R3.tr, h3, ?_, ?_⟩
    · rw [sizeLine_eq]
      have e : (cOf c told pf env' hs' g').trail.length = c.trail.length + told.length := by
        show (c.trail ++ told.map Ev.tell).length = _
        rw [List.length_append, List.length_map]
      have hl3 : a.tv.length = c.trail.length := hl3
      omega
    have R4 := R3.tell (e := told.map Ev.tell) (v := acc) (tells_of k3)
    have tk4 : TK H3 (upd H3 a.tl (.lst (a.tv ++ acc))) := tk_put R3.tr
    have R4 : RunB CR TT H0 (upd H3 a.tl (.lst (a.tv ++ acc))) es p (cOf c told pf env' hs' g') { a with tv := a.tv ++ acc } (.ref pa) (.ref wb) (.ref hb) := R4
    have hon4 : ∀ i v, HonAt CH H2 g'.tab i v → HonAt CH (upd H3 a.tl (.lst (a.tv ++ acc))) (cOf c told pf env' hs' g').tab i v := fun i v h => (MT X.ne).mu (g := g') R3.tr (hon_ix X.ne (ix_same s3) h)
    have tk24 := (tk_same s3).trans tk4
    generalize upd H3 a.tl (.lst (a.tv ++ acc)) = H4 at R4 hon4 tk24 ⊢
    cases pf with
    | give j t =>
      obtain ⟨i, v, hi, hv, hst⟩ := hst
      obtain ⟨ha, dx2, y1, y2, y3, rfl, hh⟩ := hon_h hv
      have hst4 := tk24 _ _ hst
      refine ⟨_, rfl, st, _, _, _, rfl, rfl, SqT.of hst4, at0, rfl, _, rfl, itT rfl ?_⟩
      refine ⟨_, rfl, p, _, _, rfl, R4.ob, rfl, _, rfl, st, _, _, _, rfl, rfl, SqT.of hst4, at2, _, rfl, st, _, _, _, rfl, rfl, SqT.of hst4, at1, ?_⟩
      refine ⟨H0, es, p, cOf c told (.give j t) env' hs' g', _, _, _, _, ha, _, i, rfl, R4, hno, hon4 _ _ hv, fun H5 hR => ?_⟩
      rw [step_give (c := cOf c told (.give j t) env' hs' g') (j := j) (t := t) rfl hi] at q
      exact q H5 hR
    | ask f ts j =>
      obtain ⟨i, v, nb, hi, hv, hst, hnb⟩ := hst
      obtain ⟨ha, dx2, y1, y2, y3, rfl, hh⟩ := hon_h hv
      have hst4 := tk24 _ _ hst
      obtain ⟨xs2, js2, I2⟩ := wf1.at_
      have ok2 : j ∈ js2 ∧ isW f = true ∧ hd f = some ts.length ∧ ts.length ≤ 4 ∧ _ := I2.ok
      refine ⟨_, rfl, st, _, _, _, rfl, rfl, SqT.of hst4, at0, rfl, _, rfl, itF rfl ?_⟩
      refine ⟨_, rfl, p, _, _, rfl, R4.ob, rfl, _, rfl, st, _, _, _, rfl, rfl, SqT.of hst4, at1, _, rfl, st, _, _, _, rfl, rfl, SqT.of hst4, at2, _, rfl, st, _, _, _, rfl, rfl, SqT.of hst4, at3, ?_⟩
      refine ⟨H0, es, hd, p, cOf c told (.ask f ts j) env' hs' g', _, _, _, _, f, nb, ha, ts.map (evS env'), i, rfl, R4, hno, E0, by rw [List.length_map]; exact ok2.2.2.1, tk24 _ _ hnb, hon4 _ _ hv, by omega, fun H5 hR => ?_⟩
      rw [step_ask (c := cOf c told (.ask f ts j) env' hs' g') (f := f) (j := j) (ts := ts) rfl hi] at q
      exact q H5 hR
    | tell x t p => cases hend
    | lett x t p => cases hend
    | iff t p q => cases hend
    | post j x p q => cases hend
end
end KB

namespace KB
open PySem L2 HT LamX NdefX

def ct0 (m : Nat) : CT := ⟨m, 0, [], .no, 0, 0, .give "home" noT, fun _ => none, fun _ => none, [], 0⟩
/-- how a run begins -/
theorem startT {es : List TEr} {hd : Str → Option Nat} (E : TEsOk es hd) {f : Str} {ns : List Int} {m : Nat} (hf : hd f = some ns.length) (hm : m ≤ 3000) :
    (WfT es hd (askT es (ct0 m) f ns 0) ∨ (askT es (ct0 m) f ns 0).fin ≠ .no) ∧ szT (askT es (ct0 m) f ns 0) ≤ 9000000 := by
  obtain ⟨e, he1, he2, he3, he4⟩ := E.found hf
  have ge := E.er e he2
  by_cases h0 : m = 0
  · have eA : askT es (ct0 m) f ns 0 = { ct0 m with fin := .long } := by
      unfold askT
      rw [if_pos (show (ct0 m).asked = (ct0 m).most from h0.symm)]
    rw [eA]
    refine ⟨.inr (fun z => by cases z), ?_⟩
    unfold szT muT muB
    show 0 + ((m - 0) * 1000 + (1 + 0) + 0) ≤ _
    omega
  · have eA : askT es (ct0 m) f ns 0 = { ct0 m with asked := 1, trail := [.ask f ns], deepest := max 0 0, part := e.2.2, env := envOf e.2.1 ns, hs := fun y => if y = "home" then some 0 else none } := by
      unfold askT
      rw [if_neg (show ¬ (ct0 m).asked = (ct0 m).most from fun z => h0 z.symm), he1]
      rfl
    rw [eA]
    refine ⟨.inl ⟨rfl, by show 1 ≤ m; omega, ⟨e.2.1, ["home"], ge.ok, fun x hx => envOf_some he4 hx, fun y hy => ⟨0, if_pos (List.mem_singleton.mp hy)⟩, fun y i hy => ?_, List.mem_cons_self⟩, fun k r hk => ?_⟩, ?_⟩
    · have hy : (if y = "home" then some 0 else none) = some i := hy
      by_cases q : y = "home"
      · rw [if_pos q] at hy
        cases hy
        exact ⟨Nat.le_refl _, Nat.le_refl _⟩
      · rw [if_neg q] at hy
        cases hy
    · have hk : ([] : List HR)[k]? = some r := hk
      cases hk
    · have := ge.cn
      unfold szT muT muB
      show 1 + ((m - 1) * 1000 + (pcnt e.2.2 + 0) + 1) ≤ _
      omega
section
variable {P : Program} {w : World} {K : PySem.W.Frag} {mg : Str → Option Value} {base : Heap} {CH CR CN CM : Addr}
/-! ### go -/
def spGoT {CH CR : Addr} (ne : CH ≠ CR) (TT : List (Addr × Str)) : Sp := fun vs H Q _ => ∃ (H0 : Hp) (es : List TEr) (hd : Str → Option Nat) (p : Addr) (c : CT), vs = [.ref p] ∧ RunT ne TT H0 H es p c ∧ (WfT es hd c ∨ c.fin ≠ .no) ∧ TEsOk es hd ∧ szT c ≤ 9000000 ∧
  ∀ H' c', RchT es c c' → c'.fin ≠ .no → RunT ne TT H0 H' es p c' → Q .non H'
abbrev sGoT : Stmt := inClass (top 42) 1
theorem scGoT : FnScope ["self"] ["self"] (defScope sGoT) := ⟨rfl, rfl, rfl, by decide +kernel, rfl, by decide +kernel, by decide +kernel⟩
theorem ok_goT (X : TxU K mg CH CR) {TT : List (Addr × Str)} {f f1 : Addr} {fd d1 : FuncData} (F : Fun K "go" "TurnedRunning.go" sGoT f fd) (G1 : FnOk P w K mg base CX0 15 f1 d1 ["self"] (spPassP X.ne TT)) (b1 : Binds K d1 ["self"] []) (m1 : Meth K CR "pass_part" f1) :
    FnOk P w K mg base CX0 16 f fd ["self"] (spGoT X.ne TT) := by
  refine F.ok scGoT (fun vs H Q E h => ?_) (fun cdv A outer s H vs Q E hr h => ?_)
  · obtain ⟨H0, es, hd, p, c, rfl, _⟩ := h
    rfl
  obtain ⟨H0, es, hd, p, c, rfl, R, W, E0, hz, q⟩ := h
  refine ⟨_, (pss_one (ps_while PassesOwn.never (pt_cmpR op_isN (pe_fld (pv 0) rfl) pe_non (nomark _)) (pss_one (ps_expr (pe_meth0 (pv 0) X.clR m1 G1 (hr.mono (by omega)) b1 .nil pass0))))), ?_⟩
  refine ⟨fun m σ H' => ∃ c1, m = muT c1 ∧ σ = [some (.ref p)] ∧ RunT X.ne TT H0 H' es p c1 ∧ (WfT es hd c1 ∨ c1.fin ≠ .no) ∧ szT c1 ≤ 9000000 ∧ RchT es c c1, ⟨_, c, rfl, rfl, R, W, hz, .refl c⟩, ?_⟩
  rintro m σ H1 ⟨c1, rfl, rfl, ⟨a, xp, xw, xh, R1, hp1⟩, W1, hz1, hr1⟩
  refine ⟨_, rfl, p, CR, _, _, _, rfl, R1.ob, X.clR, X.rEnd, tl_end _, rfl, _, rfl, ?_⟩
  have hev := R1.ev.no
  by_cases hno : c1.fin = .no
  · refine itT (decide_eq_true (hev.mpr hno)) ?_
    have W1 : WfT es hd c1 := W1.resolve_right fun z => z hno
    refine ⟨fun σ' H' => ∃ m', m' < muT c1 ∧ ∃ c2, m' = muT c2 ∧ σ' = [some (.ref p)] ∧ RunT X.ne TT H0 H' es p c2 ∧ (WfT es hd c2 ∨ c2.fin ≠ .no) ∧ szT c2 ≤ 9000000 ∧ RchT es c c2, fun _ _ z => z, ?_⟩
    refine ⟨_, rfl, p, _, _, rfl, R1.ob, rfl, H0, es, hd, p, c1, rfl, ⟨a, xp, xw, xh, R1, hp1⟩, hno, W1, E0, hz1, fun H2 c2 hr2 mu2 R2 => ?_⟩
    exact ⟨_, mu2, c2, rfl, rfl, R2, (hr2.wf E0 W1).1, Nat.le_trans (hr2.sz E0 W1) hz1, hr1.trans hr2⟩
  · refine itF (decide_eq_false fun z => hno (hev.mp z)) ?_
    exact q H1 c1 hr1 hno ⟨a, xp, xw, xh, R1, hp1⟩
end
end KB

namespace KB
open PySem L2 HT LamX NdefX

theorem tk_upd {H : Hp} {a : Addr} {o o' : HO} (h : H a = some o) (n : ∀ xs, o ≠ .tup xs) : TK H (upd H a o') := fun b xs hb => by
  have e : b ≠ a := fun e => by
    subst e
    rw [h] at hb
    exact n _ (Option.some.inj hb)
  rw [upd_ne e]
  exact hb
theorem nd_ix {ls : List Str} (h : ls.Nodup) : ∀ {i j : Nat} {x : Str}, ls[i]? = some x → ls[j]? = some x → i = j := by
  induction ls with
  | nil => intro i j x hi; cases hi
  | cons y r ih =>
    rw [List.nodup_cons] at h
    intro i j x hi hj
    cases i with
    | zero =>
      cases j with
      | zero => rfl
      | succ j =>
        have e : y = x := Option.some.inj hi
        exact absurd (mem_of_get (show r[j]? = some y by rw [e]; exact hj)) h.1
    | succ i =>
      cases j with
      | zero =>
        have e : y = x := Option.some.inj hj
        exact absurd (mem_of_get (show r[i]? = some y by rw [e]; exact hi)) h.1
      | succ j => rw [ih h.2 (show r[i]? = some x from hi) (show r[j]? = some x from hj)]
section
variable {P : Program} {w : World} {K : PySem.W.Frag} {mg : Str → Option Value} {base : Heap} {CH CR CN CM : Addr}
/-! ### TurnedRunning(turned, most) -/
def spTRun0 (CR : Addr) (TT : List (Addr × Str)) : Sp := fun vs H Q _ => ∃ (H0 : Hp) (es : List TEr) (us : List V) (p dx bk : Addr) (m : Nat), vs = [.ref p, .ref bk, .int m] ∧ Same H0 H ∧ H0 p = none ∧ H p = some (.ins CR dx []) ∧ TBkAt H es us bk ∧ (es.map (·.1)).Nodup ∧ es.length ≤ 6 ∧ Tabs TT H ∧
  ∀ H' a wd hd, RunB CR TT H0 H' es p (ct0 m) a .non (.ref wd) (.ref hd) → Q .non H'
abbrev sTRun0 : Stmt := inClass (top 42) 0
theorem scTRun0 : FnScope ["self", "turned", "most", "name", "names", "body"] ["self", "turned", "most"] (defScope sTRun0) := ⟨rfl, rfl, rfl, by decide +kernel, rfl, by decide +kernel, by decide +kernel⟩
theorem ok_trun0 (X : TxU K mg CH CR) {TT : List (Addr × Str)} {f : Addr} {fd : FuncData} (F : Fun K "__init__" "TurnedRunning.__init__" sTRun0 f fd) : FnOk P w K mg base CX0 1 f fd ["self", "turned", "most"] (spTRun0 CR TT) := by
  refine F.ok scTRun0 (fun vs H Q E h => ?_) (fun cdv A outer s H vs Q E hr h => ?_)
  · obtain ⟨H0, es, us, p, dx, bk, m, rfl, _⟩ := h
    rfl
  obtain ⟨H0, es, us, p, dx, bk, m, rfl, s0, n0, hp, hB, hnd, h6, hT, q⟩ := h
  refine ⟨_, (pss_cons (ps_fld (pv 0) (pe_dc (g := gTup K 3 (gCons (gName 3) (gCons (gName 4) (gCons (gName 5) gNil)))) (tt := tYes) (tk := tVar 3) (tv := tTup (tCons (tVar 4) (tCons (tVar 5) tNil))) (by rfl) scTRun0.nd (pi_tup (pv 1)) (blkOk_by (own := [("name", 3), ("names", 4), ("body", 5)]) (N := ["self", "turned", "most", "name", "names", "body"]) (sc := defScope sTRun0) (by decide +kernel))
      (fun _ _ _ _ _ => by exact pg_tup rfl (pgs_cons (pg_name (i := 3) scTRun0.nd rfl (Or.inl rfl)) (pgs_cons (pg_name (i := 4) scTRun0.nd rfl (Or.inl rfl)) (pgs_cons (pg_name (i := 5) scTRun0.nd rfl (Or.inl rfl)) pgs_nil))))
      (fun _ _ _ _ _ => pts_nil) (fun _ _ _ _ _ => pv 3) (fun _ _ _ _ _ => pe_tup (pa_cons (pv 4) (pa_cons (pv 5) pa_nil)))) rfl)
    (pss_cons (ps_fld (pv 0) (pv 2) rfl)
    (pss_cons (ps_fld (pv 0) (pe_lst pa_nil) rfl)
    (pss_cons (ps_fld (pv 0) pe_non rfl)
    (pss_cons (ps_fld (pv 0) pe_int rfl)
    (pss_cons (ps_fld (pv 0) pe_int rfl)
    (pss_cons (ps_fld (pv 0) pe_int rfl)
    (pss_cons (ps_fld (pv 0) pe_non rfl)
    (pss_cons (ps_fld (pv 0) pe_dnewK rfl)
    (pss_one (ps_fld (pv 0) pe_dnewK rfl))))))))))), ?_⟩
  refine ⟨_, rfl, bk, rfl, ⟨_, SqT.of hB.1⟩, fun D hD => ?_⟩
  refine ⟨fun i m' H' => m' = us.length - i ∧ i ≤ us.length ∧ Same H H' ∧ ∃ kvs, H' D = some (.dK kvs) ∧ kvs.length ≤ i ∧ ∀ j e, j < i → es[j]? = some e → ∃ qa r b, valV kvs (Sum.inr e.1) = some (.ref qa) ∧ H' qa = some (.tup [.ref r, .ref b]) ∧ H' r = some (.tup (e.2.1.map V.str)) ∧ PAt H' e.2.2 b,
    ⟨_, rfl, Nat.zero_le _, same_new hD _, [], upd_same, Nat.le_refl _, fun j e hj => absurd hj (Nat.not_lt_zero _)⟩, ?_⟩
  rintro i m' H1 ⟨rfl, hi, s1, kvs, hk, hl, hall⟩
  have hul := hB.2.len
  by_cases c : i < us.length
  · refine .inr ⟨⟨us, us[i], SqT.of (s1 _ _ hB.1), List.getElem?_eq_getElem c⟩, fun H' => i + 1 ≤ us.length ∧ Same H H' ∧ ∃ kvs, H' D = some (.dK kvs) ∧ kvs.length ≤ i + 1 ∧ ∀ j e, j < i + 1 → es[j]? = some e → ∃ qa r b, valV kvs (Sum.inr e.1) = some (.ref qa) ∧ H' qa = some (.tup [.ref r, .ref b]) ∧ H' r = some (.tup (e.2.1.map V.str)) ∧ PAt H' e.2.2 b,
      fun H' h => ⟨us.length - (i + 1), by omega, rfl, h⟩, fun x H' hy => ?_⟩
    obtain ⟨e', hx⟩ := hy
    subst e'
    have hx := hx us (SqT.of (s1 _ _ hB.1))
    obtain ⟨e, he, qe, r, b, rfl, g1, g2, g3⟩ := hB.2.get hx
    refine ⟨qe, _, rfl, SqT.of (s1 _ _ g1), rfl, _, _, rfl, _, _, rfl, _, _, rfl, rfl, rfl, ?_⟩
    dsimp only [tYes]
    rw [if_pos rfl]
    refine ⟨_, rfl, _, rfl, _, rfl, by show 2 ≤ sizeLine; decide, fun t ht => ?_⟩
    have s2 := same_new ht (.tup [.ref r, .ref b])
    have hk2 := s2 _ _ hk
    refine ⟨kvs, Sum.inr e.1, rfl, hk2, big (by omega), c, same_mut (s1.trans s2) hD, putK kvs (Sum.inr e.1) (.ref t), upd_same, Nat.le_trans putK_len (Nat.succ_le_succ hl), fun j e' hj he' => ?_⟩
    have tk : TK (upd H' t (.tup [.ref r, .ref b])) (upd (upd H' t (.tup [.ref r, .ref b])) D (.dK (putK kvs (Sum.inr e.1) (.ref t)))) := tk_upd hk2 (by intro xs q; cases q)
    have tk2 := (tk_same s2).trans tk
    by_cases q : j = i
    · subst q
      rw [he] at he'
      cases he'
      exact ⟨t, r, b, by rw [valV_put, if_pos rfl], tk _ _ upd_same, tk2 _ _ (s1 _ _ g2), PAt.tk tk2 (PAt.tk (tk_same s1) g3)⟩
    · obtain ⟨qa, r', b', a1, a2, a3, a4⟩ := hall j e' (by omega) he'
      have ne : ¬ (Sum.inr e'.1 : Key) = Sum.inr e.1 := fun z => by
        have z' := Sum.inr.inj z
        have h1 : (es.map (·.1))[j]? = some e'.1 := by rw [List.getElem?_map, he']; rfl
        have h2 : (es.map (·.1))[i]? = some e.1 := by rw [List.getElem?_map, he]; rfl
        exact q (nd_ix hnd h1 (by rw [z']; exact h2))
      exact ⟨qa, r', b', by rw [valV_put, if_neg ne]; exact a1, tk2 _ _ a2, tk2 _ _ a3, PAt.tk tk2 a4⟩
  · have ei : i = us.length := by omega
    subst ei
    refine .inl ⟨⟨us, SqT.of (s1 _ _ hB.1), Nat.le_refl _⟩, ?_⟩
    have er : ErT H1 es D := ⟨kvs, hk, fun e he => by
      obtain ⟨j, hj⟩ := List.mem_iff_getElem?.mp he
      exact hall j e (by rw [hul]; exact (List.getElem?_eq_some_iff.mp hj).1) hj⟩
    have sm : Same H0 H1 := s0.trans s1
    have hp1 := s1 _ _ hp
    have T1 := tabs_new hT s1
    -- one field after the other: what holds all along
    have keep : ∀ (Hx : Hp) (fs fs' : List (Str × V)), Hx p = some (.ins CR dx fs) → Ix CR H0 Hx → ErT Hx es D → Tabs TT Hx → upd Hx p (.ins CR dx fs') p = some (.ins CR dx fs') ∧ Ix CR H0 (upd Hx p (.ins CR dx fs')) ∧ ErT (upd Hx p (.ins CR dx fs')) es D ∧ Tabs TT (upd Hx p (.ins CR dx fs')) := fun Hx fs fs' h1 h2 h3 h4 =>
      ⟨upd_same, ix_mut h2 n0 _, h3.ix (ix_ins (Ix.refl Hx) h1 _), tabs_mutI h4 h1 _⟩
    refine ⟨_, rfl, p, CR, dx, [], rfl, hp1, X.clR, X.rErrands, (by show 0 < 1000; decide), ?_⟩
    refine ⟨_, rfl, _, rfl, p, CR, dx, _, rfl, upd_same, X.clR, X.rMost, (by show 1 < 1000; decide), ?_⟩
    rw [upd_upd]
    obtain ⟨a1, a2, a3, a4⟩ := keep H1 [] (putF "most" (.int m) (putF "errands" (.ref D) [])) hp1 (ix_same sm) er T1
    generalize upd H1 p (.ins CR dx (putF "most" (.int m) (putF "errands" (.ref D) []))) = H2 at a1 a2 a3 a4 ⊢
    refine ⟨Nat.zero_le _, fun tl htl => ?_⟩
    have s3 := same_new htl (.lst [])
    have ntl := a2.free htl
    have tl3 : upd H2 tl (.lst []) tl = some (.lst []) := upd_same
    have a1 := s3 _ _ a1
    have a2 := a2.trans (ix_same s3)
    have a3 := a3.ix (ix_same (CR := CR) s3)
    have a4 := tabs_new a4 s3
    generalize upd H2 tl (.lst []) = H3 at a1 a2 a3 a4 tl3 ⊢
    clear s3
    refine ⟨_, rfl, p, CR, dx, _, rfl, a1, X.clR, X.rTrail, (by show 2 < 1000; decide), ?_⟩
    refine ⟨_, rfl, p, CR, dx, _, rfl, upd_same, X.clR, X.rEnd, (by show 3 < 1000; decide), ?_⟩
    refine ⟨_, rfl, p, CR, dx, _, rfl, upd_same, X.clR, X.rDeep, (by show 4 < 1000; decide), ?_⟩
    refine ⟨_, rfl, p, CR, dx, _, rfl, upd_same, X.clR, X.rMade, (by show 5 < 1000; decide), ?_⟩
    refine ⟨_, rfl, p, CR, dx, _, rfl, upd_same, X.clR, X.rAsked, (by show 6 < 1000; decide), ?_⟩
    refine ⟨_, rfl, p, CR, dx, _, rfl, upd_same, X.clR, X.rPart, (by show 7 < 1000; decide), ?_⟩
    rw [upd_upd, upd_upd, upd_upd, upd_upd, upd_upd]
    obtain ⟨b1, b2, b3, b4⟩ := keep H3 _ (putF "part" .non (putF "asked" (.int 0) (putF "made" (.int 0) (putF "deepest" (.int 0) (putF "end" .non (putF "trail" (.ref tl) (putF "most" (.int m) (putF "errands" (.ref D) [])))))))) a1 a2 a3 a4
    have tl4 := (ix_ins (CR := CR) (Ix.refl H3) a1 (.ins CR dx (putF "part" .non (putF "asked" (.int 0) (putF "made" (.int 0) (putF "deepest" (.int 0) (putF "end" .non (putF "trail" (.ref tl) (putF "most" (.int m) (putF "errands" (.ref D) [])))))))))).l tl3
    generalize upd H3 p (.ins CR dx (putF "part" .non (putF "asked" (.int 0) (putF "made" (.int 0) (putF "deepest" (.int 0) (putF "end" .non (putF "trail" (.ref tl) (putF "most" (.int m) (putF "errands" (.ref D) []))))))))) = H4 at b1 b2 b3 b4 tl4 ⊢
    refine fun wd hwd => ?_
    have s5 := same_new hwd (.dK [])
    have b1 := s5 _ _ b1
    have b2 := b2.trans (ix_same s5)
    have b3 := b3.ix (ix_same (CR := CR) s5)
    have b4 := tabs_new b4 s5
    have tl5 := s5 _ _ tl4
    generalize upd H4 wd (.dK []) = H5 at b1 b2 b3 b4 tl5 ⊢
    clear s5
    refine ⟨_, rfl, p, CR, dx, _, rfl, b1, X.clR, X.rWords, (by show 8 < 1000; decide), ?_⟩
    obtain ⟨c1, c2, c3, c4⟩ := keep H5 _ (putF "words" (.ref wd) (putF "part" .non (putF "asked" (.int 0) (putF "made" (.int 0) (putF "deepest" (.int 0) (putF "end" .non (putF "trail" (.ref tl) (putF "most" (.int m) (putF "errands" (.ref D) []))))))))) b1 b2 b3 b4
    have tl6 := (ix_ins (CR := CR) (Ix.refl H5) b1 (.ins CR dx (putF "words" (.ref wd) (putF "part" .non (putF "asked" (.int 0) (putF "made" (.int 0) (putF "deepest" (.int 0) (putF "end" .non (putF "trail" (.ref tl) (putF "most" (.int m) (putF "errands" (.ref D) []))))))))))).l tl5
    generalize upd H5 p (.ins CR dx (putF "words" (.ref wd) (putF "part" .non (putF "asked" (.int 0) (putF "made" (.int 0) (putF "deepest" (.int 0) (putF "end" .non (putF "trail" (.ref tl) (putF "most" (.int m) (putF "errands" (.ref D) [])))))))))) = H6 at c1 c2 c3 c4 tl6 ⊢
    refine fun hd hhd => ?_
    have s7 := same_new hhd (.dK [])
    have c1 := s7 _ _ c1
    have c2 := c2.trans (ix_same s7)
    have c3 := c3.ix (ix_same (CR := CR) s7)
    have c4 := tabs_new c4 s7
    have tl7 := s7 _ _ tl6
    generalize upd H6 hd (.dK []) = H7 at c1 c2 c3 c4 tl7 ⊢
    refine ⟨_, rfl, p, CR, dx, _, rfl, c1, X.clR, X.rHands, (by show 9 < 1000; decide), ?_⟩
    obtain ⟨d1, d2, d3, d4⟩ := keep H7 _ (fsT (tvOf ⟨dx, D, tl, .non, []⟩ (ct0 m) .non (.ref wd) (.ref hd))) c1 c2 c3 c4
    have tl8 := (ix_ins (CR := CR) (Ix.refl H7) c1 (.ins CR dx (fsT (tvOf ⟨dx, D, tl, .non, []⟩ (ct0 m) .non (.ref wd) (.ref hd))))).l tl7
    exact q _ ⟨dx, D, tl, .non, []⟩ wd hd ⟨n0, ntl, d2, d4, d1, d3, tl8, trivial, rfl⟩
end
end KB

namespace KB
open PySem L2 HT LamX NdefX

theorem RchT.stuck {es : List TEr} {c c' : CT} (h : RchT es c c') (n : c.fin ≠ .no) : c' = c := by
  induction h with
  | refl => rfl
  | snoc _ e ih => exact absurd (by rw [← ih]; exact e) n
/-- the end of a run -/
def RunEnd (es : List TEr) (m : Nat) (f : Str) (ns : List Int) (c : CT) : Prop := RchT es (askT es (ct0 m) f ns 0) c ∧ c.fin ≠ .no
section
variable {P : Program} {w : World} {K : PySem.W.Frag} {mg : Str → Option Value} {base : Heap} {CH CR CN CM : Addr}
/-! ### run_turned -/
def spRunTd (CR : Addr) (TT : List (Addr × Str)) : Sp := fun vs H Q E => ∃ (bk nb : Addr) (es : List TEr) (us : List V) (hd : Str → Option Nat) (e : TEr) (ns : List Int) (m : Nat), vs = [.ref bk, .str e.1, .ref nb, .int m] ∧ TBkAt H es us bk ∧ (es.map (·.1)).Nodup ∧ es.length ≤ 6 ∧ TEsOk es hd ∧ e ∈ es ∧ e.2.1.length = ns.length ∧
  H nb = some (.tup (ns.map V.int)) ∧ ns.length ≤ 100 ∧ m ≤ 3000 ∧ Tabs TT H ∧
  ∀ H' q tl tv ev c, Ix CR H H' → Tabs TT H' → H' q = some (.tup [.ref tl, ev, .int c.deepest, .int c.made]) → H tl = none → H' tl = some (.lst tv) → All2 (EvV H') c.trail tv → FeV H' c.fin ev → c.trail.length ≤ 9000000 → RunEnd es m e.1 ns c → Q (.ref q) H'
abbrev srun_turned : Stmt := top 40
theorem scrun_turned : FnScope ["turned", "f", "numbers", "most", "running"] ["turned", "f", "numbers", "most"] (defScope srun_turned) := ⟨rfl, rfl, rfl, by decide +kernel, rfl, by decide +kernel, by decide +kernel⟩
theorem ok_runT (X : TxU K mg CH CR) (hM : ∃ t, mg "MOST_ASKS" = some (.int 3000 t)) {TT : List (Addr × Str)} {f f1 f2 f0 fa fg fh : Addr} {fd d1 d2 d0 da dg dh : FuncData} (F : Fun K "run_turned" "run_turned" srun_turned f fd)
    (Gneed_asking : FnOk P w K mg base (L2.CX P w) 3 f1 d1 ["book", "f", "numbers"] spNeed) (Rneed_asking : Ref K mg "need_asking" f1 d1 ["book", "f", "numbers"])
    (Gneed_most : FnOk P w K mg base (L2.CX P w) 2 f2 d2 ["most", "least", "greatest"] (spMost CM)) (Rneed_most : Ref K mg "need_most" f2 d2 ["most", "least", "greatest"])
    (MR : Mk K CR f0) (G0 : FnOk P w K mg base CX0 1 f0 d0 ["self", "turned", "most"] (spTRun0 CR TT)) (b0 : Binds K d0 ["self", "turned", "most"] [])
    (MH : Mk K CH fh) (GH : FnOk P w K mg base CX0 1 fh dh ["self", "post", "words", "hands", "height"] (spHonI CH)) (bH : Binds K dh ["self", "post", "words", "hands", "height"] [])
    (GA : FnOk P w K mg base CX0 1 fa da ["self", "f", "numbers", "home"] (spAskT X.ne TT)) (bA : Binds K da ["self", "f", "numbers", "home"] []) (mA : Meth K CR "ask" fa)
    (GG : FnOk P w K mg base CX0 16 fg dg ["self"] (spGoT X.ne TT)) (bG : Binds K dg ["self"] []) (mG : Meth K CR "go" fg) : FnOk P w K mg base (L2.CX P w) 17 f fd ["turned", "f", "numbers", "most"] (spRunTd CR TT) := by
  refine F.okX scrun_turned (fun vs H Q E h => ?_) (fun cdv A outer s H vs Q E hr h => ?_)
  · obtain ⟨bk, nb, es, us, hd, f, ns, m, rfl, _⟩ := h
    rfl
  obtain ⟨bk, nb, es, us, hd, e, ns, m, rfl, hB, hnd, h6, E0, he, hen, hnb, hl, hm, hT, q⟩ := h
  obtain ⟨tM, mM⟩ := hM
  refine ⟨_, (pss_cons (ps_expr (pe_call Gneed_asking (hr.mono (by omega)) rfl Rneed_asking.m Rneed_asking.k Rneed_asking.b .nil passX (pa_cons (pv 0) (pa_cons (pv 1) (pa_cons (pv 2) pa_nil)))))
    (pss_cons (ps_expr (pe_call Gneed_most (hr.mono (by omega)) rfl Rneed_most.m Rneed_most.k Rneed_most.b .nil passX (pa_cons (pv 3) (pa_cons pe_int (pa_cons (pe_glob (v := .int 3000) rfl mM ⟨_, rfl⟩) pa_nil)))))
    (pss_cons (ps_set (i := 4) scrun_turned.nd rfl (Or.inl rfl) (pe_make MR G0 (hr.mono (by omega)) rfl X.mgR b0 .nil pass0 (pa_cons (pv 0) (pa_cons (pv 3) pa_nil))))
    (pss_cons (ps_expr (pe_meth (pv 4) X.clR mA GA (hr.mono (by omega)) bA .nil pass0 (pa_cons (pv 1) (pa_cons (pv 2) (pa_cons (pe_make MH GH (hr.mono (by omega)) rfl X.mgH bH .nil pass0 (pa_cons pe_non (pa_cons pe_dnewK (pa_cons pe_dnewK (pa_cons pe_int pa_nil))))) pa_nil)))))
    (pss_cons (ps_expr (pe_meth0 (pv 4) X.clR mG GG (hr.mono (by omega)) bG .nil pass0))
    (pss_one (ps_ret (pe_tup (pa_cons (pe_fld (pv 4) rfl) (pa_cons (pe_fld (pv 4) rfl) (pa_cons (pe_fld (pv 4) rfl) (pa_cons (pe_fld (pv 4) rfl) pa_nil)))))))))))), ?_⟩
  refine ⟨_, rfl, _, rfl, _, rfl, bk, nb, es, us, e, ns, rfl, hB, hnd, hnb, hl, he, hen, fun H1 s1 => ?_⟩
  refine ⟨_, rfl, (m : Int), rfl, fun _ => ?_, fun z => absurd ⟨by omega, by omega⟩ z⟩
  refine ⟨_, rfl, _, rfl, fun x dx hx hdx hne => ?_⟩
  have sm : Same H1 (upd (upd H1 dx (.own x)) x (.ins CR dx [])) := (same_new hdx (.own x)).trans (same_new (by rw [upd_ne hne.symm]; exact hx) (.ins CR dx []))
  have hf : hd e.1 = some ns.length := by rw [(E0.er e he).hf, hen]
  refine ⟨H1, es, us, x, dx, bk, m, rfl, sm, hx, upd_same, ⟨(s1.trans sm) _ _ hB.1, hB.2.imp fun _ _ z => z.tk (tk_same (s1.trans sm))⟩, hnd, h6, tabs_new hT (s1.trans sm), fun H2 a wd hd0 R2 => ⟨rfl, ?_⟩⟩
  -- running.ask(f, numbers, HandOn(None, {}, {}, 0))
  have nb2 := R2.sx.t (s1 _ _ hnb)
  refine ⟨_, rfl, x, _, _, rfl, R2.ob, rfl, _, rfl, _, rfl, fun w1 hw1 => ?_⟩
  have s3 := same_new hw1 (.dK [])
  intro w2 hw2 y dy hy hdy hyd
  have s4 := s3.trans (same_new hw2 (.dK []))
  have sy : Same (upd (upd H2 w1 (.dK [])) w2 (.dK [])) (upd (upd (upd (upd H2 w1 (.dK [])) w2 (.dK [])) dy (.own y)) y (.ins CH dy (fsH .non (.ref w1) (.ref w2) (.int 0)))) := (same_new hdy (.own y)).trans (same_new (by rw [upd_ne hyd.symm]; exact hy) _)
  refine ⟨y, dy, .non, .ref w1, .ref w2, .int 0, rfl, upd_same, rfl, ?_⟩
  rw [upd_upd]
  have hon : HonAt CH (upd (upd (upd (upd H2 w1 (.dK [])) w2 (.dK [])) dy (.own y)) y (.ins CH dy (fsH .non (.ref w1) (.ref w2) (.int 0)))) [] 0 (.ref y) := .fin y dy w1 w2 upd_same
  have s5 := s4.trans sy
  have R3 := R2.same s5
  have nb3 := s5 _ _ nb2
  generalize upd (upd (upd (upd H2 w1 (.dK [])) w2 (.dK [])) dy (.own y)) y (.ins CH dy (fsH .non (.ref w1) (.ref w2) (.int 0))) = H3 at hon R3 nb3 ⊢
  refine ⟨H1, es, hd, x, ct0 m, a, _, _, _, e.1, nb, y, ns, 0, rfl, R3, rfl, E0, hf, nb3, hon, by show 0 ≤ _; omega, fun H4 R4 => ?_⟩
  obtain ⟨hw, hsz⟩ := startT E0 (f := e.1) (ns := ns) hf hm
  obtain ⟨a4, p4, w4, h4, R4b, _⟩ := id R4
  refine ⟨_, rfl, x, _, _, rfl, R4b.ob, rfl, H1, es, hd, x, _, rfl, R4, hw, E0, hsz, fun H5 c5 hr5 hfin R5 => ?_⟩
  obtain ⟨a5, p5, w5, h5, R5b, _⟩ := R5
  refine ⟨_, rfl, x, CR, _, _, _, rfl, R5b.ob, X.clR, X.rTrail, tl_trail _, _, rfl, x, CR, _, _, _, rfl, R5b.ob, X.clR, X.rEnd, tl_end _, _, rfl, x, CR, _, _, _, rfl, R5b.ob, X.clR, X.rDeep, tl_deep _, _, rfl, x, CR, _, _, _, rfl, R5b.ob, X.clR, X.rMade, tl_made _, sz (by show 4 ≤ 100000; decide), fun q5 hq5 => ?_⟩
  have s6 := same_new hq5 (.tup [.ref a5.tl, a5.ev, .int c5.deepest, .int c5.made])
  refine q _ q5 a5.tl a5.tv a5.ev c5 ((ix_same s1).trans (R5b.sx.trans (ix_same s6))) (tabs_new R5b.tt s6) upd_same (s1.free R5b.nt) (s6 _ _ R5b.tr) (R5b.te.imp fun _ _ z => z.tk (tk_same s6)) (R5b.ev.tk (tk_same s6)) ?_ ⟨hr5, hfin⟩
  rcases hw with hw | hw
  · exact Nat.le_trans (len_reach E0 hr5 hw) hsz
  · have : c5 = askT es (ct0 m) e.1 ns 0 := hr5.stuck hw
    rw [this]
    unfold szT at hsz
    omega
end
end KB

namespace KB
open PySem L2 HT LamX NdefX

/-! ### the law's hand-ons -/
def FrA (A : List Addr) (H H' : Hp) : Prop := ∀ b o, b ∉ A → H b = some o → H' b = some o
theorem FrA.refl (A : List Addr) (H : Hp) : FrA A H H := fun _ _ _ h => h
theorem FrA.trans {A : List Addr} {H H1 H2 : Hp} (a : FrA A H H1) (b : FrA A H1 H2) : FrA A H H2 := fun x o n h => b x o n (a x o n h)
theorem fr_same {A : List Addr} {H H' : Hp} (s : Same H H') : FrA A H H' := fun b o _ h => s b o h
theorem fr_upd {A : List Addr} {H : Hp} {a : Addr} (h : a ∈ A) (o : HO) : FrA A H (upd H a o) := fun b u n e => by
  rw [upd_ne (fun z => n (by rw [z]; exact h))]
  exact e
inductive LHon (A : List Addr) (H : Hp) (tab : List HR) : Nat → V → Prop
  | fin (q : Addr) : H q = some (.tup [.int 0]) → LHon A H tab 0 (.ref q)
  | mk (k : Nat) (r : HR) (q tb nb hb : Addr) (n : Nat) (kvn kvs : List (Key × V)) (vf : Str → V) : tab[k]? = some r → H q = some (.tup [.int r.h, .str r.x, .ref tb, .ref nb, .ref hb]) → PAt H r.T tb → nb ∉ A → hb ∉ A → H nb = some (.dK kvn) → kvn.length ≤ n → (∀ x : Str, valV kvn (Sum.inr x) = (r.env x).map V.int) →
      H hb = some (.dK kvs) → kvs.length ≤ n → n + 1 + pcnt r.T ≤ 1000 → (∀ j i, r.hs j = some i → valV kvs (Sum.inr j) = some (vf j)) → (∀ j i, r.hs j = some i → LHon A H tab i (vf j)) → LHon A H tab (k + 1) (.ref q)
theorem LHon.keep {A : List Addr} {H H' : Hp} {tab tab' : List HR} (ht : ∀ (k : Nat) (r : HR), tab[k]? = some r → tab'[k]? = some r) (f : FrA A H H') (tk : TK H H') : ∀ {i : Nat} {v : V}, LHon A H tab i v → LHon A H' tab' i v := by
  intro i v h
  induction h with
  | fin q h => exact .fin q (tk _ _ h)
  | mk k r q tb nb hb n kvn kvs vf h1 h2 h3 h4 h5 h6 h7 h8 h9 h10 h11 h12 h13 ih =>
    exact .mk k r q tb nb hb n kvn kvs vf (ht _ _ h1) (tk _ _ h2) (PAt.tk tk h3) h4 h5 (f _ _ h4 h6) h7 h8 (f _ _ h5 h9) h10 h11 h12 ih
theorem LHon.fresh {A A' : List Addr} {H : Hp} {tab : List HR} (hA : ∀ a ∈ A', a ∈ A ∨ H a = none) : ∀ {i : Nat} {v : V}, LHon A H tab i v → LHon A' H tab i v := by
  intro i v h
  induction h with
  | fin q h => exact .fin q h
  | mk k r q tb nb hb n kvn kvs vf h1 h2 h3 h4 h5 h6 h7 h8 h9 h10 h11 h12 h13 ih =>
    refine .mk k r q tb nb hb n kvn kvs vf h1 h2 h3 (fun z => ?_) (fun z => ?_) h6 h7 h8 h9 h10 h11 h12 ih
    · rcases hA nb z with y | y
      · exact h4 y
      · rw [h6] at y
        cases y
    · rcases hA hb z with y | y
      · exact h5 y
      · rw [h9] at y
        cases y
theorem lhon_h {A : List Addr} {H : Hp} {tab : List HR} {i : Nat} {v : V} (h : LHon A H tab i v) : ∃ q r, v = .ref q ∧ H q = some (.tup (.int (hiAt tab i) :: r)) ∧ (if i = 0 then r = [] else r.length = 4) := by
  cases h with
  | fin q h => exact ⟨q, [], rfl, h, rfl⟩
  | mk k r q tb nb hb n kvn kvs vf h1 h2 =>
    refine ⟨q, [.str r.x, .ref tb, .ref nb, .ref hb], rfl, ?_, rfl⟩
    have e : hiAt tab (k + 1) = r.h := by
      show (tab[k]?.map (·.h)).getD 0 = r.h
      rw [h1]
      rfl
    rw [e]
    exact h2
/-! ### now, and what is around -/
def nowK (tl : Addr) (dp md mn : Int) : List (Key × V) := [(Sum.inr "trail", .ref tl), (Sum.inr "deepest", .int dp), (Sum.inr "made", .int md), (Sum.inr "many", .int mn)]
structure NowL (H : Hp) (nd tl : Addr) (c : CT) (tv : List V) : Prop where
  n : H nd = some (.dK (nowK tl c.deepest c.made c.asked))
  t : H tl = some (.lst tv)
  te : All2 (EvV H) c.trail tv
structure AroundL (A : List Addr) (H : Hp) (c : CT) (pa nm hb : Addr) (n : Nat) : Prop where
  p : PAt H c.part pa
  e : EnvN H c.env n nm
  h : ∃ kvs : List (Key × V), H hb = some (.dK kvs) ∧ kvs.length ≤ n ∧ ∀ (j : Str) (i : Nat), c.hs j = some i → ∃ v, LHon A H c.tab i v ∧ valV kvs (Sum.inr j) = some v
  n : n + pcnt c.part ≤ 1000
structure Apart (nd tl nm hb : Addr) : Prop where
  a : nd ≠ tl
  b : nd ≠ nm
  c : nd ≠ hb
  d : tl ≠ nm
  e : tl ≠ hb
  f : nm ≠ hb
theorem NowL.same {H H' : Hp} {nd tl : Addr} {c : CT} {tv : List V} (s : Same H H') (N : NowL H nd tl c tv) : NowL H' nd tl c tv := ⟨s _ _ N.n, s _ _ N.t, N.te.imp fun _ _ z => z.tk (tk_same s)⟩
theorem AroundL.keep {A : List Addr} {H H' : Hp} {c : CT} {pa nm hb : Addr} {n : Nat} (R : AroundL A H c pa nm hb n) (f : FrA A H H') (tk : TK H H') (hn : ∀ kvs, H nm = some (.dK kvs) → H' nm = some (.dK kvs)) (hh : ∀ kvs, H hb = some (.dK kvs) → H' hb = some (.dK kvs)) : AroundL A H' c pa nm hb n :=
  ⟨PAt.tk tk R.p, let ⟨kvs, a, b⟩ := R.e; ⟨kvs, hn _ a, b⟩, let ⟨kvs, a, b, d⟩ := R.h; ⟨kvs, hh _ a, b, fun j i e => let ⟨v, x, y⟩ := d j i e; ⟨v, x.keep (fun _ _ z => z) f tk, y⟩⟩, R.n⟩
theorem AroundL.same {A : List Addr} {H H' : Hp} {c : CT} {pa nm hb : Addr} {n : Nat} (s : Same H H') (R : AroundL A H c pa nm hb n) : AroundL A H' c pa nm hb n := R.keep (fr_same s) (tk_same s) (fun _ h => s _ _ h) fun _ h => s _ _ h
theorem tk_putD {H : Hp} {a : Addr} {kvs : List (Key × V)} {o : HO} (h : H a = some (.dK kvs)) : TK H (upd H a o) := fun b xs hb => by
  rw [upd_ne (ne_of hb h (fun z => by cases z))]
  exact hb
/-- what comes next -/
inductive Act
  | ask (f : Str) (ns : List Int) (i : Nat)
  | give (z : Int) (i : Nat)
def ActOk (hd : Str → Option Nat) (tab : List HR) : Act → Prop
  | .ask f ns i => hd f = some ns.length ∧ i ≤ tab.length
  | .give _ i => i ≤ tab.length
def actT (es : List TEr) (c : CT) : Act → CT
  | .ask f ns i => askT es c f ns i
  | .give z i => giveT c i z
def ActAt (A : List Addr) (H : Hp) (tab : List HR) (q : Addr) : Act → Prop
  | .ask f ns i => ∃ nb v, H q = some (.tup [.str "ask", .str f, .ref nb, v]) ∧ H nb = some (.tup (ns.map V.int)) ∧ LHon A H tab i v
  | .give z i => ∃ v, H q = some (.tup [.str "give", .int z, v]) ∧ LHon A H tab i v
section
variable {P : Program} {w : World} {K : PySem.W.Frag} {mg : Str → Option Value} {base : Heap}
/-! ### _law_along -/
def spAlong : Sp := fun vs H Q _ => ∃ (es : List TEr) (hd : Str → Option Nat) (c : CT) (nd tl pa nm hb : Addr) (tv : List V) (n : Nat), vs = [.ref nd, .ref pa, .ref nm, .ref hb] ∧ Apart nd tl nm hb ∧ NowL H nd tl c tv ∧ AroundL [nd, tl, nm, hb] H c pa nm hb n ∧ c.fin = .no ∧ WfT es hd c ∧ TEsOk es hd ∧ szT c ≤ 9000000 ∧
  ∀ H' q c' tv' act, RchT es c c' → c'.fin = .no → WfT es hd c' → stepT es c' = actT es c' act → ActOk hd c'.tab act → NowL H' nd tl c' tv' → ActAt [nd, tl] H' c'.tab q act → FrA [nd, tl, nm, hb] H H' → TK H H' → Q (.ref q) H'
abbrev s_law_along : Stmt := top 55
theorem scLalong : FnScope ["now", "part", "names", "hands", "one"] ["now", "part", "names", "hands"] (defScope s_law_along) := ⟨rfl, rfl, rfl, by decide +kernel, rfl, by decide +kernel, by decide +kernel⟩
def AlongInv (es : List TEr) (hd : Str → Option Nat) (c0 : CT) (nd tl nm hb : Addr) (H0 : Hp) (m : Nat) (σ : St) (H : Hp) : Prop :=
  ∃ c pa tv n, σ = [some (.ref nd), some (.ref pa), some (.ref nm), some (.ref hb), none] ∧ m = muT c ∧ RchT es c0 c ∧ c.fin = .no ∧ WfT es hd c ∧ NowL H nd tl c tv ∧ AroundL [nd, tl, nm, hb] H c pa nm hb n ∧ FrA [nd, tl, nm, hb] H0 H ∧ TK H0 H
theorem ok_along (T : Txt K mg) {f f1 : Addr} {fd d1 : FuncData} (F : Fun K "_law_along" "_law_along" s_law_along f fd) (G_law_value : FnOk P w K mg base CX0 64 f1 d1 ["term", "names"] (spValue 64)) (R_law_value : Ref K mg "_law_value" f1 d1 ["term", "names"]) : FnOk P w K mg base CX0 65 f fd ["now", "part", "names", "hands"] spAlong := by
  refine F.ok scLalong (fun vs H Q E h => ?_) (fun cdv A outer s H vs Q E hr h => ?_)
  · obtain ⟨es, hd, c, nd, tl, pa, nm, hb, tv, n, rfl, _⟩ := h
    rfl
  obtain ⟨es, hd, c0, nd, tl, pa, nm, hb, tv, n, rfl, hap, N, R, hno, wf0, E0, hsz, q⟩ := h
  refine ⟨_, (pss_cons (ps_while PassesOwn.never (pt_cmpR op_notIn_seq (pe_ix ix_tup (pv 1) pe_int (fun _ _ => rfl)) (pe_tup (pa_cons pe_str (pa_cons pe_str pa_nil))) rfl) (pss_one (ps_if (pt_cmpR op_eq (pe_ix ix_tup (pv 1) pe_int (fun _ _ => rfl)) pe_str (nomark _)) (pss_cons (ps_dput (hu_of hr) (pv 0) pe_str (pe_op op_add (pe_dget (hu_of hr) (pv 0) pe_str (fun _ _ => rfl)) pe_int) rfl)
    (pss_cons (ps_dput (hu_of hr) (pv 3) (pe_ix ix_tup (pv 1) pe_int (fun _ _ => rfl)) (pe_tup (pa_cons (pe_op op_add (pe_ix ix_tup (pe_dget (hu_of hr) (pv 3) pe_str (fun _ _ => rfl)) pe_int (fun _ _ => rfl)) pe_int) (pa_cons (pe_ix ix_tup (pv 1) pe_int (fun _ _ => rfl)) (pa_cons (pe_ix ix_tup (pv 1) pe_int (fun _ _ => rfl)) (pa_cons (pe_callTy call_dictD (by rfl) T.m_dict (by decide +kernel) (pa_cons (pv 2) pa_nil)) (pa_cons (pe_callTy call_dictD (by rfl) T.m_dict (by decide +kernel) (pa_cons (pv 3) pa_nil)) pa_nil)))))) rfl)
    (pss_one (ps_set (i := 1) scLalong.nd rfl (Or.inl rfl) (pe_ix ix_tup (pv 1) pe_int (fun _ _ => rfl)))))) (pss_one (ps_if (pt_cmpR op_eq (pe_ix ix_tup (pv 1) pe_int (fun _ _ => rfl)) pe_str (nomark _)) (pss_one (ps_set (i := 1) scLalong.nd rfl (Or.inl rfl) (pe_ix ix_tup (pv 1) (pe_op op_add pe_int (pe_callTy call_int1 (by rfl) T.m_int (by decide +kernel) (pa_cons (pe_cmpR op_eq (pe_call G_law_value (hr.mono (by omega)) rfl R_law_value.m R_law_value.k R_law_value.b .nil pass0 (pa_cons (pe_ix ix_tup (pv 1) pe_int (fun _ _ => rfl)) (pa_cons (pv 2) pa_nil))) pe_int (nomark _)) pa_nil))) (fun _ _ => rfl)))) (pss_cons (ps_dput (hu_of hr) (pv 2) (pe_ix ix_tup (pv 1) pe_int (fun _ _ => rfl)) (pe_call G_law_value (hr.mono (by omega)) rfl R_law_value.m R_law_value.k R_law_value.b .nil pass0 (pa_cons (pe_ix ix_tup (pv 1) pe_int (fun _ _ => rfl)) (pa_cons (pv 2) pa_nil))) rfl)
    (pss_cons (ps_if (pt_cmpR op_eq (pe_ix ix_tup (pv 1) pe_int (fun _ _ => rfl)) pe_str (nomark _)) (pss_one (ps_expr (pe_bm PySem.F.plainAttrs_list PySem.F.slot_list_append PySem.F.type_list_append mt_append (pe_dget (hu_of hr) (pv 0) pe_str (fun _ _ => rfl)) (pa_cons (pe_tup (pa_cons pe_str (pa_cons (pe_dget (hu_of hr) (pv 2) (pe_ix ix_tup (pv 1) pe_int (fun _ _ => rfl)) (fun _ _ => rfl)) pa_nil))) pa_nil)))) pss_nil)
    (pss_one (ps_set (i := 1) scLalong.nd rfl (Or.inl rfl) (pe_ix ix_tup (pv 1) pe_int (fun _ _ => rfl)))))))))))
    (pss_cons (ps_if (pt_cmpR op_eq (pe_ix ix_tup (pv 1) pe_int (fun _ _ => rfl)) pe_str (nomark _)) (pss_one (ps_ret (pe_tup (pa_cons pe_str (pa_cons (pe_call G_law_value (hr.mono (by omega)) rfl R_law_value.m R_law_value.k R_law_value.b .nil pass0 (pa_cons (pe_ix ix_tup (pv 1) pe_int (fun _ _ => rfl)) (pa_cons (pv 2) pa_nil))) (pa_cons (pe_dget (hu_of hr) (pv 3) (pe_ix ix_tup (pv 1) pe_int (fun _ _ => rfl)) (fun _ _ => rfl)) pa_nil)))))) pss_nil)
    (pss_one (ps_ret (pe_tup (pa_cons pe_str (pa_cons (pe_ix ix_tup (pv 1) pe_int (fun _ _ => rfl)) (pa_cons (pe_callTy call_tuple_of (by rfl) T.m_tuple (by decide +kernel) (pa_cons (pe_lc (own := [("one", 4)]) (g := gName 4) (by rfl) scLalong.nd (pi_tup (pe_ix ix_tup (pv 1) pe_int (fun _ _ => rfl))) (blkOk_by (own := [("one", 4)]) (N := ["now", "part", "names", "hands", "one"]) (sc := defScope s_law_along) (by decide +kernel)) (fun _ _ _ _ _ => (pg_name (i := 4) scLalong.nd rfl (Or.inl rfl))) (fun _ _ _ _ _ => pts_nil) (fun _ _ _ _ _ => (pe_call G_law_value (hr.mono (by omega)) rfl R_law_value.m R_law_value.k R_law_value.b .nil pass0 (pa_cons (pv 4) (pa_cons (pv 2) pa_nil))))) pa_nil)) (pa_cons (pe_dget (hu_of hr) (pv 3) (pe_ix ix_tup (pv 1) pe_int (fun _ _ => rfl)) (fun _ _ => rfl)) pa_nil))))))))), ?_⟩
  refine ⟨AlongInv es hd c0 nd tl nm hb H, ⟨_, c0, pa, tv, n, rfl, rfl, .refl c0, hno, wf0, N, R, FrA.refl _ _, fun _ _ z => z⟩, ?_⟩
  clear N R
  rintro m σ H1 ⟨c, pa, tv, n, rfl, rfl, hr0, hno1, wf, N, R, fr, tk⟩
  obtain ⟨xs, js, I⟩ := wf.at_
  obtain ⟨pt, hpt⟩ : ∃ pt, c.part = pt := ⟨_, rfl⟩
  have hok : rP hd pt xs js := hpt ▸ I.ok
  have hsz1 := hr0.sz E0 wf0
  have hA : PAt H1 pt pa := hpt ▸ R.p
  obtain ⟨r0, hhd⟩ := hA.head
  refine ⟨_, rfl, pa, _, _, _, rfl, rfl, SqT.of hhd, at0, sz (by show 2 ≤ 100000; decide), fun tp htp => ?_⟩
  have s2 := same_new htp (.tup [.str "give", .str "ask"])
  refine ⟨tp, _, rfl, .inr (SqT.of upd_same), rfl, rfl, _, rfl, ?_⟩
  have N := N.same s2
  have R := R.same s2
  have fr := fr.trans (fr_same s2)
  have tk := tk.trans (tk_same s2)
  have hA := PAt.tk (tk_same s2) hA
  have hhd := s2 _ _ hhd
  generalize upd H1 tp (.tup [.str "give", .str "ask"]) = H2 at N R fr tk hA hhd
  obtain ⟨kvn, w1, w2, w3⟩ := R.e
  obtain ⟨kvs, d1, d2, d3⟩ := R.h
  have hn : n + pcnt pt ≤ 1000 := hpt ▸ R.n
  have step : ∀ H' c2, stepT es c = c2 → c2.fin = .no → ∀ pa2 tv2 n2, NowL H' nd tl c2 tv2 → AroundL [nd, tl, nm, hb] H' c2 pa2 nm hb n2 → FrA [nd, tl, nm, hb] H2 H' → TK H2 H' → ∃ m', m' < muT c ∧ AlongInv es hd c0 nd tl nm hb H m' [some (.ref nd), some (.ref pa2), some (.ref nm), some (.ref hb), none] H' := fun H' c2 e f2 pa2 tv2 n2 N2 R2 fr2 tk2 => by
    obtain ⟨a, b⟩ := wf_stepT E0 wf
    rw [e] at a b
    exact ⟨_, b, c2, pa2, tv2, n2, rfl, rfl, by rw [← e]; exact .snoc hr0 hno1, f2, a.resolve_right fun z => z f2, N2, R2, fr.trans fr2, tk.trans tk2⟩
  have sub : ∀ {Hx : Hp} {i : Nat} {v : V}, LHon [nd, tl, nm, hb] Hx c.tab i v → LHon [nd, tl] Hx c.tab i v := fun h => h.fresh fun a ha => .inl (by
    rcases List.mem_cons.mp ha with z | z
    · rw [z]; exact List.mem_cons_self
    · rw [List.mem_singleton.mp z]; exact List.mem_cons_of_mem _ List.mem_cons_self)
  cases pt with
  | give j t =>
    obtain ⟨b, h1, h2⟩ := id hA
    obtain ⟨i, hi⟩ := I.h j hok.1
    obtain ⟨v, hv, hv2⟩ := d3 j i hi
    refine itF rfl ?_
    refine ⟨_, rfl, pa, _, _, _, rfl, rfl, SqT.of hhd, at0, rfl, _, rfl, itT rfl ?_⟩
    refine ⟨_, rfl, pa, _, _, _, rfl, rfl, SqT.of h1, at2, _, rfl, b, nm, t, c.env, kvn, rfl, h2, hok.2.si, hok.2.ht, hok.2.n _ I.e, w1, w3, fun H3 s3 => ?_⟩
    refine ⟨_, rfl, _, rfl, pa, _, _, _, rfl, rfl, SqT.of (s3 _ _ h1), at1, hb, v, rfl, get_of (s3 _ _ d1) hv2, sz (by show 3 ≤ 100000; decide), fun qa hqa => ?_⟩
    have s4 := s3.trans (same_new hqa (.tup [.str "give", .int (evS c.env t), v]))
    exact q _ qa c tv (.give (evS c.env t) i) hr0 hno1 wf (step_give hpt hi) (I.b j i hi).1 (N.same s4) ⟨v, upd_same, sub (hv.keep (fun _ _ z => z) (fr_same s4) (tk_same s4))⟩ (fr.trans (fr_same s4)) (tk.trans (tk_same s4))
  | ask f ts j =>
    obtain ⟨qq, vs, h1, h2, h3⟩ := id hA
    obtain ⟨i, hi⟩ := I.h j hok.1
    obtain ⟨v, hv, hv2⟩ := d3 j i hi
    have hl3 := h3.len
    have hl4 := hok.2.2.2.1
    refine itF rfl ?_
    refine ⟨_, rfl, pa, _, _, _, rfl, rfl, SqT.of hhd, at0, rfl, _, rfl, itF rfl ?_⟩
    refine ⟨_, rfl, pa, _, _, _, rfl, rfl, SqT.of h1, at1, ?_⟩
    refine ⟨_, rfl, pa, _, _, _, rfl, rfl, SqT.of h1, at2, qq, rfl, ⟨_, SqT.of h2⟩, fun D hD => lc_tup (K := K) (a := qq) (xs := vs) (fun k H' => Same H2 H' ∧ H' D = some (.lst (((ts.take k).map (evS c.env)).map V.int))) ⟨same_new hD _, upd_same⟩ ?_ ?_ ?_⟩
    · rintro k H' _ ⟨sB, _⟩
      exact SqT.of (sB _ _ h2)
    · rintro k x H3 hx ⟨s3, h3'⟩
      obtain ⟨u, hu, b, rfl, hb4⟩ := h3.get hx
      have hum := hok.2.2.2.2 u (mem_of_get hu)
      obtain ⟨hi', hi2⟩ := List.getElem?_eq_some_iff.mp hu
      refine ⟨rfl, ?_⟩
      dsimp only [tYes]
      refine iteT ⟨_, rfl, _, rfl, b, nm, u, c.env, kvn, rfl, hb4.mono s3, hum.si, hum.ht, hum.n _ I.e, s3 _ _ w1, w3, fun H4 s4 => ?_⟩
      have h5 := s4 _ _ h3'
      refine ⟨_, h5, Nat.lt_of_le_of_lt (m := 100) (by rw [List.length_map, List.length_map, List.length_take]; omega) (by decide), same_mut (s3.trans s4) hD, ?_⟩
      rw [upd_same, List.take_succ_eq_append_getElem hi', hi2, List.map_append, List.map_append]
      rfl
    · rintro H3 ⟨s3, h3'⟩
      rw [hl3, List.take_length] at h3'
      refine ⟨D, _, rfl, .inl ⟨SqL.of h3', fun nb hnb => ?_⟩⟩
      have s4 := s3.trans (same_new hnb (.tup ((ts.map (evS c.env)).map V.int)))
      have n4 : upd H3 nb (.tup ((ts.map (evS c.env)).map V.int)) nb = some (.tup ((ts.map (evS c.env)).map V.int)) := upd_same
      generalize upd H3 nb (.tup ((ts.map (evS c.env)).map V.int)) = H4 at s4 n4 ⊢
      refine ⟨_, rfl, _, rfl, pa, _, _, _, rfl, rfl, SqT.of (s4 _ _ h1), at3, hb, v, rfl, get_of (s4 _ _ d1) hv2, sz (by show 4 ≤ 100000; decide), fun qa hqa => ?_⟩
      have s5 := same_new hqa (.tup [.str "ask", .str f, .ref nb, v])
      have s6 := s4.trans s5
      exact q _ qa c tv (.ask f (ts.map (evS c.env)) i) hr0 hno1 wf (step_ask hpt hi) ⟨by rw [List.length_map]; exact hok.2.2.1, (I.b j i hi).1⟩ (N.same s6) ⟨nb, v, upd_same, s5 _ _ n4, sub (hv.keep (fun _ _ z => z) (fr_same s6) (tk_same s6))⟩ (fr.trans (fr_same s6)) (tk.trans (tk_same s6))
  | tell x t p =>
    obtain ⟨b, cc, h1, h2, h3⟩ := id hA
    have hok : isW x = true ∧ RTm xs t ∧ rP hd p (xs ++ [x]) js := hok
    have hpc : pcnt (Pt.tell x t p) = 1 + pcnt p := rfl
    refine itT rfl ⟨fun σ' H' => ∃ m', m' < muT c ∧ AlongInv es hd c0 nd tl nm hb H m' σ' H', fun _ _ z => z, ?_⟩
    refine ⟨_, rfl, pa, _, _, _, rfl, rfl, SqT.of hhd, at0, rfl, _, rfl, itF rfl ?_⟩
    refine ⟨_, rfl, pa, _, _, _, rfl, rfl, SqT.of hhd, at0, rfl, _, rfl, itF rfl ?_⟩
    have es1 : stepT es c = { c with trail := c.trail ++ [.tell (evS c.env t)], env := setE c.env x (evS c.env t), part := p } := by
      obtain ⟨m, a, tr, fi, dd, md, pt, env, hs, tab, lim⟩ := c
      have h : pt = .tell x t p := hpt
      subst h
      rfl
    refine ⟨_, rfl, pa, _, _, _, rfl, rfl, SqT.of h1, at2, _, rfl, b, nm, t, c.env, kvn, rfl, h2, hok.2.1.si, hok.2.1.ht, hok.2.1.n _ I.e, w1, w3, fun H3 s3 => ?_⟩
    have w13 := s3 _ _ w1
    refine ⟨_, rfl, _, rfl, pa, _, _, _, rfl, rfl, SqT.of (s3 _ _ h1), at1, nm, _, rfl, DPut.k (k := Sum.inr x) w13 (big (by omega)), ?_⟩
    have N3 := N.same s3
    have R3 := R.same s3
    have tk4 : TK H3 (upd H3 nm (.dK (putK kvn (Sum.inr x) (.int (evS c.env t))))) := tk_putD w13
    have fr4 : FrA [nd, tl, nm, hb] H3 (upd H3 nm (.dK (putK kvn (Sum.inr x) (.int (evS c.env t))))) := fr_upd (by simp) _
    have N4 : NowL (upd H3 nm (.dK (putK kvn (Sum.inr x) (.int (evS c.env t))))) nd tl c tv := ⟨by rw [upd_ne hap.b]; exact N3.n, by rw [upd_ne hap.d]; exact N3.t, N3.te.imp fun _ _ z => z.tk tk4⟩
    have R4 : AroundL [nd, tl, nm, hb] (upd H3 nm (.dK (putK kvn (Sum.inr x) (.int (evS c.env t))))) { c with env := setE c.env x (evS c.env t), part := p } cc nm hb (n + 1) :=
      ⟨PAt.tk tk4 (PAt.tk (tk_same s3) h3), ⟨_, upd_same, Nat.le_trans putK_len (by omega), env_put w3⟩, let ⟨kv, a1, a2, a3⟩ := R3.h; ⟨kv, by rw [upd_ne (Ne.symm hap.f)]; exact a1, by omega, fun j i e => let ⟨v, y1, y2⟩ := a3 j i e; ⟨v, y1.keep (fun _ _ z => z) fr4 tk4, y2⟩⟩, by show n + 1 + pcnt p ≤ 1000; omega⟩
    have w4 : upd H3 nm (.dK (putK kvn (Sum.inr x) (.int (evS c.env t)))) nm = some (.dK (putK kvn (Sum.inr x) (.int (evS c.env t)))) := upd_same
    have h14 := tk4 _ _ (s3 _ _ h1)
    have fr24 : FrA [nd, tl, nm, hb] H2 (upd H3 nm (.dK (putK kvn (Sum.inr x) (.int (evS c.env t))))) := (fr_same s3).trans fr4
    have tk24 : TK H2 (upd H3 nm (.dK (putK kvn (Sum.inr x) (.int (evS c.env t))))) := (tk_same s3).trans tk4
    generalize upd H3 nm (.dK (putK kvn (Sum.inr x) (.int (evS c.env t)))) = H4 at N4 R4 w4 h14 fr24 tk24 ⊢
    clear tk4 fr4 N3 R3 w13
    refine ⟨_, rfl, pa, _, _, _, rfl, rfl, SqT.of h14, at0, rfl, _, rfl, itT rfl ?_⟩
    refine ⟨_, rfl, nd, _, rfl, DGet.k (k := Sum.inr "trail") N4.n, .inl ⟨rfl, _, SqL.of N4.t⟩, _, rfl, _, rfl, pa, _, _, _, rfl, rfl, SqT.of h14, at1, nm, _, rfl, get_of w4 (by rw [valV_put, if_pos rfl]), sz (by show 2 ≤ 100000; decide), fun tq htq => ?_⟩
    have s5 := same_new htq (.tup [.str "tell", .int (evS c.env t)])
    have N5 := N4.same s5
    have R5 := R4.same s5
    have q5 : upd H4 tq (.tup [.str "tell", .int (evS c.env t)]) tq = some (.tup [.str "tell", .int (evS c.env t)]) := upd_same
    have h15 := s5 _ _ h14
    have fr25 := fr24.trans (fr_same s5)
    have tk25 := tk24.trans (tk_same s5)
    generalize upd H4 tq (.tup [.str "tell", .int (evS c.env t)]) = H5 at N5 R5 q5 h15 fr25 tk25 ⊢
    have hln := N5.te.len
    have hct : c.trail.length ≤ szT c := by unfold szT; omega
    refine ⟨tl, _, _, rfl, rfl, N5.t, big (by omega), ?_⟩
    have tk6 : TK H5 (upd H5 tl (.lst (tv ++ [.ref tq]))) := tk_put N5.t
    have fr6 : FrA [nd, tl, nm, hb] H5 (upd H5 tl (.lst (tv ++ [.ref tq]))) := fr_upd (by simp) _
    refine ⟨_, rfl, pa, _, _, _, rfl, rfl, SqT.of (tk6 _ _ h15), at3, ?_⟩
    refine step _ _ es1 hno1 cc (tv ++ [.ref tq]) (n + 1) ⟨by rw [upd_ne hap.a]; exact N5.n, upd_same, (N5.te.imp fun _ _ z => z.tk tk6).app ⟨⟨tq, rfl, tk6 _ _ q5⟩, trivial⟩⟩ ?_ (fr25.trans fr6) (tk25.trans tk6)
    have R6 := R5.keep fr6 tk6 (fun _ h => by rw [upd_ne (Ne.symm hap.d)]; exact h) fun _ h => by rw [upd_ne (Ne.symm hap.e)]; exact h
    exact ⟨R6.p, R6.e, R6.h, R6.n⟩
  | lett x t p =>
    obtain ⟨b, cc, h1, h2, h3⟩ := id hA
    have hok : isW x = true ∧ RTm xs t ∧ rP hd p (xs ++ [x]) js := hok
    have hpc : pcnt (Pt.lett x t p) = 1 + pcnt p := rfl
    refine itT rfl ⟨fun σ' H' => ∃ m', m' < muT c ∧ AlongInv es hd c0 nd tl nm hb H m' σ' H', fun _ _ z => z, ?_⟩
    refine ⟨_, rfl, pa, _, _, _, rfl, rfl, SqT.of hhd, at0, rfl, _, rfl, itF rfl ?_⟩
    refine ⟨_, rfl, pa, _, _, _, rfl, rfl, SqT.of hhd, at0, rfl, _, rfl, itF rfl ?_⟩
    have es1 : stepT es c = { c with env := setE c.env x (evS c.env t), part := p } := by
      obtain ⟨m, a, tr, fi, dd, md, pt, env, hs, tab, lim⟩ := c
      have h : pt = .lett x t p := hpt
      subst h
      rfl
    refine ⟨_, rfl, pa, _, _, _, rfl, rfl, SqT.of h1, at2, _, rfl, b, nm, t, c.env, kvn, rfl, h2, hok.2.1.si, hok.2.1.ht, hok.2.1.n _ I.e, w1, w3, fun H3 s3 => ?_⟩
    have w13 := s3 _ _ w1
    refine ⟨_, rfl, _, rfl, pa, _, _, _, rfl, rfl, SqT.of (s3 _ _ h1), at1, nm, _, rfl, DPut.k (k := Sum.inr x) w13 (big (by omega)), ?_⟩
    have N3 := N.same s3
    have R3 := R.same s3
    have tk4 : TK H3 (upd H3 nm (.dK (putK kvn (Sum.inr x) (.int (evS c.env t))))) := tk_putD w13
    have fr4 : FrA [nd, tl, nm, hb] H3 (upd H3 nm (.dK (putK kvn (Sum.inr x) (.int (evS c.env t))))) := fr_upd (by simp) _
    have N4 : NowL (upd H3 nm (.dK (putK kvn (Sum.inr x) (.int (evS c.env t))))) nd tl c tv := ⟨by rw [upd_ne hap.b]; exact N3.n, by rw [upd_ne hap.d]; exact N3.t, N3.te.imp fun _ _ z => z.tk tk4⟩
    have R4 : AroundL [nd, tl, nm, hb] (upd H3 nm (.dK (putK kvn (Sum.inr x) (.int (evS c.env t))))) { c with env := setE c.env x (evS c.env t), part := p } cc nm hb (n + 1) :=
      ⟨PAt.tk tk4 (PAt.tk (tk_same s3) h3), ⟨_, upd_same, Nat.le_trans putK_len (by omega), env_put w3⟩, let ⟨kv, a1, a2, a3⟩ := R3.h; ⟨kv, by rw [upd_ne (Ne.symm hap.f)]; exact a1, by omega, fun j i e => let ⟨v, y1, y2⟩ := a3 j i e; ⟨v, y1.keep (fun _ _ z => z) fr4 tk4, y2⟩⟩, by show n + 1 + pcnt p ≤ 1000; omega⟩
    have w4 : upd H3 nm (.dK (putK kvn (Sum.inr x) (.int (evS c.env t)))) nm = some (.dK (putK kvn (Sum.inr x) (.int (evS c.env t)))) := upd_same
    have h14 := tk4 _ _ (s3 _ _ h1)
    have fr24 : FrA [nd, tl, nm, hb] H2 (upd H3 nm (.dK (putK kvn (Sum.inr x) (.int (evS c.env t))))) := (fr_same s3).trans fr4
    have tk24 : TK H2 (upd H3 nm (.dK (putK kvn (Sum.inr x) (.int (evS c.env t))))) := (tk_same s3).trans tk4
    generalize upd H3 nm (.dK (putK kvn (Sum.inr x) (.int (evS c.env t)))) = H4 at N4 R4 w4 h14 fr24 tk24 ⊢
    clear tk4 fr4 N3 R3 w13
    refine ⟨_, rfl, pa, _, _, _, rfl, rfl, SqT.of h14, at0, rfl, _, rfl, itF rfl ?_⟩
    refine ⟨_, rfl, pa, _, _, _, rfl, rfl, SqT.of h14, at3, ?_⟩
    exact step _ _ es1 hno1 cc tv (n + 1) ⟨N4.n, N4.t, N4.te⟩ R4 fr24 tk24
  | iff t p p2 =>
    obtain ⟨b, cc, d, h1, h2, h3, h4⟩ := id hA
    have hok : RTm xs t ∧ rP hd p xs js ∧ rP hd p2 xs js := hok
    have hpc : pcnt (Pt.iff t p p2) = 1 + pcnt p + pcnt p2 := rfl
    refine itT rfl ⟨fun σ' H' => ∃ m', m' < muT c ∧ AlongInv es hd c0 nd tl nm hb H m' σ' H', fun _ _ z => z, ?_⟩
    refine ⟨_, rfl, pa, _, _, _, rfl, rfl, SqT.of hhd, at0, rfl, _, rfl, itF rfl ?_⟩
    refine ⟨_, rfl, pa, _, _, _, rfl, rfl, SqT.of hhd, at0, rfl, _, rfl, itT rfl ?_⟩
    refine ⟨_, rfl, _, rfl, pa, _, _, _, rfl, rfl, SqT.of h1, at1, _, rfl, b, nm, t, c.env, kvn, rfl, h2, hok.1.si, hok.1.ht, hok.1.n _ I.e, w1, w3, fun H3 s3 => ?_⟩
    by_cases hz : evS c.env t = 0
    · have es1 : stepT es c = { c with part := p2 } := by
        obtain ⟨m, a, tr, fi, dd, md, pt, env, hs, tab, lim⟩ := c
        have h : pt = .iff t p p2 := hpt
        subst h
        show CT.mk _ _ _ _ _ _ (if evS env t = 0 then p2 else p) _ _ _ _ = _
        rw [if_pos (show evS env t = 0 from hz)]
      refine ⟨rfl, .inr ⟨_, rfl, _, _, rfl, rfl, pa, _, 3, .ref d, rfl, ?_, SqT.of (s3 _ _ h1), at3, ?_⟩⟩
      · rw [hz]
        rfl
      exact step H3 _ es1 hno1 d tv n ⟨(N.same s3).n, (N.same s3).t, (N.same s3).te⟩ ⟨PAt.tk (tk_same s3) h4, (R.same s3).e, (R.same s3).h, by show n + pcnt p2 ≤ 1000; omega⟩ (fr_same s3) (tk_same s3)
    · have es1 : stepT es c = { c with part := p } := by
        obtain ⟨m, a, tr, fi, dd, md, pt, env, hs, tab, lim⟩ := c
        have h : pt = .iff t p p2 := hpt
        subst h
        show CT.mk _ _ _ _ _ _ (if evS env t = 0 then p2 else p) _ _ _ _ = _
        rw [if_neg (show ¬ evS env t = 0 from hz)]
      refine ⟨rfl, .inr ⟨_, rfl, _, _, rfl, rfl, pa, _, 2, .ref cc, rfl, ?_, SqT.of (s3 _ _ h1), at2, ?_⟩⟩
      · rw [decide_eq_false (fun z => hz (V.int.inj z))]
        rfl
      exact step H3 _ es1 hno1 cc tv n ⟨(N.same s3).n, (N.same s3).t, (N.same s3).te⟩ ⟨PAt.tk (tk_same s3) h3, (R.same s3).e, (R.same s3).h, by show n + pcnt p ≤ 1000; omega⟩ (fr_same s3) (tk_same s3)
  | post j x p p2 =>
    obtain ⟨cc, d, h1, h2, h3⟩ := id hA
    have hok : isW j = true ∧ isW x = true ∧ rP hd p (xs ++ [x]) js ∧ rP hd p2 xs (js ++ [j]) := hok
    have hpc : pcnt (Pt.post j x p p2) = 1 + pcnt p + pcnt p2 := rfl
    refine itT rfl ⟨fun σ' H' => ∃ m', m' < muT c ∧ AlongInv es hd c0 nd tl nm hb H m' σ' H', fun _ _ z => z, ?_⟩
    refine ⟨_, rfl, pa, _, _, _, rfl, rfl, SqT.of hhd, at0, rfl, _, rfl, itT rfl ?_⟩
    obtain ⟨i, hi⟩ := I.h _ I.m
    have hat : hAt c.hs "home" = i := by
      unfold hAt
      rw [hi]
      rfl
    have es1 : stepT es c = { c with made := c.made + 1, tab := c.tab ++ [⟨x, p, c.env, c.hs, hiAt c.tab i + 1, pcnt p + c.lim⟩], hs := setH c.hs j (c.tab.length + 1), part := p2, lim := pcnt p + c.lim } := by
      rw [← hat]
      obtain ⟨m, a, tr, fi, dd, md, pt, env, hs, tab, lim⟩ := c
      have h : pt = .post j x p p2 := hpt
      subst h
      rfl
    -- now["made"]
    refine ⟨_, rfl, nd, _, rfl, DGet.k (k := Sum.inr "made") N.n, _, _, rfl, rfl, _, rfl, nd, _, rfl, DPut.k (k := Sum.inr "made") N.n (big (by show 4 ≤ _; decide)), ?_⟩
    have tk3 : TK H2 (upd H2 nd (.dK (putK (nowK tl c.deepest c.made c.asked) (Sum.inr "made") (.int (c.made + 1))))) := tk_putD N.n
    have fr3 : FrA [nd, tl, nm, hb] H2 (upd H2 nd (.dK (putK (nowK tl c.deepest c.made c.asked) (Sum.inr "made") (.int (c.made + 1))))) := fr_upd (by simp) _
    have N3 : NowL (upd H2 nd (.dK (putK (nowK tl c.deepest c.made c.asked) (Sum.inr "made") (.int (c.made + 1))))) nd tl { c with made := c.made + 1 } tv := ⟨by rw [upd_same]; rfl, by rw [upd_ne (Ne.symm hap.a)]; exact N.t, N.te.imp fun _ _ z => z.tk tk3⟩
    have R3 := R.keep fr3 tk3 (fun _ h => by rw [upd_ne (Ne.symm hap.b)]; exact h) fun _ h => by rw [upd_ne (Ne.symm hap.c)]; exact h
    generalize upd H2 nd (.dK (putK (nowK tl c.deepest c.made c.asked) (Sum.inr "made") (.int (c.made + 1)))) = H3 at tk3 fr3 N3 R3 ⊢
    obtain ⟨kvn, w1, w2, w3⟩ := R3.e
    obtain ⟨kvs, d1, d2, d3⟩ := R3.h
    obtain ⟨v, hv, hv2⟩ := d3 _ i hi
    obtain ⟨hq, hr', rfl, hh, _⟩ := lhon_h hv
    have h13 := tk3 _ _ h1
    refine ⟨_, rfl, hb, _, rfl, get_of d1 hv2, hq, _, _, _, rfl, rfl, SqT.of hh, at0, _, _, rfl, rfl, ?_⟩
    refine ⟨_, rfl, pa, _, _, _, rfl, rfl, SqT.of h13, at2, _, rfl, pa, _, _, _, rfl, rfl, SqT.of h13, at3, ?_⟩
    refine ⟨_, rfl, nm, kvn, rfl, .inl w1, fun nb hnb => ?_⟩
    have s4 := same_new hnb (.dK kvn)
    refine ⟨_, rfl, hb, kvs, rfl, .inl (s4 _ _ d1), fun hb2 hhb2 => ?_⟩
    have s5 := same_new hhb2 (.dK kvs)
    refine ⟨sz (by show 5 ≤ 100000; decide), fun tq htq => ?_⟩
    have s6 := same_new htq (.tup [.int (hiAt c.tab i + 1), .str x, .ref cc, .ref nb, .ref hb2])
    have s36 := (s4.trans s5).trans s6
    have hq6 : upd (upd (upd H3 nb (.dK kvn)) hb2 (.dK kvs)) tq (.tup [.int (hiAt c.tab i + 1), .str x, .ref cc, .ref nb, .ref hb2]) tq = some (.tup [.int (hiAt c.tab i + 1), .str x, .ref cc, .ref nb, .ref hb2]) := upd_same
    have nb6 : upd (upd (upd H3 nb (.dK kvn)) hb2 (.dK kvs)) tq (.tup [.int (hiAt c.tab i + 1), .str x, .ref cc, .ref nb, .ref hb2]) nb = some (.dK kvn) := s6 _ _ (s5 _ _ upd_same)
    have hb6 : upd (upd (upd H3 nb (.dK kvn)) hb2 (.dK kvs)) tq (.tup [.int (hiAt c.tab i + 1), .str x, .ref cc, .ref nb, .ref hb2]) hb2 = some (.dK kvs) := s6 _ _ upd_same
    have nbA : nb ∉ [nd, tl, nm, hb] := fun z => by
      rcases List.mem_cons.mp z with z | z
      · rw [z, N3.n] at hnb; cases hnb
      rcases List.mem_cons.mp z with z | z
      · rw [z, N3.t] at hnb; cases hnb
      rcases List.mem_cons.mp z with z | z
      · rw [z, w1] at hnb; cases hnb
      · rw [List.mem_singleton.mp z, d1] at hnb; cases hnb
    have hbA : hb2 ∉ [nd, tl, nm, hb] := fun z => by
      have hhb3 := s4.free hhb2
      rcases List.mem_cons.mp z with z | z
      · rw [z, N3.n] at hhb3; cases hhb3
      rcases List.mem_cons.mp z with z | z
      · rw [z, N3.t] at hhb3; cases hhb3
      rcases List.mem_cons.mp z with z | z
      · rw [z, w1] at hhb3; cases hhb3
      · rw [List.mem_singleton.mp z, d1] at hhb3; cases hhb3
    have N6 := N3.same s36
    have R6 := R3.same s36
    have h16 := s36 _ _ h13
    have fr6 := fr3.trans (fr_same s36)
    have tk6 := tk3.trans (tk_same s36)
    have h26 := PAt.tk tk6 h2
    have h36 := PAt.tk tk6 h3
    have d16 := s36 _ _ d1
    have w16 := s36 _ _ w1
    have hv6 : ∀ i' v, LHon [nd, tl, nm, hb] H3 c.tab i' v → LHon [nd, tl, nm, hb] (upd (upd (upd H3 nb (.dK kvn)) hb2 (.dK kvs)) tq (.tup [.int (hiAt c.tab i + 1), .str x, .ref cc, .ref nb, .ref hb2])) c.tab i' v := fun i' v h => h.keep (fun _ _ z => z) (fr_same s36) (tk_same s36)
    generalize upd (upd (upd H3 nb (.dK kvn)) hb2 (.dK kvs)) tq (.tup [.int (hiAt c.tab i + 1), .str x, .ref cc, .ref nb, .ref hb2]) = H6 at s36 hq6 nb6 hb6 N6 R6 h16 fr6 tk6 h26 h36 d16 w16 hv6 ⊢
    refine ⟨_, rfl, _, rfl, pa, _, _, _, rfl, rfl, SqT.of h16, at1, hb, _, rfl, DPut.k (k := Sum.inr j) d16 (big (by omega)), ?_⟩
    have tk7 : TK H6 (upd H6 hb (.dK (putK kvs (Sum.inr j) (.ref tq)))) := tk_putD d16
    have fr7 : FrA [nd, tl, nm, hb] H6 (upd H6 hb (.dK (putK kvs (Sum.inr j) (.ref tq)))) := fr_upd (by simp) _
    refine ⟨_, rfl, pa, _, _, _, rfl, rfl, SqT.of (tk7 _ _ h16), at4, ?_⟩
    refine step _ _ es1 hno1 d tv (n + 1) ⟨by rw [upd_ne hap.c]; exact N6.n, by rw [upd_ne hap.e]; exact N6.t, N6.te.imp fun _ _ z => z.tk tk7⟩ ⟨PAt.tk tk7 h36, ⟨kvn, by rw [upd_ne hap.f]; exact w16, by omega, w3⟩, ⟨_, upd_same, Nat.le_trans putK_len (by omega), fun y k hy => ?_⟩, by show n + 1 + pcnt p2 ≤ 1000; omega⟩ (fr6.trans fr7) (tk6.trans tk7)
    have hy : (if y = j then some (c.tab.length + 1) else c.hs y) = some k := hy
    have old : ∀ i' v, LHon [nd, tl, nm, hb] H3 c.tab i' v → LHon [nd, tl, nm, hb] (upd H6 hb (.dK (putK kvs (Sum.inr j) (.ref tq)))) (c.tab ++ [⟨x, p, c.env, c.hs, hiAt c.tab i + 1, pcnt p + c.lim⟩]) i' v := fun i' v h => (hv6 i' v h).keep tab_app fr7 tk7
    rw [valV_put]
    by_cases ey : y = j
    · rw [if_pos ey] at hy
      cases hy
      rw [if_pos (by rw [ey])]
      refine ⟨_, ?_, rfl⟩
      have hf : ∀ y k, c.hs y = some k → ∃ u, valV kvs (Sum.inr y) = some u ∧ LHon [nd, tl, nm, hb] H3 c.tab k u := fun y k e => by
        obtain ⟨u, z1, z2⟩ := d3 y k e
        exact ⟨u, z2, z1⟩
      refine .mk c.tab.length _ tq cc nb hb2 n kvn kvs (fun y => (valV kvs (Sum.inr y)).getD .non) (by rw [List.getElem?_append_right (Nat.le_refl _), Nat.sub_self]; rfl) (tk7 _ _ hq6) (PAt.tk tk7 h26) nbA hbA (fr7 _ _ nbA nb6) w2 w3 (fr7 _ _ hbA hb6) d2 (by show n + 1 + pcnt p ≤ 1000; omega) (fun y k e => ?_) fun y k e => ?_
      · obtain ⟨u, z1, z2⟩ := hf y k e
        show _ = some ((valV kvs (Sum.inr y)).getD .non)
        rw [z1]
        rfl
      · obtain ⟨u, z1, z2⟩ := hf y k e
        show LHon _ _ _ k ((valV kvs (Sum.inr y)).getD .non)
        rw [z1]
        exact old k u z2
    · rw [if_neg ey] at hy
      rw [if_neg (fun z => ey (Sum.inr.inj z))]
      obtain ⟨u, z1, z2⟩ := d3 y k hy
      exact ⟨u, old k u z1, z2⟩
end
end KB

namespace KB
open PySem L2 HT LamX NdefX

theorem envOf_snoc {w : Str} {z : Int} {x : Str} : ∀ {xs : List Str} {ms : List Int}, xs.length = ms.length → w ∉ xs → envOf (xs ++ [w]) (ms ++ [z]) x = if x = w then some z else envOf xs ms x
  | [], [], _, _ => by
    show (if x = w then some z else none) = _
    rfl
  | [], _ :: _, h, _ => by simp at h
  | _ :: _, [], h, _ => by simp at h
  | y :: xs, n :: ms, h, hw => by
    show (if x = y then some n else envOf (xs ++ [w]) (ms ++ [z]) x) = if x = w then some z else (if x = y then some n else envOf xs ms x)
    rw [envOf_snoc (by simpa using h) (fun e => hw (List.mem_cons_of_mem _ e))]
    by_cases c : x = w
    · rw [if_pos c, if_pos c]
      by_cases d : x = y
      · exact absurd (by rw [← c, d]; exact List.mem_cons_self) hw
      · rw [if_neg d]
    · rw [if_neg c, if_neg c]
theorem fr_new {A : List Addr} {H0 H H' : Hp} (s : Same H0 H) (f : FrA A H H') (hA : ∀ a ∈ A, H0 a = none) : Same H0 H' := fun b o hb => f b o (fun z => by rw [hA b z] at hb; cases hb) (s b o hb)
section
variable {P : Program} {w : World} {K : PySem.W.Frag} {mg : Str → Option Value} {base : Heap}
/-! ### _law_turned_run -/
def spLRunT : Sp := fun vs H Q _ => ∃ (bk nb : Addr) (es : List TEr) (us : List V) (hd : Str → Option Nat) (e : TEr) (ns : List Int) (m : Nat), vs = [.ref bk, .str e.1, .ref nb, .int m] ∧ TBkAt H es us bk ∧ (es.map (·.1)).Nodup ∧ es.length ≤ 6 ∧ TEsOk es hd ∧ e ∈ es ∧ e.2.1.length = ns.length ∧
  H nb = some (.tup (ns.map V.int)) ∧ ns.length ≤ 100 ∧ m ≤ 3000 ∧
  ∀ H' q tl tv ev c, Same H H' → H' q = some (.tup [.ref tl, ev, .int c.deepest, .int c.made]) → H' tl = some (.lst tv) → All2 (EvV H') c.trail tv → FeV H' c.fin ev → c.trail.length ≤ 9000000 → RunEnd es m e.1 ns c → Q (.ref q) H'
abbrev s_law_turned_run : Stmt := top 54
theorem scLturned_run : FnScope ["turned", "f", "numbers", "most", "errands", "name", "names", "part", "now", "goes", "words", "k", "hands", "height", "x"] ["turned", "f", "numbers", "most"] (defScope s_law_turned_run) := ⟨rfl, rfl, rfl, by decide +kernel, rfl, by decide +kernel, by decide +kernel⟩
/-- what is known where the law's loop begins anew -/
structure Head (es : List TEr) (hd : Str → Option Nat) (m : Nat) (f : Str) (ns : List Int) (c : CT) (act : Act) : Prop where
  no : c.fin = .no
  mo : c.most = m
  rc : RchT es (askT es (ct0 m) f ns 0) (actT es c act)
  wf : WfT es hd (actT es c act) ∨ (actT es c act).fin ≠ .no
  mu : muT (actT es c act) < muT c
  sz : szT (actT es c act) ≤ 9000000
  tr : c.trail.length ≤ 9000000
  ac : ActOk hd c.tab act
theorem head_next {es : List TEr} {hd : Str → Option Nat} {m : Nat} {f : Str} {ns : List Int} {c c' : CT} {act act' : Act} (E : TEsOk es hd) (h : Head es hd m f ns c act) (wf : WfT es hd (actT es c act)) (r : RchT es (actT es c act) c') (hno : c'.fin = .no) (wf' : WfT es hd c') (ea : stepT es c' = actT es c' act') (hm : c'.most = m)
    (ac : ActOk hd c'.tab act') : Head es hd m f ns c' act' ∧ muT c' < muT c := by
  obtain ⟨a, b⟩ := wf_stepT E wf'
  rw [ea] at a b
  have h1 := (r.wf E wf).2
  have h2 := h.mu
  have h3 := r.sz E wf
  have h4 := h.sz
  have rs : RchT es (actT es c act) (actT es c' act') := by
    rw [← ea]
    exact .snoc r hno
  refine ⟨⟨hno, hm, h.rc.trans rs, a, b, Nat.le_trans (rs.sz E wf) h4, ?_, ac⟩, by omega⟩
  unfold szT at h3 h4
  omega
theorem reach_most {es : List TEr} {c c' : CT} (h : RchT es c c') : c'.most = c.most := by
  induction h with
  | refl => rfl
  | snoc _ _ ih =>
    rw [← ih]
    unfold stepT askT
    repeat' split
    all_goals rfl
theorem ask_most {es : List TEr} {c : CT} {f : Str} {ns : List Int} {i : Nat} : (askT es c f ns i).most = c.most := by
  unfold askT
  repeat' split
  all_goals rfl
def LoopInv (es : List TEr) (hd : Str → Option Nat) (m : Nat) (f : Str) (ns : List Int) (bk nb ed nd tl : Addr) (H0 : Hp) (k : Nat) (σ : St) (H : Hp) : Prop :=
  ∃ c act q tv o5 o6 o7 o10 o11 o12 o13 o14, σ = [some (.ref bk), some (.str f), some (.ref nb), some (.int m), some (.ref ed), o5, o6, o7, some (.ref nd), some (.ref q), o10, o11, o12, o13, o14] ∧ k = muT c ∧ Head es hd m f ns c act ∧ NowL H nd tl c tv ∧ ActAt [nd, tl] H c.tab q act ∧ ErT H es ed ∧ Same H0 H
def MidL (es : List TEr) (m : Nat) (f : Str) (bk nb ed nd tl : Addr) (H0 : Hp) (X : CT) (σ : St) (H : Hp) : Prop := ∃ o5 q1 o10 o11 o13 o14 pa nm hb tv n, σ = [some (.ref bk), some (.str f), some (.ref nb), some (.int m), some (.ref ed), o5, some (.ref nm), some (.ref pa), some (.ref nd), q1, o10, o11, some (.ref hb), o13, o14] ∧
  NowL H nd tl X tv ∧ nd ≠ nm ∧ tl ≠ nm ∧ AroundL [nd, tl, nm] H X pa nm hb n ∧ ErT H es ed ∧ ed ≠ nm ∧ Same H0 H ∧ H0 nm = none ∧ X.fin = .no
theorem er_fr {A : List Addr} {H H' : Hp} {es : List TEr} {ed : Addr} (h : ErT H es ed) (n : ed ∉ A) (f : FrA A H H') (tk : TK H H') : ErT H' es ed :=
  let ⟨kvs, a, b⟩ := h; ⟨kvs, f _ _ n a, fun e he => let ⟨qa, r, b, c1, c2, c3, c4⟩ := b e he; ⟨qa, r, b, c1, tk _ _ c2, tk _ _ c3, PAt.tk tk c4⟩⟩
theorem ok_lrunT (T : Txt K mg) {f f1 : Addr} {fd d1 : FuncData} (F : Fun K "_law_turned_run" "_law_turned_run" s_law_turned_run f fd) (G_law_along : FnOk P w K mg base CX0 65 f1 d1 ["now", "part", "names", "hands"] spAlong) (R_law_along : Ref K mg "_law_along" f1 d1 ["now", "part", "names", "hands"]) : FnOk P w K mg base CX0 66 f fd ["turned", "f", "numbers", "most"] spLRunT := by
  refine F.ok scLturned_run (fun vs H Q E h => ?_) (fun cdv A outer s H vs Q E hr h => ?_)
  · obtain ⟨bk, nb, es, us, hd, e, ns, m, rfl, _⟩ := h
    rfl
  obtain ⟨bk, nb, es, us, hd, e, ns, m, rfl, hB, hnd, h6, E0, he, hen, hnb, hl, hm, q⟩ := h
  refine ⟨_, (pss_cons (ps_set (i := 4) scLturned_run.nd rfl (Or.inl rfl) pe_dnewK)
    (pss_cons (ps_for PassesOwn.never rfl (pi_tup (pv 0)) (pg_tup rfl (pgs_cons (pg_name (i := 5) scLturned_run.nd rfl (Or.inl rfl)) (pgs_cons (pg_name (i := 6) scLturned_run.nd rfl (Or.inl rfl)) (pgs_cons (pg_name (i := 7) scLturned_run.nd rfl (Or.inl rfl)) pgs_nil)))) (pss_one (ps_dput (hu_of hr) (pv 4) (pv 5) (pe_tup (pa_cons (pv 6) (pa_cons (pv 7) pa_nil))) rfl)))
    (pss_cons (ps_set (i := 8) scLturned_run.nd rfl (Or.inl rfl) (pe_disp (pps_cons pe_str (pe_lst pa_nil) (pps_cons pe_str pe_int (pps_cons pe_str pe_int (pps_cons pe_str pe_int pps_nil)))) (by rfl) (by rfl) (fun z => by cases z) (by decide)))
    (pss_cons (ps_set (i := 9) scLturned_run.nd rfl (Or.inl rfl) (pe_tup (pa_cons pe_str (pa_cons (pv 1) (pa_cons (pv 2) (pa_cons (pe_tup (pa_cons pe_int pa_nil)) pa_nil))))))
    (pss_one (ps_while PassesOwn.never (pt_val pe_bl) (pss_cons (ps_if (PW.pt (pw_and (pt_cmpR op_eq (pe_ix ix_tup (pv 9) pe_int (fun _ _ => rfl)) pe_str (nomark _)) (pw_and1 (pt_cmpR op_eq (pe_callB call_len_seq (by rfl) T.m_len PySem.boot_len (pa_cons (pe_ix ix_tup (pv 9) pe_int (fun _ _ => rfl)) pa_nil)) pe_int (nomark _))))) (pss_one (ps_ret (pe_tup (pa_cons (pe_dget (hu_of hr) (pv 8) pe_str (fun _ _ => rfl)) (pa_cons (pe_tup (pa_cons pe_str (pa_cons (pe_ix ix_tup (pv 9) pe_int (fun _ _ => rfl)) pa_nil))) (pa_cons (pe_dget (hu_of hr) (pv 8) pe_str (fun _ _ => rfl)) (pa_cons (pe_dget (hu_of hr) (pv 8) pe_str (fun _ _ => rfl)) pa_nil))))))) pss_nil)
    (pss_cons (ps_if (PW.pt (pw_and (pt_cmpR op_eq (pe_ix ix_tup (pv 9) pe_int (fun _ _ => rfl)) pe_str (nomark _)) (pw_and1 (pt_cmpR op_eq (pe_dget (hu_of hr) (pv 8) pe_str (fun _ _ => rfl)) (pv 3) (nomark _))))) (pss_one (ps_ret (pe_tup (pa_cons (pe_dget (hu_of hr) (pv 8) pe_str (fun _ _ => rfl)) (pa_cons (pe_tup (pa_cons pe_str pa_nil)) (pa_cons (pe_dget (hu_of hr) (pv 8) pe_str (fun _ _ => rfl)) (pa_cons (pe_dget (hu_of hr) (pv 8) pe_str (fun _ _ => rfl)) pa_nil))))))) pss_nil)
    (Evl.pss_cut (ps_if (pt_cmpR op_eq (pe_ix ix_tup (pv 9) pe_int (fun _ _ => rfl)) pe_str (nomark _)) (pss_cons (ps_dput (hu_of hr) (pv 8) pe_str (pe_op op_add (pe_dget (hu_of hr) (pv 8) pe_str (fun _ _ => rfl)) pe_int) rfl)
    (pss_cons (ps_expr (pe_bm PySem.F.plainAttrs_list PySem.F.slot_list_append PySem.F.type_list_append mt_append (pe_dget (hu_of hr) (pv 8) pe_str (fun _ _ => rfl)) (pa_cons (pe_slice sl_tupA (pv 9) po_none (po_some pe_int)) pa_nil)))
    (pss_cons (ps_dput (hu_of hr) (pv 8) pe_str (pe_callB (call_max2 rfl) (by rfl) T.m_max (by decide +kernel) (pa_cons (pe_dget (hu_of hr) (pv 8) pe_str (fun _ _ => rfl)) (pa_cons (pe_ix ix_tup (pe_ix ix_tup (pv 9) pe_int (fun _ _ => rfl)) pe_int (fun _ _ => rfl)) pa_nil))) rfl)
    (pss_cons (ps_asg (pe_dget (hu_of hr) (pv 4) (pe_ix ix_tup (pv 9) pe_int (fun _ _ => rfl)) (fun _ _ => rfl)) (pg_tup rfl (pgs_cons (pg_name (i := 10) scLturned_run.nd rfl (Or.inl rfl)) (pgs_cons (pg_name (i := 7) scLturned_run.nd rfl (Or.inl rfl)) pgs_nil))))
    (pss_cons (ps_set (i := 6) scLturned_run.nd rfl (Or.inl rfl) pe_dnewK)
    (pss_cons (ps_for PassesOwn.never rfl (pi_range1 rfl T.m_range (pa_cons (pe_callB call_len_seq (by rfl) T.m_len PySem.boot_len (pa_cons (pv 10) pa_nil)) pa_nil)) (pg_name (i := 11) scLturned_run.nd rfl (Or.inl rfl)) (pss_one (ps_dput (hu_of hr) (pv 6) (pe_ix ix_tup (pv 10) (pv 11) (fun _ _ => rfl)) (pe_ix ix_tup (pe_ix ix_tup (pv 9) pe_int (fun _ _ => rfl)) (pv 11) (fun _ _ => rfl)) rfl)))
    (pss_one (ps_set (i := 12) scLturned_run.nd rfl (Or.inl rfl) (pe_disp (pps_cons pe_str (pe_ix ix_tup (pv 9) pe_int (fun _ _ => rfl)) pps_nil) (by rfl) (by rfl) (fun z => by cases z) (by decide)))))))))) (pss_cons (ps_asg (pe_ix ix_tup (pv 9) pe_int (fun _ _ => rfl)) (pg_tup rfl (pgs_cons (pg_name (i := 13) scLturned_run.nd rfl (Or.inl rfl)) (pgs_cons (pg_name (i := 14) scLturned_run.nd rfl (Or.inl rfl)) (pgs_cons (pg_name (i := 7) scLturned_run.nd rfl (Or.inl rfl)) (pgs_cons (pg_name (i := 6) scLturned_run.nd rfl (Or.inl rfl)) (pgs_cons (pg_name (i := 12) scLturned_run.nd rfl (Or.inl rfl)) pgs_nil)))))))
    (pss_cons (ps_set (i := 6) scLturned_run.nd rfl (Or.inl rfl) (pe_callTy call_dictD (by rfl) T.m_dict (by decide +kernel) (pa_cons (pv 6) pa_nil)))
    (pss_one (ps_dput (hu_of hr) (pv 6) (pv 14) (pe_ix ix_tup (pv 9) pe_int (fun _ _ => rfl)) rfl)))))
    (pss_one (ps_set (i := 9) scLturned_run.nd rfl (Or.inl rfl) (pe_call G_law_along (hr.mono (by omega)) rfl R_law_along.m R_law_along.k R_law_along.b .nil pass0 (pa_cons (pv 8) (pa_cons (pv 7) (pa_cons (pv 6) (pa_cons (pe_callTy call_dictD (by rfl) T.m_dict (by decide +kernel) (pa_cons (pv 12) pa_nil)) pa_nil)))))))))))))))), ?_⟩
  have hf : hd e.1 = some ns.length := by rw [(E0.er e he).hf, hen]
  obtain ⟨hst, hsz0⟩ := startT E0 (f := e.1) (ns := ns) hf hm
  intro ed hed
  have s0 := same_new hed (.dK [])
  -- errands
  have hul := hB.2.len
  refine ⟨_, rfl, bk, rfl, ⟨_, SqT.of (s0 _ _ hB.1)⟩, for_tup (xs := us) (fun i σ H' => ∃ o5 o6 o7, σ = [some (.ref bk), some (.str e.1), some (.ref nb), some (.int m), some (.ref ed), o5, o6, o7, none, none, none, none, none, none, none] ∧ Same H H' ∧ ∃ kvs, H' ed = some (.dK kvs) ∧ kvs.length ≤ i ∧ ∀ j e, j < i → es[j]? = some e → ∃ qa r b, valV kvs (Sum.inr e.1) = some (.ref qa) ∧ H' qa = some (.tup [.ref r, .ref b]) ∧ H' r = some (.tup (e.2.1.map V.str)) ∧ PAt H' e.2.2 b) ?_ ?_ ?_ ?_⟩
  · exact ⟨none, none, none, rfl, s0, [], upd_same, Nat.le_refl _, fun j e hj => absurd hj (Nat.not_lt_zero _)⟩
  · rintro i σ H' _ ⟨_, _, _, rfl, sA, _⟩
    exact SqT.of (sA _ _ hB.1)
  · rintro i x σ H1 hx ⟨o5, o6, o7, rfl, s1, kvs, hk, hl1, hall⟩
    obtain ⟨e1, he1, qe, r, b, rfl, g1, g2, g3⟩ := hB.2.get hx
    refine ⟨qe, _, rfl, SqT.of (s1 _ _ g1), rfl, _, _, rfl, _, _, rfl, _, _, rfl, rfl, ?_⟩
    refine ⟨_, rfl, _, rfl, by show 2 ≤ sizeLine; decide, fun t ht => ?_⟩
    have s2 := same_new ht (.tup [.ref r, .ref b])
    have hk2 := s2 _ _ hk
    have hi := (List.getElem?_eq_some_iff.mp hx).1
    refine ⟨_, rfl, _, rfl, ed, _, rfl, DPut.k (k := Sum.inr e1.1) hk2 (big (by omega)), _, _, _, rfl, same_mut (s1.trans s2) hed, _, upd_same, Nat.le_trans putK_len (Nat.succ_le_succ hl1), fun j e' hj he' => ?_⟩
    have tk : TK (upd H1 t (.tup [.ref r, .ref b])) (upd (upd H1 t (.tup [.ref r, .ref b])) ed (.dK (putK kvs (Sum.inr e1.1) (.ref t)))) := tk_putD hk2
    have tk2 := (tk_same s2).trans tk
    by_cases q : j = i
    · subst q
      rw [he1] at he'
      cases he'
      exact ⟨t, r, b, by rw [valV_put, if_pos rfl], tk _ _ upd_same, tk2 _ _ (s1 _ _ g2), PAt.tk tk2 (PAt.tk (tk_same s1) g3)⟩
    · obtain ⟨qa, r', b', a1, a2, a3, a4⟩ := hall j e' (by omega) he'
      have ne : ¬ (Sum.inr e'.1 : Key) = Sum.inr e1.1 := fun z => by
        have z' := Sum.inr.inj z
        have h1 : (es.map (·.1))[j]? = some e'.1 := by rw [List.getElem?_map, he']; rfl
        have h2 : (es.map (·.1))[i]? = some e1.1 := by rw [List.getElem?_map, he1]; rfl
        exact q (nd_ix hnd h1 (by rw [z']; exact h2))
      exact ⟨qa, r', b', by rw [valV_put, if_neg ne]; exact a1, tk2 _ _ a2, tk2 _ _ a3, PAt.tk tk2 a4⟩
  rintro σ H1 ⟨o5, o6, o7, rfl, s1, kvs, hk, hl1, hall⟩
  have er1 : ErT H1 es ed := ⟨kvs, hk, fun e he => by
    obtain ⟨j, hj⟩ := List.mem_iff_getElem?.mp he
    exact hall j e (by rw [hul]; exact (List.getElem?_eq_some_iff.mp hj).1) hj⟩
  clear hall hk hl1 s0
  -- now
  intro nd hnd'
  have s2 := same_new hnd' (.dK [])
  refine ⟨sz (by show 0 ≤ 100000; decide), fun tl htl => ?_⟩
  have s3 := s2.trans (same_new htl (.lst []))
  have ntl : nd ≠ tl := fun z => by
    rw [← z, upd_same] at htl
    cases htl
  refine ⟨by rw [upd_ne ntl, upd_same], [(Sum.inr "trail", .ref tl), (Sum.inr "deepest", .int 0), (Sum.inr "made", .int 0), (Sum.inr "many", .int 0)], rfl, by show 4 ≤ 15; decide, ?_⟩
  have s4 : Same H1 (upd (upd (upd H1 nd (.dK [])) tl (.lst [])) nd (.dK (mergeK [] [((Sum.inr "trail" : Key), V.ref tl), (Sum.inr "deepest", .int 0), (Sum.inr "made", .int 0), (Sum.inr "many", .int 0)]))) := same_mut s3 hnd'
  have n4 : upd (upd (upd H1 nd (.dK [])) tl (.lst [])) nd (.dK (mergeK [] [((Sum.inr "trail" : Key), V.ref tl), (Sum.inr "deepest", .int 0), (Sum.inr "made", .int 0), (Sum.inr "many", .int 0)])) nd = some (.dK (nowK tl 0 0 0)) := upd_same
  have t4 : upd (upd (upd H1 nd (.dK [])) tl (.lst [])) nd (.dK (mergeK [] [((Sum.inr "trail" : Key), V.ref tl), (Sum.inr "deepest", .int 0), (Sum.inr "made", .int 0), (Sum.inr "many", .int 0)])) tl = some (.lst []) := by
    rw [upd_ne (Ne.symm ntl), upd_same]
  have hnd0 : H nd = none := s1.free hnd'
  have htl0 : H tl = none := s1.free (s2.free htl)
  generalize upd (upd (upd H1 nd (.dK [])) tl (.lst [])) nd (.dK (mergeK [] [((Sum.inr "trail" : Key), V.ref tl), (Sum.inr "deepest", .int 0), (Sum.inr "made", .int 0), (Sum.inr "many", .int 0)])) = H2 at s4 n4 t4 ⊢
  clear s2 s3 htl
  have s12 := s1.trans s4
  have er2 : ErT H2 es ed := er1.ix (CR := 0) (ix_same s4)
  -- goes
  refine ⟨_, rfl, _, rfl, sz (by show 1 ≤ 100000; decide), fun z0 hz0 => ⟨sz (by show 4 ≤ 100000; decide), fun q0 hq0 => ?_⟩⟩
  have s5 := same_new hz0 (.tup [.int 0])
  have s6 := same_new hq0 (.tup [.str "ask", .str e.1, .ref nb, .ref z0])
  have s56 := s5.trans s6
  have N0 : NowL H2 nd tl (ct0 m) [] := ⟨n4, t4, trivial⟩
  refine ⟨LoopInv es hd m e.1 ns bk nb ed nd tl H, ⟨_, ct0 m, .ask e.1 ns 0, q0, [], _, _, _, none, none, none, none, none, rfl, rfl, ⟨rfl, rfl, .refl _, hst, ?_, hsz0, by show 0 ≤ _; omega, hf, Nat.zero_le _⟩, N0.same s56, ⟨nb, .ref z0, upd_same, s56 _ _ (s12 _ _ hnb), .fin z0 (s6 _ _ upd_same)⟩, er2.ix (CR := 0) (ix_same s56), s12.trans s56⟩, ?_⟩
  · obtain ⟨e2, he1, he2, he3, he4⟩ := E0.found hf
    have ge := E0.er e2 he2
    show muT (askT es (ct0 m) e.1 ns 0) < muT (ct0 m)
    unfold askT
    by_cases h0 : m = 0
    · rw [if_pos (show (ct0 m).asked = (ct0 m).most from h0.symm)]
      unfold muT muB
      show (m - 0) * 1000 + (1 + 0) + 0 < (m - 0) * 1000 + (1 + 0) + 1
      omega
    · rw [if_neg (show ¬ (ct0 m).asked = (ct0 m).most from fun z => h0 z.symm), he1]
      have := ge.cn
      unfold muT muB
      show (m - (0 + 1)) * 1000 + (pcnt e2.2.2 + 0) + 1 < (m - 0) * 1000 + (1 + 0) + 1
      omega
  have hedn : ed ≠ nd := by
    obtain ⟨kv, a, _⟩ := er1
    exact ne_of_none a hnd'
  clear n4 t4 N0 er1 er2 s12 s56 s5 s6 s4 hz0 hq0 s1 hnd'
  rintro k σ H3 ⟨c, act, q1, tv, o5, o6, o7, o10, o11, o12, o13, o14, rfl, rfl, hh, N, hact, er, s03⟩
  have hlt := N.te.len
  cases act with
  | ask g ms i =>
    obtain ⟨mb, v, h1, h2, h3⟩ := id hact
    obtain ⟨hq, rr, rfl, hh1, hh2⟩ := lhon_h h3
    have hac : hd g = some ms.length ∧ i ≤ c.tab.length := hh.ac
    have hcm := hh.mo
    refine ⟨_, rfl, itT rfl ⟨fun σ' H' => ∃ m', m' < muT c ∧ LoopInv es hd m e.1 ns bk nb ed nd tl H m' σ' H', fun _ _ z => z, ?_⟩⟩
    refine ⟨_, rfl, q1, _, _, _, rfl, rfl, SqT.of h1, at0, rfl, _, rfl, itF rfl (iteF ?_)⟩
    refine ⟨_, rfl, q1, _, _, _, rfl, rfl, SqT.of h1, at0, rfl, _, rfl, itT rfl ?_⟩
    refine ⟨_, rfl, nd, _, rfl, DGet.k (k := Sum.inr "many") N.n, _, rfl, rfl, _, rfl, ?_⟩
    by_cases hak : c.asked = c.most
    · have eA : askT es c g ms i = { c with fin := .long } := by
        unfold askT
        rw [if_pos hak]
      refine itT (decide_eq_true (by show V.int (c.asked : Int) = V.int (m : Int); rw [hak, hcm])) ?_
      refine ⟨_, rfl, nd, _, rfl, DGet.k (k := Sum.inr "trail") N.n, sz (by show 1 ≤ 100000; decide), fun t ht => ?_⟩
      have s1 := same_new ht (.tup [.str "long"])
      have N1 := N.same s1
      refine ⟨_, rfl, nd, _, rfl, DGet.k (k := Sum.inr "deepest") N1.n, _, rfl, nd, _, rfl, DGet.k (k := Sum.inr "made") N1.n, sz (by show 4 ≤ 100000; decide), fun qe hqe => ?_⟩
      have s2 := same_new hqe (.tup [.ref tl, .ref t, .int c.deepest, .int c.made])
      have N2 := N1.same s2
      have ht2 : upd (upd H3 t (.tup [.str "long"])) qe (.tup [.ref tl, .ref t, .int c.deepest, .int c.made]) t = some (.tup [.str "long"]) := s2 _ _ upd_same
      have rc := hh.rc
      have rc : RchT es (askT es (ct0 m) e.1 ns 0) (askT es c g ms i) := rc
      rw [eA] at rc
      exact q _ qe tl tv (.ref t) { c with fin := .long } (s03.trans (s1.trans s2)) upd_same N2.t N2.te ⟨t, rfl, ht2⟩ hh.tr ⟨rc, fun y => by cases y⟩
    · refine itF (decide_eq_false fun y => hak (by have := V.int.inj (show V.int (c.asked : Int) = V.int (m : Int) from y); omega)) ?_
      obtain ⟨e2, he1, he2, he3, he4⟩ := E0.found hac.1
      have ge := E0.er e2 he2
      have eA : askT es c g ms i = { c with asked := c.asked + 1, trail := c.trail ++ [.ask g ms], deepest := max c.deepest (hiAt c.tab i), part := e2.2.2, env := envOf e2.2.1 ms, hs := fun y => if y = "home" then some i else none } := by
        unfold askT
        rw [if_neg hak, he1]
      refine ⟨MidL es m e.1 bk nb ed nd tl H (askT es c g ms i), ?_, ?_⟩
      rotate_left
      · rintro σ' H4 ⟨o5, q2, o10, o11, o13, o14, pa, nm, hb, tv4, n, rfl, N4, nnd, ntm, R4, er4, nem, s04, hnm0, hXno⟩
        obtain ⟨kvs, d1, d2, d3⟩ := R4.h
        refine ⟨_, rfl, _, rfl, _, rfl, _, rfl, hb, kvs, rfl, .inl d1, fun hb2 hhb2 => ?_⟩
        have s5 := same_new hhb2 (.dK kvs)
        have N5 := N4.same s5
        have h5 : upd H4 hb2 (.dK kvs) hb2 = some (.dK kvs) := upd_same
        obtain ⟨kvw, w1, w2⟩ := R4.e
        have hap : Apart nd tl nm hb2 := ⟨ntl, nnd, ne_of_none N4.n hhb2, ntm, ne_of_none N4.t hhb2, ne_of_none w1 hhb2⟩
        have wfX := hh.wf.resolve_right fun z => z hXno
        have hb0 : H hb2 = none := s04.free hhb2
        refine ⟨es, hd, _, nd, tl, pa, nm, hb2, tv4, n, rfl, hap, N5, ⟨PAt.tk (tk_same s5) R4.p, ⟨kvw, s5 _ _ w1, w2⟩, ⟨kvs, h5, d2, fun y i hy => ?_⟩, R4.n⟩, hXno, wfX, E0, hh.sz, fun H6 q6 c6 tv6 act6 r6 no6 wf6 ea6 ac6 N6 A6 f6 tk6 => ?_⟩
        · obtain ⟨u, z1, z2⟩ := d3 y i hy
          refine ⟨u, (z1.fresh (A' := [nd, tl, nm, hb2]) fun a ha => ?_).keep (fun _ _ z => z) (fr_same s5) (tk_same s5), z2⟩
          rcases List.mem_cons.mp ha with z | z
          · rw [z]; exact .inl List.mem_cons_self
          rcases List.mem_cons.mp z with z | z
          · rw [z]; exact .inl (List.mem_cons_of_mem _ List.mem_cons_self)
          rcases List.mem_cons.mp z with z | z
          · rw [z]; exact .inl (List.mem_cons_of_mem _ (List.mem_cons_of_mem _ List.mem_cons_self))
          · rw [List.mem_singleton.mp z]; exact .inr hhb2
        have m6 : c6.most = m := by
          rw [reach_most r6, ← hh.mo]
          exact ask_most
        obtain ⟨hh6, mu6⟩ := head_next E0 hh wfX r6 no6 wf6 ea6 m6 ac6
        have hed : ed ∉ [nd, tl, nm, hb2] := by
          obtain ⟨kv, a1, _⟩ := er4
          rw [List.mem_cons, List.mem_cons, List.mem_cons, List.mem_singleton, not_or, not_or, not_or]
          exact ⟨hedn, ne_of a1 N4.t (fun z => by cases z), nem, ne_of_none a1 hhb2⟩
        refine ⟨muT c6, mu6, c6, act6, q6, tv6, _, _, _, _, _, _, _, _, rfl, rfl, hh6, N6, A6, er_fr (er4.ix (CR := 0) (ix_same s5)) hed f6 tk6, fr_new (s04.trans s5) f6 fun a ha => ?_⟩
        rcases List.mem_cons.mp ha with z | z
        · rw [z]; exact hnd0
        rcases List.mem_cons.mp z with z | z
        · rw [z]; exact htl0
        rcases List.mem_cons.mp z with z | z
        · rw [z]; exact hnm0
        · rw [List.mem_singleton.mp z]; exact hb0
      refine ⟨_, rfl, q1, _, _, _, rfl, rfl, SqT.of h1, at0, rfl, _, rfl, itT rfl ?_⟩
      rw [eA]
      -- many
      refine ⟨_, rfl, nd, _, rfl, DGet.k (k := Sum.inr "many") N.n, _, _, rfl, rfl, _, rfl, nd, _, rfl, DPut.k (k := Sum.inr "many") N.n (big (by show 4 ≤ _; decide)), ?_⟩
      have tk4 : TK H3 (upd H3 nd (.dK (putK (nowK tl c.deepest c.made c.asked) (Sum.inr "many") (.int ((c.asked : Int) + 1))))) := tk_putD N.n
      have fr4 : FrA [nd, tl] H3 (upd H3 nd (.dK (putK (nowK tl c.deepest c.made c.asked) (Sum.inr "many") (.int ((c.asked : Int) + 1))))) := fr_upd (by simp) _
      have N4 : NowL (upd H3 nd (.dK (putK (nowK tl c.deepest c.made c.asked) (Sum.inr "many") (.int ((c.asked : Int) + 1))))) nd tl { c with asked := c.asked + 1 } tv := ⟨by rw [upd_same]; rfl, by rw [upd_ne (Ne.symm ntl)]; exact N.t, N.te.imp fun _ _ z => z.tk tk4⟩
      generalize upd H3 nd (.dK (putK (nowK tl c.deepest c.made c.asked) (Sum.inr "many") (.int ((c.asked : Int) + 1)))) = H4 at tk4 fr4 N4 ⊢
      -- trail
      refine ⟨_, rfl, nd, _, rfl, DGet.k (k := Sum.inr "trail") N4.n, .inl ⟨rfl, _, SqL.of N4.t⟩, ?_⟩
      have hlt4 := N4.te.len
      dsimp only [tNoPart]
      refine ⟨_, rfl, _, rfl, q1, _, rfl, SqT.of (tk4 _ _ h1), fun hw => ?_, fun _ t ht => ?_⟩
      · exfalso
        have hw2 := hw.2
        rw [sIx_at (by decide) (by show 3 ≤ 4; decide)] at hw2
        exact absurd (show (3 : Nat) = 4 from hw2) (by decide)
      have ec : cutV [V.str "ask", .str g, .ref mb, .ref hq] none (some 3) = [V.str "ask", .str g, .ref mb] := cut_to (by decide) (by show 3 ≤ 4; decide)
      rw [ec]
      have s5 := same_new ht (.tup [V.str "ask", .str g, .ref mb])
      have N5 := N4.same s5
      have q5 : upd H4 t (.tup [V.str "ask", .str g, .ref mb]) t = some (.tup [V.str "ask", .str g, .ref mb]) := upd_same
      have tk5 := tk4.trans (tk_same s5)
      have fr5 := fr4.trans (fr_same s5)
      generalize upd H4 t (.tup [V.str "ask", .str g, .ref mb]) = H5 at N5 q5 tk5 fr5 ⊢
      have htr := hh.tr
      refine ⟨tl, _, _, rfl, rfl, N5.t, big (by omega), ?_⟩
      have tk6' : TK H5 (upd H5 tl (.lst (tv ++ [.ref t]))) := tk_put N5.t
      have fr6' : FrA [nd, tl] H5 (upd H5 tl (.lst (tv ++ [.ref t]))) := fr_upd (by simp) _
      have N6 : NowL (upd H5 tl (.lst (tv ++ [.ref t]))) nd tl { c with asked := c.asked + 1, trail := c.trail ++ [.ask g ms] } (tv ++ [.ref t]) := ⟨by rw [upd_ne ntl]; exact N5.n, upd_same, (N5.te.imp fun _ _ z => z.tk tk6').app ⟨⟨t, mb, rfl, tk6' _ _ q5, tk6' _ _ (tk5 _ _ h2)⟩, trivial⟩⟩
      have tk6 := tk5.trans tk6'
      have fr6 := fr5.trans fr6'
      generalize upd H5 tl (.lst (tv ++ [.ref t])) = H6 at N6 tk6 fr6 ⊢
      -- deepest
      refine ⟨_, rfl, nd, _, rfl, DGet.k (k := Sum.inr "deepest") N6.n, _, rfl, q1, _, _, _, rfl, rfl, SqT.of (tk6 _ _ h1), at3, hq, _, _, _, rfl, rfl, SqT.of (tk6 _ _ hh1), at0, _, _, rfl, _, rfl, nd, _, rfl, DPut.k (k := Sum.inr "deepest") N6.n (big (by show 4 ≤ _; decide)), ?_⟩
      rw [max_eq]
      have tk7' : TK H6 (upd H6 nd (.dK (putK (nowK tl c.deepest c.made ((c.asked + 1 : Nat) : Int)) (Sum.inr "deepest") (.int (max c.deepest (hiAt c.tab i)))))) := tk_putD N6.n
      have fr7' : FrA [nd, tl] H6 (upd H6 nd (.dK (putK (nowK tl c.deepest c.made ((c.asked + 1 : Nat) : Int)) (Sum.inr "deepest") (.int (max c.deepest (hiAt c.tab i)))))) := fr_upd (by simp) _
      have N7 : NowL (upd H6 nd (.dK (putK (nowK tl c.deepest c.made ((c.asked + 1 : Nat) : Int)) (Sum.inr "deepest") (.int (max c.deepest (hiAt c.tab i)))))) nd tl { c with asked := c.asked + 1, trail := c.trail ++ [.ask g ms], deepest := max c.deepest (hiAt c.tab i) } (tv ++ [.ref t]) := ⟨by rw [upd_same]; rfl, by rw [upd_ne (Ne.symm ntl)]; exact N6.t, N6.te.imp fun _ _ z => z.tk tk7'⟩
      have tk7 := tk6.trans tk7'
      have fr7 := fr6.trans fr7'
      generalize upd H6 nd (.dK (putK (nowK tl c.deepest c.made ((c.asked + 1 : Nat) : Int)) (Sum.inr "deepest") (.int (max c.deepest (hiAt c.tab i))))) = H7 at N7 tk7 fr7 ⊢
      -- words, part
      have hed2 : ed ∉ [nd, tl] := by
        obtain ⟨kv, a1, _⟩ := er
        rw [List.mem_cons, List.mem_singleton, not_or]
        exact ⟨hedn, ne_of a1 N.t (fun z => by cases z)⟩
      have er7 := er_fr er hed2 fr7 tk7
      obtain ⟨kve, k1, k2⟩ := id er7
      obtain ⟨qa, ra, ba, g1, g2, g3, g4⟩ := k2 e2 he2
      rw [he3] at g1
      refine ⟨_, rfl, _, rfl, q1, _, _, _, rfl, rfl, SqT.of (tk7 _ _ h1), at1, ed, .ref qa, rfl, get_of k1 g1, qa, _, rfl, SqT.of g2, rfl, _, _, rfl, _, _, rfl, rfl, ?_⟩
      -- names
      intro nm hnm
      have nnd : nd ≠ nm := ne_of_none N7.n hnm
      have ntm : tl ≠ nm := ne_of_none N7.t hnm
      have nem : ed ≠ nm := ne_of_none k1 hnm
      have v15 := (tk7 _ _ h1)
      have v25 := (tk7 _ _ h2)
      have s8 := same_new hnm (.dK [])
      have n8 : upd H7 nm (.dK []) nm = some (.dK []) := upd_same
      have eL : ((e2.2.1.map V.str).length : Int) = ((e2.2.1.length : Nat) : Int) := by rw [List.length_map]
      have hz62 : (2 : Int) ^ 62 = 4611686018427387904 := by decide
      have hn : (((e2.2.1.map V.str).length : Nat) : Int).toNat = e2.2.1.length := by rw [List.length_map]; omega
      have hn5 := ge.n4
      refine ⟨_, rfl, ra, _, rfl, .inr (SqT.of (s8 _ _ g3)), _, rfl, by rw [eL, hz62]; omega, by rw [eL, hz62]; omega, ?_⟩
      rw [hn]
      generalize upd H7 nm (.dK []) = H8 at s8 n8 ⊢
      refine for_range (lo := 0) (n := e2.2.1.length) (fun k σ H' => ∃ o11, σ = [some (.ref bk), some (.str e.1), some (.ref nb), some (.int m), some (.ref ed), o5, some (.ref nm), some (.ref ba), some (.ref nd), some (.ref q1), some (.ref ra), o11, o12, o13, o14] ∧ Same H7 H' ∧ ∃ kvs, H' nm = some (.dK kvs) ∧ kvs.length ≤ k ∧ ∀ x : Str, valV kvs (Sum.inr x) = (envOf (e2.2.1.take k) (ms.take k) x).map V.int) ⟨_, rfl, s8, [], n8, Nat.le_refl _, fun x => rfl⟩ ?_ ?_
      · rintro k σ H9 hk ⟨o11, rfl, s9, kvs, h9, hl9, hv9⟩
        obtain ⟨x, hx⟩ : ∃ x, e2.2.1[k]? = some x := ⟨_, List.getElem?_eq_getElem hk⟩
        obtain ⟨z, hz⟩ : ∃ z, ms[k]? = some z := ⟨_, List.getElem?_eq_getElem (by omega)⟩
        refine ⟨_, rfl, q1, _, _, _, rfl, rfl, SqT.of (s9 _ _ v15), at2, _, rfl, mb, _, _, _, rfl, rfl, SqT.of (s9 _ _ v25), at_of (j := k) (by omega) (by rw [List.getElem?_map, hz]; rfl), _, rfl, _, rfl, _, rfl, ra, _, _, _, rfl, rfl, SqT.of (s9 _ _ g3), at_of (j := k) (by omega) (by rw [List.getElem?_map, hx]; rfl), nm, _, rfl, DPut.k (k := (Sum.inr x : Key)) h9 (big (by omega)), ?_⟩
        obtain ⟨hk1, hk2⟩ := List.getElem?_eq_some_iff.mp hx
        obtain ⟨hk3, hk4⟩ := List.getElem?_eq_some_iff.mp hz
        refine ⟨_, rfl, same_mut s9 hnm, _, upd_same, Nat.le_trans putK_len (Nat.succ_le_succ hl9), fun y => ?_⟩
        rw [List.take_succ_eq_append_getElem hk1, hk2, List.take_succ_eq_append_getElem hk3, hk4, valV_put, envOf_snoc (by rw [List.length_take, List.length_take]; omega) (fun hmem => ?_)]
        · by_cases ey : y = x
          · rw [if_pos (by rw [ey]), if_pos ey]
            rfl
          · rw [if_neg (fun e => ey (Sum.inr.inj e)), if_neg ey]
            exact hv9 y
        · obtain ⟨l, hl1, hl2⟩ := List.mem_iff_getElem.mp hmem
          rw [List.getElem_take] at hl2
          rw [List.length_take] at hl1
          have := nd_ix ge.nd (List.getElem?_eq_some_iff.mpr ⟨by omega, hl2⟩) hx
          omega
      rintro σ H9 ⟨o11, rfl, s9, kvs, h9, hl9, hv9⟩
      have et1 : e2.2.1.take e2.2.1.length = e2.2.1 := List.take_length
      have et2 : ms.take e2.2.1.length = ms := by rw [he4]; exact List.take_length
      rw [et1, et2] at hv9
      -- hands
      intro hb hhb
      have s10 := same_new hhb (.dK [])
      refine ⟨_, rfl, q1, _, _, _, rfl, rfl, SqT.of (s10 _ _ (s9 _ _ v15)), at3, upd_same, [(Sum.inr ("home" : Str), .ref hq)], rfl, by show 1 ≤ 15; decide, ?_⟩
      rw [upd_upd]
      have s11 := same_new hhb (.dK (mergeK [] [((Sum.inr ("home" : Str) : Key), V.ref hq)]))
      have h11 : upd H9 hb (.dK (mergeK [] [((Sum.inr ("home" : Str) : Key), V.ref hq)])) hb = some (.dK [(Sum.inr ("home" : Str), .ref hq)]) := upd_same
      have s711 := s9.trans s11
      have N11 := N7.same s711
      have nm11 := s11 _ _ h9
      generalize upd H9 hb (.dK (mergeK [] [((Sum.inr ("home" : Str) : Key), V.ref hq)])) = H11 at s711 h11 N11 nm11 ⊢
      have s0B : Same H H11 := (fr_new s03 fr7 fun a ha => by
        rcases List.mem_cons.mp ha with z | z
        · rw [z]; exact hnd0
        · rw [List.mem_singleton.mp z]; exact htl0).trans s711
      have hnm0 : H nm = none := by
        cases eh : H nm with
        | none => rfl
        | some o =>
          exfalso
          have := fr_new s03 fr7 (fun a ha => by
            rcases List.mem_cons.mp ha with z | z
            · rw [z]; exact hnd0
            · rw [List.mem_singleton.mp z]; exact htl0) _ _ eh
          rw [hnm] at this
          cases this
      refine ⟨_, _, _, _, _, _, ba, nm, hb, tv ++ [.ref t], 5, rfl, ⟨N11.n, N11.t, N11.te⟩, nnd, ntm, ⟨PAt.tk (tk_same s711) g4, ⟨kvs, nm11, Nat.le_trans hl9 hn5, hv9⟩, ⟨_, h11, by show 1 ≤ 5; decide, fun y i' hy => ?_⟩, by have := ge.cn; show 5 + pcnt e2.2.2 ≤ 1000; omega⟩, er7.ix (CR := 0) (ix_same s711), nem, s0B, hnm0, hh.no⟩
      have hy : (if y = "home" then some i else none) = some i' := hy
      by_cases ey : y = "home"
      · rw [if_pos ey] at hy
        cases hy
        refine ⟨.ref hq, ?_, by rw [ey]; rfl⟩
        refine (((h3.keep (fun _ _ z => z) fr7 tk7).fresh (A' := [nd, tl, nm]) fun a ha => ?_).keep (fun _ _ z => z) (fr_same s711) (tk_same s711))
        rcases List.mem_cons.mp ha with z | z
        · rw [z]; exact .inl List.mem_cons_self
        rcases List.mem_cons.mp z with z | z
        · rw [z]; exact .inl (List.mem_cons_of_mem _ List.mem_cons_self)
        · rw [List.mem_singleton.mp z]; exact .inr hnm
      · rw [if_neg ey] at hy
        cases hy
  | give z i =>
    obtain ⟨v, h1, h3⟩ := id hact
    obtain ⟨hq, rr, rfl, hh1, hh2⟩ := lhon_h h3
    refine ⟨_, rfl, itT rfl ⟨fun σ' H' => ∃ m', m' < muT c ∧ LoopInv es hd m e.1 ns bk nb ed nd tl H m' σ' H', fun _ _ z => z, ?_⟩⟩
    refine ⟨_, rfl, q1, _, _, _, rfl, rfl, SqT.of h1, at0, rfl, _, rfl, itT rfl ?_⟩
    refine ⟨_, rfl, q1, _, _, _, rfl, rfl, SqT.of h1, at2, hq, _, rfl, .inr (SqT.of hh1), rfl, _, rfl, ?_⟩
    cases i with
    | zero =>
      have hh2 : rr = [] := hh2
      subst hh2
      refine itT rfl ?_
      refine ⟨_, rfl, nd, _, rfl, DGet.k (k := Sum.inr "trail") N.n, _, rfl, q1, _, _, _, rfl, rfl, SqT.of h1, at1, sz (by show 2 ≤ 100000; decide), fun t ht => ?_⟩
      have s1 := same_new ht (.tup [.str "done", .int z])
      have N1 := N.same s1
      refine ⟨_, rfl, nd, _, rfl, DGet.k (k := Sum.inr "deepest") N1.n, _, rfl, nd, _, rfl, DGet.k (k := Sum.inr "made") N1.n, sz (by show 4 ≤ 100000; decide), fun qe hqe => ?_⟩
      have s2 := same_new hqe (.tup [.ref tl, .ref t, .int c.deepest, .int c.made])
      have N2 := N1.same s2
      have ht2 : upd (upd H3 t (.tup [.str "done", .int z])) qe (.tup [.ref tl, .ref t, .int c.deepest, .int c.made]) t = some (.tup [.str "done", .int z]) := s2 _ _ upd_same
      exact q _ qe tl tv (.ref t) (giveT c 0 z) (s03.trans (s1.trans s2)) upd_same N2.t N2.te ⟨t, rfl, ht2⟩ hh.tr ⟨hh.rc, fun y => by cases y⟩
    | succ k =>
      have hl4 : rr.length = 4 := hh2
      refine itF (decide_eq_false fun y => by
        have := V.int.inj y
        rw [List.length_cons, hl4] at this
        cases this) ?_
      refine ⟨_, rfl, q1, _, _, _, rfl, rfl, SqT.of h1, at0, rfl, _, rfl, itF rfl (iteF ?_)⟩
      refine ⟨MidL es m e.1 bk nb ed nd tl H (giveT c (k + 1) z), ?_, ?_⟩
      rotate_left
      · rintro σ' H4 ⟨o5, q2, o10, o11, o13, o14, pa, nm, hb, tv4, n, rfl, N4, nnd, ntm, R4, er4, nem, s04, hnm0, hXno⟩
        obtain ⟨kvs, d1, d2, d3⟩ := R4.h
        refine ⟨_, rfl, _, rfl, _, rfl, _, rfl, hb, kvs, rfl, .inl d1, fun hb2 hhb2 => ?_⟩
        have s5 := same_new hhb2 (.dK kvs)
        have N5 := N4.same s5
        have h5 : upd H4 hb2 (.dK kvs) hb2 = some (.dK kvs) := upd_same
        obtain ⟨kvw, w1, w2⟩ := R4.e
        have hap : Apart nd tl nm hb2 := ⟨ntl, nnd, ne_of_none N4.n hhb2, ntm, ne_of_none N4.t hhb2, ne_of_none w1 hhb2⟩
        have wfX := hh.wf.resolve_right fun z => z hXno
        have hb0 : H hb2 = none := s04.free hhb2
        refine ⟨es, hd, _, nd, tl, pa, nm, hb2, tv4, n, rfl, hap, N5, ⟨PAt.tk (tk_same s5) R4.p, ⟨kvw, s5 _ _ w1, w2⟩, ⟨kvs, h5, d2, fun y i hy => ?_⟩, R4.n⟩, hXno, wfX, E0, hh.sz, fun H6 q6 c6 tv6 act6 r6 no6 wf6 ea6 ac6 N6 A6 f6 tk6 => ?_⟩
        · obtain ⟨u, z1, z2⟩ := d3 y i hy
          refine ⟨u, (z1.fresh (A' := [nd, tl, nm, hb2]) fun a ha => ?_).keep (fun _ _ z => z) (fr_same s5) (tk_same s5), z2⟩
          rcases List.mem_cons.mp ha with z | z
          · rw [z]; exact .inl List.mem_cons_self
          rcases List.mem_cons.mp z with z | z
          · rw [z]; exact .inl (List.mem_cons_of_mem _ List.mem_cons_self)
          rcases List.mem_cons.mp z with z | z
          · rw [z]; exact .inl (List.mem_cons_of_mem _ (List.mem_cons_of_mem _ List.mem_cons_self))
          · rw [List.mem_singleton.mp z]; exact .inr hhb2
        have m6 : c6.most = m := by
          rw [reach_most r6, ← hh.mo]
          show (match c.tab[k]? with | none => c | some r => _ : CT).most = c.most
          split <;> rfl
        obtain ⟨hh6, mu6⟩ := head_next E0 hh wfX r6 no6 wf6 ea6 m6 ac6
        have hed : ed ∉ [nd, tl, nm, hb2] := by
          obtain ⟨kv, a1, _⟩ := er4
          rw [List.mem_cons, List.mem_cons, List.mem_cons, List.mem_singleton, not_or, not_or, not_or]
          exact ⟨hedn, ne_of a1 N4.t (fun z => by cases z), nem, ne_of_none a1 hhb2⟩
        refine ⟨muT c6, mu6, c6, act6, q6, tv6, _, _, _, _, _, _, _, _, rfl, rfl, hh6, N6, A6, er_fr (er4.ix (CR := 0) (ix_same s5)) hed f6 tk6, fr_new (s04.trans s5) f6 fun a ha => ?_⟩
        rcases List.mem_cons.mp ha with z | z
        · rw [z]; exact hnd0
        rcases List.mem_cons.mp z with z | z
        · rw [z]; exact htl0
        rcases List.mem_cons.mp z with z | z
        · rw [z]; exact hnm0
        · rw [List.mem_singleton.mp z]; exact hb0
      refine ⟨_, rfl, q1, _, _, _, rfl, rfl, SqT.of h1, at0, rfl, _, rfl, itF rfl ?_⟩
      cases h3 with
      | mk _ r _ tb nb1 hb1 n kvn kvs vf g1 g2 g3 g4 g5 g6 g7 g8 g9 g10 g11 g12 g13 =>
        have eG : giveT c (k + 1) z = { c with part := r.T, env := setE r.env r.x z, hs := r.hs, lim := r.wt - pcnt r.T } := by
          show (match c.tab[k]? with | none => c | some r => _) = _
          rw [g1]
        rw [eG]
        refine ⟨_, rfl, q1, _, _, _, rfl, rfl, SqT.of h1, at2, hq, _, rfl, SqT.of g2, rfl, _, _, rfl, _, _, rfl, _, _, rfl, _, _, rfl, _, _, rfl, rfl, ?_⟩
        refine ⟨_, rfl, nb1, kvn, rfl, .inl g6, fun nm hnm => ?_⟩
        have s4 := same_new hnm (.dK kvn)
        have N4 := N.same s4
        have w4 : upd H3 nm (.dK kvn) nm = some (.dK kvn) := upd_same
        have nnd : nd ≠ nm := ne_of_none N.n hnm
        have ntm : tl ≠ nm := ne_of_none N.t hnm
        have nhm : hb1 ≠ nm := ne_of_none g9 hnm
        have nem : ed ≠ nm := by
          obtain ⟨kv, a, _⟩ := er
          exact ne_of_none a hnm
        refine ⟨_, rfl, q1, _, _, _, rfl, rfl, SqT.of (s4 _ _ h1), at1, _, rfl, _, rfl, nm, _, rfl, DPut.k (k := Sum.inr r.x) w4 (big (by omega)), ?_⟩
        rw [upd_upd]
        have s5 := same_new hnm (.dK (putK kvn (Sum.inr r.x) (.int z)))
        have N5 := N.same s5
        refine ⟨_, _, _, _, _, _, tb, nm, hb1, tv, n + 1, rfl, ⟨N5.n, N5.t, N5.te⟩, nnd, ntm, ⟨PAt.tk (tk_same s5) g3, ⟨_, upd_same, Nat.le_trans putK_len (by omega), env_put g8⟩, ⟨kvs, s5 _ _ g9, by omega, fun y i hy => ⟨vf y, ?_, g12 y i hy⟩⟩, by show n + 1 + pcnt r.T ≤ 1000; omega⟩, er.ix (CR := 0) (ix_same s5), nem, s03.trans s5, s03.free hnm, hh.no⟩
        refine ((g13 y i hy).fresh (A' := [nd, tl, nm]) fun a ha => ?_).keep (fun _ _ z => z) (fr_same s5) (tk_same s5)
        rcases List.mem_cons.mp ha with z | z
        · rw [z]; exact .inl List.mem_cons_self
        rcases List.mem_cons.mp z with z | z
        · rw [z]; exact .inl (List.mem_cons_of_mem _ List.mem_cons_self)
        · rw [List.mem_singleton.mp z]; exact .inr hnm
end
end KB

namespace KB
open PySem L2 HT

/-! ### what a run tells, as Python's data -/
def pdEv : Ev → PyData
  | .ask f ns => .tuple [.str "ask", .str f, .tuple (ns.map PyData.int)]
  | .tell z => .tuple [.str "tell", .int z]
def pdFe : Fe → PyData
  | .no => .tuple []
  | .done z => .tuple [.str "done", .int z]
  | .long => .tuple [.str "long"]
def pdTr (t : List Ev) : PyData := .list (t.map pdEv)
def pdRun (c : CT) : PyData := .tuple [pdTr c.trail, pdFe c.fin, .int c.deepest, .int c.made]
theorem dp_ev {K : PySem.W.Frag} {H : Hp} {e : Ev} {v : V} (h : EvV H e v) : Dp K H v (pdEv e) := by
  cases e with
  | ask f ns =>
    obtain ⟨q, r, e1, h1, h2⟩ := h
    subst e1
    exact .tup (SqT.of h1) (.cons (.str _) (.cons (.str _) (.cons (.tup (SqT.of h2) (dp_ints ns)) .nil)))
  | tell z =>
    obtain ⟨q, e1, h1⟩ := h
    subst e1
    exact .tup (SqT.of h1) (.cons (.str _) (.cons (.int _) .nil))
theorem dp_tr {K : PySem.W.Frag} {H : Hp} : ∀ {t : List Ev} {vs : List V}, All2 (EvV H) t vs → DpAll K H vs (t.map pdEv)
  | [], [], _ => .nil
  | _ :: _, _ :: _, h => .cons (dp_ev h.1) (dp_tr h.2)
  | [], _ :: _, h => h.elim
  | _ :: _, [], h => h.elim
theorem dp_fe {K : PySem.W.Frag} {H : Hp} {f : Fe} {v : V} (h : FeV H f v) (hn : f ≠ .no) : Dp K H v (pdFe f) := by
  cases f with
  | no => exact absurd rfl hn
  | done z =>
    obtain ⟨q, e1, h1⟩ := h
    subst e1
    exact .tup (SqT.of h1) (.cons (.str _) (.cons (.int _) .nil))
  | long =>
    obtain ⟨q, e1, h1⟩ := h
    subst e1
    exact .tup (SqT.of h1) (.cons (.str _) .nil)
/-- what run tells, at q -/
structure RunV (H : Hp) (c : CT) (q : Addr) (tl : Addr) (tv : List V) (ev : V) : Prop where
  q : H q = some (.tup [.ref tl, ev, .int c.deepest, .int c.made])
  tl : H tl = some (.lst tv)
  te : All2 (EvV H) c.trail tv
  ev : FeV H c.fin ev
  nn : c.fin ≠ .no
theorem RunV.same {H H' : Hp} {c : CT} {q tl : Addr} {tv : List V} {ev : V} (s : Same H H') (h : RunV H c q tl tv ev) : RunV H' c q tl tv ev := ⟨s _ _ h.q, s _ _ h.tl, h.te.imp fun _ _ z => z.tk (tk_same s), h.ev.tk (tk_same s), h.nn⟩
theorem RunV.dp {K : PySem.W.Frag} {H : Hp} {c : CT} {q tl : Addr} {tv : List V} {ev : V} (h : RunV H c q tl tv ev) : Dp K H (.ref q) (pdRun c) :=
  .tup (SqT.of h.q) (.cons (.lst (SqL.of h.tl) (dp_tr h.te)) (.cons (dp_fe h.ev h.nn) (.cons (.int _) (.cons (.int _) .nil))))
/-! ### what a run tells can be written out -/
/-- what is asked of a thing that is told -/
structure Sho (d : PyData) (n : Nat) : Prop where
  w : d.weight ≤ n
  s : d.showable = true
  i : d.intsShort 13 = true
theorem Sho.le {d : PyData} {n m : Nat} (h : Sho d n) (e : n ≤ m) : Sho d m := ⟨Nat.le_trans h.w e, h.s, h.i⟩
/-- from a run there is just one end -/
theorem RchT.head {es : List TEr} {c c' : CT} (h : RchT es c c') : c' = c ∨ (c.fin = .no ∧ RchT es (stepT es c) c') := by
  induction h with
  | refl => exact .inl rfl
  | snoc h e ih =>
    rcases ih with z | ⟨z1, z2⟩
    · rw [z] at e ⊢
      exact .inr ⟨e, .refl _⟩
    · exact .inr ⟨z1, .snoc z2 e⟩
section
variable {P : Program} {w : World} {K : PySem.W.Frag} {mg : Str → Option Value} {base : Heap}
/-! ### _law_same_run -/
end
end KB

namespace KB
open PySem L2 HT LamX NdefX

theorem TBkAt.ix {CR : Addr} {H H' : Hp} (s : Ix CR H H') {es : List TEr} {vs : List V} {p : Addr} (h : TBkAt H es vs p) : TBkAt H' es vs p := ⟨s.t h.1, h.2.imp fun _ _ z => z.tk s.tk⟩
section
variable {P : Program} {w : World} {K : PySem.W.Frag} {mg : Str → Option Value} {base : Heap} {CR : Addr}
end
end KB

namespace KB
open PySem L2 LamX
theorem tabs_jx (T : List (Addr × Str)) : Jx (Tabs T) := ⟨fun s t => tabs_new t s, fun h t => tabs_mut t h _⟩
theorem two_1 {p1 p2 : Addr} {q1 q2 : Str} (h : p1 ≠ p2) : ∀ p ∈ [(p1, q1), (p2, q2)], p.1 = p1 → p.2 = q1 := fun p hp e => by
  rcases List.mem_cons.mp hp with z | z
  · rw [z]
  · rw [List.mem_singleton.mp z] at e
    exact absurd e (Ne.symm h)
theorem two_2 {p1 p2 : Addr} {q1 q2 : Str} (h : p1 ≠ p2) : ∀ p ∈ [(p1, q1), (p2, q2)], p.1 = p2 → p.2 = q2 := fun p hp e => by
  rcases List.mem_cons.mp hp with z | z
  · rw [z] at e
    exact absurd e h
  · rw [List.mem_singleton.mp z]
theorem two_mem {α : Type} {P : α → Prop} {a b : α} (ha : P a) (hb : P b) : ∀ p ∈ [a, b], P p := fun p hp => by
  rcases List.mem_cons.mp hp with z | z
  · rw [z]
    exact ha
  · rw [List.mem_singleton.mp z]
    exact hb
end KB

namespace KB
open PySem L2

/-! ### laid parts -/
/-- a simple term, good -/
structure LTm (t : Tm) : Prop where
  ok : okT t
  si : simple t = true
  cn : cnt t ≤ 13
  ht : HtLe 5 t
theorem HtLe.to : ∀ {n m : Nat} {t : Tm}, HtLe n t → n ≤ m → HtLe m t := fun h e => h.le e
theorem GdS.lt {H : Hp} {a : Addr} {hd : Str → Option Nat} {xs : List Str} {t : Tm} (g : GdS H a 3 2 hd xs t) : LTm t := ⟨g.g.ok, g.s, Nat.le_trans g.g.cn (by decide), g.g.dp.le (by decide)⟩
/-- a simple term at b, of at most n terms, within at most d -/
def TmB (H : Hp) (n d : Nat) (b : Addr) : Prop := ∃ t, At H t b ∧ okT t ∧ simple t = true ∧ cnt t ≤ n ∧ HtLe d t
theorem TmB.tk {H H' : Hp} {n d : Nat} {b : Addr} (k : TK H H') : TmB H n d b → TmB H' n d b := fun ⟨t, h1, h2⟩ => ⟨t, h1.tk k, h2⟩
theorem TmB.le {H : Hp} {n d m e : Nat} {b : Addr} (h1 : n ≤ m) (h2 : d ≤ e) : TmB H n d b → TmB H m e b := fun ⟨t, g1, g2, g3, g4, g5⟩ => ⟨t, g1, g2, g3, Nat.le_trans g4 h1, g5.le h2⟩
theorem TmB.lt {H : Hp} {b : Addr} : TmB H 13 5 b → ∃ t, At H t b ∧ LTm t := fun ⟨t, g1, g2, g3, g4, g5⟩ => ⟨t, g1, g2, g3, g4, g5⟩
theorem tb_two {H : Hp} {p a b : Addr} {n m d e : Nat} {h : Hd} (hh : h = .plus ∨ h = .less) (g1 : TmB H n d a) (g2 : TmB H m e b) (hp : H p = some (.tup [.str (hs h), .ref a, .ref b])) : TmB H (1 + n + m) (max d e + 1) p := by
  obtain ⟨t, a1, a2, a3, a4, a5⟩ := g1
  obtain ⟨u, b1, b2, b3, b4, b5⟩ := g2
  have both : ∀ (Pr : Tm → Prop), Pr t → Pr u → ∀ x ∈ [t, u], Pr x := fun Pr h1 h2 x hx => by
    rcases List.mem_cons.mp hx with z | z
    · rw [z]
      exact h1
    · rw [List.mem_singleton.mp z]
      exact h2
  have lay : Lay H p h [.ref a, .ref b] := by
    rcases hh with rfl | rfl
    · exact ⟨rfl, hp⟩
    · exact ⟨rfl, hp⟩
  refine ⟨mkL h [t, u], at_mkL lay ⟨⟨a, rfl, a1⟩, ⟨b, rfl, b1⟩, trivial⟩, ok_mkL (by rcases hh with rfl | rfl <;> trivial) (both _ a2 b2), simple_mkL (by rcases hh with rfl | rfl <;> rfl) (both _ a3 b3), ?_, ht_mkL (both _ (a5.le (by omega)) (b5.le (by omega)))⟩
  rw [cnt_mkL, cnts_cons, cnts_cons]
  show 1 + (_ + (_ + 0)) ≤ _
  omega
theorem tb_new {H : Hp} {p a b : Addr} {n m d e : Nat} {h : Hd} (hh : h = .plus ∨ h = .less) (g1 : TmB H n d a) (g2 : TmB H m e b) (hp : H p = none) : TmB (upd H p (.tup [.str (hs h), .ref a, .ref b])) (1 + n + m) (max d e + 1) p :=
  tb_two hh (g1.tk (tk_same (same_new hp _))) (g2.tk (tk_same (same_new hp _))) upd_same
/-- what is at hand while the terms are written: here, one, other, and the terms so far -/
structure AdS (H0 H : Hp) (tp p0 a1 a2 : Addr) (ds : List Addr) : Prop where
  b : But1 tp H0 H
  t : Tp H tp
  g0 : TmB H 1 1 p0
  g1 : TmB H 3 2 a1
  g2 : TmB H 3 2 a2
  ds : ∀ d ∈ ds, TmB H 13 5 d
theorem AdS.new {H0 H : Hp} {tp p0 a1 a2 : Addr} {ds : List Addr} (I : AdS H0 H tp p0 a1 a2 ds) {p : Addr} (hp : H p = none) (o : HO) : AdS H0 (upd H p o) tp p0 a1 a2 ds :=
  have s := same_new hp o
  ⟨I.b.trans (but_same s), I.t.same s, I.g0.tk (tk_same s), I.g1.tk (tk_same s), I.g2.tk (tk_same s), fun d hd => (I.ds d hd).tk (tk_same s)⟩
theorem AdS.put {H0 H : Hp} {tp p0 a1 a2 : Addr} {ds : List Addr} (I : AdS H0 H tp p0 a1 a2 ds) {d : Addr} (h : TmB H 13 5 d) : AdS H0 H tp p0 a1 a2 (ds ++ [d]) :=
  ⟨I.b, I.t, I.g0, I.g1, I.g2, fun e he => by
    rcases List.mem_append.mp he with z | z
    · exact I.ds e z
    · rw [List.mem_singleton.mp z]
      exact h⟩
theorem AdS.two {H0 H : Hp} {tp p0 a1 a2 : Addr} {ds : List Addr} (I : AdS H0 H tp p0 a1 a2 ds) {p a b : Addr} {n m d e : Nat} (h : Hd) (hh : h = .plus ∨ h = .less) (x : TmB H n d a) (y : TmB H m e b) (hp : H p = none) (c : 1 + n + m ≤ 13) (c2 : max d e + 1 ≤ 5) :
    AdS H0 (upd H p (.tup [.str (hs h), .ref a, .ref b])) tp p0 a1 a2 (ds ++ [p]) := (I.new hp _).put ((tb_new hh x y hp).le c c2)
theorem AdS.fin {H0 HJ H5 H6 : Hp} {tp p0 a1 a2 : Addr} {ds : List Addr} {Q : VK} (J : AdS H0 HJ tp p0 a1 a2 ds) (b5 : But1 tp HJ H5) (t5 : Tp H5 tp) (b6 : But1 tp H5 H6) (t6 : Tp H6 tp)
    (q : ∀ a t H', But1 tp H0 H' → Tp H' tp → At H' t a → LTm t → Q (.ref a) H') : (∀ d ∈ ds, Q (.ref d) H6) ∧ Q (.ref p0) H6 ∧ Q (.ref a1) H6 := by
  have k6 : TK HJ H6 := (tp_tk J.t b5).trans (tp_tk t5 b6)
  have fin : ∀ d, TmB HJ 13 5 d → Q (.ref d) H6 := fun d hd => by
    obtain ⟨t, h1, h2⟩ := (hd.tk k6).lt
    exact q d t H6 ((J.b.trans b5).trans b6) t6 h1 h2
  exact ⟨fun d hd => fin d (J.ds d hd), fin _ (J.g0.le (by decide) (by decide)), fin _ (J.g1.le (by decide) (by decide))⟩
section
variable {P : Program} {w : World} {K : PySem.W.Frag} {mg : Str → Option Value} {base : Heap}
/-! ### _law_adding -/
end
end KB

namespace KB
open PySem L2

abbrev kgO : Key := Sum.inr "own"
abbrev kgI : Key := Sum.inr "wild"
def klT (el hd wl pl : Addr) (own : Str) (wild : Int) : List (Key × V) := [(kgE, .ref el), (kgH, .ref hd), (kgW, .ref wl), (kgP, .ref pl), (kgO, .str own), (kgI, .int wild)]
/-- what the generator of laid parts has at hand -/
structure GL (H : Hp) (tp kd wl pl : Addr) (ws js : List Str) : Prop where
  t : Tp H tp
  w : Wls H wl ws
  p : Wls H pl js
  wn : ws.length ≤ 100
  pn : js.length ≤ 100
  wp : wl ≠ pl
  k : ∃ el hd fs kvs own wild, H kd = some (.dK (klT el hd wl pl own wild)) ∧ 1 ≤ wild ∧ wild ≤ 3 ∧ own ∈ fs ∧ el ≠ wl ∧ el ≠ pl ∧ Wls H el fs ∧ 0 < fs.length ∧ fs.length ≤ 100 ∧ H hd = some (.dK kvs) ∧ ∀ f ∈ fs, ∃ n : Int, valV kvs (Sum.inr f) = some (.int n) ∧ 0 ≤ n ∧ n ≤ 4
section
variable {H H' : Hp} {tp kd wl pl : Addr} {ws js ws' js' : List Str}
theorem GL.ntk (g : GL H tp kd wl pl ws js) {a : Addr} {o : HO} (h : H a = some o) (hn : ∀ xs, o ≠ .lst xs) : a ≠ tp ∧ a ≠ wl ∧ a ≠ pl := by
  obtain ⟨z, hz⟩ := g.t
  exact ⟨ne_of h hz (hn _), ne_of h g.w.1 (hn _), ne_of h g.p.1 (hn _)⟩
theorem GL.tk (g : GL H tp kd wl pl ws js) (b : But3 tp wl pl H H') : TK H H' := fun a _ h => by
  obtain ⟨n1, n2, n3⟩ := g.ntk h (fun _ z => nomatch z)
  exact b a _ n1 n2 n3 h
theorem GL.step (g : GL H tp kd wl pl ws js) (b : But3 tp wl pl H H') (t : Tp H' tp) (w : Wls H' wl ws') (p : Wls H' pl js') (wn : ws'.length ≤ 100) (pn : js'.length ≤ 100) : GL H' tp kd wl pl ws' js' := by
  obtain ⟨el, hd, fs, kvs, own, wild, k1, r1, r2, r3, k2, k2', k3, k4, k5, k6, k7⟩ := g.k
  refine ⟨t, w, p, wn, pn, g.wp, el, hd, fs, kvs, own, wild, ?_, r1, r2, r3, k2, k2', ⟨b _ _ (wls_tp k3.1 g.t) k2 k2' k3.1, k3.2⟩, k4, k5, ?_, k7⟩
  · obtain ⟨n1, n2, n3⟩ := g.ntk k1 (fun _ z => nomatch z)
    exact b _ _ n1 n2 n3 k1
  · obtain ⟨n1, n2, n3⟩ := g.ntk k6 (fun _ z => nomatch z)
    exact b _ _ n1 n2 n3 k6
theorem GL.one (g : GL H tp kd wl pl ws js) (b : But1 tp H H') (t : Tp H' tp) : GL H' tp kd wl pl ws js := g.step b.three t (g.w.but b g.t) (g.p.but b g.t) g.wn g.pn
theorem GL.same (g : GL H tp kd wl pl ws js) (e : Same H H') : GL H' tp kd wl pl ws js := g.one (but_same e) (g.t.same e)
theorem Wls.threeL {a : Addr} {xs : List Str} (e : But3 tp wl pl H H') (g : GL H tp kd wl pl ws js) (n : a ≠ wl) (m : a ≠ pl) (h : Wls H a xs) : Wls H' a xs := ⟨e _ _ (wls_tp h.1 g.t) n m h.1, h.2⟩
theorem GL.new (g : GL H tp kd wl pl ws js) {p : Addr} (h : H p = none) : p ≠ tp ∧ p ≠ wl ∧ p ≠ pl := by
  obtain ⟨z, hz⟩ := g.t
  exact ⟨(ne_of_none hz h).symm, (ne_of_none g.w.1 h).symm, (ne_of_none g.p.1 h).symm⟩
variable {el hd : Addr} {own : Str} {wild : Int}
end
section
variable {P : Program} {w : World} {K : PySem.W.Frag} {mg : Str → Option Value} {base : Heap}
/-! ### _law_laid_ask -/
end
end KB

namespace KB
open PySem L2

/-- what stands around a laid part that is to be drawn -/
structure PtL (H : Hp) (tp kd wl pl ar : Addr) (ws js xs : List Str) : Prop where
  g : GL H tp kd wl pl ws js
  w : Wls H ar xs
  a1 : ar ≠ wl
  a2 : ar ≠ pl
  wj : ws.length ≤ js.length
  l1 : xs.length + ws.length ≤ 200
theorem PtL.step {H H' : Hp} {tp kd wl pl ar : Addr} {ws js ws' js' xs : List Str} (I : PtL H tp kd wl pl ar ws js xs) (b : But3 tp wl pl H H') (g : GL H' tp kd wl pl ws' js') (wj : ws'.length ≤ js'.length) (l1 : ws'.length ≤ ws.length) : PtL H' tp kd wl pl ar ws' js' xs := by
  have h1 := I.l1
  exact ⟨g, I.w.threeL b I.g I.a1 I.a2, I.a1, I.a2, wj, by omega⟩
theorem PtL.one {H H' : Hp} {tp kd wl pl ar : Addr} {ws js xs : List Str} (I : PtL H tp kd wl pl ar ws js xs) (b : But1 tp H H') (t : Tp H' tp) : PtL H' tp kd wl pl ar ws js xs := I.step b.three (I.g.one b t) I.wj (Nat.le_refl _)
theorem PtL.same {H H' : Hp} {tp kd wl pl ar : Addr} {ws js xs : List Str} (I : PtL H tp kd wl pl ar ws js xs) (s : Same H H') : PtL H' tp kd wl pl ar ws js xs := I.one (but_same s) (I.g.t.same s)
section
variable {P : Program} {w : World} {K : PySem.W.Frag} {mg : Str → Option Value} {base : Heap}
/-! ### _law_laid_part -/
end
end KB

namespace KB
open PySem L2 HT
/-! ### terms as data -/
/-! ### parts of turned books as data -/
/-- a simple term, good -/
structure STm_5 (t : Tm) : Prop where
  ok : okT t
  si : simple t = true
  cn : cnt t ≤ 13
  ht : HtLe 5 t
theorem SmT.st_5 {hd : Str → Option Nat} {xs : List Str} {t : Tm} (h : SmT hd xs t) : STm_5 t := ⟨h.ok, h.si, Nat.le_trans h.cn (by decide), h.ht.le (by decide)⟩
/-! ### all parts and terms of a part, counted -/
end KB

namespace KB
open PySem L2

/-! ### simple terms, seen -/
inductive ST
  | num (z : Int)
  | nam (x : Str)
  | two (l : Bool) (a b : ST)
def hdB (l : Bool) : Hd := if l then .less else .plus
def SAt (H : Hp) : ST → Addr → Prop
  | .num z, a => H a = some (.tup [.str "number", .int z])
  | .nam x, a => H a = some (.tup [.str "name", .str x])
  | .two l s t, a => ∃ b c, H a = some (.tup [.str (hs (hdB l)), .ref b, .ref c]) ∧ SAt H s b ∧ SAt H t c
theorem SAt.tk {H H' : Hp} (k : TK H H') : ∀ {s : ST} {a : Addr}, SAt H s a → SAt H' s a
  | .num _, _, h => k _ _ h
  | .nam _, _, h => k _ _ h
  | .two _ _ _, _, ⟨b, c, h, h1, h2⟩ => ⟨b, c, k _ _ h, SAt.tk k h1, SAt.tk k h2⟩
section
variable {P : Program} {w : World} {K : PySem.W.Frag} {mg : Str → Option Value} {base : Heap}
/-! ### _law_names_in -/
/-! ### _law_taken -/
end
end KB

namespace KB
open PySem L2

/-! ### the least place -/
def ltL : List Int → List Int → Bool
  | _, [] => false
  | [], _ :: _ => true
  | a :: r, b :: s => decide (a < b) || (decide (a = b) && ltL r s)
theorem ltL_irr : ∀ xs : List Int, ltL xs xs = false
  | [] => rfl
  | a :: r => by
    unfold ltL
    rw [ltL_irr r]
    simp
theorem ltL_tr : ∀ {xs ys zs : List Int}, ltL xs ys = true → ltL ys zs = true → ltL xs zs = true
  | xs, [], zs, h, _ => by
    cases xs <;> cases h
  | xs, b :: s, [], _, h => by cases h
  | [], b :: s, c :: t, _, _ => rfl
  | a :: r, b :: s, c :: t, h1, h2 => by
    unfold ltL at h1 h2 ⊢
    simp only [Bool.or_eq_true, Bool.and_eq_true, decide_eq_true_eq] at h1 h2 ⊢
    rcases h1 with h1 | ⟨h1, g1⟩
    · rcases h2 with h2 | ⟨h2, g2⟩
      · left
        omega
      · left
        omega
    · rcases h2 with h2 | ⟨h2, g2⟩
      · left
        omega
      · right
        exact ⟨by omega, ltL_tr g1 g2⟩
theorem ltL_cons (k : Int) (xs ys : List Int) : ltL (k :: xs) (k :: ys) = ltL xs ys := by
  show (decide (k < k) || (decide (k = k) && ltL xs ys)) = _
  simp
theorem ltL_lt {k l : Int} (h : k < l) (xs ys : List Int) : ltL (k :: xs) (l :: ys) = true := by
  show (decide (k < l) || _) = true
  rw [decide_eq_true h]
  rfl
/-- d is a least one of these -/
def MinOf (xs : List (List Int)) : Option (List Int) → Prop
  | none => xs = []
  | some m => m ∈ xs ∧ ∀ y ∈ xs, ltL y m = false
theorem MinOf.less {xs : List (List Int)} {m x : List Int} (h : MinOf xs (some m)) (c : ltL x m = true) : MinOf (xs ++ [x]) (some x) := by
  refine ⟨List.mem_append_right _ List.mem_cons_self, fun y hy => ?_⟩
  rcases List.mem_append.mp hy with z | z
  · cases e : ltL y x with
    | false => rfl
    | true =>
      have h1 := ltL_tr e c
      rw [h.2 y z] at h1
      cases h1
  · rw [List.mem_singleton.mp z]
    exact ltL_irr x
theorem MinOf.keep {xs : List (List Int)} {m x : List Int} (h : MinOf xs (some m)) (c : ltL x m = false) : MinOf (xs ++ [x]) (some m) := by
  refine ⟨List.mem_append_left _ h.1, fun y hy => ?_⟩
  rcases List.mem_append.mp hy with z | z
  · exact h.2 y z
  · rw [List.mem_singleton.mp z]
    exact c
/-! ### the asks that are handed on, as the law meets them and as the program does -/
def orO {α : Type} : Option α → Option α → Option α
  | some a, _ => some a
  | none, b => b
/-- d is the least of these, all others are greater -/
def Least (xs : List (List Int)) : Option (List Int) → Prop
  | none => xs = []
  | some m => m ∈ xs ∧ ∀ y ∈ xs, y = m ∨ ltL m y = true
theorem Least.map {xs : List (List Int)} {d : Option (List Int)} (k : Int) (h : Least xs d) : Least (xs.map (k :: ·)) (d.map (k :: ·)) := by
  cases d with
  | none =>
    have h : xs = [] := h
    rw [h]
    rfl
  | some m =>
    refine ⟨List.mem_map.mpr ⟨m, h.1, rfl⟩, fun y hy => ?_⟩
    obtain ⟨z, hz, rfl⟩ := List.mem_map.mp hy
    rcases h.2 z hz with e | e
    · left
      rw [e]
    · right
      rw [ltL_cons]
      exact e
theorem Least.two {xs ys : List (List Int)} {d e : Option (List Int)} {k l : Int} (hkl : k < l) (h1 : Least xs d) (h2 : Least ys e) : Least (xs.map (k :: ·) ++ ys.map (l :: ·)) (orO (d.map (k :: ·)) (e.map (l :: ·))) := by
  have g1 := h1.map k
  have g2 := h2.map l
  cases d with
  | none =>
    have h1 : xs = [] := h1
    rw [h1]
    exact g2
  | some m =>
    refine ⟨List.mem_append_left _ g1.1, fun y hy => ?_⟩
    rcases List.mem_append.mp hy with z | z
    · exact g1.2 y z
    · obtain ⟨v, _, rfl⟩ := List.mem_map.mp z
      exact .inr (ltL_lt hkl _ _)
end KB

namespace KB
open PySem L2

/-! ### no place twice -/
theorem plL_head {N : Type} {pl : N → List (List Int × N)} : ∀ {ns : List N} {j : Nat} {e : List Int × N}, e ∈ plL pl j ns → ∃ (k : Nat) (r : List Int), j ≤ k ∧ e.1 = (k : Int) :: r
  | [], _, _, h => nomatch h
  | n :: ns, j, e, h => by
    rcases List.mem_append.mp h with z | z
    · obtain ⟨u, _, rfl⟩ := List.mem_map.mp z
      exact ⟨j, u.1, Nat.le_refl _, rfl⟩
    · obtain ⟨k, r, h1, h2⟩ := plL_head z
      exact ⟨k, r, by omega, h2⟩
theorem plL_nd {N : Type} {pl : N → List (List Int × N)} : ∀ {ns : List N} {j : Nat}, (∀ n ∈ ns, ((pl n).map (·.1)).Nodup) → ((plL pl j ns).map (·.1)).Nodup
  | [], _, _ => List.nodup_nil
  | n :: ns, j, h => by
    show (((pl n).map (fun e => ((j : Int) :: e.1, e.2)) ++ plL pl (j + 1) ns).map (·.1)).Nodup
    rw [List.map_append, List.nodup_append]
    refine ⟨?_, plL_nd fun m hm => h m (List.mem_cons_of_mem _ hm), ?_⟩
    · rw [List.map_map]
      have e : ((fun x : List Int × N => x.1) ∘ fun e : List Int × N => ((j : Int) :: e.1, e.2)) = (((j : Int) :: ·) ∘ (·.1)) := rfl
      rw [e, ← List.map_map]
      exact List.Pairwise.map _ (fun a b hab z => hab (List.cons.inj z).2) (h n List.mem_cons_self)
    · intro a ha b hb
      obtain ⟨u, hu, rfl⟩ := List.mem_map.mp ha
      obtain ⟨v, _, rfl⟩ := List.mem_map.mp hu
      obtain ⟨u2, hu2, rfl⟩ := List.mem_map.mp hb
      obtain ⟨k, r, h1, h2⟩ := plL_head hu2
      rw [h2]
      intro z
      have := (List.cons.inj z).1
      omega
theorem sz_mem {N : Type} (R : Tre N) : ∀ {ns : List N} {n : N}, n ∈ ns → R.sz n ≤ (ns.map R.sz).sum
  | m :: r, n, h => by
    rcases List.mem_cons.mp h with z | z
    · rw [z]
      show R.sz m ≤ R.sz m + (r.map R.sz).sum
      omega
    · have := sz_mem R z
      show R.sz n ≤ R.sz m + (r.map R.sz).sum
      omega
theorem pl_nd {N : Type} (R : Tre N) : ∀ (m : Nat) (n : N), R.sz n ≤ m → ((R.pl n).map (·.1)).Nodup
  | 0, n, h => by
    have := R.szk n
    omega
  | m + 1, n, h => by
    rw [R.plk, List.map_cons, List.nodup_cons]
    have hs := R.szk n
    refine ⟨fun z => ?_, plL_nd fun k hk => pl_nd R m k (by have := sz_mem R hk; omega)⟩
    obtain ⟨u, hu, e⟩ := List.mem_map.mp z
    obtain ⟨k, r, _, h2⟩ := plL_head hu
    rw [h2] at e
    cases e
/-! ### what is known of an entry -/
theorem LTm.st {t : Tm} (h : LTm t) : STm_5 t := ⟨h.ok, h.si, h.cn, h.ht⟩
end KB

namespace KB
open PySem PySem.Spec PyProof.Rows L2

/-! ### for k, v in d.items(), the keys tuples -/
section
variable {X : Cx} {pins : List (Addr × Obj)} {σ : L2.St} {H : Hp} {s : Shared} {d : Addr} {o : Obj}
theorem frz_tup {kvs : List (List L2.Key × L2.V)} (I : Inv X pins σ H s) (h : H d = some (.frz o (.dT kvs))) :
    (d == sysModules) = false ∧ s.heap.get? d = some o ∧ o.ExactDict ∧ ∃ (es : Array DictEntry) (ep : Nat), o.data = .dict es ep ∧ es.size = kvs.length ∧
      ∀ (i : Nat) (k : List L2.Key) (v : L2.V), kvs[i]? = some (k, v) → ∃ (en : DictEntry) (q : Addr), es[i]? = some en ∧ en.key = .ref q ∧ H q = some (.tup (k.map kV)) ∧ RelV v en.val := by
  obtain ⟨hd, z, hs, xs, pr, o', es, ep, ho, hx, hdt, he, _⟩ := I.hok d _ h
  rw [hd] at ho
  cases ho
  refine ⟨hs, hd, hx, es, ep, hdt, ?_, fun i k v e => ?_⟩
  · have l1 : es.size = xs.length := size_of_entries he
    have l2 : kvs.length = xs.length := Paired.length pr
    omega
  · obtain ⟨b, hb, e1, e2, e3⟩ := paired_get pr e
    have g := entry_at he i
    rw [hb] at g
    exact ⟨_, b.2.1, g, rfl, e2, e3⟩
end
/-- the pairs of the locked dict at d, each a new tuple: the key's own tuple, the value -/
def ItT (d : Addr) (o : Obj) (kvs : List (List L2.Key × L2.V)) : It :=
  ⟨fun i H => H d = some (.frz o (.dT kvs)) ∧ i < kvs.length, fun i H x H' => ∃ T k v q, kvs[i]? = some (k, v) ∧ H q = some (.tup (k.map kV)) ∧ x = .ref T ∧ H T = none ∧ H' = upd H T (.tup [.ref q, v]), fun i H => H d = some (.frz o (.dT kvs)) ∧ kvs.length ≤ i⟩
section
variable {P : Program} {w : World} {K : PySem.W.Frag} {d : Addr} {o : Obj} {es : Array DictEntry} {ep : Nat}
theorem turn_tup {kvs : List (List L2.Key × L2.V)} {elts : List Expr} {kk : Nat} {tpos : Pos} (it : Addr) (hod : o.data = .dict es ep) :
    Turn P w K (.Tuple elts kk tpos) (ItT d o kvs) [it] it (fun i h => ∃ ok ov, IsItemIter h it d i kvs.length ep ok ov) where
  mem := by simp
  obj := fun i h st b hb => by
    have e : b = it := by simpa using hb
    subst e
    obtain ⟨ok, ov, e⟩ := st
    exact ⟨_, e, fun v z => nomatch z⟩
  keep := fun i h h' st k => let ⟨ok, ov, e⟩ := st; ⟨ok, ov, k it (by simp) _ e⟩
  item := by
    intro X hP hw hK hc i pins s σ H E I hf st hg
    subst hP hw hK
    obtain ⟨hd, hi⟩ := hg
    obtain ⟨hs, hgd, hx, es', ep', hdt, hsz, ent⟩ := frz_tup I hd
    obtain ⟨rfl, rfl⟩ := dict_ep hod hdt
    obtain ⟨⟨k, v⟩, hkv⟩ : ∃ p, kvs[i]? = some p := ⟨kvs[i], List.getElem?_eq_getElem hi⟩
    obtain ⟨en, q, hen, hkey, hq, rv⟩ := ent i k v hkv
    obtain ⟨ok, ov, he⟩ := st
    rw [← hsz] at he
    have hlt : it < s.heap.objs.size := Heap.lt_size he
    have hie : i < es'.size := by omega
    have een : es'[i] = en := by
      rw [Array.getElem?_eq_getElem hie] at hen
      exact Option.some.inj hen
    refine DT.nextI he ⟨o, hgd, hx, hdt⟩ hie fun h' ho hT hz hk => ?_
    rw [een, hkey] at ho hT
    refine ⟨_, rfl, wpAny_letOwnedTupleGo_items (s := { s with heap := h' }) ho fun h'' he' sb => ?_⟩
    have hT2 : h''.get? s.heap.objs.size = some { cls := .type "tuple", data := .seq #[.ref q, en.val] } := (sb.2 _ (Nat.ne_of_gt hlt)).trans hT
    have new : ObjOk X.prog X.w (upd H s.heap.objs.size (.tup [.ref q, v])) h'' s.heap.objs.size (.tup [.ref q, v]) :=
      ⟨by show 2 ≤ sizeLine; decide, [.ref q, en.val], .cons rfl (.cons rv .nil), ⟨_, hT2, rfl, _, rfl⟩⟩
    have I1 : Inv X pins σ (upd H s.heap.objs.size (.tup [.ref q, v])) { s with heap := h'' } :=
      I.turnedNew (t' := s.toks) (ch := [it]) (fun b ob hb e => (sb.2 b (by simpa using hb)).trans (hk b ob (by simpa using hb) e)) hf (Nat.le_refl _) new
    refine ⟨.ref s.heap.objs.size, _, I1, rfl, ⟨_, k, v, q, hkv, hq, rfl, I.hok.fresh (Nat.le_refl _), rfl⟩, ⟨.ref q, en.val, ?_⟩, fun b hb => ?_⟩
    · rw [← hsz]; exact he'
    · have e : b = it := by simpa using hb
      rw [e, upd_ne (Nat.ne_of_lt hlt)]
      exact (hf it (by simp)).1
  done := by
    intro X hP hw hK hc i pins s σ H E I hf st hg
    subst hP hw hK
    obtain ⟨hd, hi⟩ := hg
    obtain ⟨f0, f1, f2, f3, f4, f5⟩ := hf it (by simp)
    obtain ⟨hs, hgd, hx, es', ep', hdt, hsz, ent⟩ := frz_tup I hd
    obtain ⟨rfl, rfl⟩ := dict_ep hod hdt
    obtain ⟨ok, ov, he⟩ := st
    rw [← hsz] at he
    exact DT.endI (I.ok.hd hc) he ⟨o, hgd, hx, hdt⟩ (by omega) fun h' eb => ⟨rfl, I.turned (t' := s.toks) (fun b ob hb e => eb b ob hb e) f0 f1 f3 f4 f5⟩
  self := fun A i s Q E st h => let ⟨_, _, e⟩ := st; PySem.W.kcp_self e h
end
def iTupItems (td : TE) : TI := fun σ H R => td σ H fun x H1 => ∃ d o kvs, x = .ref d ∧ H1 d = some (.frz o (.dT kvs)) ∧ R (ItT d o kvs) H1
theorem pi_tupItems {X : Cx} {e : Expr} {td : TE} {apos cpos : Pos} {elts : List Expr} {kk : Nat} {tpos : Pos} (he : PE X e td) (hbase : attributeBase e "items" X.env (eval e X.env) = eval e X.env := by rfl) (hline : (apos.endLine == cpos.line) = true := by rfl) :
    PI X (.Tuple elts kk tpos) (.Call (.Attribute e "items" apos) [] [] cpos) (iTupItems td) := by
  refine ⟨fun pins s σ H R I h => ?_⟩
  refine wpAny_Call_method (T := "dict") (id := "dict.items") hbase rfl hline F.plainAttrs_dict F.slot_dict_items F.type_dict_items (thn (he.run pins s σ H _ I h) fun u s1 ⟨x, H1, I1, rx, d, o, kvs, ex, hd, q⟩ => ?_)
  subst ex
  obtain rfl : u = Value.ref d := rx
  obtain ⟨hs, hgd, hx, es, ep, hdt, hsz, ent⟩ := frz_tup I1 hd
  have raw : DT.Raw s1.heap d es ep := ⟨o, hgd, hx, hdt⟩
  refine ⟨raw.typeIs, fun b z => ?_, ?_⟩
  · cases z
    exact ⟨o, hgd, hx.2.1⟩
  have I2 : Inv X pins σ H1 { s1 with heap := s1.heap.push { cls := .type "dict_items", data := .fields #[.ref d] } } := I1.kept (t' := s1.toks) fun b ob z => Heap.get?_push_of_some _ z
  have fin : wpAny (model X.prog X.w) X.A (pyIter (.ref s1.heap.objs.size)) (PIE X pins σ (.Tuple elts kk tpos) R) X.xe { s1 with heap := s1.heap.push { cls := .type "dict_items", data := .fields #[.ref d] } } := by
    refine DT.iterI (d := d) ⟨_, Heap.get?_push_size _ rfl, rfl, rfl⟩ (raw.push _) (pi_one (tk := s1.toks) I2 _ (turn_tup _ hdt) ⟨.none, .none, ?_⟩ q)
    rw [← hsz]
    exact Heap.get?_push_size _ rfl
  show wpAny _ _ (callWith cpos (.builtin "dict.items") [.ref d] [] []) _ X.xe s1
  exact method_meetsIn F.slot_dict_items F.entry_dict_items rfl (PySem.evalArgs_none ⟨rfl, raw.typeIs, F.args_dict_items_1 _, _, DT.meetsItems (es := es) (ep := ep) hs, raw, fin⟩)
theorem walk_tupItems {d : Addr} {o : Obj} {kvs : List (List L2.Key × L2.V)} : Walk (ItT d o kvs) kvs.length (fun H => H d = some (.frz o (.dT kvs))) (fun i H x H' => ∃ T k v q, kvs[i]? = some (k, v) ∧ H q = some (.tup (k.map kV)) ∧ x = .ref T ∧ H T = none ∧ H' = upd H T (.tup [.ref q, v])) :=
  ⟨fun _ _ hi g => ⟨g, hi⟩, fun _ g => ⟨g, Nat.le_refl _⟩, fun _ _ _ _ _ _ y => y⟩
end KB

namespace KB
open PySem PySem.Spec PyProof.Rows L2

/-! ### dict(pairs), the keys tuples -/
/-- a pair at p: the key's own tuple at q, a value -/
def PrT (H : Hp) (p : Addr) (kv : List L2.Key × L2.V) : Prop := ∃ q, H p = some (.tup [.ref q, kv.2]) ∧ H q = some (.tup (kv.1.map kV))
section
variable {X : Cx} {pins : List (Addr × Obj)} {σ : L2.St} {H : Hp} {s : Shared}
end
section
variable {X : Cx}
end
end KB

namespace KB
open PySem L2 HT

theorem put_new {kvs : List (List L2.Key × L2.V)} {k : List L2.Key} {v : L2.V} (h : k ∉ kvs.map (·.1)) : putK kvs k v = kvs ++ [(k, v)] := by
  unfold putK
  rw [if_neg]
  intro z
  obtain ⟨x, hx, e⟩ := List.any_eq_true.mp z
  exact h (List.mem_map.mpr ⟨x, hx, of_decide_eq_true e⟩)
theorem valV_mem : ∀ {kvs : List (List L2.Key × L2.V)} {k : List L2.Key} {v : L2.V}, (kvs.map (·.1)).Nodup → (k, v) ∈ kvs → valV kvs k = some v
  | kv :: r, k, v, h, hm => by
    unfold valV
    rw [List.find?_cons]
    rw [List.map_cons, List.nodup_cons] at h
    by_cases c : kv.1 = k
    · rw [decide_eq_true c]
      rcases List.mem_cons.mp hm with z | z
      · rw [← z]
        rfl
      · exact absurd (List.mem_map.mpr ⟨_, z, c.symm⟩) h.1
    · rw [decide_eq_false c]
      rcases List.mem_cons.mp hm with z | z
      · exact absurd (by rw [← z]) c
      · exact valV_mem h.2 z
def keyP (f : Str) (pl : List Int) : List L2.Key := .inr f :: pl.map .inl
theorem keyP_V (f : Str) (pl : List Int) : (keyP f pl).map kV = .str f :: pl.map V.int := by
  unfold keyP
  rw [List.map_cons, List.map_map]
  rfl
theorem keyP_inj {f : Str} {a b : List Int} (h : keyP f a = keyP f b) : a = b := by
  have h := (List.cons.inj h).2
  induction a generalizing b with
  | nil =>
    cases b with
    | nil => rfl
    | cons y s => cases h
  | cons x r ih =>
    cases b with
    | nil => cases h
    | cons y s =>
      obtain ⟨h1, h2⟩ := List.cons.inj h
      rw [Sum.inl.inj h1, ih (b := s) (by unfold keyP; exact congrArg _ h2) h2]
theorem ents {H : Hp} {nm : Str} : ∀ {es : List (List Int × Nd)} {its : List V}, All2 (EntV NAt H [.str nm]) es its → ∃ (ps : List Addr) (kvs : List (List L2.Key × L2.V)), its = ps.map V.ref ∧ PySem.Paired (PrT H) ps kvs ∧ kvs.map (·.1) = es.map (fun e => keyP nm e.1) ∧ All2 (fun e v => ∃ b, v = V.ref b ∧ NAt H e.2 b) es (kvs.map (·.2))
  | [], [], _ => ⟨[], [], rfl, .nil, rfl, trivial⟩
  | e :: es, v :: vs, ⟨⟨q, r, b, e1, h1, h2, h3⟩, t⟩ => by
    obtain ⟨ps, kvs, g1, g2, g3, g4⟩ := ents t
    refine ⟨q :: ps, (keyP nm e.1, .ref b) :: kvs, by rw [e1, g1]; rfl, .cons ⟨r, h1, by rw [h2, keyP_V]; rfl⟩ g2, by rw [List.map_cons, List.map_cons, g3], ⟨b, rfl, h3⟩, g4⟩
  | [], _ :: _, h => h.elim
  | _ :: _, [], h => h.elim
theorem keys_nd {nm : Str} {es : List (List Int × Nd)} (h : (es.map (·.1)).Nodup) : (es.map (fun e => keyP nm e.1)).Nodup := by
  have e : (es.map (fun e => keyP nm e.1)) = (es.map (·.1)).map (keyP nm) := by
    rw [List.map_map]
    rfl
  rw [e]
  exact List.Pairwise.map _ (fun a b hab z => hab (keyP_inj z)) h
section
variable {P : Program} {w : World} {K : PySem.W.Frag} {mg : Str → Option Value} {base : Heap} {CN : Addr}
/-! ### not_carried_at -/
end
end KB

namespace KB
open PySem L2

/-! ### asks, each by its place, and rows of them -/
abbrev Pl := Str × List Int
abbrev Ak := Pl × Str × Nat
inductive Row (A : List Ak) : Str → List Ak → Str → Prop
  | nil {f : Str} : Row A f [] f
  | cons {a : Ak} {r : List Ak} {g : Str} : a ∈ A → Row A a.2.1 r g → Row A a.1.1 (a :: r) g
def wtR (r : List Ak) : Nat := (r.map (·.2.2)).sum
theorem wtR_app (r q : List Ak) : wtR (r ++ q) = wtR r + wtR q := by
  unfold wtR
  rw [List.map_append, List.sum_append]
theorem wtR_cons (a : Ak) (r : List Ak) : wtR (a :: r) = a.2.2 + wtR r := rfl
theorem Row.cons' {A : List Ak} {a : Ak} {r : List Ak} {f g : Str} (h : a ∈ A) (e : a.1.1 = f) (k : Row A a.2.1 r g) : Row A f (a :: r) g := e ▸ .cons h k
theorem Row.app {A : List Ak} {f g h : Str} {r q : List Ak} (a : Row A f r g) (b : Row A g q h) : Row A f (r ++ q) h := by
  induction a with
  | nil => exact b
  | cons m _ ih => exact .cons m (ih b)
theorem Row.snoc {A : List Ak} {f g : Str} {r : List Ak} {a : Ak} (h : Row A f r g) (m : a ∈ A) (e : a.1.1 = g) : Row A f (r ++ [a]) a.2.1 := h.app (.cons' m e .nil)
theorem Row.mem {A : List Ak} {f g : Str} {r : List Ak} (h : Row A f r g) : ∀ a ∈ r, a ∈ A := by
  induction h with
  | nil => exact fun _ z => nomatch z
  | cons m _ ih =>
    intro b hb
    rcases List.mem_cons.mp hb with z | z
    · rw [z]; exact m
    · exact ih b z
theorem Row.to {A : List Ak} {f g : Str} {r : List Ak} (h : Row A f r g) : ∀ b ∈ r, ∃ q, Row A f q b.1.1 := by
  induction h with
  | nil => exact fun _ z => nomatch z
  | @cons a r g m _ ih =>
    intro b hb
    rcases List.mem_cons.mp hb with z | z
    · rw [z]; exact ⟨[], .nil⟩
    · obtain ⟨q, hq⟩ := ih b z
      exact ⟨a :: q, .cons m hq⟩
/-- names that no ask leads out of -/
def Cl (A : List Ak) (N : List Str) : Prop := ∀ a ∈ A, a.1.1 ∈ N → a.2.1 ∈ N
theorem Row.cl {A : List Ak} {N : List Str} (c : Cl A N) {f g : Str} {r : List Ak} (h : Row A f r g) : f ∈ N → g ∈ N ∧ ∀ a ∈ r, a.1.1 ∈ N := by
  induction h with
  | nil => exact fun m => ⟨m, fun _ z => nomatch z⟩
  | @cons a r g m _ ih =>
    intro hf
    obtain ⟨x, y⟩ := ih (c a m hf)
    refine ⟨x, fun b hb => ?_⟩
    rcases List.mem_cons.mp hb with z | z
    · rw [z]; exact hf
    · exact y b z
/-! ### no ring: so many weigh at most -/
def NR (A : List Ak) (N : List Str) : Prop := ∀ a ∈ A, 0 < a.2.2 → a.1.1 ∈ N → ∀ r, ¬ Row A a.2.1 r a.1.1
def srcs (r : List Ak) : List Str := (r.filter fun a => decide (0 < a.2.2)).map (·.1.1)
theorem srcs_mem {r : List Ak} {s : Str} (h : s ∈ srcs r) : ∃ a ∈ r, 0 < a.2.2 ∧ a.1.1 = s := by
  obtain ⟨a, ha, e⟩ := List.mem_map.mp h
  obtain ⟨h1, h2⟩ := List.mem_filter.mp ha
  exact ⟨a, h1, of_decide_eq_true h2, e⟩
theorem nodup_le : ∀ {xs ys : List Str}, xs.Nodup → (∀ x ∈ xs, x ∈ ys) → xs.length ≤ ys.length
  | [], ys, _, _ => Nat.zero_le _
  | x :: xs, ys, nd, h => by
    obtain ⟨n1, n2⟩ := List.nodup_cons.mp nd
    have hx : x ∈ ys := h x List.mem_cons_self
    have l := List.length_erase_of_mem hx
    have i := nodup_le (xs := xs) (ys := ys.erase x) n2 fun y hy => (List.mem_erase_of_ne (show y ≠ x from fun e => n1 (by rw [← e]; exact hy))).mpr (h y (List.mem_cons_of_mem _ hy))
    have p : 0 < ys.length := List.length_pos_of_mem hx
    rw [List.length_cons]
    omega
theorem srcs_ok {A : List Ak} {N : List Str} (c : Cl A N) (nr : NR A N) {f g : Str} {r : List Ak} (h : Row A f r g) : f ∈ N → (srcs r).Nodup ∧ ∀ s ∈ srcs r, s ∈ N := by
  induction h with
  | nil => exact fun _ => ⟨List.nodup_nil, fun _ z => nomatch z⟩
  | @cons a r g m k ih =>
    intro hf
    obtain ⟨x, y⟩ := ih (c a m hf)
    by_cases w : 0 < a.2.2
    · have e : srcs (a :: r) = a.1.1 :: srcs r := by
        unfold srcs
        rw [List.filter_cons_of_pos (by exact decide_eq_true w)]
        rfl
      rw [e]
      refine ⟨List.nodup_cons.mpr ⟨fun z => ?_, x⟩, fun s hs => ?_⟩
      · obtain ⟨b, hb, _, e2⟩ := srcs_mem z
        obtain ⟨q, hq⟩ := k.to b hb
        rw [e2] at hq
        exact nr a m w hf q hq
      · rcases List.mem_cons.mp hs with z | z
        · rw [z]; exact hf
        · exact y s z
    · have e : srcs (a :: r) = srcs r := by
        unfold srcs
        rw [List.filter_cons_of_neg (by show ¬ decide (0 < a.2.2) = true; rw [decide_eq_false w]; exact Bool.false_ne_true)]
      rw [e]
      exact ⟨x, y⟩
theorem wt_srcs {A : List Ak} (w1 : ∀ a ∈ A, a.2.2 ≤ 1) : ∀ {r : List Ak}, (∀ a ∈ r, a ∈ A) → wtR r = (srcs r).length
  | [], _ => rfl
  | a :: r, h => by
    have i := wt_srcs w1 (r := r) fun b hb => h b (List.mem_cons_of_mem _ hb)
    have ha := w1 a (h a List.mem_cons_self)
    rw [wtR_cons, i]
    by_cases w : 0 < a.2.2
    · have e : srcs (a :: r) = a.1.1 :: srcs r := by
        unfold srcs
        rw [List.filter_cons_of_pos (by exact decide_eq_true w)]
        rfl
      rw [e, List.length_cons]
      omega
    · have e : srcs (a :: r) = srcs r := by
        unfold srcs
        rw [List.filter_cons_of_neg (by show ¬ decide (0 < a.2.2) = true; rw [decide_eq_false w]; exact Bool.false_ne_true)]
      rw [e]
      omega
theorem wt_le {A : List Ak} {N : List Str} (c : Cl A N) (nr : NR A N) (w1 : ∀ a ∈ A, a.2.2 ≤ 1) {f g : Str} {r : List Ak} (h : Row A f r g) (hf : f ∈ N) : wtR r ≤ N.length := by
  obtain ⟨x, y⟩ := srcs_ok c nr h hf
  rw [wt_srcs w1 h.mem]
  exact nodup_le x y
/-! ### levels -/
def Up (A : List Ak) (N : List Str) (lv : Str → Nat) : Prop := ∀ a ∈ A, a.1.1 ∈ N → lv a.2.1 + a.2.2 ≤ lv a.1.1
def Re (A : List Ak) (N : List Str) (lv : Str → Nat) : Prop := ∀ n ∈ N, ∃ r g, Row A n r g ∧ wtR r = lv n
theorem Up.row {A : List Ak} {N : List Str} {lv : Str → Nat} (u : Up A N lv) (c : Cl A N) {f g : Str} {r : List Ak} (h : Row A f r g) : f ∈ N → wtR r + lv g ≤ lv f := by
  induction h with
  | nil => exact fun _ => by show 0 + _ ≤ _; omega
  | @cons a r g m k ih =>
    intro hf
    have := ih (c a m hf)
    have := u a m hf
    rw [wtR_cons]
    omega
theorem first_w {A : List Ak} {f g : Str} {r : List Ak} (h : Row A f r g) : 0 < wtR r → ∃ p a q, r = p ++ a :: q ∧ wtR p = 0 ∧ 0 < a.2.2 ∧ a ∈ A ∧ Row A f p a.1.1 ∧ Row A a.2.1 q g := by
  induction h with
  | nil => exact fun z => absurd z (Nat.lt_irrefl 0)
  | @cons a r g m k ih =>
    intro hw
    by_cases w : 0 < a.2.2
    · exact ⟨[], a, r, rfl, rfl, w, m, .nil, k⟩
    · rw [wtR_cons] at hw
      obtain ⟨p, b, q, e1, e2, e3, e4, e5, e6⟩ := ih (by omega)
      exact ⟨a :: p, b, q, by rw [e1]; rfl, by rw [wtR_cons]; omega, e3, e4, .cons m e5, e6⟩
/-- there is an ask to one level below -/
theorem step_there {A : List Ak} {N : List Str} {lv : Str → Nat} (u : Up A N lv) (re : Re A N lv) (c : Cl A N) (w1 : ∀ a ∈ A, a.2.2 ≤ 1) {f : Str} (hf : f ∈ N) (h : 0 < lv f) : ∃ p a, Row A f p a.1.1 ∧ a ∈ A ∧ 0 < a.2.2 ∧ lv a.2.1 + 1 = lv f := by
  obtain ⟨r, g, hr, e⟩ := re f hf
  obtain ⟨p, a, q, e1, e2, e3, e4, e5, e6⟩ := first_w hr (by omega)
  have hs := (e5.cl c hf).1
  have h1 := u.row c e6 (c a e4 hs)
  have h2 := u.row c e5 hf
  have h3 := u a e4 hs
  have h4 := w1 a e4
  rw [e1, wtR_app, wtR_cons] at e
  exact ⟨p, a, e5, e4, e3, by omega⟩
/-- rows to all that can be come to -/
structure RowsOk (A : List Ak) (f : Str) (R : List (Str × List Ak)) : Prop where
  nd : (R.map (·.1)).Nodup
  st : f ∈ R.map (·.1)
  so : ∀ x ∈ R, Row A f x.2 x.1
  cl : Cl A (R.map (·.1))
theorem RowsOk.all {A : List Ak} {f : Str} {R : List (Str × List Ak)} (h : RowsOk A f R) {g : Str} {r : List Ak} (k : Row A f r g) : g ∈ R.map (·.1) := (k.cl h.cl h.st).1
/-! ### levels found by rounds -/
def sumL (N : List Str) (lv : Str → Nat) : Nat := (N.map lv).sum
theorem sum_le {N : List Str} {lv : Str → Nat} {B : Nat} (h : ∀ n ∈ N, lv n ≤ B) : sumL N lv ≤ N.length * B := by
  unfold sumL
  induction N with
  | nil => exact Nat.zero_le _
  | cons n N ih =>
    have h1 := h n List.mem_cons_self
    have h2 := ih fun m hm => h m (List.mem_cons_of_mem _ hm)
    rw [List.map_cons, List.sum_cons, List.length_cons, Nat.succ_mul]
    omega
def setL (lv : Str → Nat) (x : Str) (v : Nat) : Str → Nat := fun y => if y = x then v else lv y
theorem sum_set {N : List Str} {lv : Str → Nat} {x : Str} {v : Nat} (hv : lv x < v) : x ∈ N → sumL N lv < sumL N (setL lv x v) := by
  have mono : ∀ M : List Str, sumL M lv ≤ sumL M (setL lv x v) := by
    intro M
    unfold sumL
    induction M with
    | nil => exact Nat.le_refl _
    | cons n M ih =>
      rw [List.map_cons, List.sum_cons, List.map_cons, List.sum_cons]
      have : lv n ≤ setL lv x v n := by
        unfold setL
        split
        · rename_i e; rw [e]; omega
        · exact Nat.le_refl _
      omega
  intro hx
  induction N with
  | nil => cases hx
  | cons n M ih =>
    have m := mono M
    show lv n + sumL M lv < setL lv x v n + sumL M (setL lv x v)
    rcases List.mem_cons.mp hx with z | z
    · have : setL lv x v n = v := if_pos z.symm
      rw [this, ← z]
      omega
    · have := ih z
      have : lv n ≤ setL lv x v n := by
        unfold setL
        split
        · rename_i e; rw [e]; omega
        · exact Nat.le_refl _
      omega
theorem Re.set {A : List Ak} {N : List Str} {lv : Str → Nat} (re : Re A N lv) (c : Cl A N) {a : Ak} (ha : a ∈ A) (hs : a.1.1 ∈ N) : Re A N (setL lv a.1.1 (lv a.2.1 + a.2.2)) := by
  intro n hn
  by_cases e : n = a.1.1
  · obtain ⟨r, g, hr, hw⟩ := re a.2.1 (c a ha hs)
    refine ⟨a :: r, g, .cons' ha e.symm hr, ?_⟩
    rw [wtR_cons, show setL lv a.1.1 (lv a.2.1 + a.2.2) n = lv a.2.1 + a.2.2 from if_pos e]
    omega
  · obtain ⟨r, g, hr, hw⟩ := re n hn
    refine ⟨r, g, hr, ?_⟩
    rw [show setL lv a.1.1 (lv a.2.1 + a.2.2) n = lv n from if_neg e]
    exact hw
theorem Re.le {A : List Ak} {N : List Str} {lv : Str → Nat} (re : Re A N lv) (c : Cl A N) (nr : NR A N) (w1 : ∀ a ∈ A, a.2.2 ≤ 1) : ∀ n ∈ N, lv n ≤ N.length := fun n hn => by
  obtain ⟨r, g, hr, hw⟩ := re n hn
  rw [← hw]
  exact wt_le c nr w1 hr hn
end KB

namespace KB
open PySem L2 HT LamX NdefX

/-! ### asks in the heap -/
def keyA (p : Pl) : List L2.Key := keyP p.1 p.2
def AkE (H : Hp) (a : Ak) (kv : List L2.Key × V) : Prop := kv.1 = keyA a.1 ∧ ∃ b, kv.2 = .ref b ∧ H b = some (.tup [.str a.2.1, .int (a.2.2 : Int)])
def AkL (H : Hp) : List Ak → List (List L2.Key × V) → Prop
  | [], [] => True
  | a :: as, kv :: kvs => AkE H a kv ∧ AkL H as kvs
  | _, _ => False
theorem AkL.tk {H H' : Hp} (t : TK H H') : ∀ {as : List Ak} {kvs : List (List L2.Key × V)}, AkL H as kvs → AkL H' as kvs
  | [], [], _ => trivial
  | _ :: _, _ :: _, ⟨⟨e, b, h1, h2⟩, r⟩ => ⟨⟨e, b, h1, t _ _ h2⟩, r.tk t⟩
  | [], _ :: _, h => h.elim
  | _ :: _, [], h => h.elim
theorem AkL.app {H : Hp} {a : Ak} {kv : List L2.Key × V} (s : AkE H a kv) : ∀ {as : List Ak} {kvs : List (List L2.Key × V)}, AkL H as kvs → AkL H (as ++ [a]) (kvs ++ [kv])
  | [], [], _ => ⟨s, trivial⟩
  | _ :: _, _ :: _, ⟨x, r⟩ => ⟨x, r.app s⟩
  | [], _ :: _, h => h.elim
  | _ :: _, [], h => h.elim
theorem AkL.keys {H : Hp} : ∀ {as : List Ak} {kvs : List (List L2.Key × V)}, AkL H as kvs → kvs.map (·.1) = as.map fun a => keyA a.1
  | [], [], _ => rfl
  | _ :: _, _ :: _, ⟨x, r⟩ => by rw [List.map_cons, List.map_cons, x.1, r.keys]
  | [], _ :: _, h => h.elim
  | _ :: _, [], h => h.elim
theorem AkL.len {H : Hp} {as : List Ak} {kvs : List (List L2.Key × V)} (h : AkL H as kvs) : kvs.length = as.length := by
  have := congrArg List.length h.keys
  rwa [List.length_map, List.length_map] at this
theorem AkL.get {H : Hp} : ∀ {as : List Ak} {kvs : List (List L2.Key × V)}, AkL H as kvs → ∀ {i : Nat} {kv : List L2.Key × V}, kvs[i]? = some kv → ∃ a, as[i]? = some a ∧ AkE H a kv
  | [], [], _, i, kv, h => by simp at h
  | a :: as, kv0 :: kvs, ⟨x, r⟩, 0, kv, h => by
    rw [List.getElem?_cons_zero] at h
    cases h
    exact ⟨a, rfl, x⟩
  | a :: as, kv0 :: kvs, ⟨x, r⟩, i + 1, kv, h => by
    rw [List.getElem?_cons_succ] at h
    exact r.get h
  | [], _ :: _, h, _, _, _ => h.elim
  | _ :: _, [], h, _, _, _ => h.elim
theorem keyA_inj {p q : Pl} (h : keyA p = keyA q) : p = q := by
  have h1 : (Sum.inr p.1 : L2.Key) = Sum.inr q.1 := (List.cons.inj h).1
  have e : p.1 = q.1 := Sum.inr.inj h1
  have h' : keyP p.1 p.2 = keyP p.1 q.2 := by
    have z : keyP p.1 p.2 = keyP q.1 q.2 := h
    rw [z, e]
  exact Prod.ext e (keyP_inj h')
theorem keyA_V (p : Pl) : (keyA p).map kV = .str p.1 :: p.2.map V.int := keyP_V p.1 p.2
def PlAt (H : Hp) (p : Pl) (b : Addr) : Prop := H b = some (.tup (.str p.1 :: p.2.map V.int))
/-! ### asks of parts -/
def akOf (nm : Str) (e : List Int × Nd) : Option Ak := match e.2 with
  | .inl (.ask g _ j) => some ((nm, e.1), g, if j = "home" then 0 else 1)
  | _ => none
def asksE (e : TEr) : List Ak := (plQ e.2.2).filterMap (akOf e.1)
def asksB (es : List TEr) : List Ak := (es.map asksE).flatten
theorem akOf_pl {nm : Str} {e : List Int × Nd} {a : Ak} (h : akOf nm e = some a) : a.1 = (nm, e.1) ∧ a.2.2 ≤ 1 := by
  obtain ⟨ks, n⟩ := e
  cases n with
  | inl p =>
    cases p with
    | ask g ts j =>
      have : some (((nm, ks), g, if j = "home" then 0 else 1) : Ak) = some a := h
      cases this
      refine ⟨rfl, ?_⟩
      show (if j = "home" then 0 else 1) ≤ 1
      split <;> decide
    | _ => cases h
  | inr t => cases h
theorem asks_take {es : List TEr} {i : Nat} {e : TEr} (h : es[i]? = some e) : asksB (es.take (i + 1)) = asksB (es.take i) ++ asksE e := by
  obtain ⟨hi, he⟩ := List.getElem?_eq_some_iff.mp h
  unfold asksB
  rw [List.take_succ_eq_append_getElem hi, List.map_append, List.flatten_append, he]
  simp
theorem asksE_nm {e : TEr} {a : Ak} (h : a ∈ asksE e) : a.1.1 = e.1 ∧ a.2.2 ≤ 1 := by
  obtain ⟨x, hx, hh⟩ := List.mem_filterMap.mp h
  obtain ⟨h1, h2⟩ := akOf_pl hh
  exact ⟨by rw [h1], h2⟩
theorem asksE_nd (e : TEr) : ((asksE e).map (·.1)).Nodup := by
  have h1 : ((plQ e.2.2).map (·.1)).Nodup := pl_nd TrN _ (.inl e.2.2) (Nat.le_refl _)
  have sub : ∀ l : List (List Int × Nd), ((l.filterMap (akOf e.1)).map (·.1)).Sublist (l.map fun x => (e.1, x.1)) := by
    intro l
    induction l with
    | nil => exact List.Sublist.slnil
    | cons x l ih =>
      rw [List.filterMap_cons]
      cases hx : akOf e.1 x with
      | none => exact ih.trans (List.sublist_cons_self _ _)
      | some a =>
        rw [List.map_cons, List.map_cons, (akOf_pl hx).1]
        exact ih.cons_cons _
  refine (sub _).nodup ?_
  rw [show (plQ e.2.2).map (fun x => (e.1, x.1)) = ((plQ e.2.2).map (·.1)).map fun k => (e.1, k) from (List.map_map ..).symm]
  exact List.pairwise_map.mpr (h1.imp fun hab z => hab (Prod.mk.inj z).2)
theorem asksB_nd {es : List TEr} (h : (es.map (·.1)).Nodup) : ((asksB es).map (·.1)).Nodup := by
  induction es with
  | nil => exact List.nodup_nil
  | cons e r ih =>
    obtain ⟨n1, n2⟩ := List.nodup_cons.mp h
    have e1 : asksB (e :: r) = asksE e ++ asksB r := rfl
    rw [e1, List.map_append]
    refine List.nodup_append.mpr ⟨asksE_nd e, ih n2, fun x hx y hy z => ?_⟩
    obtain ⟨a, ha, rfl⟩ := List.mem_map.mp hx
    obtain ⟨b, hb, rfl⟩ := List.mem_map.mp hy
    obtain ⟨l, hl, hb2⟩ := List.mem_flatten.mp hb
    obtain ⟨e2, he2, rfl⟩ := List.mem_map.mp hl
    have h1 := (asksE_nm ha).1
    have h2 := (asksE_nm hb2).1
    refine n1 (List.mem_map.mpr ⟨e2, he2, ?_⟩)
    exact h2.symm.trans ((congrArg Prod.fst z).symm.trans h1)
theorem asksB_w {es : List TEr} : ∀ a ∈ asksB es, a.2.2 ≤ 1 := fun a ha => by
  obtain ⟨l, hl, hb2⟩ := List.mem_flatten.mp ha
  obtain ⟨e2, he2, rfl⟩ := List.mem_map.mp hl
  exact (asksE_nm hb2).2
theorem asksE_len (e : TEr) : (asksE e).length ≤ ncnt e.2.2 := by
  have h1 : (plQ e.2.2).length = ncnt e.2.2 := TrN.pl_len _ (.inl e.2.2) (Nat.le_refl _)
  rw [← h1]
  exact List.length_filterMap_le _ _
theorem asksB_len {es : List TEr} (h : ∀ e ∈ es, ncnt e.2.2 ≤ 1000) : (asksB es).length ≤ 1000 * es.length := by
  induction es with
  | nil => exact Nat.zero_le _
  | cons e r ih =>
    have e1 : asksB (e :: r) = asksE e ++ asksB r := rfl
    have := ih fun x hx => h x (List.mem_cons_of_mem _ hx)
    have := asksE_len e
    have := h e List.mem_cons_self
    rw [e1, List.length_append, List.length_cons]
    omega
theorem But1.tkD {D : Addr} {H H' : Hp} {kvs : List (List L2.Key × V)} (h : H D = some (.dT kvs)) (e : But1 D H H') : TK H H' := fun a xs ha => e a _ (fun z => by rw [z, h] at ha; cases ha) ha
theorem head_ask {H : Hp} {n : Nd} {a : Addr} (h : NAt H n a) : ∃ (x : Str) (r : List V), H a = some (.tup (.str x :: r)) ∧ (x = "ask" → ∃ g ts j, n = .inl (.ask g ts j)) := by
  cases n with
  | inl p =>
    obtain ⟨r, hr⟩ := h.1.head
    refine ⟨hsP p, r, hr, fun e => ?_⟩
    obtain ⟨g, ts, j, rfl⟩ := hsP_ask e
    exact ⟨g, ts, j, rfl⟩
  | inr t =>
    obtain ⟨hT, hsi⟩ := h
    obtain ⟨hh, n, k⟩ := t
    obtain ⟨ys, l, _⟩ := hT
    obtain ⟨r, hd⟩ := l.head
    refine ⟨_, r, hd, fun e => ?_⟩
    have e1 := (simple_mk hsi).1
    cases hh with
    | num z => exact absurd (show ("number" : Str) = "ask" from e) (by decide)
    | nam z => exact absurd (show ("name" : Str) = "ask" from e) (by decide)
    | plus => exact absurd (show ("plus" : Str) = "ask" from e) (by decide)
    | less => exact absurd (show ("less" : Str) = "ask" from e) (by decide)
    | _ => cases e1
section
variable {P : Program} {w : World} {K : PySem.W.Frag} {mg : Str → Option Value} {base : Heap}
/-! ### asks_placed -/
def spAsks : Sp := fun vs H Q _ => ∃ (p : Addr) (es : List TEr) (us : List V), vs = [.ref p] ∧ TBkAt H es us p ∧ es.length ≤ 6 ∧ (∀ e ∈ es, kP e.2.2 ∧ ncnt e.2.2 ≤ 1000) ∧ (es.map (·.1)).Nodup ∧
  ∀ D H' kvs, H D = none → Same H H' → H' D = some (.dT kvs) → AkL H' (asksB es) kvs → Q (.ref D) H'
abbrev sasks_placed : Stmt := top 25
theorem scasks_placed : FnScope ["turned", "asks", "name", "names", "body", "place", "part"] ["turned"] (defScope sasks_placed) := ⟨rfl, rfl, rfl, by decide +kernel, rfl, by decide +kernel, by decide +kernel⟩
theorem ok_asks {th : Value} (eh : mg "HOME" = some th) (rh : RelV (.str "home") th) {f f1 f2 : Addr} {fd d1 d2 : FuncData} (F : Fun K "asks_placed" "asks_placed" sasks_placed f fd)
    (Gplaced : FnOk P w K mg base CX0 3 f1 d1 ["name", "body", "parts"] (spPlaced TrN f2)) (Rplaced : Ref K mg "placed" f1 d1 ["name", "body", "parts"]) (Rturned_parts : Ref K mg "turned_parts" f2 d2 ["part"]) : FnOk P w K mg base CX0 4 f fd ["turned"] spAsks := by
  refine F.ok scasks_placed (fun vs H Q E h => ?_) (fun cdv A outer s H vs Q E hr h => ?_)
  · obtain ⟨p, es, us, rfl, _⟩ := h
    rfl
  obtain ⟨p, es, us, rfl, hB, hl6, hk, hnd, q⟩ := h
  refine ⟨_, (pss_cons (ps_set (i := 1) scasks_placed.nd rfl (Or.inl rfl) pe_dnewT)
    (pss_cons (ps_for PassesOwn.never rfl (pi_tup (pv 0)) (pg_tup rfl (pgs_cons (pg_name (i := 2) scasks_placed.nd rfl (Or.inl rfl)) (pgs_cons (pg_name (i := 3) scasks_placed.nd rfl (Or.inl rfl)) (pgs_cons (pg_name (i := 4) scasks_placed.nd rfl (Or.inl rfl)) pgs_nil)))) (pss_one (ps_for PassesOwn.never rfl (pi_list (pe_call Gplaced (hr.mono (by omega)) rfl Rplaced.m Rplaced.k Rplaced.b .nil pass0 (pa_cons (pv 2) (pa_cons (pv 4) (pa_cons (pe_glob (v := .ref f2) rfl Rturned_parts.m rfl) pa_nil))))) (pg_tup rfl (pgs_cons (pg_name (i := 5) scasks_placed.nd rfl (Or.inl rfl)) (pgs_cons (pg_name (i := 6) scasks_placed.nd rfl (Or.inl rfl)) pgs_nil))) (pss_one (ps_if (pt_cmpR op_eq (pe_ix ix_tup (pv 6) pe_int (fun _ _ => rfl)) pe_str (nomark _)) (pss_one (ps_dput (hu_of hr) (pv 1) (pv 5) (pe_tup (pa_cons (pe_ix ix_tup (pv 6) pe_int (fun _ _ => rfl)) (pa_cons (pe_ifExp (pt_cmpR op_eq (pe_ix ix_tup (pv 6) pe_int (fun _ _ => rfl)) (pe_glob (v := .str "home") rfl eh rh) (nomark _)) pe_int pe_int) pa_nil))) rfl)) pss_nil)))))
    (pss_one (ps_ret (pv 1))))), ?_⟩
  refine fun D hD => ?_
  have s0 := same_new hD (.dT [])
  have hndA := asksB_nd hnd
  refine ⟨_, rfl, p, rfl, ⟨_, SqT.of (s0 _ _ hB.1)⟩, for_tup (xs := us) (fun i σ H' => ∃ o2 o3 o4 o5 o6 kvs, σ = [some (.ref p), some (.ref D), o2, o3, o4, o5, o6] ∧ Same H H' ∧ H' D = some (.dT kvs) ∧ AkL H' (asksB (es.take i)) kvs) ⟨_, _, _, _, _, [], rfl, s0, upd_same, by rw [List.take_zero]; exact trivial⟩ ?_ ?_ ?_⟩
  · rintro i σ H' _ ⟨o2, o3, o4, o5, o6, kvs, rfl, s1, _⟩
    exact SqT.of (s1 _ _ hB.1)
  · rintro i x σ H1 hx ⟨o2, o3, o4, o5, o6, kvs, rfl, s1, h1, k1⟩
    obtain ⟨e, he, qa, r, b, rfl, g1, g2, g3⟩ := hB.2.get hx
    obtain ⟨hke, hne⟩ := hk e (mem_of_get he)
    refine ⟨qa, _, rfl, SqT.of (s1 _ _ g1), rfl, _, _, rfl, _, _, rfl, _, _, rfl, rfl, ?_⟩
    refine ⟨_, rfl, _, rfl, e.1, b, .inl e.2.2, rfl, ⟨PAt.tk (tk_same s1) g3, hke⟩, hne, fun L H2 its hL s2 h2 k2 => ?_⟩
    have k2' : All2 (EntV NAt H2 [.str e.1]) (plQ e.2.2) its := k2
    have hlp : its.length = ncnt e.2.2 := k2'.len.trans (TrN.pl_len _ (.inl e.2.2) (Nat.le_refl _))
    have nL : L ≠ D := fun z => by rw [z, h1] at hL; cases hL
    have hD2 := s2 _ _ h1
    have k12 := k1.tk (tk_same s2)
    have fD : ∀ {X : Hp} {A : List Ak} {kv : List (List L2.Key × V)}, AkL X A kv → A.length ≤ 6000 → kv.length ≤ 6000 := fun k h => by rw [k.len]; exact h
    have big := asksB_len (es := es.take (i + 1)) fun x hx => (hk x (List.mem_of_mem_take hx)).2
    have hl6' : (es.take (i + 1)).length ≤ es.length := by rw [List.length_take]; omega
    rw [asks_take he, List.length_append] at big
    refine ⟨L, rfl, ⟨_, SqL.of h2⟩, for_list (K := K) (a := L) (xs := its) (fun j σ H' => ∃ o5 o6 kvs, σ = [some (.ref p), some (.ref D), some (.str e.1), some (.ref r), some (.ref b), o5, o6] ∧ But1 D H2 H' ∧ H' D = some (.dT kvs) ∧ AkL H' (asksB (es.take i) ++ ((plQ e.2.2).take j).filterMap (akOf e.1)) kvs) ⟨_, _, kvs, rfl, But1.refl _ _, hD2, by rw [List.take_zero]; simpa using k12⟩ ?_ ?_ ?_⟩
    · rintro j σ H' _ ⟨o5, o6, kvs, rfl, b3, _⟩
      exact SqL.of (b3 _ _ nL h2)
    · rintro j x σ H3 hx ⟨o5, o6, kvs3, rfl, b3, h3, k3⟩
      obtain ⟨en, hen, q2, r2, b2, rfl, e1, e2, e3⟩ := k2'.get hx
      obtain ⟨hj, hj2⟩ := List.getElem?_eq_some_iff.mp hen
      have tk3 := But1.tkD hD2 b3
      refine ⟨q2, _, rfl, SqT.of (tk3 _ _ e1), rfl, _, _, rfl, _, _, rfl, rfl, ?_⟩
      obtain ⟨hx0, rr, hh, hask⟩ := head_ask e3
      have bj : (((plQ e.2.2).take j).filterMap (akOf e.1)).length ≤ (asksE e).length := (List.Sublist.filterMap _ (List.take_sublist j _)).length_le
      have step : (asksB (es.take i) ++ ((plQ e.2.2).take (j + 1)).filterMap (akOf e.1)) = (asksB (es.take i) ++ ((plQ e.2.2).take j).filterMap (akOf e.1)) ++ [en].filterMap (akOf e.1) := by
        rw [List.take_succ_eq_append_getElem hj, hj2, List.filterMap_append, List.append_assoc]
      refine ⟨_, rfl, b2, _, _, _, rfl, rfl, SqT.of (tk3 _ _ hh), at0, rfl, _, rfl, ?_⟩
      refine ite2 (fun c => ?_) (fun c => ?_)
      · obtain ⟨g, ts, jj, hn⟩ := hask (V.str.inj (of_decide_eq_true c))
        obtain ⟨ks, nd⟩ := en
        dsimp only at hn
        subst hn
        obtain ⟨⟨tb, tvs, t1, t2, t3⟩, _⟩ : PAt H2 (.ask g ts jj) b2 ∧ kP (.ask g ts jj) := e3
        have hak : akOf e.1 (ks, .inl (.ask g ts jj)) = some ((e.1, ks), g, if jj = "home" then 0 else 1) := rfl
        have e2' : H2 r2 = some (.tup (.str e.1 :: ks.map V.int)) := e2
        have fin : ∀ (wv : Nat) (tt : Addr) (H4 : Hp), wv = (if jj = "home" then 0 else 1) → H3 tt = none → H4 = upd H3 tt (.tup [.str g, .int (wv : Int)]) → ∃ o5 o6 kvs, [some (V.ref p), some (.ref D), some (.str e.1), some (.ref r), some (.ref b), some (.ref r2), some (.ref b2)] = [some (V.ref p), some (.ref D), some (.str e.1), some (.ref r), some (.ref b), o5, o6] ∧ But1 D H2 (upd H4 D (.dT (putK kvs3 (keyA (e.1, ks)) (.ref tt)))) ∧ (upd H4 D (.dT (putK kvs3 (keyA (e.1, ks)) (.ref tt)))) D = some (.dT kvs) ∧ AkL (upd H4 D (.dT (putK kvs3 (keyA (e.1, ks)) (.ref tt)))) (asksB (es.take i) ++ ((plQ e.2.2).take (j + 1)).filterMap (akOf e.1)) kvs := by
          intro wv tt H4 hw htt hH4
          have s4 : Same H3 H4 := by rw [hH4]; exact same_new htt _
          have ht4 : H4 tt = some (.tup [.str g, .int (wv : Int)]) := by rw [hH4]; exact upd_same
          have ntD : tt ≠ D := fun z => by rw [z, h3] at htt; cases htt
          have hnew : keyA (e.1, ks) ∉ kvs3.map (·.1) := by
            rw [k3.keys]
            intro z
            obtain ⟨a, ha, ea⟩ := List.mem_map.mp z
            have ea' : a.1 = (e.1, ks) := keyA_inj ea
            have full : ((asksB (es.take i) ++ ((plQ e.2.2).take (j + 1)).filterMap (akOf e.1)).map (·.1)).Sublist ((asksB es).map (·.1)) := by
              refine List.Sublist.map _ ?_
              have a1 : (asksB (es.take i) ++ asksE e).Sublist (asksB es) := by
                rw [← asks_take he]
                unfold asksB
                have : (es.take (i + 1)) ++ es.drop (i + 1) = es := List.take_append_drop _ _
                conv => rhs; rw [← this, List.map_append, List.flatten_append]
                exact List.sublist_append_left _ _
              exact (List.Sublist.append (List.Sublist.refl _) (List.Sublist.filterMap _ (List.take_sublist _ _))).trans a1
            have nd := full.nodup hndA
            rw [step, List.map_append] at nd
            have hl : [(ks, (.inl (.ask g ts jj) : Nd))].filterMap (akOf e.1) = [((e.1, ks), g, if jj = "home" then 0 else 1)] := rfl
            rw [hl] at nd
            exact (List.nodup_append.mp nd).2.2 _ (List.mem_map.mpr ⟨a, ha, rfl⟩) _ List.mem_cons_self ea'
          rw [put_new hnew]
          have tkD : TK H4 (upd H4 D (.dT (kvs3 ++ [(keyA (e.1, ks), .ref tt)]))) := fun y ys hy => by
            rw [upd_ne (fun z => by rw [z, s4 _ _ h3] at hy; cases hy)]
            exact hy
          refine ⟨_, _, _, rfl, fun y o ny hy => ?_, upd_same, ?_⟩
          · rw [upd_ne ny]
            exact s4 _ _ (b3 y o ny hy)
          · rw [step]
            exact ((k3.tk ((tk_same s4).trans tkD)).app ⟨rfl, tt, rfl, by rw [← hw]; exact tkD _ _ ht4⟩)
        refine ⟨_, rfl, b2, _, _, _, rfl, rfl, SqT.of (tk3 _ _ t1), at1, ?_⟩
        refine ⟨_, rfl, b2, _, _, _, rfl, rfl, SqT.of (tk3 _ _ t1), at3, rfl, _, rfl, ?_⟩
        refine ite2 (fun c2 => ?_) (fun c2 => ?_)
        · have hjj : jj = "home" := V.str.inj (of_decide_eq_true c2)
          refine ⟨sz (by show 2 ≤ 100000; decide), fun tt htt => ?_⟩
          refine ⟨_, rfl, _, rfl, D, _, rfl, DPut.t (k := keyA (e.1, ks)) ((same_new htt _) _ _ h3) ((same_new htt _) _ _ (by rw [keyA_V]; exact tk3 _ _ e2')) (Nat.lt_of_le_of_lt (fD k3 ?_) (by decide)), fin 0 tt _ (by rw [if_pos hjj]) htt rfl⟩
          rw [List.length_append]
          omega
        · have hjj : ¬ jj = "home" := fun z => c2 (decide_eq_true (congrArg V.str z))
          refine ⟨sz (by show 2 ≤ 100000; decide), fun tt htt => ?_⟩
          refine ⟨_, rfl, _, rfl, D, _, rfl, DPut.t (k := keyA (e.1, ks)) ((same_new htt _) _ _ h3) ((same_new htt _) _ _ (by rw [keyA_V]; exact tk3 _ _ e2')) (Nat.lt_of_le_of_lt (fD k3 ?_) (by decide)), fin 1 tt _ (by rw [if_neg hjj]) htt rfl⟩
          rw [List.length_append]
          omega
      · refine ⟨_, _, kvs3, rfl, b3, h3, ?_⟩
        rw [step]
        have : akOf e.1 en = none := by
          cases hq : akOf e.1 en with
          | none => rfl
          | some a =>
            obtain ⟨ks, nd⟩ := en
            cases nd with
            | inl p =>
              cases p with
              | ask g ts jj =>
                obtain ⟨⟨tb, tvs, t1, _⟩, _⟩ : PAt H2 (.ask g ts jj) b2 ∧ kP (.ask g ts jj) := e3
                rw [t1] at hh
                cases hh
                exact absurd (decide_eq_true rfl) c
              | _ => cases hq
            | inr t => cases hq
        rw [show [en].filterMap (akOf e.1) = [] by rw [List.filterMap_cons, this]; rfl, List.append_nil]
        exact k3
    · rintro σ H3 ⟨o5, o6, kvs3, rfl, b3, h3, k3⟩
      rw [hlp, show ncnt e.2.2 = (plQ e.2.2).length from (TrN.pl_len _ (.inl e.2.2) (Nat.le_refl _)).symm, List.take_length] at k3
      refine ⟨_, _, _, _, _, kvs3, rfl, fun y o hy => b3 _ _ (fun z => by rw [z, hD] at hy; cases hy) (s2 _ _ (s1 _ _ hy)), h3, ?_⟩
      rw [asks_take he]
      exact k3
  · rintro σ H1 ⟨o2, o3, o4, o5, o6, kvs, rfl, s1, h1, k1⟩
    rw [hB.2.len, List.take_length] at k1
    exact ⟨_, rfl, q D H1 kvs hD s1 h1 k1⟩
end
end KB

namespace KB
open PySem L2 HT LamX NdefX

/-! ### rows in the heap -/
def PlcV (H : Hp) (p : Pl) (v : V) : Prop := ∃ b, v = .ref b ∧ H b = some (.tup (.str p.1 :: p.2.map V.int))
theorem PlcV.tk {H H' : Hp} (t : TK H H') {p : Pl} {v : V} (h : PlcV H p v) : PlcV H' p v := let ⟨b, e, k⟩ := h; ⟨b, e, t _ _ k⟩
def RwE (H : Hp) (W : Addr) (x : Str × List Ak) (kv : L2.Key × V) : Prop := kv.1 = .inr x.1 ∧ ∃ l vs, kv.2 = .ref l ∧ l ≠ W ∧ H l = some (.lst vs) ∧ All2 (PlcV H) (x.2.map (·.1)) vs
def RwL (H : Hp) (W : Addr) : List (Str × List Ak) → List (L2.Key × V) → Prop
  | [], [] => True
  | x :: xs, kv :: kvs => RwE H W x kv ∧ RwL H W xs kvs
  | _, _ => False
def LK (W : Addr) (H H' : Hp) : Prop := ∀ l vs, l ≠ W → H l = some (.lst vs) → H' l = some (.lst vs)
theorem RwL.mono {H H' : Hp} {W : Addr} (l : LK W H H') (t : TK H H') : ∀ {R : List (Str × List Ak)} {kvs : List (L2.Key × V)}, RwL H W R kvs → RwL H' W R kvs
  | [], [], _ => trivial
  | _ :: _, _ :: _, ⟨⟨e, a, vs, h1, h2, h3, h4⟩, r⟩ => ⟨⟨e, a, vs, h1, h2, l _ _ h2 h3, h4.imp fun _ _ z => z.tk t⟩, r.mono l t⟩
  | [], _ :: _, h => h.elim
  | _ :: _, [], h => h.elim
theorem RwL.app {H : Hp} {W : Addr} {x : Str × List Ak} {kv : L2.Key × V} (s : RwE H W x kv) : ∀ {R : List (Str × List Ak)} {kvs : List (L2.Key × V)}, RwL H W R kvs → RwL H W (R ++ [x]) (kvs ++ [kv])
  | [], [], _ => ⟨s, trivial⟩
  | _ :: _, _ :: _, ⟨y, r⟩ => ⟨y, r.app s⟩
  | [], _ :: _, h => h.elim
  | _ :: _, [], h => h.elim
theorem RwL.keys {H : Hp} {W : Addr} : ∀ {R : List (Str × List Ak)} {kvs : List (L2.Key × V)}, RwL H W R kvs → kvs.map (·.1) = R.map fun x => (.inr x.1 : L2.Key)
  | [], [], _ => rfl
  | _ :: _, _ :: _, ⟨y, r⟩ => by rw [List.map_cons, List.map_cons, y.1, r.keys]
  | [], _ :: _, h => h.elim
  | _ :: _, [], h => h.elim
theorem RwL.len {H : Hp} {W : Addr} {R : List (Str × List Ak)} {kvs : List (L2.Key × V)} (h : RwL H W R kvs) : kvs.length = R.length := by
  have := congrArg List.length h.keys
  rwa [List.length_map, List.length_map] at this
theorem valV_no {κ : Type} [DecidableEq κ] : ∀ {kvs : List (κ × V)} {k : κ}, k ∉ kvs.map (·.1) → valV kvs k = none := by
  intro kvs k h
  unfold valV
  rw [List.find?_eq_none.mpr fun x hx => ?_]
  · rfl
  · intro e
    exact h (List.mem_map.mpr ⟨x, hx, of_decide_eq_true e⟩)
theorem RwL.there {H : Hp} {W : Addr} : ∀ {R : List (Str × List Ak)} {kvs : List (L2.Key × V)}, RwL H W R kvs → ∀ {n : Str}, n ∈ R.map (·.1) → ∃ x kv, x ∈ R ∧ x.1 = n ∧ valV kvs (.inr n) = some kv.2 ∧ RwE H W x kv
  | [], [], _, _, h => nomatch h
  | x :: R, kv :: kvs, ⟨y, r⟩, n, h => by
    by_cases c : x.1 = n
    · refine ⟨x, kv, List.mem_cons_self, c, ?_, y⟩
      unfold valV
      rw [List.find?_cons_of_pos (by exact decide_eq_true (by rw [y.1, c]))]
      rfl
    · have hn : n ∈ R.map (·.1) := by
        rcases List.mem_cons.mp h with z | z
        · exact absurd z.symm c
        · exact z
      obtain ⟨x', kv', a, b, e, f⟩ := r.there hn
      refine ⟨x', kv', List.mem_cons_of_mem _ a, b, ?_, f⟩
      unfold valV at e ⊢
      rw [List.find?_cons_of_neg (by show ¬ decide (kv.1 = .inr n) = true; rw [decide_eq_false (fun z => by rw [y.1] at z; exact c (Sum.inr.inj z))]; exact Bool.false_ne_true)]
      exact e
  | [], _ :: _, h, _, _ => h.elim
  | _ :: _, [], h, _, _ => h.elim
theorem RwL.val {H : Hp} {W : Addr} {R : List (Str × List Ak)} {kvs : List (L2.Key × V)} (h : RwL H W R kvs) (n : Str) : (valV kvs (.inr n)).isSome = decide (n ∈ R.map (·.1)) := by
  by_cases c : n ∈ R.map (·.1)
  · obtain ⟨_, kv, _, _, e, _⟩ := h.there c
    rw [e, decide_eq_true c]
    rfl
  · rw [valV_no (by rw [h.keys]; intro z; obtain ⟨x, hx, e⟩ := List.mem_map.mp z; exact c (List.mem_map.mpr ⟨x, hx, Sum.inr.inj e⟩)), decide_eq_false c]
    rfl
theorem putK_new {κ : Type} [DecidableEq κ] {kvs : List (κ × V)} {k : κ} {v : V} (h : k ∉ kvs.map (·.1)) : putK kvs k v = kvs ++ [(k, v)] := by
  unfold putK
  rw [if_neg]
  intro z
  obtain ⟨x, hx, e⟩ := List.any_eq_true.mp z
  exact h (List.mem_map.mpr ⟨x, hx, of_decide_eq_true e⟩)
/-! ### what is known of rows as they are found -/
structure RI (A : List Ak) (f : Str) (R : List (Str × List Ak)) (ws : List Str) : Prop where
  nd : (R.map (·.1)).Nodup
  st : f ∈ R.map (·.1)
  so : ∀ x ∈ R, Row A f x.2 x.1
  sub : ∀ x ∈ R.map (·.1), x ∈ f :: A.map (·.2.1)
  wk : ∀ x ∈ ws, x ∈ R.map (·.1)
  ln : ∀ x ∈ R, x.2.length < R.length
def meas (A : List Ak) (R : List (Str × List Ak)) (ws : List Str) : Nat := 2 * (A.length + 1 - R.length) + ws.length
theorem RI.len {A : List Ak} {f : Str} {R : List (Str × List Ak)} {ws : List Str} (h : RI A f R ws) : R.length ≤ A.length + 1 := by
  have := nodup_le h.nd h.sub
  rwa [List.length_map, List.length_cons, List.length_map] at this
theorem RI.add {A : List Ak} {f : Str} {R : List (Str × List Ak)} {ws : List Str} (h : RI A f R ws) {a : Ak} (ha : a ∈ A) {x : Str × List Ak} (hx : x ∈ R) (e : x.1 = a.1.1) (hn : a.2.1 ∉ R.map (·.1)) :
    RI A f (R ++ [(a.2.1, x.2 ++ [a])]) (ws ++ [a.2.1]) ∧ meas A (R ++ [(a.2.1, x.2 ++ [a])]) (ws ++ [a.2.1]) + 1 = meas A R ws := by
  have k : (R ++ [(a.2.1, x.2 ++ [a])]).map (·.1) = R.map (·.1) ++ [a.2.1] := by rw [List.map_append]; rfl
  have r : RI A f (R ++ [(a.2.1, x.2 ++ [a])]) (ws ++ [a.2.1]) := by
    refine ⟨?_, ?_, fun y hy => ?_, fun y hy => ?_, fun y hy => ?_, fun y hy => ?_⟩
    · rw [k]
      exact List.nodup_append.mpr ⟨h.nd, by simp, fun y hy z hz e => hn (by rw [← List.mem_singleton.mp hz, ← e]; exact hy)⟩
    · rw [k]; exact List.mem_append_left _ h.st
    · rcases List.mem_append.mp hy with z | z
      · exact h.so y z
      · rw [List.mem_singleton.mp z]
        exact (h.so x hx).snoc ha e.symm
    · rw [k] at hy
      rcases List.mem_append.mp hy with z | z
      · exact h.sub y z
      · rw [List.mem_singleton.mp z]
        exact List.mem_cons_of_mem _ (List.mem_map.mpr ⟨a, ha, rfl⟩)
    · rw [k]
      rcases List.mem_append.mp hy with z | z
      · exact List.mem_append_left _ (h.wk y z)
      · exact List.mem_append_right _ z
    · rw [List.length_append, List.length_singleton]
      rcases List.mem_append.mp hy with z | z
      · have := h.ln y z
        omega
      · rw [List.mem_singleton.mp z]
        have := h.ln x hx
        show (x.2 ++ [a]).length < _
        rw [List.length_append, List.length_singleton]
        omega
  refine ⟨r, ?_⟩
  have := r.len
  unfold meas
  rw [List.length_append, List.length_singleton] at this ⊢
  rw [List.length_append, List.length_singleton]
  omega
/-- nothing but these may be written -/
def Fr3 (D W a : Addr) (H H' : Hp) : Prop := ∀ b o, b ≠ D → b ≠ W → b ≠ a → H b = some o → H' b = some o
section
variable {P : Program} {w : World} {K : PySem.W.Frag} {mg : Str → Option Value} {base : Heap}
/-! ### rows_from -/
abbrev srows_from : Stmt := top 26
theorem scrows_from : FnScope ["f", "asks", "rows", "waiting", "name", "place", "asked", "weight"] ["f", "asks"] (defScope srows_from) := ⟨rfl, rfl, rfl, by decide +kernel, rfl, by decide +kernel, by decide +kernel⟩
def spRows : Sp := fun vs H Q _ => ∃ (f : Str) (aD : Addr) (A : List Ak) (akvs : List (List L2.Key × V)), vs = [.str f, .ref aD] ∧ H aD = some (.dT akvs) ∧ AkL H A akvs ∧ A.length ≤ 10000 ∧
  ∀ D H' R kvs W, H D = none → Same H H' → H' D = some (.dK kvs) → RwL H' W R kvs → RowsOk A f R → R.length ≤ A.length + 1 → (∀ x ∈ R, x.2.length < R.length) → Q (.ref D) H'
theorem ok_rows {f : Addr} {fd : FuncData} (F : Fun K "rows_from" "rows_from" srows_from f fd) : FnOk P w K mg base CX0 1 f fd ["f", "asks"] spRows := by
  refine F.ok scrows_from (fun vs H Q E h => ?_) (fun cdv A outer s H vs Q E hr h => ?_)
  · obtain ⟨f, aD, A, akvs, rfl, _⟩ := h
    rfl
  obtain ⟨f, aD, A, akvs, rfl, hA, hk, hlA, q⟩ := h
  refine ⟨_, (pss_cons (ps_set (i := 2) scrows_from.nd rfl (Or.inl rfl) (pe_disp (pps_cons (pv 0) (pe_lst pa_nil) pps_nil) (by rfl) (by rfl) (fun z => by cases z) (by decide)))
    (pss_cons (ps_set (i := 3) scrows_from.nd rfl (Or.inl rfl) (pe_lst (pa_cons (pv 0) pa_nil)))
    (pss_cons (ps_while PassesOwn.never (pt_truth (pv 3) (by intro _; rfl)) (pss_cons (ps_set (i := 4) scrows_from.nd rfl (Or.inl rfl) (pe_bm0 PySem.F.plainAttrs_list PySem.F.slot_list_pop PySem.F.type_list_pop mt_pop (pv 3)))
    (pss_one (ps_lock (ps_for PassesOwn.never rfl (pi_tupItems (pv 1)) (pg_tup rfl (pgs_cons (pg_name (i := 5) scrows_from.nd rfl (Or.inl rfl)) (pgs_cons (pg_tup rfl (pgs_cons (pg_name (i := 6) scrows_from.nd rfl (Or.inl rfl)) (pgs_cons (pg_name (i := 7) scrows_from.nd rfl (Or.inl rfl)) pgs_nil))) pgs_nil))) (pss_one (ps_if (PW.pt (pw_and (pt_cmpR op_eq (pe_ix ix_tup (pv 5) pe_int (fun _ _ => rfl)) (pv 4) (nomark _)) (pw_and1 (pt_cmp (pc_dnotin (hu_of hr) (pv 6) (pv 2)))))) (pss_cons (ps_dput (hu_of hr) (pv 2) (pv 6) (pe_lst (StX.pa_star (pe_dget (hu_of hr) (pv 2) (pv 4) (fun _ _ => rfl)) (pa_cons (pv 5) pa_nil))) rfl)
    (pss_one (ps_expr (pe_bm PySem.F.plainAttrs_list PySem.F.slot_list_append PySem.F.type_list_append mt_append (pv 3) (pa_cons (pv 6) pa_nil))))) pss_nil)))))))
    (pss_one (ps_ret (pv 2)))))), ?_⟩
  -- rows, waiting
  refine fun D hD => ⟨_, rfl, sz (by show 0 ≤ 100000; decide), fun l0 hl0 => ?_⟩
  have sD := same_new hD (.dK [])
  have s0 := same_new hl0 (.lst [])
  refine ⟨s0 _ _ upd_same, [((.inr f : L2.Key), .ref l0)], rfl, by show 1 ≤ 15; decide, ?_⟩
  rw [show mergeK [] [((.inr f : L2.Key), V.ref l0)] = [((.inr f : L2.Key), V.ref l0)] from rfl]
  have nlD : l0 ≠ D := fun z => by rw [z, upd_same] at hl0; cases hl0
  have s1 : Same H (upd (upd (upd H D (.dK [])) l0 (.lst [])) D (.dK [((.inr f : L2.Key), V.ref l0)])) := same_mut (sD.trans s0) hD
  have g1 : (upd (upd (upd H D (.dK [])) l0 (.lst [])) D (.dK [((.inr f : L2.Key), V.ref l0)])) D = some (.dK [((.inr f : L2.Key), V.ref l0)]) := upd_same
  have g2 : (upd (upd (upd H D (.dK [])) l0 (.lst [])) D (.dK [((.inr f : L2.Key), V.ref l0)])) l0 = some (.lst []) := by rw [upd_ne nlD]; exact upd_same
  generalize upd (upd (upd H D (.dK [])) l0 (.lst [])) D (.dK [((.inr f : L2.Key), V.ref l0)]) = H1 at s1 g1 g2
  refine ⟨_, rfl, sz (by show 1 ≤ 100000; decide), fun W hW => ?_⟩
  have s2 := same_new hW (.lst [.str f])
  have nDW : D ≠ W := fun z => by rw [← z, g1] at hW; cases hW
  have nlW : l0 ≠ W := fun z => by rw [← z, g2] at hW; cases hW
  have naD : aD ≠ D := fun z => by rw [← z, hA] at hD; cases hD
  have hW0 : H W = none := by
    cases e : H W with
    | none => rfl
    | some o => rw [s1 _ _ e] at hW; cases hW
  have naW : aD ≠ W := fun z => by rw [← z, hA] at hW0; cases hW0
  -- while
  refine ⟨fun m σ H' => ∃ (o4 o5 o6 o7 : Option V) (R : List (Str × List Ak)) (ws : List Str) (kvs : List (L2.Key × V)), σ = [some (.str f), some (.ref aD), some (.ref D), some (.ref W), o4, o5, o6, o7] ∧ Same H H' ∧ H' D = some (.dK kvs) ∧ H' W = some (.lst (ws.map V.str)) ∧ RwL H' W R kvs ∧ RI A f R ws ∧ (∀ a ∈ A, a.1.1 ∈ R.map (·.1) → a.1.1 ∉ ws → a.2.1 ∈ R.map (·.1)) ∧ m = meas A R ws ∧ meas A R ws ≤ 20001,
    ⟨_, _, _, _, _, [(f, [])], [f], _, rfl, s1.trans s2, s2 _ _ g1, upd_same, ⟨⟨rfl, l0, [], rfl, nlW, s2 _ _ g2, trivial⟩, trivial⟩, ⟨by simp, List.mem_cons_self, fun x hx => by rw [List.mem_singleton.mp hx]; exact .nil, fun x hx => by rw [List.mem_singleton.mp hx]; exact List.mem_cons_self, fun x hx => hx, fun x hx => by rw [List.mem_singleton.mp hx]; show 0 < 1; decide⟩, fun a _ h1 h2 => absurd (show a.1.1 ∈ [f] by simpa using h1) h2, rfl, by show 2 * (A.length + 1 - 1) + 1 ≤ 20001; omega⟩, ?_⟩
  rintro m σ H2 ⟨o4, o5, o6, o7, R, ws, kvs, rfl, s12, h1, h2, hR, hI, hcl, rfl, hle⟩
  refine ⟨_, rfl, _, .inl ⟨_, SqL.of h2, rfl⟩, ?_⟩
  rcases List.eq_nil_or_concat ws with rfl | ⟨ws', name, ews⟩
  · refine itF rfl ⟨_, rfl, q D H2 R kvs W hD s12 h1 hR ⟨hI.nd, hI.st, hI.so, fun a ha hs => hcl a ha hs (fun z => nomatch z)⟩ hI.len hI.ln⟩
  · rw [List.concat_eq_append] at ews
    subst ews
    have hne : ((ws' ++ [name]).map V.str).isEmpty = false := by cases ws' <;> rfl
    refine itT (by rw [hne]; rfl) ?_
    refine ⟨fun σ' H' => ∃ m', m' < meas A R (ws' ++ [name]) ∧ ∃ (o4 o5 o6 o7 : Option V) (R : List (Str × List Ak)) (ws : List Str) (kvs : List (L2.Key × V)), σ' = [some (.str f), some (.ref aD), some (.ref D), some (.ref W), o4, o5, o6, o7] ∧ Same H H' ∧ H' D = some (.dK kvs) ∧ H' W = some (.lst (ws.map V.str)) ∧ RwL H' W R kvs ∧ RI A f R ws ∧ (∀ a ∈ A, a.1.1 ∈ R.map (·.1) → a.1.1 ∉ ws → a.2.1 ∈ R.map (·.1)) ∧ m' = meas A R ws ∧ meas A R ws ≤ 20001, fun _ _ z => z, ?_⟩
    have elast : ((ws' ++ [name]).map V.str)[((ws' ++ [name]).map V.str).length - 1]? = some (.str name) := by
      rw [List.map_append, List.length_append]
      simp
    have edrop : ((ws' ++ [name]).map V.str).dropLast = ws'.map V.str := by
      rw [List.map_append]
      simp
    refine ⟨_, rfl, .inl ⟨rfl, _, SqL.of h2⟩, W, _, .str name, rfl, rfl, h2, elast, ?_⟩
    rw [edrop]
    have tkW : TK H2 (upd H2 W (.lst (ws'.map V.str))) := tk_put h2
    have lkW : LK W H2 (upd H2 W (.lst (ws'.map V.str))) := fun l vs n hl => by rw [upd_ne n]; exact hl
    have hR3 := hR.mono lkW tkW
    have h13 : (upd H2 W (.lst (ws'.map V.str))) D = some (.dK kvs) := by rw [upd_ne nDW]; exact h1
    have h23 : (upd H2 W (.lst (ws'.map V.str))) W = some (.lst (ws'.map V.str)) := upd_same
    have s13 : Same H (upd H2 W (.lst (ws'.map V.str))) := same_mut s12 hW0
    generalize upd H2 W (.lst (ws'.map V.str)) = H3 at hR3 h13 h23 s13
    clear hR tkW lkW h2 h1 s12
    have hI3 : RI A f R ws' := ⟨hI.nd, hI.st, hI.so, hI.sub, fun x hx => hI.wk x (List.mem_append_left _ hx), hI.ln⟩
    have hnk : name ∈ R.map (·.1) := hI.wk name (List.mem_append_right _ List.mem_cons_self)
    have hm3 : meas A R ws' + 1 = meas A R (ws' ++ [name]) := by unfold meas; rw [List.length_append, List.length_singleton]; omega
    have hcl3 : ∀ a ∈ A, a.1.1 ∈ R.map (·.1) → a.1.1 ∉ ws' → a.1.1 ≠ name → a.2.1 ∈ R.map (·.1) := fun a ha h1 h2 h3 => hcl a ha h1 fun z => by
      rcases List.mem_append.mp z with y | y
      · exact h2 y
      · exact h3 (List.mem_singleton.mp y)
    clear hcl hI
    have hA3 := s13 _ _ hA
    -- for
    obtain ⟨M0, hM0⟩ : ∃ M0, M0 = meas A R (ws' ++ [name]) := ⟨_, rfl⟩
    rw [← hM0] at hm3 ⊢
    have hbig : M0 ≤ 40000 := by rw [hM0]; omega
    refine ⟨aD, .dT akvs, hA3, trivial, fun od => ?_⟩
    have hA4 : (upd H3 aD (.frz od (.dT akvs))) aD = some (.frz od (.dT akvs)) := upd_same
    have f4 : ∀ b o, b ≠ aD → H b = some o → (upd H3 aD (.frz od (.dT akvs))) b = some o := fun b o n h => by rw [upd_ne n]; exact s13 _ _ h
    have h14 : (upd H3 aD (.frz od (.dT akvs))) D = some (.dK kvs) := by rw [upd_ne naD.symm]; exact h13
    have h24 : (upd H3 aD (.frz od (.dT akvs))) W = some (.lst (ws'.map V.str)) := by rw [upd_ne naW.symm]; exact h23
    have hR4 := hR3.mono (H' := upd H3 aD (.frz od (.dT akvs))) (fun l vs _ h => by rw [upd_ne (fun z => by rw [z, hA3] at h; cases h)]; exact h) (fun b xs h => by rw [upd_ne (fun z => by rw [z, hA3] at h; cases h)]; exact h)
    generalize upd H3 aD (.frz od (.dT akvs)) = H4 at hA4 f4 h14 h24 hR4
    refine ⟨_, rfl, aD, od, akvs, rfl, hA4, for_it walk_tupItems (fun i σ H' => ∃ (o5 o6 o7 : Option V) (R : List (Str × List Ak)) (ws : List Str) (kvs : List (L2.Key × V)), σ = [some (.str f), some (.ref aD), some (.ref D), some (.ref W), some (.str name), o5, o6, o7] ∧ (∀ b o, b ≠ aD → H b = some o → H' b = some o) ∧ H' aD = some (.frz od (.dT akvs)) ∧ H' D = some (.dK kvs) ∧ H' W = some (.lst (ws.map V.str)) ∧ RwL H' W R kvs ∧ RI A f R ws ∧ name ∈ R.map (·.1) ∧
      (∀ a ∈ A, a.1.1 ∈ R.map (·.1) → a.1.1 ∉ ws → a.1.1 ≠ name → a.2.1 ∈ R.map (·.1)) ∧ (∀ k a, k < i → A[k]? = some a → a.1.1 = name → a.2.1 ∈ R.map (·.1)) ∧ meas A R ws + 1 ≤ M0) ?_ ?_ ?_ ?_⟩
    · exact ⟨_, _, _, R, ws', kvs, rfl, f4, hA4, h14, h24, hR4, hI3, hnk, hcl3, fun k a h => absurd h (Nat.not_lt_zero k), Nat.le_of_eq hm3⟩
    · rintro i σ H5 _ ⟨o5, o6, o7, R, ws, kvs, rfl, _, h, _⟩
      exact h
    · rintro i x σ H5 H6 hi ⟨o5, o6, o7, R5, ws5, kvs5, rfl, f5, a5, h15, h25, hR5, hI5, hn5, hcl5, hp5, hm5⟩ ⟨T', k, v, qk, hkv, hq, rfl, hT, rfl⟩
      have tk5 : TK H H5 := fun b xs hb => f5 b _ (fun z => by rw [z, hA] at hb; cases hb) hb
      obtain ⟨a, ha, hk1, bv, hv, hb⟩ := hk.get hkv
      dsimp only at hk1 hv
      subst hk1 hv
      have hb5 := tk5 _ _ hb
      have sT := same_new hT (.tup [.ref qk, .ref bv])
      have ham := mem_of_get ha
      rw [keyA_V] at hq
      refine ⟨T', _, rfl, SqT.of upd_same, rfl, _, _, rfl, _, _, rfl, ⟨bv, _, rfl, SqT.of (sT _ _ hb5), rfl, _, _, rfl, _, _, rfl, rfl, rfl, ?_⟩⟩
      have f6 : ∀ b o, b ≠ aD → H b = some o → (upd H5 T' (.tup [.ref qk, .ref bv])) b = some o := fun b o n h => sT _ _ (f5 b o n h)
      have a6 := sT _ _ a5
      have h16 := sT _ _ h15
      have h26 := sT _ _ h25
      have hR6 := hR5.mono (fun l vs _ h => sT _ _ h) (tk_same sT)
      have hq6 := sT _ _ hq
      generalize upd H5 T' (.tup [.ref qk, .ref bv]) = H6 at f6 a6 h16 h26 hR6 hq6
      have done : (a.1.1 = name → a.2.1 ∈ R5.map (·.1)) → ∀ k a', k < i + 1 → A[k]? = some a' → a'.1.1 = name → a'.2.1 ∈ R5.map (·.1) := fun hd k a' hk' ha' hn' => by
        by_cases c : k = i
        · rw [c, ha] at ha'
          cases ha'
          exact hd hn'
        · exact hp5 k a' (by omega) ha' hn'
      refine ⟨_, rfl, qk, _, _, _, rfl, rfl, SqT.of hq6, at0, _, rfl, rfl, _, rfl, ?_⟩
      refine ite2 (fun c => ?_) (fun c => ⟨_, _, _, R5, ws5, kvs5, rfl, f6, a6, h16, h26, hR6, hI5, hn5, hcl5, done fun z => absurd (decide_eq_true (congrArg V.str z)) c, hm5⟩)
      have hsn : a.1.1 = name := V.str.inj (of_decide_eq_true c)
      refine ⟨_, rfl, _, rfl, D, _, rfl, DGet.k (k := .inr a.2.1) h16, _, rfl, ?_⟩
      rw [hR6.val]
      by_cases hin : a.2.1 ∈ R5.map (·.1)
      · refine itF (by rw [decide_eq_true hin]; rfl) ⟨_, _, _, R5, ws5, kvs5, rfl, f6, a6, h16, h26, hR6, hI5, hn5, hcl5, done fun _ => hin, hm5⟩
      · refine itT (by rw [decide_eq_false hin]; rfl) ?_
        obtain ⟨y, kvy, hy1, hy2, hy3, hy4, ly, vy, hy5, hy6, hy7, hy8⟩ := hR6.there hn5
        rw [hy5] at hy3
        obtain ⟨hI7, hm7⟩ := hI5.add ham hy1 (hy2.trans hsn.symm) hin
        refine ⟨_, rfl, _, rfl, D, .ref ly, rfl, by rw [← hy3]; exact DGet.k (k := .inr name) h16, ly, _, rfl, .inr (SqL.of hy7), _, rfl, ?_⟩
        have hvl : vy.length ≤ 10000 := by
          have e1 := hy8.len
          rw [List.length_map] at e1
          have := hI5.ln y hy1
          have := hI5.len
          omega
        refine ⟨sz (by rw [List.length_append, List.length_singleton]; omega), fun l7 hl7 => ?_⟩
        have s7 := same_new hl7 (.lst (vy ++ [.ref qk]))
        have nl7W : l7 ≠ W := fun z => by rw [z, h26] at hl7; cases hl7
        have nl7D : l7 ≠ D := fun z => by rw [z, h16] at hl7; cases hl7
        have hkl := hR6.len
        have hI5l := hI5.len
        refine ⟨_, rfl, _, rfl, D, _, rfl, DPut.k (k := .inr a.2.1) (s7 _ _ h16) (Nat.lt_of_le_of_lt (m := 10001) (by omega) (by decide)), ?_⟩
        rw [putK_new (by rw [hR6.keys]; intro z; obtain ⟨x, hx, e⟩ := List.mem_map.mp z; exact hin (List.mem_map.mpr ⟨x, hx, Sum.inr.inj e⟩))]
        have tk8 : TK (upd H6 l7 (.lst (vy ++ [.ref qk]))) (upd (upd H6 l7 (.lst (vy ++ [.ref qk]))) D (.dK (kvs5 ++ [((.inr a.2.1 : L2.Key), .ref l7)]))) := fun b xs hb => by
          rw [upd_ne (fun z => by rw [z, s7 _ _ h16] at hb; cases hb)]
          exact hb
        have lk8 : LK W (upd H6 l7 (.lst (vy ++ [.ref qk]))) (upd (upd H6 l7 (.lst (vy ++ [.ref qk]))) D (.dK (kvs5 ++ [((.inr a.2.1 : L2.Key), .ref l7)]))) := fun l vs _ hl => by
          rw [upd_ne (fun z => by rw [z, s7 _ _ h16] at hl; cases hl)]
          exact hl
        have hR8 := ((hR6.mono (fun l vs _ h => s7 _ _ h) (tk_same s7)).mono lk8 tk8).app (x := (a.2.1, y.2 ++ [a])) (kv := ((.inr a.2.1 : L2.Key), .ref l7)) ⟨rfl, l7, vy ++ [.ref qk], rfl, nl7W, by rw [upd_ne nl7D]; exact upd_same, by
          rw [List.map_append]
          exact (hy8.imp fun _ _ z => (z.tk (tk_same s7)).tk tk8).app ⟨⟨qk, rfl, tk8 _ _ (s7 _ _ hq6)⟩, trivial⟩⟩
        have f8 : ∀ b o, b ≠ aD → H b = some o → (upd (upd H6 l7 (.lst (vy ++ [.ref qk]))) D (.dK (kvs5 ++ [((.inr a.2.1 : L2.Key), .ref l7)]))) b = some o := fun b o n h => by
          rw [upd_ne (fun z => by rw [z, hD] at h; cases h)]
          exact s7 _ _ (f6 b o n h)
        have a8 : (upd (upd H6 l7 (.lst (vy ++ [.ref qk]))) D (.dK (kvs5 ++ [((.inr a.2.1 : L2.Key), .ref l7)]))) aD = some (.frz od (.dT akvs)) := by
          rw [upd_ne naD]; exact s7 _ _ a6
        have h18 : (upd (upd H6 l7 (.lst (vy ++ [.ref qk]))) D (.dK (kvs5 ++ [((.inr a.2.1 : L2.Key), .ref l7)]))) D = some (.dK (kvs5 ++ [((.inr a.2.1 : L2.Key), .ref l7)])) := upd_same
        have h28 : (upd (upd H6 l7 (.lst (vy ++ [.ref qk]))) D (.dK (kvs5 ++ [((.inr a.2.1 : L2.Key), .ref l7)]))) W = some (.lst (ws5.map V.str)) := by
          rw [upd_ne nDW.symm]; exact s7 _ _ h26
        generalize upd (upd H6 l7 (.lst (vy ++ [.ref qk]))) D (.dK (kvs5 ++ [((.inr a.2.1 : L2.Key), .ref l7)])) = H8 at hR8 f8 a8 h18 h28
        have hwl : ws5.length ≤ 40000 := by
          have : meas A R5 ws5 = 2 * (A.length + 1 - R5.length) + ws5.length := rfl
          have := hbig
          omega
        refine ⟨_, rfl, .inl ⟨rfl, _, SqL.of h28⟩, _, rfl, W, _, _, rfl, rfl, h28, Nat.lt_of_le_of_lt (m := 40000) (by rw [List.length_map]; exact hwl) (by decide), ?_⟩
        refine ⟨_, _, _, R5 ++ [(a.2.1, y.2 ++ [a])], ws5 ++ [a.2.1], kvs5 ++ [((.inr a.2.1 : L2.Key), .ref l7)], rfl, fun b o n h => ?_, ?_, ?_, ?_, ?_, hI7, ?_, ?_, ?_, ?_⟩
        · rw [upd_ne (fun z => by rw [z, hW0] at h; cases h)]
          exact f8 b o n h
        · rw [upd_ne naW]; exact a8
        · rw [upd_ne nDW]; exact h18
        · rw [upd_same, List.map_append]; rfl
        · exact hR8.mono (fun l vs n hl => by rw [upd_ne n]; exact hl) (tk_put h28)
        · rw [List.map_append]; exact List.mem_append_left _ hn5
        · intro b hb' h1 h2 h3
          rw [List.map_append] at h1 ⊢
          have h2' : b.1.1 ∉ ws5 := fun z => h2 (List.mem_append_left _ z)
          rcases List.mem_append.mp h1 with z | z
          · exact List.mem_append_left _ (hcl5 b hb' z h2' h3)
          · exact absurd (List.mem_append_right ws5 z) h2
        · intro k a' hk' ha' hn'
          rw [List.map_append]
          by_cases c : k = i
          · rw [c, ha] at ha'
            cases ha'
            exact List.mem_append_right _ List.mem_cons_self
          · exact List.mem_append_left _ (hp5 k a' (by omega) ha' hn')
        · omega
    · rintro σ H5 ⟨o5, o6, o7, R5, ws5, kvs5, rfl, f5, a5, h15, h25, hR5, hI5, hn5, hcl5, hp5, hm5⟩
      rw [hk.len] at hp5
      refine ⟨a5, meas A R5 ws5, by omega, _, _, _, _, R5, ws5, kvs5, rfl, fun b o h => ?_, ?_, ?_, ?_, hI5, ?_, rfl, by omega⟩
      · by_cases c : b = aD
        · rw [c, hA] at h
          rw [c, upd_same]
          exact h
        · rw [upd_ne c]
          exact f5 b o c h
      · rw [upd_ne naD.symm]; exact h15
      · rw [upd_ne naW.symm]; exact h25
      · exact hR5.mono (fun l vs _ h => by rw [upd_ne (fun z => by rw [z, a5] at h; cases h)]; exact h) (fun b xs h => by rw [upd_ne (fun z => by rw [z, a5] at h; cases h)]; exact h)
      · intro a ha h1 h2
        by_cases c : a.1.1 = name
        · obtain ⟨k, hk', e⟩ := List.getElem_of_mem ha
          exact hp5 k a hk' (by rw [List.getElem?_eq_getElem hk', e]) c
        · exact hcl5 a ha h1 h2 c
def spRowsZ : Sp := fun vs H Q _ => ∃ (f : Str) (aD : Addr) (A : List Ak) (akvs : List (List L2.Key × V)) (od : Obj), vs = [.str f, .ref aD] ∧ H aD = some (.frz od (.dT akvs)) ∧ AkL H A akvs ∧ A.length ≤ 10000 ∧
  ∀ D H' R kvs W, H D = none → Same H H' → H' D = some (.dK kvs) → RwL H' W R kvs → RowsOk A f R → R.length ≤ A.length + 1 → (∀ x ∈ R, x.2.length < R.length) → Q (.ref D) H'
theorem ok_rowsZ {f : Addr} {fd : FuncData} (F : Fun K "rows_from" "rows_from" srows_from f fd) : FnOk P w K mg base CX0 1 f fd ["f", "asks"] spRowsZ := by
  refine F.ok scrows_from (fun vs H Q E h => ?_) (fun cdv A outer s H vs Q E hr h => ?_)
  · obtain ⟨f, aD, A, akvs, od, rfl, _⟩ := h
    rfl
  obtain ⟨f, aD, A, akvs, od, rfl, hA, hk, hlA, q⟩ := h
  refine ⟨_, (pss_cons (ps_set (i := 2) scrows_from.nd rfl (Or.inl rfl) (pe_disp (pps_cons (pv 0) (pe_lst pa_nil) pps_nil) (by rfl) (by rfl) (fun z => by cases z) (by decide)))
    (pss_cons (ps_set (i := 3) scrows_from.nd rfl (Or.inl rfl) (pe_lst (pa_cons (pv 0) pa_nil)))
    (pss_cons (ps_while PassesOwn.never (pt_truth (pv 3) (by intro _; rfl)) (pss_cons (ps_set (i := 4) scrows_from.nd rfl (Or.inl rfl) (pe_bm0 PySem.F.plainAttrs_list PySem.F.slot_list_pop PySem.F.type_list_pop mt_pop (pv 3)))
    (pss_one (ps_for PassesOwn.never rfl (pi_tupItems (pv 1)) (pg_tup rfl (pgs_cons (pg_name (i := 5) scrows_from.nd rfl (Or.inl rfl)) (pgs_cons (pg_tup rfl (pgs_cons (pg_name (i := 6) scrows_from.nd rfl (Or.inl rfl)) (pgs_cons (pg_name (i := 7) scrows_from.nd rfl (Or.inl rfl)) pgs_nil))) pgs_nil))) (pss_one (ps_if (PW.pt (pw_and (pt_cmpR op_eq (pe_ix ix_tup (pv 5) pe_int (fun _ _ => rfl)) (pv 4) (nomark _)) (pw_and1 (pt_cmp (pc_dnotin (hu_of hr) (pv 6) (pv 2)))))) (pss_cons (ps_dput (hu_of hr) (pv 2) (pv 6) (pe_lst (StX.pa_star (pe_dget (hu_of hr) (pv 2) (pv 4) (fun _ _ => rfl)) (pa_cons (pv 5) pa_nil))) rfl)
    (pss_one (ps_expr (pe_bm PySem.F.plainAttrs_list PySem.F.slot_list_append PySem.F.type_list_append mt_append (pv 3) (pa_cons (pv 6) pa_nil))))) pss_nil))))))
    (pss_one (ps_ret (pv 2)))))), ?_⟩
  -- rows, waiting
  refine fun D hD => ⟨_, rfl, sz (by show 0 ≤ 100000; decide), fun l0 hl0 => ?_⟩
  have sD := same_new hD (.dK [])
  have s0 := same_new hl0 (.lst [])
  refine ⟨s0 _ _ upd_same, [((.inr f : L2.Key), .ref l0)], rfl, by show 1 ≤ 15; decide, ?_⟩
  rw [show mergeK [] [((.inr f : L2.Key), V.ref l0)] = [((.inr f : L2.Key), V.ref l0)] from rfl]
  have nlD : l0 ≠ D := fun z => by rw [z, upd_same] at hl0; cases hl0
  have s1 : Same H (upd (upd (upd H D (.dK [])) l0 (.lst [])) D (.dK [((.inr f : L2.Key), V.ref l0)])) := same_mut (sD.trans s0) hD
  have g1 : (upd (upd (upd H D (.dK [])) l0 (.lst [])) D (.dK [((.inr f : L2.Key), V.ref l0)])) D = some (.dK [((.inr f : L2.Key), V.ref l0)]) := upd_same
  have g2 : (upd (upd (upd H D (.dK [])) l0 (.lst [])) D (.dK [((.inr f : L2.Key), V.ref l0)])) l0 = some (.lst []) := by rw [upd_ne nlD]; exact upd_same
  generalize upd (upd (upd H D (.dK [])) l0 (.lst [])) D (.dK [((.inr f : L2.Key), V.ref l0)]) = H1 at s1 g1 g2
  refine ⟨_, rfl, sz (by show 1 ≤ 100000; decide), fun W hW => ?_⟩
  have s2 := same_new hW (.lst [.str f])
  have nDW : D ≠ W := fun z => by rw [← z, g1] at hW; cases hW
  have nlW : l0 ≠ W := fun z => by rw [← z, g2] at hW; cases hW
  have naD : aD ≠ D := fun z => by rw [← z, hA] at hD; cases hD
  have hW0 : H W = none := by
    cases e : H W with
    | none => rfl
    | some o => rw [s1 _ _ e] at hW; cases hW
  have naW : aD ≠ W := fun z => by rw [← z, hA] at hW0; cases hW0
  -- while
  refine ⟨fun m σ H' => ∃ (o4 o5 o6 o7 : Option V) (R : List (Str × List Ak)) (ws : List Str) (kvs : List (L2.Key × V)), σ = [some (.str f), some (.ref aD), some (.ref D), some (.ref W), o4, o5, o6, o7] ∧ Same H H' ∧ H' D = some (.dK kvs) ∧ H' W = some (.lst (ws.map V.str)) ∧ RwL H' W R kvs ∧ RI A f R ws ∧ (∀ a ∈ A, a.1.1 ∈ R.map (·.1) → a.1.1 ∉ ws → a.2.1 ∈ R.map (·.1)) ∧ m = meas A R ws ∧ meas A R ws ≤ 20001,
    ⟨_, _, _, _, _, [(f, [])], [f], _, rfl, s1.trans s2, s2 _ _ g1, upd_same, ⟨⟨rfl, l0, [], rfl, nlW, s2 _ _ g2, trivial⟩, trivial⟩, ⟨by simp, List.mem_cons_self, fun x hx => by rw [List.mem_singleton.mp hx]; exact .nil, fun x hx => by rw [List.mem_singleton.mp hx]; exact List.mem_cons_self, fun x hx => hx, fun x hx => by rw [List.mem_singleton.mp hx]; show 0 < 1; decide⟩, fun a _ h1 h2 => absurd (show a.1.1 ∈ [f] by simpa using h1) h2, rfl, by show 2 * (A.length + 1 - 1) + 1 ≤ 20001; omega⟩, ?_⟩
  rintro m σ H2 ⟨o4, o5, o6, o7, R, ws, kvs, rfl, s12, h1, h2, hR, hI, hcl, rfl, hle⟩
  refine ⟨_, rfl, _, .inl ⟨_, SqL.of h2, rfl⟩, ?_⟩
  rcases List.eq_nil_or_concat ws with rfl | ⟨ws', name, ews⟩
  · refine itF rfl ⟨_, rfl, q D H2 R kvs W hD s12 h1 hR ⟨hI.nd, hI.st, hI.so, fun a ha hs => hcl a ha hs (fun z => nomatch z)⟩ hI.len hI.ln⟩
  · rw [List.concat_eq_append] at ews
    subst ews
    have hne : ((ws' ++ [name]).map V.str).isEmpty = false := by cases ws' <;> rfl
    refine itT (by rw [hne]; rfl) ?_
    refine ⟨fun σ' H' => ∃ m', m' < meas A R (ws' ++ [name]) ∧ ∃ (o4 o5 o6 o7 : Option V) (R : List (Str × List Ak)) (ws : List Str) (kvs : List (L2.Key × V)), σ' = [some (.str f), some (.ref aD), some (.ref D), some (.ref W), o4, o5, o6, o7] ∧ Same H H' ∧ H' D = some (.dK kvs) ∧ H' W = some (.lst (ws.map V.str)) ∧ RwL H' W R kvs ∧ RI A f R ws ∧ (∀ a ∈ A, a.1.1 ∈ R.map (·.1) → a.1.1 ∉ ws → a.2.1 ∈ R.map (·.1)) ∧ m' = meas A R ws ∧ meas A R ws ≤ 20001, fun _ _ z => z, ?_⟩
    have elast : ((ws' ++ [name]).map V.str)[((ws' ++ [name]).map V.str).length - 1]? = some (.str name) := by
      rw [List.map_append, List.length_append]
      simp
    have edrop : ((ws' ++ [name]).map V.str).dropLast = ws'.map V.str := by
      rw [List.map_append]
      simp
    refine ⟨_, rfl, .inl ⟨rfl, _, SqL.of h2⟩, W, _, .str name, rfl, rfl, h2, elast, ?_⟩
    rw [edrop]
    have tkW : TK H2 (upd H2 W (.lst (ws'.map V.str))) := tk_put h2
    have lkW : LK W H2 (upd H2 W (.lst (ws'.map V.str))) := fun l vs n hl => by rw [upd_ne n]; exact hl
    have hR3 := hR.mono lkW tkW
    have h13 : (upd H2 W (.lst (ws'.map V.str))) D = some (.dK kvs) := by rw [upd_ne nDW]; exact h1
    have h23 : (upd H2 W (.lst (ws'.map V.str))) W = some (.lst (ws'.map V.str)) := upd_same
    have s13 : Same H (upd H2 W (.lst (ws'.map V.str))) := same_mut s12 hW0
    generalize upd H2 W (.lst (ws'.map V.str)) = H3 at hR3 h13 h23 s13
    clear hR tkW lkW h2 h1 s12
    have hI3 : RI A f R ws' := ⟨hI.nd, hI.st, hI.so, hI.sub, fun x hx => hI.wk x (List.mem_append_left _ hx), hI.ln⟩
    have hnk : name ∈ R.map (·.1) := hI.wk name (List.mem_append_right _ List.mem_cons_self)
    have hm3 : meas A R ws' + 1 = meas A R (ws' ++ [name]) := by unfold meas; rw [List.length_append, List.length_singleton]; omega
    have hcl3 : ∀ a ∈ A, a.1.1 ∈ R.map (·.1) → a.1.1 ∉ ws' → a.1.1 ≠ name → a.2.1 ∈ R.map (·.1) := fun a ha h1 h2 h3 => hcl a ha h1 fun z => by
      rcases List.mem_append.mp z with y | y
      · exact h2 y
      · exact h3 (List.mem_singleton.mp y)
    clear hcl hI
    have hA3 := s13 _ _ hA
    -- for
    obtain ⟨M0, hM0⟩ : ∃ M0, M0 = meas A R (ws' ++ [name]) := ⟨_, rfl⟩
    rw [← hM0] at hm3 ⊢
    have hbig : M0 ≤ 40000 := by rw [hM0]; omega
    have hA4 := hA3
    have f4 : ∀ b o, b ≠ aD → H b = some o → H3 b = some o := fun b o _ h => s13 _ _ h
    have h14 := h13
    have h24 := h23
    have hR4 := hR3
    refine ⟨_, rfl, aD, od, akvs, rfl, hA4, for_it walk_tupItems (fun i σ H' => ∃ (o5 o6 o7 : Option V) (R : List (Str × List Ak)) (ws : List Str) (kvs : List (L2.Key × V)), σ = [some (.str f), some (.ref aD), some (.ref D), some (.ref W), some (.str name), o5, o6, o7] ∧ (∀ b o, b ≠ aD → H b = some o → H' b = some o) ∧ H' aD = some (.frz od (.dT akvs)) ∧ H' D = some (.dK kvs) ∧ H' W = some (.lst (ws.map V.str)) ∧ RwL H' W R kvs ∧ RI A f R ws ∧ name ∈ R.map (·.1) ∧
      (∀ a ∈ A, a.1.1 ∈ R.map (·.1) → a.1.1 ∉ ws → a.1.1 ≠ name → a.2.1 ∈ R.map (·.1)) ∧ (∀ k a, k < i → A[k]? = some a → a.1.1 = name → a.2.1 ∈ R.map (·.1)) ∧ meas A R ws + 1 ≤ M0) ?_ ?_ ?_ ?_⟩
    · exact ⟨_, _, _, R, ws', kvs, rfl, f4, hA4, h14, h24, hR4, hI3, hnk, hcl3, fun k a h => absurd h (Nat.not_lt_zero k), Nat.le_of_eq hm3⟩
    · rintro i σ H5 _ ⟨o5, o6, o7, R, ws, kvs, rfl, _, h, _⟩
      exact h
    · rintro i x σ H5 H6 hi ⟨o5, o6, o7, R5, ws5, kvs5, rfl, f5, a5, h15, h25, hR5, hI5, hn5, hcl5, hp5, hm5⟩ ⟨T', k, v, qk, hkv, hq, rfl, hT, rfl⟩
      have tk5 : TK H H5 := fun b xs hb => f5 b _ (fun z => by rw [z, hA] at hb; cases hb) hb
      obtain ⟨a, ha, hk1, bv, hv, hb⟩ := hk.get hkv
      dsimp only at hk1 hv
      subst hk1 hv
      have hb5 := tk5 _ _ hb
      have sT := same_new hT (.tup [.ref qk, .ref bv])
      have ham := mem_of_get ha
      rw [keyA_V] at hq
      refine ⟨T', _, rfl, SqT.of upd_same, rfl, _, _, rfl, _, _, rfl, ⟨bv, _, rfl, SqT.of (sT _ _ hb5), rfl, _, _, rfl, _, _, rfl, rfl, rfl, ?_⟩⟩
      have f6 : ∀ b o, b ≠ aD → H b = some o → (upd H5 T' (.tup [.ref qk, .ref bv])) b = some o := fun b o n h => sT _ _ (f5 b o n h)
      have a6 := sT _ _ a5
      have h16 := sT _ _ h15
      have h26 := sT _ _ h25
      have hR6 := hR5.mono (fun l vs _ h => sT _ _ h) (tk_same sT)
      have hq6 := sT _ _ hq
      generalize upd H5 T' (.tup [.ref qk, .ref bv]) = H6 at f6 a6 h16 h26 hR6 hq6
      have done : (a.1.1 = name → a.2.1 ∈ R5.map (·.1)) → ∀ k a', k < i + 1 → A[k]? = some a' → a'.1.1 = name → a'.2.1 ∈ R5.map (·.1) := fun hd k a' hk' ha' hn' => by
        by_cases c : k = i
        · rw [c, ha] at ha'
          cases ha'
          exact hd hn'
        · exact hp5 k a' (by omega) ha' hn'
      refine ⟨_, rfl, qk, _, _, _, rfl, rfl, SqT.of hq6, at0, _, rfl, rfl, _, rfl, ?_⟩
      refine ite2 (fun c => ?_) (fun c => ⟨_, _, _, R5, ws5, kvs5, rfl, f6, a6, h16, h26, hR6, hI5, hn5, hcl5, done fun z => absurd (decide_eq_true (congrArg V.str z)) c, hm5⟩)
      have hsn : a.1.1 = name := V.str.inj (of_decide_eq_true c)
      refine ⟨_, rfl, _, rfl, D, _, rfl, DGet.k (k := .inr a.2.1) h16, _, rfl, ?_⟩
      rw [hR6.val]
      by_cases hin : a.2.1 ∈ R5.map (·.1)
      · refine itF (by rw [decide_eq_true hin]; rfl) ⟨_, _, _, R5, ws5, kvs5, rfl, f6, a6, h16, h26, hR6, hI5, hn5, hcl5, done fun _ => hin, hm5⟩
      · refine itT (by rw [decide_eq_false hin]; rfl) ?_
        obtain ⟨y, kvy, hy1, hy2, hy3, hy4, ly, vy, hy5, hy6, hy7, hy8⟩ := hR6.there hn5
        rw [hy5] at hy3
        obtain ⟨hI7, hm7⟩ := hI5.add ham hy1 (hy2.trans hsn.symm) hin
        refine ⟨_, rfl, _, rfl, D, .ref ly, rfl, by rw [← hy3]; exact DGet.k (k := .inr name) h16, ly, _, rfl, .inr (SqL.of hy7), _, rfl, ?_⟩
        have hvl : vy.length ≤ 10000 := by
          have e1 := hy8.len
          rw [List.length_map] at e1
          have := hI5.ln y hy1
          have := hI5.len
          omega
        refine ⟨sz (by rw [List.length_append, List.length_singleton]; omega), fun l7 hl7 => ?_⟩
        have s7 := same_new hl7 (.lst (vy ++ [.ref qk]))
        have nl7W : l7 ≠ W := fun z => by rw [z, h26] at hl7; cases hl7
        have nl7D : l7 ≠ D := fun z => by rw [z, h16] at hl7; cases hl7
        have hkl := hR6.len
        have hI5l := hI5.len
        refine ⟨_, rfl, _, rfl, D, _, rfl, DPut.k (k := .inr a.2.1) (s7 _ _ h16) (Nat.lt_of_le_of_lt (m := 10001) (by omega) (by decide)), ?_⟩
        rw [putK_new (by rw [hR6.keys]; intro z; obtain ⟨x, hx, e⟩ := List.mem_map.mp z; exact hin (List.mem_map.mpr ⟨x, hx, Sum.inr.inj e⟩))]
        have tk8 : TK (upd H6 l7 (.lst (vy ++ [.ref qk]))) (upd (upd H6 l7 (.lst (vy ++ [.ref qk]))) D (.dK (kvs5 ++ [((.inr a.2.1 : L2.Key), .ref l7)]))) := fun b xs hb => by
          rw [upd_ne (fun z => by rw [z, s7 _ _ h16] at hb; cases hb)]
          exact hb
        have lk8 : LK W (upd H6 l7 (.lst (vy ++ [.ref qk]))) (upd (upd H6 l7 (.lst (vy ++ [.ref qk]))) D (.dK (kvs5 ++ [((.inr a.2.1 : L2.Key), .ref l7)]))) := fun l vs _ hl => by
          rw [upd_ne (fun z => by rw [z, s7 _ _ h16] at hl; cases hl)]
          exact hl
        have hR8 := ((hR6.mono (fun l vs _ h => s7 _ _ h) (tk_same s7)).mono lk8 tk8).app (x := (a.2.1, y.2 ++ [a])) (kv := ((.inr a.2.1 : L2.Key), .ref l7)) ⟨rfl, l7, vy ++ [.ref qk], rfl, nl7W, by rw [upd_ne nl7D]; exact upd_same, by
          rw [List.map_append]
          exact (hy8.imp fun _ _ z => (z.tk (tk_same s7)).tk tk8).app ⟨⟨qk, rfl, tk8 _ _ (s7 _ _ hq6)⟩, trivial⟩⟩
        have f8 : ∀ b o, b ≠ aD → H b = some o → (upd (upd H6 l7 (.lst (vy ++ [.ref qk]))) D (.dK (kvs5 ++ [((.inr a.2.1 : L2.Key), .ref l7)]))) b = some o := fun b o n h => by
          rw [upd_ne (fun z => by rw [z, hD] at h; cases h)]
          exact s7 _ _ (f6 b o n h)
        have a8 : (upd (upd H6 l7 (.lst (vy ++ [.ref qk]))) D (.dK (kvs5 ++ [((.inr a.2.1 : L2.Key), .ref l7)]))) aD = some (.frz od (.dT akvs)) := by
          rw [upd_ne naD]; exact s7 _ _ a6
        have h18 : (upd (upd H6 l7 (.lst (vy ++ [.ref qk]))) D (.dK (kvs5 ++ [((.inr a.2.1 : L2.Key), .ref l7)]))) D = some (.dK (kvs5 ++ [((.inr a.2.1 : L2.Key), .ref l7)])) := upd_same
        have h28 : (upd (upd H6 l7 (.lst (vy ++ [.ref qk]))) D (.dK (kvs5 ++ [((.inr a.2.1 : L2.Key), .ref l7)]))) W = some (.lst (ws5.map V.str)) := by
          rw [upd_ne nDW.symm]; exact s7 _ _ h26
        generalize upd (upd H6 l7 (.lst (vy ++ [.ref qk]))) D (.dK (kvs5 ++ [((.inr a.2.1 : L2.Key), .ref l7)])) = H8 at hR8 f8 a8 h18 h28
        have hwl : ws5.length ≤ 40000 := by
          have : meas A R5 ws5 = 2 * (A.length + 1 - R5.length) + ws5.length := rfl
          have := hbig
          omega
        refine ⟨_, rfl, .inl ⟨rfl, _, SqL.of h28⟩, _, rfl, W, _, _, rfl, rfl, h28, Nat.lt_of_le_of_lt (m := 40000) (by rw [List.length_map]; exact hwl) (by decide), ?_⟩
        refine ⟨_, _, _, R5 ++ [(a.2.1, y.2 ++ [a])], ws5 ++ [a.2.1], kvs5 ++ [((.inr a.2.1 : L2.Key), .ref l7)], rfl, fun b o n h => ?_, ?_, ?_, ?_, ?_, hI7, ?_, ?_, ?_, ?_⟩
        · rw [upd_ne (fun z => by rw [z, hW0] at h; cases h)]
          exact f8 b o n h
        · rw [upd_ne naW]; exact a8
        · rw [upd_ne nDW]; exact h18
        · rw [upd_same, List.map_append]; rfl
        · exact hR8.mono (fun l vs n hl => by rw [upd_ne n]; exact hl) (tk_put h28)
        · rw [List.map_append]; exact List.mem_append_left _ hn5
        · intro b hb' h1 h2 h3
          rw [List.map_append] at h1 ⊢
          have h2' : b.1.1 ∉ ws5 := fun z => h2 (List.mem_append_left _ z)
          rcases List.mem_append.mp h1 with z | z
          · exact List.mem_append_left _ (hcl5 b hb' z h2' h3)
          · exact absurd (List.mem_append_right ws5 z) h2
        · intro k a' hk' ha' hn'
          rw [List.map_append]
          by_cases c : k = i
          · rw [c, ha] at ha'
            cases ha'
            exact List.mem_append_right _ List.mem_cons_self
          · exact List.mem_append_left _ (hp5 k a' (by omega) ha' hn')
        · omega
    · rintro σ H5 ⟨o5, o6, o7, R5, ws5, kvs5, rfl, f5, a5, h15, h25, hR5, hI5, hn5, hcl5, hp5, hm5⟩
      rw [hk.len] at hp5
      refine ⟨meas A R5 ws5, by omega, _, _, _, _, R5, ws5, kvs5, rfl, fun b o h => ?_, h15, h25, hR5, hI5, ?_, rfl, by omega⟩
      · by_cases c : b = aD
        · rw [c, hA] at h
          rw [c]
          cases h
          exact a5
        · exact f5 b o c h
      · intro a ha h1 h2
        by_cases c : a.1.1 = name
        · obtain ⟨k, hk', e⟩ := List.getElem_of_mem ha
          exact hp5 k a hk' (by rw [List.getElem?_eq_getElem hk', e]) c
        · exact hcl5 a ha h1 h2 c
end
end KB

set_option pp.maxSteps 400
namespace KB
open PySem L2 HT LamX NdefX PyProof.Rows

/-- a dict comprehension over any walk -/
theorem dc_walk {J : It} {n : Nat} {G : Hp → Prop} {Y : Nat → Hp → V → Hp → Prop} (w : Walk J n G Y) {g : L2.TG} {tt : TT} {tk tv : TE} {vs : List Nat} {σ : L2.St} {H1 : Hp} {D : Addr} {Qd : Hp → Prop} (Pv : Nat → Hp → Prop) (h0 : Pv 0 (upd H1 D (.dK [])))
    (hG : ∀ i H, i ≤ n → Pv i H → G H)
    (hs : ∀ i x H H', i < n → Pv i H → Y i H x H' → g x (wipe σ vs) H' fun σ2 H2 => wipe σ2 vs = wipe σ vs ∧ tt σ2 H2 fun b H3 =>
      if b = true then tk σ2 H3 fun y H4 => tv σ2 H4 fun z H5 => ∃ kvs k, y = kV k ∧ H5 D = some (.dK kvs) ∧ kvs.length < sizeLine ∧ Pv (i + 1) (upd H5 D (.dK (putK kvs k z))) else Pv (i + 1) H3) (hd : ∀ H, Pv n H → Qd H) :
    ∃ W : Nat → Nat → Hp → Prop, (∃ m, W 0 m (upd H1 D (.dK []))) ∧ ∀ i m H, W i m H →
      (J.stop i H ∧ Qd H) ∨ (J.go i H ∧ ∃ Nx : Hp → Prop, (∀ H', Nx H' → ∃ m', m' < m ∧ W (i + 1) m' H') ∧ ∀ x H', J.yld i H x H' → g x (wipe σ vs) H' fun σ2 H2 => wipe σ2 vs = wipe σ vs ∧ tt σ2 H2 fun b H3 =>
        if b = true then tk σ2 H3 fun y H4 => tv σ2 H4 fun z H5 => ∃ kvs k, y = kV k ∧ H5 D = some (.dK kvs) ∧ kvs.length < sizeLine ∧ Nx (upd H5 D (.dK (putK kvs k z))) else Nx H3) := by
  refine ⟨fun i m H => m = n - i ∧ i ≤ n ∧ Pv i H, ⟨n, by simp, Nat.zero_le _, h0⟩, ?_⟩
  rintro i m H ⟨rfl, hi, p⟩
  have g1 := hG i H hi p
  by_cases c : i < n
  · exact .inr ⟨w.goes i H c g1, Pv (i + 1), fun H' p' => ⟨n - (i + 1), by omega, rfl, c, p'⟩, fun x H' y => hs i x H H' c p (w.yields i H x H' c g1 y)⟩
  · have e : i = n := by omega
    subst e
    exact .inl ⟨w.stops H g1, hd H p⟩
/-- a list comprehension over any walk -/
theorem lc_walk {J : It} {n : Nat} {G : Hp → Prop} {Y : Nat → Hp → V → Hp → Prop} (w : Walk J n G Y) {g : L2.TG} {tt : TT} {te : TE} {vs : List Nat} {σ : L2.St} {H1 : Hp} {D : Addr} {Qd : Hp → Prop} (Pv : Nat → Hp → Prop) (h0 : Pv 0 (upd H1 D (.lst [])))
    (hG : ∀ i H, i ≤ n → Pv i H → G H)
    (hs : ∀ i x H H', i < n → Pv i H → Y i H x H' → g x (wipe σ vs) H' fun σ2 H2 => wipe σ2 vs = wipe σ vs ∧ tt σ2 H2 fun b H3 =>
      if b = true then te σ2 H3 fun y H4 => ∃ acc, H4 D = some (.lst acc) ∧ acc.length < sizeLine ∧ Pv (i + 1) (upd H4 D (.lst (acc ++ [y]))) else Pv (i + 1) H3) (hd : ∀ H, Pv n H → Qd H) :
    ∃ W : Nat → Nat → Hp → Prop, (∃ m, W 0 m (upd H1 D (.lst []))) ∧ ∀ i m H, W i m H →
      (J.stop i H ∧ Qd H) ∨ (J.go i H ∧ ∃ Nx : Hp → Prop, (∀ H', Nx H' → ∃ m', m' < m ∧ W (i + 1) m' H') ∧ ∀ x H', J.yld i H x H' → g x (wipe σ vs) H' fun σ2 H2 => wipe σ2 vs = wipe σ vs ∧ tt σ2 H2 fun b H3 =>
        if b = true then te σ2 H3 fun y H4 => ∃ acc, H4 D = some (.lst acc) ∧ acc.length < sizeLine ∧ Nx (upd H4 D (.lst (acc ++ [y]))) else Nx H3) := by
  refine ⟨fun i m H => m = n - i ∧ i ≤ n ∧ Pv i H, ⟨n, by simp, Nat.zero_le _, h0⟩, ?_⟩
  rintro i m H ⟨rfl, hi, p⟩
  have g1 := hG i H hi p
  by_cases c : i < n
  · exact .inr ⟨w.goes i H c g1, Pv (i + 1), fun H' p' => ⟨n - (i + 1), by omega, rfl, c, p'⟩, fun x H' y => hs i x H H' c p (w.yields i H x H' c g1 y)⟩
  · have e : i = n := by omega
    subst e
    exact .inl ⟨w.stops H g1, hd H p⟩
theorem sw_trueD {kx vx : Expr} {gs : List Comprehension} {scope : Scope} {pos py : Pos} {y : Str} {l : Nat} {env : PySem.Env} (hk : env.scope.kind = ScopeKind.function) (hy : List.lookup y env.scope.names = some NameKind.local) (hl : (py.line == pos.line) = true)
    (ha : (scope.names.any fun x => match x with | (n, k) => n == y && (k == NameKind.local || k == NameKind.cell)) = false) : swapsWith (kx.DictComp vx gs scope pos) (some (Expr.Name y py)) l env = pure true := sw_true (elt := kx) (gs := gs) (pos := pos) (l := l) hk hy hl ha
theorem ps_setDc {X : Cx} {i : Nat} {y : Str} {py : Pos} {kx vx tg iter : Expr} {ifs : List Expr} {scope : Scope} {own : List (Str × Nat)} {pos spos : Pos} {wi : TI} {g : L2.TG} {tt : TT} {tk tv : TE}
    (hc : X.calm = true) (hN : X.N.Nodup) (hy : X.N[i]? = some y) (hyl : List.lookup y X.env.scope.names = some NameKind.local)
    (hsw : swapsWith (kx.DictComp vx [{ target := tg, iter := iter, ifs := ifs, is_async := 0 }] scope pos) (some (Expr.Name y py)) spos.line X.env = pure true)
    (hi : PI X tg iter wi) (ok : BlkOk X.N X.env.scope scope own)
    (hg : ∀ (s : Shared) (H : Hp) (C : Addr) (cl : List (Str × Addr)) (fp : List Addr), PG (X.blk s H scope (compEnvC scope cl C X.env) fp) tg g)
    (ht : ∀ (s : Shared) (H : Hp) (C : Addr) (cl : List (Str × Addr)) (fp : List Addr), PTs (X.blk s H scope (compEnvC scope cl C X.env) fp) ifs tt)
    (hk : ∀ (s : Shared) (H : Hp) (C : Addr) (cl : List (Str × Addr)) (fp : List Addr), PE (X.blk s H scope (compEnvC scope cl C X.env) fp) kx tk)
    (he : ∀ (s : Shared) (H : Hp) (C : Addr) (cl : List (Str × Addr)) (fp : List Addr), PE (X.blk s H scope (compEnvC scope cl C X.env) fp) vx tv)
    (hs : ∀ x : Value, foldedSetIterable iter X.env x = pure x := by intro _; rfl) :
    PS X (Stmt.Assign [Expr.Name y py] (kx.DictComp vx [{ target := tg, iter := iter, ifs := ifs, is_async := 0 }] scope pos) spos) (tAsg (tDc wi g tt tk tv (own.map (·.2))) (gName i)) := by
  refine ⟨fun pins s σ H D I h => ?_⟩
  rw [exec_Assign_Name_used y py _ spos hsw]
  refine wpAny_bind (wpAny_standAt (wpAny_bind ?_))
  refine wpAny_bind (thn (dc_core hc hN I hi ok hg ht hk he hs h fun L C s' m H' I' q hn f => ?_) fun x s' hq => wpAny_pure (wpAny_pure hq))
  refine wpAny_assign_Name (store_ok2 (v := .ref L) I' hN hy (Or.inl hyl) rfl (fun s2 I2 ⟨a, sb, ha⟩ => ?_) (Or.inr hyl))
  obtain ⟨f0, f1, f2, f3, f4, f5⟩ := f
  have haC : C ≠ a := by
    rcases ha with z | z
    · rw [z]; exact f1
    · intro e; exact f4 y a z e.symm
  exact ⟨m, Heap.Ns.sameBut hn sb haC, fun h3 sb3 => ⟨σ.set i (some (.ref L)), H', Inv.turned I2 (fun b o hb e => (sb3.right b hb).trans e) f0 f1 f3 f4 f5, q⟩⟩
/-! ### levels in the heap -/
def LvK (N : List Str) (lv : Str → Nat) : List (L2.Key × V) := N.map fun n => (.inr n, .int (lv n : Int))
theorem LvK.keys (N : List Str) (lv : Str → Nat) : (LvK N lv).map (·.1) = N.map fun n => (.inr n : L2.Key) := by unfold LvK; rw [List.map_map]; rfl
theorem lvK_val {N : List Str} {lv : Str → Nat} {n : Str} (h : n ∈ N) : valV (LvK N lv) (.inr n) = some (.int (lv n : Int)) := by
  induction N with
  | nil => cases h
  | cons m M ih =>
    unfold valV LvK
    rw [List.map_cons]
    by_cases c : m = n
    · rw [List.find?_cons_of_pos (by exact decide_eq_true (by rw [c])), c]
      rfl
    · rw [List.find?_cons_of_neg (by show ¬ decide ((Sum.inr m : L2.Key) = .inr n) = true; rw [decide_eq_false fun z => c (Sum.inr.inj z)]; exact Bool.false_ne_true)]
      rcases List.mem_cons.mp h with z | z
      · exact absurd z.symm c
      · exact ih z
theorem lvK_no {N : List Str} {lv : Str → Nat} {n : Str} (h : n ∉ N) : valV (LvK N lv) (.inr n) = none := valV_no (by
  rw [LvK.keys]
  intro z
  obtain ⟨x, hx, e⟩ := List.mem_map.mp z
  exact h (by rw [← Sum.inr.inj e]; exact hx))
theorem lvK_put {N : List Str} {lv : Str → Nat} {x : Str} {v : Nat} (h : x ∈ N) : putK (LvK N lv) (.inr x) (.int (v : Int)) = LvK N (setL lv x v) := by
  unfold putK
  rw [if_pos (show (LvK N lv).any (fun kv => decide (kv.1 = Sum.inr x)) = true from List.any_eq_true.mpr ⟨(.inr x, .int (lv x : Int)), List.mem_map.mpr ⟨x, h, rfl⟩, decide_eq_true rfl⟩)]
  unfold LvK
  rw [List.map_map]
  refine List.map_congr_left fun n _ => ?_
  show (if (Sum.inr n : L2.Key) = .inr x then ((Sum.inr n : L2.Key), V.int (v : Int)) else (.inr n, .int (lv n : Int))) = (.inr n, .int (setL lv x v n : Int))
  unfold setL
  by_cases c : n = x
  · rw [if_pos (by rw [c]), if_pos c]
  · rw [if_neg (fun z => c (Sum.inr.inj z)), if_neg c]
section
variable {P : Program} {w : World} {K : PySem.W.Frag} {mg : Str → Option Value} {base : Heap}
/-! ### least_levels -/
abbrev sleast_levels : Stmt := top 27
theorem scleast_levels : FnScope ["asks", "names", "levels", "name", "is_settled", "place", "asked", "weight"] ["asks", "names"] (defScope sleast_levels) := ⟨rfl, rfl, rfl, by decide +kernel, rfl, by decide +kernel, by decide +kernel⟩
def spLeast : Sp := fun vs H Q _ => ∃ (aD nL : Addr) (A : List Ak) (akvs : List (List L2.Key × V)) (N : List Str), vs = [.ref aD, .ref nL] ∧ H aD = some (.dT akvs) ∧ AkL H A akvs ∧ H nL = some (.lst (N.map V.str)) ∧ N.Nodup ∧ N.length ≤ 10001 ∧ A.length ≤ 10000 ∧ Cl A N ∧ NR A N ∧ (∀ a ∈ A, a.2.2 ≤ 1) ∧
  ∀ D H' lv, H D = none → Same H H' → H' D = some (.dK (LvK N lv)) → Up A N lv → Re A N lv → Q (.ref D) H'
theorem ok_least {f : Addr} {fd : FuncData} (F : Fun K "least_levels" "least_levels" sleast_levels f fd) : FnOk P w K mg base CX0 1 f fd ["asks", "names"] spLeast := by
  refine F.ok scleast_levels (fun vs H Q E h => ?_) (fun cdv A outer s H vs Q E hr h => ?_)
  · obtain ⟨aD, nL, A, akvs, N, rfl, _⟩ := h
    rfl
  obtain ⟨aD, nL, A, akvs, N, rfl, hA, hk, hN, hnd, hlN, hlA, hcl, hnr, hw1, q⟩ := h
  refine ⟨_, (pss_cons (ps_setDc (i := 2) (own := [("name", 3)]) (g := gName 3) (tt := tYes) (tk := tVar 3) (tv := tC (.int 0)) (by rfl) scleast_levels.nd rfl rfl (sw_trueD rfl rfl rfl (by decide +kernel)) (pi_list (pv 1)) (blkOk_by (own := [("name", 3)]) (N := ["asks", "names", "levels", "name", "is_settled", "place", "asked", "weight"]) (sc := defScope sleast_levels) (by decide +kernel)) (fun _ _ _ _ _ => (pg_name (i := 3) scleast_levels.nd rfl (Or.inl rfl))) (fun _ _ _ _ _ => pts_nil) (fun _ _ _ _ _ => (pv 3)) (fun _ _ _ _ _ => pe_int))
    (pss_cons (ps_set (i := 4) scleast_levels.nd rfl (Or.inl rfl) pe_bl)
    (pss_cons (ps_while PassesOwn.never (pt_not (pt_val (pv 4))) (pss_cons (ps_set (i := 4) scleast_levels.nd rfl (Or.inl rfl) pe_bl)
    (pss_one (ps_lock (ps_for PassesOwn.never rfl (pi_tupItems (pv 0)) (pg_tup rfl (pgs_cons (pg_name (i := 5) scleast_levels.nd rfl (Or.inl rfl)) (pgs_cons (pg_tup rfl (pgs_cons (pg_name (i := 6) scleast_levels.nd rfl (Or.inl rfl)) (pgs_cons (pg_name (i := 7) scleast_levels.nd rfl (Or.inl rfl)) pgs_nil))) pgs_nil))) (pss_one (ps_if (PW.pt (pw_and (pt_cmp (pc_din (hu_of hr) (pe_ix ix_tup (pv 5) pe_int (fun _ _ => rfl)) (pv 2))) (pw_and1 (pt_cmpR op_lt (pe_dget (hu_of hr) (pv 2) (pe_ix ix_tup (pv 5) pe_int (fun _ _ => rfl)) (fun _ _ => rfl)) (pe_op op_add (pe_dget (hu_of hr) (pv 2) (pv 6) (fun _ _ => rfl)) (pv 7)) (nomark _))))) (pss_cons (ps_dput (hu_of hr) (pv 2) (pe_ix ix_tup (pv 5) pe_int (fun _ _ => rfl)) (pe_op op_add (pe_dget (hu_of hr) (pv 2) (pv 6) (fun _ _ => rfl)) (pv 7)) rfl)
    (pss_one (ps_set (i := 4) scleast_levels.nd rfl (Or.inl rfl) pe_bl))) pss_nil)))))))
    (pss_one (ps_ret (pv 2)))))), ?_⟩
  refine ⟨_, rfl, nL, rfl, ⟨_, SqL.of hN⟩, fun D hD => ?_⟩
  have naD : aD ≠ D := fun z => by rw [← z, hA] at hD; cases hD
  refine dc_walk (walk_list (K := K) (a := nL) (xs := N.map V.str)) (fun i H' => Same H H' ∧ H' D = some (.dK (LvK (N.take i) fun _ => 0))) ⟨same_new hD _, upd_same⟩ ?_ ?_ ?_
  · rintro i H' _ ⟨s1, _⟩
    exact SqL.of (s1 _ _ hN)
  · rintro i x H1 H2 hi ⟨s1, h1⟩ ⟨e', hx⟩
    subst e'
    rw [List.getElem?_map] at hx
    obtain ⟨n, hn, rfl⟩ := Option.map_eq_some_iff.mp hx
    obtain ⟨hj, hj2⟩ := List.getElem?_eq_some_iff.mp hn
    refine ⟨rfl, ?_⟩
    dsimp only [tYes]
    rw [if_pos rfl]
    refine ⟨_, rfl, LvK (N.take i) (fun _ => 0), Sum.inr n, rfl, h1, Nat.lt_of_le_of_lt (m := 10001) (by unfold LvK; rw [List.length_map, List.length_take]; omega) (by decide), same_mut s1 hD, ?_⟩
    rw [upd_same, putK_new, List.take_succ_eq_append_getElem hj, hj2]
    · unfold LvK
      rw [List.map_append]
      rfl
    · rw [LvK.keys]
      intro z
      obtain ⟨y, hy, e⟩ := List.mem_map.mp z
      have e2 : y = n := Sum.inr.inj e
      obtain ⟨k, hk', e3⟩ := List.getElem_of_mem hy
      rw [List.getElem_take] at e3
      have hk2 : k < i := by rw [List.length_take] at hk'; omega
      exact List.pairwise_iff_getElem.mp hnd k i (by omega) hj hk2 (e3.trans (e2.trans hj2.symm))
  rintro H1 ⟨s1, h1⟩
  rw [List.length_map, List.take_length] at h1
  -- while
  refine ⟨fun m σ H' => ∃ (o3 o5 o6 o7 : Option V) (lv : Str → Nat) (st : Bool), σ = [some (.ref aD), some (.ref nL), some (.ref D), o3, some (.bl st), o5, o6, o7] ∧ Same H H' ∧ H' D = some (.dK (LvK N lv)) ∧ Re A N lv ∧ (st = true → Up A N lv) ∧ m = (if st = true then 0 else 1) + (N.length * N.length - sumL N lv),
    ⟨_, _, _, _, _, fun _ => 0, false, rfl, s1, h1, fun n hn => ⟨[], n, .nil, rfl⟩, (by intro z; cases z), rfl⟩, ?_⟩
  rintro m σ H2 ⟨o3, o5, o6, o7, lv, st, rfl, s2, h2, re, up, rfl⟩
  refine ⟨_, rfl, _, rfl, ?_⟩
  cases st with
  | true => exact itF rfl ⟨_, rfl, q D H2 lv hD s2 h2 (up rfl) re⟩
  | false =>
    refine itT rfl ?_
    refine ⟨fun σ' H' => ∃ m', m' < (if false = true then 0 else 1) + (N.length * N.length - sumL N lv) ∧ ∃ (o3 o5 o6 o7 : Option V) (lv : Str → Nat) (st : Bool), σ' = [some (.ref aD), some (.ref nL), some (.ref D), o3, some (.bl st), o5, o6, o7] ∧ Same H H' ∧ H' D = some (.dK (LvK N lv)) ∧ Re A N lv ∧ (st = true → Up A N lv) ∧ m' = (if st = true then 0 else 1) + (N.length * N.length - sumL N lv), fun _ _ z => z, ?_⟩
    have hA2 := s2 _ _ hA
    refine ⟨aD, .dT akvs, hA2, trivial, fun od => ?_⟩
    have hA4 : (upd H2 aD (.frz od (.dT akvs))) aD = some (.frz od (.dT akvs)) := upd_same
    have f4 : ∀ b o, b ≠ aD → H b = some o → (upd H2 aD (.frz od (.dT akvs))) b = some o := fun b o n h => by rw [upd_ne n]; exact s2 _ _ h
    have h14 : (upd H2 aD (.frz od (.dT akvs))) D = some (.dK (LvK N lv)) := by rw [upd_ne naD.symm]; exact h2
    generalize upd H2 aD (.frz od (.dT akvs)) = H4 at hA4 f4 h14
    refine ⟨_, rfl, aD, od, akvs, rfl, hA4, for_it walk_tupItems (fun i σ H' => ∃ (o5 o6 o7 : Option V) (lv1 : Str → Nat) (st : Bool), σ = [some (.ref aD), some (.ref nL), some (.ref D), o3, some (.bl st), o5, o6, o7] ∧ (∀ b o, b ≠ aD → H b = some o → H' b = some o) ∧ H' aD = some (.frz od (.dT akvs)) ∧ H' D = some (.dK (LvK N lv1)) ∧ Re A N lv1 ∧
      ((st = true ∧ lv1 = lv ∧ ∀ k a, k < i → A[k]? = some a → a.1.1 ∈ N → lv1 a.2.1 + a.2.2 ≤ lv1 a.1.1) ∨ (st = false ∧ sumL N lv < sumL N lv1))) ?_ ?_ ?_ ?_⟩
    · exact ⟨_, _, _, lv, true, rfl, f4, hA4, h14, re, .inl ⟨rfl, rfl, fun k a h => absurd h (Nat.not_lt_zero k)⟩⟩
    · rintro i σ H5 _ ⟨o5, o6, o7, lv1, st, rfl, _, h, _⟩
      exact h
    · rintro i x σ H5 H6 hi ⟨o5, o6, o7, lv1, st, rfl, f5, a5, h15, re5, hst⟩ ⟨T', k, v, qk, hkv, hq, rfl, hT, rfl⟩
      have tk5 : TK H H5 := fun b xs hb => f5 b _ (fun z => by rw [z, hA] at hb; cases hb) hb
      obtain ⟨a, ha, hk1, bv, hv, hb⟩ := hk.get hkv
      dsimp only at hk1 hv
      subst hk1 hv
      have hb5 := tk5 _ _ hb
      have sT := same_new hT (.tup [.ref qk, .ref bv])
      have ham := mem_of_get ha
      rw [keyA_V] at hq
      refine ⟨T', _, rfl, SqT.of upd_same, rfl, _, _, rfl, _, _, rfl, ⟨bv, _, rfl, SqT.of (sT _ _ hb5), rfl, _, _, rfl, _, _, rfl, rfl, rfl, ?_⟩⟩
      have f6 : ∀ b o, b ≠ aD → H b = some o → (upd H5 T' (.tup [.ref qk, .ref bv])) b = some o := fun b o n h => sT _ _ (f5 b o n h)
      have a6 := sT _ _ a5
      have h16 := sT _ _ h15
      have hq6 := sT _ _ hq
      generalize upd H5 T' (.tup [.ref qk, .ref bv]) = H6 at f6 a6 h16 hq6
      have done : (a.1.1 ∈ N → lv1 a.2.1 + a.2.2 ≤ lv1 a.1.1) → ((st = true ∧ lv1 = lv ∧ ∀ k a, k < i + 1 → A[k]? = some a → a.1.1 ∈ N → lv1 a.2.1 + a.2.2 ≤ lv1 a.1.1) ∨ (st = false ∧ sumL N lv < sumL N lv1)) := fun hd => by
        rcases hst with ⟨e1, e2, e3⟩ | z
        · refine .inl ⟨e1, e2, fun k a' hk' ha' hn' => ?_⟩
          by_cases c : k = i
          · rw [c, ha] at ha'
            cases ha'
            exact hd hn'
          · exact e3 k a' (by omega) ha' hn'
        · exact .inr z
      refine ⟨_, rfl, qk, _, _, _, rfl, rfl, SqT.of hq6, at0, _, rfl, D, _, rfl, DGet.k (k := .inr a.1.1) h16, _, rfl, ?_⟩
      by_cases hin : a.1.1 ∈ N
      · refine itT (by rw [lvK_val hin]; rfl) ?_
        have hin2 := hcl a ham hin
        refine ⟨_, rfl, _, rfl, qk, _, _, _, rfl, rfl, SqT.of hq6, at0, D, _, rfl, by rw [← lvK_val hin]; exact DGet.k (k := .inr a.1.1) h16, _, rfl, _, rfl, D, _, rfl, by rw [← lvK_val hin2]; exact DGet.k (k := .inr a.2.1) h16, _, rfl, _, _, rfl, rfl, _, _, rfl, rfl, _, rfl, ?_⟩
        refine ite2 (fun c => ?_) (fun c => ⟨_, _, _, lv1, st, rfl, f6, a6, h16, re5, done fun _ => by
          have c' : ¬ ((lv1 a.1.1 : Int) < (lv1 a.2.1 : Int) + (a.2.2 : Int)) := fun z => c (decide_eq_true z)
          omega⟩)
        have c' : ((lv1 a.1.1 : Int) < (lv1 a.2.1 : Int) + (a.2.2 : Int)) := of_decide_eq_true c
        refine ⟨_, rfl, _, rfl, D, _, rfl, by rw [← lvK_val hin2]; exact DGet.k (k := .inr a.2.1) h16, _, rfl, _, _, rfl, rfl, _, rfl, _, rfl, qk, _, _, _, rfl, rfl, SqT.of hq6, at0, D, _, rfl, DPut.k (k := .inr a.1.1) h16 (Nat.lt_of_le_of_lt (m := 10001) (by unfold LvK; rw [List.length_map]; omega) (by decide)), ?_⟩
        refine ⟨_, _, _, setL lv1 a.1.1 (lv1 a.2.1 + a.2.2), false, rfl, fun b o n h => ?_, ?_, by rw [← lvK_put hin, Int.natCast_add]; exact upd_same, re5.set hcl ham hin, .inr ⟨rfl, ?_⟩⟩
        · rw [upd_ne (fun z => by rw [z, hD] at h; cases h)]
          exact f6 b o n h
        · rw [upd_ne naD]; exact a6
        · have := sum_set (N := N) (lv := lv1) (x := a.1.1) (v := lv1 a.2.1 + a.2.2) (by omega) hin
          rcases hst with ⟨_, e2, _⟩ | ⟨_, z⟩
          · rw [← e2]; exact this
          · omega
      · refine itF (by rw [lvK_no hin]; rfl) ⟨_, _, _, lv1, st, rfl, f6, a6, h16, re5, done fun z => absurd z hin⟩
    · rintro σ H5 ⟨o5, o6, o7, lv1, st, rfl, f5, a5, h15, re5, hst⟩
      rw [hk.len] at hst
      have b1 := sum_le (N := N) (lv := lv1) (B := N.length) (re5.le hcl hnr hw1)
      refine ⟨a5, (if st = true then 0 else 1) + (N.length * N.length - sumL N lv1), ?_, _, _, _, _, lv1, st, rfl, fun b o h => ?_, ?_, re5, fun e => ?_, rfl⟩
      · rcases hst with ⟨e1, e2, _⟩ | ⟨e1, z⟩
        · rw [e1, e2]
          show 0 + _ < 1 + _
          omega
        · rw [e1]
          show 1 + _ < 1 + _
          omega
      · by_cases c : b = aD
        · rw [c, hA] at h
          rw [c, upd_same]
          exact h
        · rw [upd_ne c]
          exact f5 b o c h
      · rw [upd_ne naD.symm]; exact h15
      · rcases hst with ⟨_, _, e3⟩ | ⟨e1, _⟩
        · intro a ha hs
          obtain ⟨k, hk', e⟩ := List.getElem_of_mem ha
          exact e3 k a hk' (by rw [List.getElem?_eq_getElem hk', e]) hs
        · rw [e1] at e
          cases e
/-! ### is_step_to -/
abbrev sis_step_to : Stmt := top 30
theorem scis_step_to : FnScope ["level", "ask", "levels", "asked", "weight"] ["level", "ask", "levels"] (defScope sis_step_to) := ⟨rfl, rfl, rfl, by decide +kernel, rfl, by decide +kernel, by decide +kernel⟩
def spStep : Sp := fun vs H Q _ => ∃ (v : Int) (b D : Addr) (a : Str) (wt : Nat) (N : List Str) (lv : Str → Nat), vs = [.int v, .ref b, .ref D] ∧ H b = some (.tup [.str a, .int (wt : Int)]) ∧ H D = some (.dK (LvK N lv)) ∧ a ∈ N ∧ Q (.bl (decide (0 < wt ∧ (lv a : Int) = v))) H
theorem ok_step {f : Addr} {fd : FuncData} (F : Fun K "is_step_to" "is_step_to" sis_step_to f fd) : FnOk P w K mg base CX0 1 f fd ["level", "ask", "levels"] spStep := by
  refine F.ok scis_step_to (fun vs H Q E h => ?_) (fun cdv A outer s H vs Q E hr h => ?_)
  · obtain ⟨v, b, D, a, wt, N, lv, rfl, _⟩ := h
    rfl
  obtain ⟨v, b, D, a, wt, N, lv, rfl, hb, hD, hin, q⟩ := h
  refine ⟨_, (pss_cons (ps_asg (pv 1) (pg_tup rfl (pgs_cons (pg_name (i := 3) scis_step_to.nd rfl (Or.inl rfl)) (pgs_cons (pg_name (i := 4) scis_step_to.nd rfl (Or.inl rfl)) pgs_nil))))
    (pss_one (ps_ret (pe_and (pe_cmpR op_gt (pv 4) pe_int (nomark _)) (pe_one (pe_cmpR op_eq (pe_dget (hu_of hr) (pv 2) (pv 3) (fun _ _ => rfl)) (pv 0) (nomark _))))))), ?_⟩
  refine ⟨_, rfl, b, _, rfl, SqT.of hb, rfl, _, _, rfl, _, _, rfl, rfl, ?_⟩
  refine ⟨_, rfl, _, _, rfl, rfl, _, rfl, ?_⟩
  refine ite2 (fun c => ?_) (fun c => ?_)
  · refine ⟨_, rfl, _, rfl, D, _, rfl, by rw [← lvK_val hin]; exact DGet.k (k := .inr a) hD, _, rfl, rfl, ?_⟩
    have c' : (0 : Int) < (wt : Int) := of_decide_eq_true c
    refine Eq.mp ?_ q
    congr 2
    refine decide_eq_decide.mpr ⟨fun z => by rw [z.2], fun z => ⟨by omega, V.int.inj z⟩⟩
  · have c' : ¬ (0 : Int) < (wt : Int) := fun z => c (decide_eq_true z)
    rw [decide_eq_false (fun z => c' (by omega))] at q
    exact q
end
end KB

set_option pp.maxSteps 400
namespace KB
open PySem L2 HT LamX NdefX

theorem AkL.val {H : Hp} : ∀ {as : List Ak} {kvs : List (List L2.Key × V)}, AkL H as kvs → (as.map (·.1)).Nodup → ∀ {i : Nat} {kv : List L2.Key × V}, kvs[i]? = some kv → valV kvs kv.1 = some kv.2
  | [], [], _, _, i, kv, h => by simp at h
  | a :: as, kv0 :: kvs, ⟨x, r⟩, nd, i, kv, h => by
    obtain ⟨n1, n2⟩ := List.nodup_cons.mp nd
    cases i with
    | zero =>
      rw [List.getElem?_cons_zero] at h
      cases h
      unfold valV
      rw [List.find?_cons_of_pos (by exact decide_eq_true rfl)]
      rfl
    | succ i =>
      rw [List.getElem?_cons_succ] at h
      have ih := r.val n2 h
      obtain ⟨b, hb, hk, _⟩ := r.get h
      unfold valV at ih ⊢
      rw [List.find?_cons_of_neg]
      · exact ih
      · intro z
        have e : kv0.1 = kv.1 := of_decide_eq_true z
        rw [x.1, hk] at e
        exact n1 (List.mem_map.mpr ⟨b, mem_of_get hb, (keyA_inj e).symm⟩)
  | [], _ :: _, h, _, _, _, _ => h.elim
  | _ :: _, [], h, _, _, _, _ => h.elim
theorem AkL.has {H : Hp} {as : List Ak} {kvs : List (List L2.Key × V)} (h : AkL H as kvs) (nd : (as.map (·.1)).Nodup) {a : Ak} (ha : a ∈ as) : ∃ b, valV kvs (keyA a.1) = some (.ref b) ∧ H b = some (.tup [.str a.2.1, .int (a.2.2 : Int)]) := by
  obtain ⟨i, hi, e⟩ := List.getElem_of_mem ha
  have hi' : i < kvs.length := by rw [h.len]; exact hi
  obtain ⟨a', ha', hk, b, hb, hc⟩ := h.get (List.getElem?_eq_getElem hi')
  rw [List.getElem?_eq_getElem hi, e] at ha'
  cases ha'
  refine ⟨b, ?_, hc⟩
  rw [← hk, ← hb]
  exact h.val nd (List.getElem?_eq_getElem hi')
section
variable {P : Program} {w : World} {K : PySem.W.Frag} {mg : Str → Option Value} {base : Heap}
/-! ### step_down -/
abbrev sstep_down : Stmt := top 29
theorem scstep_down : FnScope ["f", "asks", "levels", "rows", "below", "last", "place"] ["f", "asks", "levels"] (defScope sstep_down) := ⟨rfl, rfl, rfl, by decide +kernel, rfl, by decide +kernel, by decide +kernel⟩
def spDown : Sp := fun vs H Q _ => ∃ (f : Str) (aD D : Addr) (A : List Ak) (akvs : List (List L2.Key × V)) (N : List Str) (lv : Str → Nat), vs = [.str f, .ref aD, .ref D] ∧ H aD = some (.dT akvs) ∧ AkL H A akvs ∧ A.length ≤ 10000 ∧ (A.map (·.1)).Nodup ∧ H D = some (.dK (LvK N lv)) ∧ f ∈ N ∧ Cl A N ∧ Up A N lv ∧ Re A N lv ∧ (∀ a ∈ A, a.2.2 ≤ 1) ∧ 0 < lv f ∧
  ∀ L H' p a vp q, H L = none → Same H H' → H' L = some (.lst (vp ++ [.ref q])) → All2 (PlcV H') (p.map (·.1)) vp → PlAt H' a.1 q → Row A f p a.1.1 → a ∈ A → 0 < a.2.2 → lv a.2.1 + 1 = lv f → vp.length ≤ A.length + 1 → Q (.ref L) H'
theorem ok_down {f f1 f2 : Addr} {fd d1 d2 : FuncData} (F : Fun K "step_down" "step_down" sstep_down f fd)
    (Grows_from : FnOk P w K mg base CX0 1 f1 d1 ["f", "asks"] spRows) (Rrows_from : Ref K mg "rows_from" f1 d1 ["f", "asks"])
    (Gis_step_to : FnOk P w K mg base CX0 1 f2 d2 ["level", "ask", "levels"] spStep) (Ris_step_to : Ref K mg "is_step_to" f2 d2 ["level", "ask", "levels"]) : FnOk P w K mg base CX0 2 f fd ["f", "asks", "levels"] spDown := by
  refine F.ok scstep_down (fun vs H Q E h => ?_) (fun cdv A outer s H vs Q E hr h => ?_)
  · obtain ⟨f, aD, D, A, akvs, N, lv, rfl, _⟩ := h
    rfl
  obtain ⟨f, aD, D, A, akvs, N, lv, rfl, hA, hk, hlA, hnd, hD, hf, hcl, up, re, hw1, hpos, q⟩ := h
  refine ⟨_, (pss_cons (ps_set (i := 3) scstep_down.nd rfl (Or.inr rfl) (pe_call Grows_from (hr.mono (by omega)) rfl Rrows_from.m Rrows_from.k Rrows_from.b .nil pass0 (pa_cons (pv 0) (pa_cons (pv 1) pa_nil))))
    (pss_cons (ps_set (i := 4) scstep_down.nd rfl (Or.inr rfl) (pe_op op_sub (pe_dget (hu_of hr) (pv 2) (pv 0) (fun _ _ => rfl)) pe_int))
    (pss_cons (ps_lock (ps_setLc (i := 5) (own := [("place", 6)]) (g := gName 6) (tt := tAnd (tB (tDIn (tOp (rIxT K) (tVar 6) (tC (.int 0))) (tVar 3))) (tB (tCall spStep [] E0 (tCons (tVar 4) (tCons (tDGet (tVar 1) (tVar 6)) (tCons (tVar 2) tNil)))))) (te := tVar 6) (by rfl) scstep_down.nd rfl rfl (sw_true rfl rfl rfl (by decide +kernel)) (pi_keys (pv 1)) (blkOk_by (own := [("place", 6)]) (N := ["f", "asks", "levels", "rows", "below", "last", "place"]) (sc := defScope sstep_down) (by decide +kernel)) (fun _ _ _ _ _ => (pg_name (i := 6) scstep_down.nd rfl (Or.inl rfl))) (fun _ _ _ _ _ => (pts_one (PW.pt (pw_and (pt_cmp (pc_din (hu_of hr) (pe_ix ix_tup (pv 6) pe_int (fun _ _ => rfl)) (pv 3))) (pw_and1 (pt_val (pe_call Gis_step_to (hr.mono (by omega)) rfl Ris_step_to.m Ris_step_to.k Ris_step_to.b .nil pass0 (pa_cons (pv 4) (pa_cons (pe_dget (hu_of hr) (pv 1) (pv 6) (fun _ _ => rfl)) (pa_cons (pv 2) pa_nil)))))))))) (fun _ _ _ _ _ => (pv 6))))
    (pss_one (ps_ret (pe_lst (StX.pa_star (pe_dget (hu_of hr) (pv 3) (pe_ix ix_tup (pe_ix ix_list (pv 5) pe_int (fun _ _ => rfl)) pe_int (fun _ _ => rfl)) (fun _ _ => rfl)) (pa_cons (pe_ix ix_list (pv 5) pe_int (fun _ _ => rfl)) pa_nil)))))))), ?_⟩
  refine ⟨_, rfl, _, rfl, f, aD, A, akvs, rfl, hA, hk, hlA, fun D2 H1 R kvs W hD2 s1 h1 hR ok hRl hRn => ?_⟩
  have hD1 := s1 _ _ hD
  have hA1 := s1 _ _ hA
  have n2A : D2 ≠ aD := fun z => by rw [z, hA] at hD2; cases hD2
  have nDA : D ≠ aD := fun z => by rw [z, hA] at hD; cases hD
  refine ⟨_, rfl, _, rfl, D, _, rfl, by rw [← lvK_val hf]; exact DGet.k (k := .inr f) hD1, _, _, rfl, rfl, ?_⟩
  refine ⟨aD, .dT akvs, hA1, trivial, fun od => ?_⟩
  have hA2 : (upd H1 aD (.frz od (.dT akvs))) aD = some (.frz od (.dT akvs)) := upd_same
  have f2 : ∀ b o, b ≠ aD → H b = some o → (upd H1 aD (.frz od (.dT akvs))) b = some o := fun b o n h => by rw [upd_ne n]; exact s1 _ _ h
  have hD3 : (upd H1 aD (.frz od (.dT akvs))) D = some (.dK (LvK N lv)) := by rw [upd_ne nDA]; exact hD1
  have h2 : (upd H1 aD (.frz od (.dT akvs))) D2 = some (.dK kvs) := by rw [upd_ne n2A]; exact h1
  have lk0 : LK W H1 (upd H1 aD (.frz od (.dT akvs))) := fun l vs _ h => by rw [upd_ne (fun z => by rw [z, hA1] at h; cases h)]; exact h
  have tk0 : TK H1 (upd H1 aD (.frz od (.dT akvs))) := fun b xs h => by rw [upd_ne (fun z => by rw [z, hA1] at h; cases h)]; exact h
  have hR2 := hR.mono lk0 tk0
  generalize upd H1 aD (.frz od (.dT akvs)) = H2 at hA2 f2 hD3 h2 hR2
  have tk2 : TK H H2 := fun b xs hb => f2 b _ (fun z => by rw [z, hA] at hb; cases hb) hb
  have hk2 := hk.tk tk2
  have hRN : ∀ n, n ∈ R.map (·.1) → n ∈ N := fun n hn => by
    obtain ⟨x, hx, e⟩ := List.mem_map.mp hn
    rw [← e]
    exact ((ok.so x hx).cl hcl hf).1
  have hgood : ∀ a : Ak, a ∈ A → (a.1.1 ∈ R.map (·.1) ∧ 0 < a.2.2 ∧ (lv a.2.1 : Int) = (lv f : Int) - 1) → (0 < a.2.2 ∧ lv a.2.1 + 1 = lv f) := fun a _ z => ⟨z.2.1, by have := z.2.2; omega⟩
  refine ⟨_, rfl, aD, od, rfl, .inr ⟨akvs, hA2, fun L hL => ?_⟩⟩
  have nLA : L ≠ aD := fun z => by rw [z, hA2] at hL; cases hL
  refine lc_walk walk_keysT (fun i H' => ∃ (as : List Ak) (vs : List V), Same H2 H' ∧ H' L = some (.lst vs) ∧ All2 (PlcV H') (as.map (·.1)) vs ∧ vs.length ≤ i ∧ (∀ a ∈ as, a ∈ A ∧ a.1.1 ∈ R.map (·.1) ∧ 0 < a.2.2 ∧ (lv a.2.1 : Int) = (lv f : Int) - 1) ∧ (∀ k a, k < i → A[k]? = some a → a.1.1 ∈ R.map (·.1) → 0 < a.2.2 → (lv a.2.1 : Int) = (lv f : Int) - 1 → as ≠ [])) ?_ ?_ ?_ ?_
  · exact ⟨[], [], same_new hL _, upd_same, trivial, Nat.le_refl _, (fun _ h => nomatch h), fun k a h => absurd h (Nat.not_lt_zero k)⟩
  · rintro i H3 _ ⟨as, vs, s3, _⟩
    exact s3 _ _ hA2
  · rintro i x H3 H4 hi ⟨as, vs, s3, h3, hv, hvl, hg, hc⟩ ⟨e', k, v, qk, hkv, rfl, hq⟩
    subst e'
    obtain ⟨a, ha, hk1, bv, hv1, hb⟩ := hk2.get hkv
    have hval := hk2.val hnd hkv
    dsimp only at hk1 hv1 hval
    subst hk1 hv1
    have ham := mem_of_get ha
    have hq' := hq
    rw [keyA_V] at hq'
    have hA3 := s3 _ _ hA2
    refine ⟨rfl, ?_⟩
    refine ⟨_, rfl, qk, _, _, _, rfl, rfl, SqT.of hq', at0, _, rfl, D2, _, rfl, DGet.k (k := .inr a.1.1) (s3 _ _ h2), _, rfl, ?_⟩
    rw [hR2.val]
    have skip : ¬ (a.1.1 ∈ R.map (·.1) ∧ 0 < a.2.2 ∧ (lv a.2.1 : Int) = (lv f : Int) - 1) → ∃ (as : List Ak) (vs : List V), Same H2 H4 ∧ H4 L = some (.lst vs) ∧ All2 (PlcV H4) (as.map (·.1)) vs ∧ vs.length ≤ i + 1 ∧ (∀ a ∈ as, a ∈ A ∧ a.1.1 ∈ R.map (·.1) ∧ 0 < a.2.2 ∧ (lv a.2.1 : Int) = (lv f : Int) - 1) ∧ (∀ k a, k < i + 1 → A[k]? = some a → a.1.1 ∈ R.map (·.1) → 0 < a.2.2 → (lv a.2.1 : Int) = (lv f : Int) - 1 → as ≠ []) := fun hno => by
      refine ⟨as, vs, s3, h3, hv, by omega, hg, fun k a' hk' ha' x1 x2 x3 => ?_⟩
      by_cases c : k = i
      · rw [c, ha] at ha'
        cases ha'
        exact absurd ⟨x1, x2, x3⟩ hno
      · exact hc k a' (by omega) ha' x1 x2 x3
    by_cases hin : a.1.1 ∈ R.map (·.1)
    · refine itT (by rw [decide_eq_true hin]) ?_
      have hin2 : a.2.1 ∈ N := hcl a ham (hRN _ hin)
      refine ⟨_, rfl, _, rfl, _, rfl, aD, .ref bv, rfl, .inr ⟨akvs, keyA a.1, qk, .inr ⟨od, hA3⟩, rfl, hq, hval.symm⟩, _, rfl, _, bv, D, a.2.1, a.2.2, N, lv, rfl, s3 _ _ hb, s3 _ _ hD3, hin2, _, rfl, ?_⟩
      refine ite2 (fun c => ?_) (fun c => skip fun z => c (decide_eq_true z.2))
      obtain ⟨c1, c2⟩ := of_decide_eq_true c
      refine ⟨_, rfl, vs, h3, Nat.lt_of_le_of_lt (m := 10000) (by rw [hk2.len] at hi; omega) (by decide), as ++ [a], vs ++ [.ref qk], same_mut s3 hL, upd_same, ?_, ?_, fun b hb => ?_, fun _ _ _ _ _ _ _ z => ?_⟩
      · rw [List.map_append]
        exact (hv.imp fun _ _ z => z.tk (tk_put h3)).app ⟨⟨qk, rfl, tk_put h3 _ _ hq'⟩, trivial⟩
      · rw [List.length_append, List.length_singleton]; omega
      · rcases List.mem_append.mp hb with z | z
        · exact hg b z
        · rw [List.mem_singleton.mp z]
          exact ⟨ham, hin, c1, c2⟩
      · exact absurd z (by simp)
    · refine itF (by rw [decide_eq_false hin]) (itF rfl (skip fun z => hin z.1))
  rintro H3 ⟨as, vs, s3, h3, hv, hvl, hg, hc⟩
  rw [hk2.len] at hc hvl
  have hA3 := s3 _ _ hA2
  refine ⟨hA3, ?_⟩
  obtain ⟨p0, a0, hp0, ha0, hw0, hl0⟩ := step_there up re hcl hw1 hf hpos
  have hne : as ≠ [] := by
    obtain ⟨k, hk', e⟩ := List.getElem_of_mem ha0
    exact hc k a0 hk' (by rw [List.getElem?_eq_getElem hk', e]) (ok.all hp0) hw0 (by omega)
  cases as with
  | nil => exact absurd rfl hne
  | cons a as =>
    cases vs with
    | nil => exact hv.elim
    | cons v vs =>
      obtain ⟨⟨qk, rfl, hq⟩, hv'⟩ := hv
      obtain ⟨ham, hin, hw, hl⟩ := hg a List.mem_cons_self
      have f4 : ∀ b o, b ≠ aD → H3 b = some o → (upd H3 aD (.dT akvs)) b = some o := fun b o n h => by rw [upd_ne n]; exact h
      have s4 : Same H (upd H3 aD (.dT akvs)) := fun b o h => by
        by_cases c : b = aD
        · rw [c, hA] at h
          rw [c, upd_same]
          exact h
        · exact f4 b o c (s3 _ _ (f2 b o c h))
      have h4L : (upd H3 aD (.dT akvs)) L = some (.lst (.ref qk :: vs)) := f4 _ _ nLA h3
      have h4D : (upd H3 aD (.dT akvs)) D2 = some (.dK kvs) := f4 _ _ n2A (s3 _ _ h2)
      have hR4 : RwL (upd H3 aD (.dT akvs)) W R kvs := (hR2.mono (fun l vs _ h => s3 _ _ h) (tk_same s3)).mono (fun l vs _ h => f4 _ _ (fun z => by rw [z, hA3] at h; cases h) h) (fun l vs h => f4 _ _ (fun z => by have h' : H3 _ = _ := h; rw [z, hA3] at h'; cases h') h)
      have hq4 : (upd H3 aD (.dT akvs)) qk = some (.tup (.str a.1.1 :: a.1.2.map V.int)) := f4 _ _ (fun z => by rw [z, hA3] at hq; cases hq) hq
      generalize upd H3 aD (.dT akvs) = H4 at s4 h4L h4D hR4 hq4
      obtain ⟨y, kvy, hy1, hy2, hy3, hy4, ly, vy, hy5, hy6, hy7, hy8⟩ := hR4.there hin
      rw [hy5] at hy3
      refine ⟨_, rfl, _, rfl, L, _, _, _, rfl, rfl, SqL.of h4L, at0, qk, _, _, _, rfl, rfl, SqT.of hq4, at0, D2, .ref ly, rfl, by rw [← hy3]; exact DGet.k (k := .inr a.1.1) h4D, ly, _, rfl, .inr (SqL.of hy7), _, rfl, L, _, _, _, rfl, rfl, SqL.of h4L, at0, ?_⟩
      have hvl : vy.length ≤ A.length + 1 := by
        have e1 := hy8.len
        rw [List.length_map] at e1
        have := hRn y hy1
        omega
      refine ⟨sz (by rw [List.length_append, List.length_singleton]; omega), fun l7 hl7 => ?_⟩
      have s7 := same_new hl7 (.lst (vy ++ [.ref qk]))
      have hrow := ok.so y hy1
      rw [hy2] at hrow
      refine q l7 _ y.2 a vy qk ?_ (s4.trans s7) upd_same (hy8.imp fun _ _ z => z.tk (tk_same s7)) (s7 _ _ hq4) hrow ham hw (by omega) hvl
      cases e : H l7 with
      | none => rfl
      | some o => rw [s4 _ _ e] at hl7; cases hl7
/-! ### greatest_row -/
abbrev sgreatest_row : Stmt := top 28
theorem scgreatest_row : FnScope ["f", "asks", "levels", "row", "name", "step"] ["f", "asks", "levels"] (defScope sgreatest_row) := ⟨rfl, rfl, rfl, by decide +kernel, rfl, by decide +kernel, by decide +kernel⟩
def spGreat : Sp := fun vs H Q _ => ∃ (f : Str) (aD D : Addr) (A : List Ak) (akvs : List (List L2.Key × V)) (N : List Str) (lv : Str → Nat), vs = [.str f, .ref aD, .ref D] ∧ H aD = some (.dT akvs) ∧ AkL H A akvs ∧ A.length ≤ 300 ∧ N.length ≤ 301 ∧ (∀ n ∈ N, lv n ≤ N.length) ∧ (A.map (·.1)).Nodup ∧ H D = some (.dK (LvK N lv)) ∧ f ∈ N ∧ Cl A N ∧ Up A N lv ∧ Re A N lv ∧ (∀ a ∈ A, a.2.2 ≤ 1) ∧
  ∀ L H' r vs g, H L = none → Same H H' → H' L = some (.lst vs) → All2 (PlcV H') (r.map (·.1)) vs → Row A f r g → wtR r = lv f → Q (.ref L) H'
theorem ok_great {f f1 : Addr} {fd d1 : FuncData} (F : Fun K "greatest_row" "greatest_row" sgreatest_row f fd)
    (Gstep_down : FnOk P w K mg base CX0 2 f1 d1 ["f", "asks", "levels"] spDown) (Rstep_down : Ref K mg "step_down" f1 d1 ["f", "asks", "levels"]) : FnOk P w K mg base CX0 3 f fd ["f", "asks", "levels"] spGreat := by
  refine F.ok scgreatest_row (fun vs H Q E h => ?_) (fun cdv A outer s H vs Q E hr h => ?_)
  · obtain ⟨f, aD, D, A, akvs, N, lv, rfl, _⟩ := h
    rfl
  obtain ⟨f, aD, D, A, akvs, N, lv, rfl, hA, hk, hlA, hlN, hlv, hnd, hD, hf, hcl, up, re, hw1, q⟩ := h
  refine ⟨_, (pss_cons (ps_set (i := 3) scgreatest_row.nd rfl (Or.inl rfl) (pe_lst pa_nil))
    (pss_cons (ps_set (i := 4) scgreatest_row.nd rfl (Or.inl rfl) (pv 0))
    (pss_cons (ps_while PassesOwn.never (pt_cmpR op_gt (pe_dget (hu_of hr) (pv 2) (pv 4) (fun _ _ => rfl)) pe_int (nomark _)) (pss_cons (ps_set (i := 5) scgreatest_row.nd rfl (Or.inl rfl) (pe_call Gstep_down (hr.mono (by omega)) rfl Rstep_down.m Rstep_down.k Rstep_down.b .nil pass0 (pa_cons (pv 4) (pa_cons (pv 1) (pa_cons (pv 2) pa_nil)))))
    (pss_cons (ps_expr (pe_bm PySem.F.plainAttrs_list PySem.F.slot_list_extend PySem.F.type_list_extend mt_extend (pv 3) (pa_cons (pv 5) pa_nil)))
    (pss_one (ps_set (i := 4) scgreatest_row.nd rfl (Or.inl rfl) (pe_ix ix_tup (pe_dget (hu_of hr) (pv 1) (pe_ix ix_list (pv 5) (pe_un un_neg pe_int) (fun _ _ => rfl)) (fun _ _ => rfl)) pe_int (fun _ _ => rfl)))))))
    (pss_one (ps_ret (pv 3)))))), ?_⟩
  refine ⟨sz (by show 0 ≤ 100000; decide), fun Lr hLr => ?_⟩
  refine ⟨_, rfl, ?_⟩
  have s0 := same_new hLr (.lst [])
  refine ⟨fun m σ H' => ∃ (o5 : Option V) (r : List Ak) (vs : List V) (g : Str), σ = [some (.str f), some (.ref aD), some (.ref D), some (.ref Lr), some (.str g), o5] ∧ Same H H' ∧ H' Lr = some (.lst vs) ∧ All2 (PlcV H') (r.map (·.1)) vs ∧ Row A f r g ∧ wtR r + lv g = lv f ∧ vs.length ≤ (lv f - lv g) * 302 ∧ lv g ≤ lv f ∧ m = lv g,
    ⟨_, _, [], [], f, rfl, s0, upd_same, trivial, .nil, by show 0 + _ = _; omega, Nat.zero_le _, Nat.le_refl _, rfl⟩, ?_⟩
  rintro m σ H1 ⟨o5, r, vs, g, rfl, s1, h1, hv, hrow, hwt, hvl, hgf, rfl⟩
  have hg := (hrow.cl hcl hf).1
  have hD1 := s1 _ _ hD
  have hA1 := s1 _ _ hA
  refine ⟨_, rfl, _, rfl, D, _, rfl, by rw [← lvK_val hg]; exact DGet.k (k := .inr g) hD1, _, _, rfl, rfl, _, rfl, ?_⟩
  refine ite2 (fun c => ?_) (fun c => ?_)
  · have hpos : 0 < lv g := by
      have : (0 : Int) < (lv g : Int) := of_decide_eq_true c
      omega
    refine ⟨fun σ' H' => ∃ m', m' < lv g ∧ ∃ (o5 : Option V) (r : List Ak) (vs : List V) (g : Str), σ' = [some (.str f), some (.ref aD), some (.ref D), some (.ref Lr), some (.str g), o5] ∧ Same H H' ∧ H' Lr = some (.lst vs) ∧ All2 (PlcV H') (r.map (·.1)) vs ∧ Row A f r g ∧ wtR r + lv g = lv f ∧ vs.length ≤ (lv f - lv g) * 302 ∧ lv g ≤ lv f ∧ m' = lv g, fun _ _ z => z, ?_⟩
    have hk1 := hk.tk (tk_same s1)
    refine ⟨_, rfl, _, rfl, _, rfl, g, aD, D, A, akvs, N, lv, rfl, hA1, hk1, by omega, hnd, hD1, hg, hcl, up, re, hw1, hpos, fun L H2 p a vp qk hL s2 h2 hvp hqk hrp ham haw hal hpl => ?_⟩
    have h12 := s2 _ _ h1
    have nLL : L ≠ Lr := fun z => by rw [z, h1] at hL; cases hL
    have hmul : (lv f - lv a.2.1) * 302 = (lv f - lv g) * 302 + 302 := by
      have : lv f - lv a.2.1 = (lv f - lv g) + 1 := by omega
      rw [this, Nat.succ_mul]
    have hfb : (lv f - lv g) * 302 ≤ 301 * 302 := Nat.mul_le_mul_right _ (by have := hlv f hf; omega)
    refine ⟨_, rfl, .inl ⟨rfl, _, SqL.of h12⟩, _, rfl, Lr, L, _, _, rfl, rfl, h12, h2, Nat.le_of_lt (Nat.lt_of_le_of_lt (m := 100000) (by rw [List.length_append, List.length_singleton]; omega) (by decide)), ?_⟩
    have tk3 : TK H2 (upd H2 Lr (.lst (vs ++ (vp ++ [.ref qk])))) := tk_put h12
    have hA3 : (upd H2 Lr (.lst (vs ++ (vp ++ [.ref qk])))) aD = some (.dT akvs) := by
      have hA2 := s2 _ _ hA1
      rw [upd_ne (fun z => by rw [z, h12] at hA2; cases hA2)]
      exact hA2
    have h3 : (upd H2 Lr (.lst (vs ++ (vp ++ [.ref qk])))) L = some (.lst (vp ++ [.ref qk])) := by rw [upd_ne nLL]; exact h2
    have s3 : Same H (upd H2 Lr (.lst (vs ++ (vp ++ [.ref qk])))) := same_mut (s1.trans s2) hLr
    have h3r : (upd H2 Lr (.lst (vs ++ (vp ++ [.ref qk])))) Lr = some (.lst (vs ++ (vp ++ [.ref qk]))) := upd_same
    generalize upd H2 Lr (.lst (vs ++ (vp ++ [.ref qk]))) = H3 at tk3 hA3 h3 s3 h3r
    obtain ⟨bv, hval, hb⟩ := hk.has hnd ham
    have hq3 := tk3 _ _ hqk
    refine ⟨_, rfl, _, rfl, _, rfl, L, _, _, _, rfl, rfl, SqL.of h3, atI_last _ _, aD, .ref bv, rfl, by rw [← hval]; exact DGet.t (k := keyA a.1) hA3 (by rw [keyA_V]; exact hq3), bv, _, _, _, rfl, rfl, SqT.of (s3 _ _ hb), at0, ?_⟩
    refine ⟨lv a.2.1, by omega, _, r ++ (p ++ [a]), vs ++ (vp ++ [.ref qk]), a.2.1, rfl, s3, h3r, ?_, hrow.app (hrp.snoc ham rfl), ?_, ?_, by omega, rfl⟩
    · rw [List.map_append, List.map_append]
      exact (hv.imp fun _ _ z => (z.tk (tk_same s2)).tk tk3).app ((hvp.imp fun _ _ z => z.tk tk3).app ⟨⟨qk, rfl, hq3⟩, trivial⟩)
    · have h1' := up.row hcl hrp hg
      have h2' := up a ham (hrp.cl hcl hg).1
      rw [wtR_app, wtR_app, wtR_cons]
      show _ + (_ + (_ + 0)) + _ = _
      have := hw1 a ham
      omega
    · rw [List.length_append, List.length_append, List.length_singleton, hmul]
      omega
  · have h0 : lv g = 0 := by
      have : ¬ (0 : Int) < (lv g : Int) := fun z => c (decide_eq_true z)
      omega
    exact ⟨_, rfl, q Lr H1 r vs g hLr s1 h1 hv hrow (by omega)⟩
end
end KB

set_option pp.maxSteps 400
namespace KB
open PySem L2 HT LamX NdefX

section
variable {P : Program} {w : World} {K : PySem.W.Frag} {mg : Str → Option Value} {base : Heap} {CN : Addr}
/-! ### most_waiting -/
abbrev smost_waiting : Stmt := top 24
theorem scmost_waiting : FnScope ["turned", "f", "asks", "rows", "place", "asked", "weight", "rows_on", "levels"] ["turned", "f"] (defScope smost_waiting) := ⟨rfl, rfl, rfl, by decide +kernel, rfl, by decide +kernel, by decide +kernel⟩
def spMW : Sp := fun vs H Q _ => ∃ (p : Addr) (es : List TEr) (us : List V) (f : Str), vs = [.ref p, .str f] ∧ TBkAt H es us p ∧ es.length ≤ 6 ∧ (∀ e ∈ es, kP e.2.2 ∧ ncnt e.2.2 ≤ 1000) ∧ (es.map (·.1)).Nodup ∧ (∃ e ∈ es, e.1 = f) ∧ (asksB es).length ≤ 300 ∧
  (∀ H' t x y, Same H H' → H' t = some (.tup [.str "ring", x, y]) → Q (.ref t) H') ∧
  (∀ H' t L D N lv r vs g, Same H H' → H' t = some (.tup [.str "most", .ref L, .ref D]) → H' L = some (.lst vs) → All2 (PlcV H') (r.map (·.1)) vs → Row (asksB es) f r g → wtR r = lv f → f ∈ N → Cl (asksB es) N → Up (asksB es) N lv → Q (.ref t) H')
theorem ok_mw {f f1 f2 f3 f4 f5 : Addr} {fd d1 d2 d3 d4 d5 : FuncData} (F : Fun K "most_waiting" "most_waiting" smost_waiting f fd)
    (Gneed_errand : FnOk P w K mg base (L2.CX P w) 2 f1 d1 ["book", "f"] (spNeedE CN)) (Rneed_errand : Ref K mg "need_errand" f1 d1 ["book", "f"])
    (Gasks_placed : FnOk P w K mg base CX0 4 f2 d2 ["turned"] spAsks) (Rasks_placed : Ref K mg "asks_placed" f2 d2 ["turned"])
    (Grows_from : FnOk P w K mg base CX0 1 f3 d3 ["f", "asks"] spRows) (GrowsZ : FnOk P w K mg base CX0 1 f3 d3 ["f", "asks"] spRowsZ) (Rrows_from : Ref K mg "rows_from" f3 d3 ["f", "asks"])
    (Gleast_levels : FnOk P w K mg base CX0 1 f4 d4 ["asks", "names"] spLeast) (Rleast_levels : Ref K mg "least_levels" f4 d4 ["asks", "names"])
    (Ggreatest_row : FnOk P w K mg base CX0 3 f5 d5 ["f", "asks", "levels"] spGreat) (Rgreatest_row : Ref K mg "greatest_row" f5 d5 ["f", "asks", "levels"])
    (T : Txt K mg) : FnOk P w K mg base CX0 5 f fd ["turned", "f"] spMW := by
  refine F.ok scmost_waiting (fun vs H Q E h => ?_) (fun cdv A outer s H vs Q E hr h => ?_)
  · obtain ⟨p, es, us, f, rfl, _⟩ := h
    rfl
  obtain ⟨p, es, us, f, rfl, hB, hl6, hk0, hnd, ⟨e0, he0, hf⟩, hl3, qr, qm⟩ := h
  refine ⟨_, (pss_cons (ps_expr (pe_call Gneed_errand (hr.mono (by omega)) rfl Rneed_errand.m Rneed_errand.k Rneed_errand.b .nil passX (pa_cons (pv 0) (pa_cons (pv 1) pa_nil))))
    (pss_cons (ps_set (i := 2) scmost_waiting.nd rfl (Or.inl rfl) (pe_call Gasks_placed (hr.mono (by omega)) rfl Rasks_placed.m Rasks_placed.k Rasks_placed.b .nil pass0 (pa_cons (pv 0) pa_nil)))
    (pss_cons (ps_set (i := 3) scmost_waiting.nd rfl (Or.inl rfl) (pe_call Grows_from (hr.mono (by omega)) rfl Rrows_from.m Rrows_from.k Rrows_from.b .nil pass0 (pa_cons (pv 1) (pa_cons (pv 2) pa_nil))))
    (pss_cons (ps_lock (ps_for PassesOwn.never rfl (pi_tupItems (pv 2)) (pg_tup rfl (pgs_cons (pg_name (i := 4) scmost_waiting.nd rfl (Or.inl rfl)) (pgs_cons (pg_tup rfl (pgs_cons (pg_name (i := 5) scmost_waiting.nd rfl (Or.inl rfl)) (pgs_cons (pg_name (i := 6) scmost_waiting.nd rfl (Or.inl rfl)) pgs_nil))) pgs_nil))) (pss_one (ps_if (PW.pt (pw_and (pt_cmpR op_gt (pv 6) pe_int (nomark _)) (pw_and1 (pt_cmp (pc_din (hu_of hr) (pe_ix ix_tup (pv 4) pe_int (fun _ _ => rfl)) (pv 3)))))) (pss_cons (ps_set (i := 7) scmost_waiting.nd rfl (Or.inl rfl) (pe_call GrowsZ (hr.mono (by omega)) rfl Rrows_from.m Rrows_from.k Rrows_from.b .nil pass0 (pa_cons (pv 5) (pa_cons (pv 2) pa_nil))))
    (pss_one (ps_if (pt_cmp (pc_din (hu_of hr) (pe_ix ix_tup (pv 4) pe_int (fun _ _ => rfl)) (pv 7))) (pss_one (ps_ret (pe_tup (pa_cons pe_str (pa_cons (pe_dget (hu_of hr) (pv 3) (pe_ix ix_tup (pv 4) pe_int (fun _ _ => rfl)) (fun _ _ => rfl)) (pa_cons (pe_lst (pa_cons (pv 4) (StX.pa_star (pe_dget (hu_of hr) (pv 7) (pe_ix ix_tup (pv 4) pe_int (fun _ _ => rfl)) (fun _ _ => rfl)) pa_nil))) pa_nil)))))) pss_nil))) pss_nil))))
    (pss_cons (ps_set (i := 8) scmost_waiting.nd rfl (Or.inl rfl) (pe_call Gleast_levels (hr.mono (by omega)) rfl Rleast_levels.m Rleast_levels.k Rleast_levels.b .nil pass0 (pa_cons (pv 2) (pa_cons (pe_callTy (call_list_dK rfl) (by rfl) T.m_list (by decide +kernel) (pa_cons (pv 3) pa_nil)) pa_nil))))
    (pss_one (ps_ret (pe_tup (pa_cons pe_str (pa_cons (pe_call Ggreatest_row (hr.mono (by omega)) rfl Rgreatest_row.m Rgreatest_row.k Rgreatest_row.b .nil pass0 (pa_cons (pv 1) (pa_cons (pv 2) (pa_cons (pv 8) pa_nil)))) (pa_cons (pv 8) pa_nil))))))))))), ?_⟩
  refine ⟨_, rfl, _, rfl, p, es, us, f, rfl, hB, fun _ => ?_, fun hno => absurd hf (hno e0 he0)⟩
  refine ⟨_, rfl, p, es, us, rfl, hB, hl6, hk0, hnd, fun aD H1 akvs hA0 s1 hA hk => ?_⟩
  have hw1 : ∀ a ∈ asksB es, a.2.2 ≤ 1 := asksB_w
  have hndA := asksB_nd hnd
  generalize asksB es = A at hk hl3 hw1 hndA qm
  refine ⟨_, rfl, _, rfl, f, aD, A, akvs, rfl, hA, hk, by omega, fun D H2 R kvs W hD s2 h2 hR ok hRl hRn => ?_⟩
  have hA2 := s2 _ _ hA
  have nDA : D ≠ aD := fun z => by rw [z, hA] at hD; cases hD
  refine ⟨aD, .dT akvs, hA2, trivial, fun od => ?_⟩
  have hA3 : (upd H2 aD (.frz od (.dT akvs))) aD = some (.frz od (.dT akvs)) := upd_same
  have f3 : ∀ b o, b ≠ aD → H2 b = some o → (upd H2 aD (.frz od (.dT akvs))) b = some o := fun b o n h => by rw [upd_ne n]; exact h
  generalize upd H2 aD (.frz od (.dT akvs)) = H3 at hA3 f3
  have back : ∀ H', (∀ b o, b ≠ aD → H2 b = some o → H' b = some o) → Same H2 (upd H' aD (.dT akvs)) := fun H' f4 b o h => by
    by_cases c : b = aD
    · rw [c, hA2] at h
      rw [c, upd_same]
      exact h
    · rw [upd_ne c]
      exact f4 b o c h
  have nst : ∀ {b : Addr} {u : HO}, H2 b = some u → (∀ kk, u ≠ .dT kk) → b ≠ aD := fun h n z => by
    rw [z, hA2] at h
    exact n _ (Option.some.inj h).symm
  refine ⟨_, rfl, aD, od, akvs, rfl, hA3, for_it walk_tupItems (fun i σ H' => ∃ (o4 o5 o6 o7 : Option V), σ = [some (.ref p), some (.str f), some (.ref aD), some (.ref D), o4, o5, o6, o7, none] ∧ (∀ b o, b ≠ aD → H2 b = some o → H' b = some o) ∧ H' aD = some (.frz od (.dT akvs)) ∧
      (∀ k a, k < i → A[k]? = some a → 0 < a.2.2 → a.1.1 ∈ R.map (·.1) → ∀ r, ¬ Row A a.2.1 r a.1.1)) ?_ ?_ ?_ ?_⟩
  · exact ⟨_, _, _, _, rfl, f3, hA3, fun k a h => absurd h (Nat.not_lt_zero k)⟩
  · rintro i σ H5 _ ⟨o4, o5, o6, o7, rfl, _, h, _⟩
    exact h
  · rintro i x σ H5 H6 hi ⟨o4, o5, o6, o7, rfl, f5, a5, hp5⟩ ⟨T', k, v, qk, hkv, hq, rfl, hT, rfl⟩
    have tk5 : TK H2 H5 := fun b xs hb => f5 b _ (nst hb (fun _ z => nomatch z)) hb
    have hk5 := (hk.tk (tk_same s2)).tk tk5
    obtain ⟨a, ha, hk1, bv, hv, hb⟩ := hk5.get hkv
    dsimp only at hk1 hv
    subst hk1 hv
    have sT := same_new hT (.tup [.ref qk, .ref bv])
    have ham := mem_of_get ha
    rw [keyA_V] at hq
    refine ⟨T', _, rfl, SqT.of upd_same, rfl, _, _, rfl, _, _, rfl, ⟨bv, _, rfl, SqT.of (sT _ _ hb), rfl, _, _, rfl, _, _, rfl, rfl, rfl, ?_⟩⟩
    have f6 : ∀ b o, b ≠ aD → H2 b = some o → (upd H5 T' (.tup [.ref qk, .ref bv])) b = some o := fun b o n h => sT _ _ (f5 b o n h)
    have a6 := sT _ _ a5
    have hq6 := sT _ _ hq
    have hk6 := hk5.tk (tk_same sT)
    generalize upd H5 T' (.tup [.ref qk, .ref bv]) = H6 at f6 a6 hq6 hk6
    have h26 := f6 _ _ nDA h2
    have hR6 : RwL H6 W R kvs := hR.mono (fun l vs _ h => f6 _ _ (nst h (fun _ z => nomatch z)) h) (fun l vs h => f6 _ _ (nst h (fun _ z => nomatch z)) h)
    have done : (0 < a.2.2 → a.1.1 ∈ R.map (·.1) → ∀ r, ¬ Row A a.2.1 r a.1.1) → (∀ k a, k < i + 1 → A[k]? = some a → 0 < a.2.2 → a.1.1 ∈ R.map (·.1) → ∀ r, ¬ Row A a.2.1 r a.1.1) := fun hd k a' hk' ha' x1 x2 => by
      by_cases c : k = i
      · rw [c, ha] at ha'
        cases ha'
        exact hd x1 x2
      · exact hp5 k a' (by omega) ha' x1 x2
    refine ⟨_, rfl, _, _, rfl, rfl, _, rfl, ?_⟩
    refine ite2 (fun c => ?_) (fun c => itF rfl ⟨_, _, _, _, rfl, f6, a6, done fun z => absurd (decide_eq_true (by omega : (0 : Int) < (a.2.2 : Int))) c⟩)
    refine ⟨_, rfl, qk, _, _, _, rfl, rfl, SqT.of hq6, at0, _, rfl, D, _, rfl, DGet.k (k := .inr a.1.1) h26, _, rfl, ?_⟩
    rw [hR6.val]
    by_cases hin : a.1.1 ∈ R.map (·.1)
    · refine itT (by rw [decide_eq_true hin]) ?_
      refine ⟨_, rfl, _, rfl, a.2.1, aD, A, akvs, od, rfl, a6, hk6, by omega, fun D3 H7 R3 kvs3 W3 hD3 s7 h7 hR7 ok7 hR7l hR7n => ?_⟩
      have hq7 := s7 _ _ hq6
      have f7 : ∀ b o, b ≠ aD → H2 b = some o → H7 b = some o := fun b o n h => s7 _ _ (f6 b o n h)
      have a7 := s7 _ _ a6
      have h27 := s7 _ _ h26
      have hR7' := hR6.mono (fun l vs _ h => s7 _ _ h) (tk_same s7)
      refine ⟨_, rfl, qk, _, _, _, rfl, rfl, SqT.of hq7, at0, _, rfl, D3, _, rfl, DGet.k (k := .inr a.1.1) h7, _, rfl, ?_⟩
      rw [hR7.val]
      by_cases hin3 : a.1.1 ∈ R3.map (·.1)
      · refine itT (by rw [decide_eq_true hin3]) ?_
        obtain ⟨y, kvy, hy1, hy2, hy3, hy4, ly, vy, hy5, hy6, hy7, hy8⟩ := hR7'.there hin
        obtain ⟨y3, kvy3, hz1, hz2, hz3, hz4, lz, vz, hz5, hz6, hz7, hz8⟩ := hR7.there hin3
        rw [hy5] at hy3
        rw [hz5] at hz3
        have hzl : vz.length ≤ 301 := by
          have e1 := hz8.len
          rw [List.length_map] at e1
          have := hR7n y3 hz1
          omega
        refine ⟨_, rfl, _, rfl, qk, _, _, _, rfl, rfl, SqT.of hq7, at0, D, .ref ly, rfl, by rw [← hy3]; exact DGet.k (k := .inr a.1.1) h27, _, rfl, _, rfl, _, rfl, qk, _, _, _, rfl, rfl, SqT.of hq7, at0, D3, .ref lz, rfl, by rw [← hz3]; exact DGet.k (k := .inr a.1.1) h7, lz, _, rfl, .inr (SqL.of hz7), ?_⟩
        refine ⟨sz (by rw [List.append_nil, List.length_cons]; omega), fun l8 hl8 => ?_⟩
        refine ⟨sz (by show 3 ≤ 100000; decide), fun t ht => ?_⟩
        have s8 := (same_new hl8 (.lst (.ref qk :: (vz ++ [])))).trans (same_new ht (.tup [.str "ring", .ref ly, .ref l8]))
        refine ⟨s8 _ _ a7, ?_⟩
        refine qr _ t (.ref ly) (.ref l8) ((s1.trans s2).trans (back _ fun b o n h => s8 _ _ (f7 b o n h))) ?_
        rw [upd_ne (fun z => by rw [z, (same_new hl8 _) _ _ a7] at ht; cases ht)]
        exact upd_same
      · refine itF (by rw [decide_eq_false hin3]) ⟨_, _, _, _, rfl, f7, a7, done fun _ _ r hr => hin3 (ok7.all hr)⟩
    · refine itF (by rw [decide_eq_false hin]) ⟨_, _, _, _, rfl, f6, a6, done fun _ z => absurd z hin⟩
  · rintro σ H5 ⟨o4, o5, o6, o7, rfl, f5, a5, hp5⟩
    rw [hk.len] at hp5
    refine ⟨a5, ?_⟩
    have s6 := back H5 f5
    have hA6 : (upd H5 aD (.dT akvs)) aD = some (.dT akvs) := upd_same
    generalize upd H5 aD (.dT akvs) = H6 at s6 hA6
    have h26 := s6 _ _ h2
    have hk6 := (hk.tk (tk_same s2)).tk (tk_same s6)
    have hnr : NR A (R.map (·.1)) := fun a ha hw hin => by
      obtain ⟨k, hk', e⟩ := List.getElem_of_mem ha
      exact hp5 k a hk' (by rw [List.getElem?_eq_getElem hk', e]) hw hin
    refine ⟨_, rfl, _, rfl, D, kvs, rfl, h26, fun nL hnL => ?_⟩
    have s7 := same_new hnL (.lst (kvs.map fun kv => kV kv.1))
    have hN : (upd H6 nL (.lst (kvs.map fun kv => kV kv.1))) nL = some (.lst ((R.map (·.1)).map V.str)) := by
      rw [upd_same, show (kvs.map fun kv => kV kv.1) = (kvs.map (·.1)).map kV by rw [List.map_map]; rfl, hR.keys, List.map_map, List.map_map]
      rfl
    generalize upd H6 nL (.lst (kvs.map fun kv => kV kv.1)) = H7 at s7 hN
    refine ⟨aD, nL, A, akvs, R.map (·.1), rfl, s7 _ _ hA6, hk6.tk (tk_same s7), hN, ok.nd, by rw [List.length_map]; omega, by omega, ok.cl, hnr, hw1, fun Dl H8 lv hDl s8 h8 up re => ?_⟩
    have s68 := s7.trans s8
    refine ⟨_, rfl, _, rfl, _, rfl, f, aD, Dl, A, akvs, R.map (·.1), lv, rfl, s68 _ _ hA6, hk6.tk (tk_same s68), hl3, by rw [List.length_map]; omega, re.le ok.cl hnr hw1, hndA, h8, ok.st, ok.cl, up, re, hw1, fun L H9 r vs g hL s9 h9 hv hrow hwt => ?_⟩
    refine ⟨_, rfl, sz (by show 3 ≤ 100000; decide), fun t ht => ?_⟩
    have s10 := same_new ht (.tup [.str "most", .ref L, .ref Dl])
    exact qm _ t L Dl (R.map (·.1)) lv r vs g (s1.trans (s2.trans (s6.trans (s68.trans (s9.trans s10))))) upd_same (s10 _ _ h9) (hv.imp fun _ _ z => z.tk (tk_same s10)) hrow hwt ok.st ok.cl up
end
end KB

set_option pp.maxSteps 400
namespace KB
open PySem L2 HT LamX NdefX

/-! ### asks of a part -/
def asksOf : Pt → List (Str × Str)
  | .give _ _ => []
  | .ask f _ j => [(f, j)]
  | .tell _ _ p => asksOf p
  | .lett _ _ p => asksOf p
  | .iff _ p q => asksOf p ++ asksOf q
  | .post _ _ p q => asksOf p ++ asksOf q
def postsOk : Pt → Prop
  | .give _ _ => True
  | .ask _ _ _ => True
  | .tell _ _ p => postsOk p
  | .lett _ _ p => postsOk p
  | .iff _ p q => postsOk p ∧ postsOk q
  | .post j _ p q => j ≠ "home" ∧ postsOk p ∧ postsOk q
theorem notHome {j : Str} (h : isW j = true) : j ≠ "home" := fun e => by
  rw [e] at h
  exact absurd h (by decide)
theorem posts_rP {hd : Str → Option Nat} : ∀ {p : Pt} {xs js : List Str}, rP hd p xs js → postsOk p
  | .give _ _, _, _, _ => trivial
  | .ask _ _ _, _, _, _ => trivial
  | .tell _ _ p, _, _, h => posts_rP (p := p) h.2.2
  | .lett _ _ p, _, _, h => posts_rP (p := p) h.2.2
  | .iff _ p q, _, _, h => ⟨posts_rP (p := p) h.2.1, posts_rP (p := q) h.2.2⟩
  | .post _ _ p q, _, _, h => ⟨notHome h.1, posts_rP (p := p) h.2.2.1, posts_rP (p := q) h.2.2.2⟩
def inE (e : List Int × Nd) : Option (List Int × Pt) := match e.2 with
  | .inl p => some (e.1, p)
  | .inr _ => none
theorem in_map (k : Int) (l : List (List Int × Nd)) : (l.map fun e => (k :: e.1, e.2)).filterMap inE = (l.filterMap inE).map fun e => (k :: e.1, e.2) := by
  rw [List.filterMap_map, List.map_filterMap]
  congr 1
  funext e
  obtain ⟨ks, n⟩ := e
  cases n <;> rfl
theorem in_T : ∀ t : Tm, (plT t).filterMap inE = [] := by
  intro t
  induction t with
  | mk h n k ih =>
    rw [show plT (.mk h n k) = ([], .inr (.mk h n k)) :: (List.ofFn fun i : _root_.Fin n => (plT (k i)).map (fun e => ((i.val : Int) :: e.1, e.2))).flatten from rfl]
    rw [List.filterMap_cons]
    show List.filterMap inE _ = []
    rw [List.filterMap_eq_nil_iff]
    intro e he
    obtain ⟨l, hl, he2⟩ := List.mem_flatten.mp he
    obtain ⟨i, rfl⟩ := List.mem_ofFn.mp hl
    obtain ⟨e', he', rfl⟩ := List.mem_map.mp he2
    have := List.filterMap_eq_nil_iff.mp (ih i) e' he'
    obtain ⟨ks, nn⟩ := e'
    cases nn with
    | inl p => cases this
    | inr t => rfl
theorem in_Ts : ∀ (ts : List Tm) (j : Nat), (plTs j ts).filterMap inE = []
  | [], _ => rfl
  | t :: ts, j => by
    show (((plT t).map fun e => ((j : Int) :: e.1, e.2)) ++ plTs (j + 1) ts).filterMap inE = []
    rw [List.filterMap_append, in_map, in_T, in_Ts ts (j + 1)]
    rfl
theorem inl_same : ∀ p : Pt, (plQ p).filterMap inE = allP p
  | .give j t => by
    show ([], Pt.give j t) :: List.filterMap inE (((plT t).map fun e => (((0 : Nat) : Int) :: e.1, e.2)) ++ []) = _
    rw [List.append_nil, in_map, in_T]
    rfl
  | .ask f ts j => by
    show ([], Pt.ask f ts j) :: List.filterMap inE (plTs 0 ts) = _
    rw [in_Ts]
    rfl
  | .tell x t p => by
    show ([], Pt.tell x t p) :: List.filterMap inE (((plT t).map fun e => (((0 : Nat) : Int) :: e.1, e.2)) ++ (((plQ p).map fun e => (((1 : Nat) : Int) :: e.1, e.2)) ++ [])) = _
    rw [List.append_nil, List.filterMap_append, in_map, in_map, in_T, inl_same p]
    show _ = _ :: (_ ++ [])
    rw [List.append_nil]
    rfl
  | .lett x t p => by
    show ([], Pt.lett x t p) :: List.filterMap inE (((plT t).map fun e => (((0 : Nat) : Int) :: e.1, e.2)) ++ (((plQ p).map fun e => (((1 : Nat) : Int) :: e.1, e.2)) ++ [])) = _
    rw [List.append_nil, List.filterMap_append, in_map, in_map, in_T, inl_same p]
    show _ = _ :: (_ ++ [])
    rw [List.append_nil]
    rfl
  | .iff t p q => by
    show ([], Pt.iff t p q) :: List.filterMap inE (((plT t).map fun e => (((0 : Nat) : Int) :: e.1, e.2)) ++ (((plQ p).map fun e => (((1 : Nat) : Int) :: e.1, e.2)) ++ (((plQ q).map fun e => (((2 : Nat) : Int) :: e.1, e.2)) ++ []))) = _
    rw [List.append_nil, List.filterMap_append, List.filterMap_append, in_map, in_map, in_map, in_T, inl_same p, inl_same q]
    show _ = _ :: (_ ++ (_ ++ []))
    rw [List.append_nil]
    rfl
  | .post j x p q => by
    show ([], Pt.post j x p q) :: List.filterMap inE (((plQ p).map fun e => (((0 : Nat) : Int) :: e.1, e.2)) ++ (((plQ q).map fun e => (((1 : Nat) : Int) :: e.1, e.2)) ++ [])) = _
    rw [List.append_nil, List.filterMap_append, in_map, in_map, inl_same p, inl_same q]
    show _ = _ :: (_ ++ (_ ++ []))
    rw [List.append_nil]
    rfl
def akP (nm : Str) (e : List Int × Pt) : Option Ak := match e.2 with
  | .ask g _ j => some ((nm, e.1), g, if j = "home" then 0 else 1)
  | _ => none
theorem asksE_same (e : TEr) : asksE e = (allP e.2.2).filterMap (akP e.1) := by
  rw [← inl_same, List.filterMap_filterMap]
  unfold asksE
  congr 1
  funext x
  obtain ⟨ks, n⟩ := x
  cases n with
  | inl p => cases p <;> rfl
  | inr t => rfl
theorem asks_all : ∀ (p : Pt) (x : Str × Str), x ∈ asksOf p → ∃ ks ts, (ks, Pt.ask x.1 ts x.2) ∈ allP p
  | .give _ _, _, h => nomatch h
  | .ask f ts j, x, h => ⟨[], ts, by rw [List.mem_singleton.mp h]; exact List.mem_cons_self⟩
  | .tell _ _ p, x, h => by
    obtain ⟨ks, ts, hm⟩ := asks_all p x h
    exact ⟨1 :: ks, ts, List.mem_cons_of_mem _ (List.mem_append_left _ (List.mem_map.mpr ⟨_, hm, rfl⟩))⟩
  | .lett _ _ p, x, h => by
    obtain ⟨ks, ts, hm⟩ := asks_all p x h
    exact ⟨1 :: ks, ts, List.mem_cons_of_mem _ (List.mem_append_left _ (List.mem_map.mpr ⟨_, hm, rfl⟩))⟩
  | .iff _ p q, x, h => by
    rcases List.mem_append.mp h with z | z
    · obtain ⟨ks, ts, hm⟩ := asks_all p x z
      exact ⟨1 :: ks, ts, List.mem_cons_of_mem _ (List.mem_append_left _ (List.mem_map.mpr ⟨_, hm, rfl⟩))⟩
    · obtain ⟨ks, ts, hm⟩ := asks_all q x z
      exact ⟨2 :: ks, ts, List.mem_cons_of_mem _ (List.mem_append_right _ (List.mem_append_left _ (List.mem_map.mpr ⟨_, hm, rfl⟩)))⟩
  | .post _ _ p q, x, h => by
    rcases List.mem_append.mp h with z | z
    · obtain ⟨ks, ts, hm⟩ := asks_all p x z
      exact ⟨0 :: ks, ts, List.mem_cons_of_mem _ (List.mem_append_left _ (List.mem_map.mpr ⟨_, hm, rfl⟩))⟩
    · obtain ⟨ks, ts, hm⟩ := asks_all q x z
      exact ⟨1 :: ks, ts, List.mem_cons_of_mem _ (List.mem_append_right _ (List.mem_append_left _ (List.mem_map.mpr ⟨_, hm, rfl⟩)))⟩
structure AskP (A : List Ak) (g : Str) (p : Pt) : Prop where
  po : postsOk p
  a : ∀ x ∈ asksOf p, ∃ a ∈ A, a.1.1 = g ∧ a.2.1 = x.1 ∧ a.2.2 = if x.2 = "home" then 0 else 1
theorem askP_of {es : List TEr} {e : TEr} (he : e ∈ es) (hp : postsOk e.2.2) : AskP (asksB es) e.1 e.2.2 := ⟨hp, fun x hx => by
  obtain ⟨ks, ts, hm⟩ := asks_all _ x hx
  refine ⟨((e.1, ks), x.1, if x.2 = "home" then 0 else 1), ?_, rfl, rfl, rfl⟩
  refine List.mem_flatten.mpr ⟨asksE e, List.mem_map.mpr ⟨e, he, rfl⟩, ?_⟩
  rw [asksE_same]
  exact List.mem_filterMap.mpr ⟨_, hm, rfl⟩⟩
/-! ### a run's heights stay below the levels -/
structure FrL (A : List Ak) (N : List Str) (lv : Str → Nat) (L : Nat) (tab : List HR) (n : Nat) (p : Pt) (hs : Str → Option Nat) : Prop where
  x : ∃ (g : Str) (h : Nat), g ∈ N ∧ AskP A g p ∧ (∃ i, hs "home" = some i ∧ hiAt tab i = (h : Int)) ∧ h + lv g ≤ L ∧ ∀ j i, hs j = some i → i ≤ n ∧ (j ≠ "home" → hiAt tab i = (h : Int) + 1)
theorem hiAt_app {tab : List HR} {r : HR} {i : Nat} (h : i ≤ tab.length) : hiAt (tab ++ [r]) i = hiAt tab i := by
  cases i with
  | zero => rfl
  | succ k =>
    show (((tab ++ [r])[k]?).map (·.h)).getD 0 = ((tab[k]?).map (·.h)).getD 0
    rw [List.getElem?_append_left (by omega)]
theorem hiAt_last {tab : List HR} {r : HR} : hiAt (tab ++ [r]) (tab.length + 1) = r.h := by
  show (((tab ++ [r])[tab.length]?).map (·.h)).getD 0 = r.h
  rw [List.getElem?_append_right (Nat.le_refl _), Nat.sub_self]
  rfl
theorem FrL.app {A : List Ak} {N : List Str} {lv : Str → Nat} {L : Nat} {tab : List HR} {r : HR} {n : Nat} {p : Pt} {hs : Str → Option Nat} (f : FrL A N lv L tab n p hs) (hn : n ≤ tab.length) : FrL A N lv L (tab ++ [r]) n p hs := by
  obtain ⟨g, h, h1, h2, ⟨i, h3, h4⟩, h5, h6⟩ := f.x
  refine ⟨g, h, h1, h2, ⟨i, h3, ?_⟩, h5, fun j i hj => ⟨(h6 j i hj).1, fun hne => ?_⟩⟩
  · rw [hiAt_app (by have := (h6 _ _ h3).1; omega)]; exact h4
  · rw [hiAt_app (by have := (h6 _ _ hj).1; omega)]; exact (h6 j i hj).2 hne
structure PotT (es : List TEr) (N : List Str) (lv : Str → Nat) (L : Nat) (c : CT) : Prop where
  d : c.deepest ≤ (L : Int)
  f : FrL (asksB es) N lv L c.tab c.tab.length c.part c.hs
  t : ∀ (k : Nat) (r : HR), c.tab[k]? = some r → FrL (asksB es) N lv L c.tab k r.T r.hs
theorem FrL.sub {A : List Ak} {N : List Str} {lv : Str → Nat} {L : Nat} {tab : List HR} {n : Nat} {p q : Pt} {hs : Str → Option Nat} (f : FrL A N lv L tab n p hs) (k : postsOk p → postsOk q) (s : ∀ x ∈ asksOf q, x ∈ asksOf p) : FrL A N lv L tab n q hs := by
  obtain ⟨g, h, h1, h2, h3, h5, h6⟩ := f.x
  exact ⟨g, h, h1, ⟨k h2.po, fun x hx => h2.a x (s x hx)⟩, h3, h5, h6⟩
theorem FrL.le {A : List Ak} {N : List Str} {lv : Str → Nat} {L : Nat} {tab : List HR} {n m : Nat} {p : Pt} {hs : Str → Option Nat} (f : FrL A N lv L tab n p hs) (k : n ≤ m) : FrL A N lv L tab m p hs := by
  obtain ⟨g, h, h1, h2, h3, h5, h6⟩ := f.x
  exact ⟨g, h, h1, h2, h3, h5, fun j i hj => ⟨Nat.le_trans (h6 j i hj).1 k, (h6 j i hj).2⟩⟩
theorem pot_ask0 {es : List TEr} {N : List Str} {lv : Str → Nat} {L : Nat} {c : CT} {f : Str} {ns : List Int} {i h : Nat} {e : TEr} (po : ∀ e ∈ es, postsOk e.2.2) (hd : c.deepest ≤ (L : Int)) (ht : ∀ (k : Nat) (r : HR), c.tab[k]? = some r → FrL (asksB es) N lv L c.tab k r.T r.hs) (ha : ¬ c.asked = c.most) (hf : es.find? (fun e => decide (e.1 = f)) = some e)
    (hN : f ∈ N) (hi : i ≤ c.tab.length) (hh : hiAt c.tab i = (h : Int)) (hl : h + lv f ≤ L) : PotT es N lv L (askT es c f ns i) := by
  have eS : askT es c f ns i = { c with asked := c.asked + 1, trail := c.trail ++ [.ask f ns], deepest := max c.deepest (hiAt c.tab i), part := e.2.2, env := envOf e.2.1 ns, hs := fun y => if y = "home" then some i else none } := by
    unfold askT
    rw [if_neg ha, hf]
  rw [eS]
  have hm := List.mem_of_find?_eq_some hf
  have he : e.1 = f := of_decide_eq_true (List.find?_some (p := fun e : TEr => decide (e.1 = f)) hf)
  refine ⟨?_, ⟨f, h, hN, ?_, ⟨i, (by show (if ("home" : Str) = "home" then some i else none) = some i; exact if_pos rfl), hh⟩, hl, fun j i2 hj => ?_⟩, ht⟩
  · show max c.deepest (hiAt c.tab i) ≤ _
    rw [hh]
    omega
  · rw [← he]; exact askP_of hm (po e hm)
  · have h2 : (if j = "home" then some i else none) = some i2 := hj
    by_cases q : j = "home"
    · rw [if_pos q] at h2
      cases h2
      exact ⟨hi, fun z => absurd q z⟩
    · rw [if_neg q] at h2
      cases h2
theorem pot_ask {es : List TEr} {N : List Str} {lv : Str → Nat} {L : Nat} {c : CT} {f : Str} {ns : List Int} {i h : Nat} (po : ∀ e ∈ es, postsOk e.2.2) (P : PotT es N lv L c) (hN : f ∈ N) (hi : i ≤ c.tab.length) (hh : hiAt c.tab i = (h : Int)) (hl : h + lv f ≤ L) : PotT es N lv L (askT es c f ns i) := by
  by_cases ha : c.asked = c.most
  · unfold askT
    rw [if_pos ha]; exact ⟨P.d, P.f, P.t⟩
  · cases hf : es.find? (fun e => decide (e.1 = f)) with
    | none =>
      unfold askT
      rw [if_neg ha, hf]
      exact P
    | some e => exact pot_ask0 po P.d P.t ha hf hN hi hh hl
theorem pot_step {es : List TEr} {N : List Str} {lv : Str → Nat} {L : Nat} (po : ∀ e ∈ es, postsOk e.2.2) (cl : Cl (asksB es) N) (up : Up (asksB es) N lv) {c : CT} (P : PotT es N lv L c) : PotT es N lv L (stepT es c) := by
  have F := P.f
  cases hp : c.part with
  | give j t =>
    cases hA : hAt c.hs j with
    | zero =>
      have eS : stepT es c = { c with fin := .done (evS c.env t) } := by
        unfold stepT
        rw [hp]
        show (match hAt c.hs j with | 0 => _ | k + 1 => _) = _
        rw [hA]
      rw [eS]
      exact ⟨P.d, P.f, P.t⟩
    | succ k =>
      cases hr : c.tab[k]? with
      | none =>
        have eS : stepT es c = c := by
          unfold stepT
          rw [hp]
          show (match hAt c.hs j with | 0 => _ | k + 1 => _) = _
          rw [hA]
          show (match c.tab[k]? with | none => c | some r => _) = _
          rw [hr]
        rw [eS]
        exact P
      | some r =>
        have eS : stepT es c = { c with part := r.T, env := setE r.env r.x (evS c.env t), hs := r.hs, lim := r.wt - pcnt r.T } := by
          unfold stepT
          rw [hp]
          show (match hAt c.hs j with | 0 => _ | k + 1 => _) = _
          rw [hA]
          show (match c.tab[k]? with | none => c | some r => _) = _
          rw [hr]
        rw [eS]
        obtain ⟨hk, _⟩ := List.getElem?_eq_some_iff.mp hr
        exact ⟨P.d, (P.t k r hr).le (Nat.le_of_lt hk), P.t⟩
  | ask f ts j =>
    rw [hp] at F
    obtain ⟨g, h, h1, h2, ⟨i, h3, h4⟩, h5, h6⟩ := F.x
    obtain ⟨a, ha, a1, a2, a3⟩ := h2.a (f, j) List.mem_cons_self
    dsimp only at a2 a3
    have hN : a.2.1 ∈ N := cl a ha (by rw [a1]; exact h1)
    have hU := up a ha (by rw [a1]; exact h1)
    rw [a1, a2, a3] at hU
    rw [a2] at hN
    have eS : stepT es c = askT es c f (ts.map (evS c.env)) (hAt c.hs j) := by
      unfold stepT
      rw [hp]
    rw [eS]
    by_cases cj : j = "home"
    · rw [if_pos cj] at hU
      have e : hAt c.hs j = i := by unfold hAt; rw [cj, h3]; rfl
      rw [e]
      exact pot_ask po P hN (h6 _ _ h3).1 h4 (by omega)
    · rw [if_neg cj] at hU
      cases hj : c.hs j with
      | none =>
        have e : hAt c.hs j = 0 := by unfold hAt; rw [hj]; rfl
        rw [e]
        exact pot_ask (h := 0) po P hN (Nat.zero_le _) rfl (by omega)
      | some i2 =>
        have e : hAt c.hs j = i2 := by unfold hAt; rw [hj]; rfl
        rw [e]
        exact pot_ask (h := h + 1) po P hN (h6 _ _ hj).1 (by rw [(h6 _ _ hj).2 cj]; rfl) (by omega)
  | tell x t p =>
    rw [hp] at F
    have eS : stepT es c = { c with trail := c.trail ++ [.tell (evS c.env t)], env := setE c.env x (evS c.env t), part := p } := by
      unfold stepT
      rw [hp]
    rw [eS]
    exact ⟨P.d, F.sub (fun z => z) (fun _ z => z), P.t⟩
  | lett x t p =>
    rw [hp] at F
    have eS : stepT es c = { c with env := setE c.env x (evS c.env t), part := p } := by
      unfold stepT
      rw [hp]
    rw [eS]
    exact ⟨P.d, F.sub (fun z => z) (fun _ z => z), P.t⟩
  | iff t p q =>
    rw [hp] at F
    have eS : stepT es c = { c with part := if evS c.env t = 0 then q else p } := by
      unfold stepT
      rw [hp]
    rw [eS]
    refine ⟨P.d, ?_, P.t⟩
    show FrL _ _ _ _ _ _ (if evS c.env t = 0 then q else p) _
    split
    · exact F.sub (fun z => z.2) (fun _ z => List.mem_append_right _ z)
    · exact F.sub (fun z => z.1) (fun _ z => List.mem_append_left _ z)
  | post j x p q =>
    rw [hp] at F
    have eS : stepT es c = { c with made := c.made + 1, tab := c.tab ++ [⟨x, p, c.env, c.hs, hiAt c.tab (hAt c.hs "home") + 1, pcnt p + c.lim⟩], hs := setH c.hs j (c.tab.length + 1), part := q, lim := pcnt p + c.lim } := by
      unfold stepT
      rw [hp]
    rw [eS]
    have Fp := F.sub (q := p) (fun z => z.2.1) (fun _ z => List.mem_append_left _ z)
    have Fq := F.sub (q := q) (fun z => z.2.2) (fun _ z => List.mem_append_right _ z)
    obtain ⟨g, h, h1, h2, ⟨i, h3, h4⟩, h5, h6⟩ := Fq.x
    have cj : j ≠ "home" := by
      obtain ⟨_, _, _, z, _⟩ := F.x
      exact z.po.1
    have eh : hiAt c.tab (hAt c.hs "home") = (h : Int) := by
      unfold hAt
      rw [h3]
      exact h4
    refine ⟨P.d, ⟨g, h, h1, h2, ⟨i, ?_, ?_⟩, h5, fun y i2 hy => ?_⟩, fun k r hr => ?_⟩
    · show (if ("home" : Str) = j then _ else c.hs "home") = some i
      rw [if_neg fun z => cj z.symm]
      exact h3
    · show hiAt (c.tab ++ [_]) i = _
      rw [hiAt_app (h6 _ _ h3).1]
      exact h4
    · have hy' : (if y = j then some (c.tab.length + 1) else c.hs y) = some i2 := hy
      show i2 ≤ (c.tab ++ [_]).length ∧ (y ≠ "home" → hiAt (c.tab ++ [_]) i2 = (h : Int) + 1)
      rw [List.length_append, List.length_singleton]
      by_cases e : y = j
      · rw [if_pos e] at hy'
        cases hy'
        refine ⟨Nat.le_refl _, fun _ => ?_⟩
        rw [hiAt_last]
        show hiAt c.tab (hAt c.hs "home") + 1 = _
        rw [eh]
      · rw [if_neg e] at hy'
        obtain ⟨z1, z2⟩ := h6 y i2 hy'
        refine ⟨by omega, fun hne => ?_⟩
        rw [hiAt_app z1]
        exact z2 hne
    · by_cases hk : k < c.tab.length
      · have hr' : c.tab[k]? = some r := by
          have hr2 : (c.tab ++ [_])[k]? = some r := hr
          rwa [List.getElem?_append_left hk] at hr2
        exact (P.t k r hr').app (Nat.le_of_lt hk)
      · have hr2 : (c.tab ++ [(⟨x, p, c.env, c.hs, hiAt c.tab (hAt c.hs "home") + 1, pcnt p + c.lim⟩ : HR)])[k]? = some r := hr
        rw [List.getElem?_append_right (by omega)] at hr2
        have hk0 : k - c.tab.length = 0 := by
          obtain ⟨z, _⟩ := List.getElem?_eq_some_iff.mp hr2
          rw [List.length_singleton] at z
          omega
        rw [hk0] at hr2
        cases hr2
        have ek : k = c.tab.length := by omega
        rw [ek]
        exact Fp.app (Nat.le_refl _)
theorem pot_reach {es : List TEr} {N : List Str} {lv : Str → Nat} {L : Nat} (po : ∀ e ∈ es, postsOk e.2.2) (cl : Cl (asksB es) N) (up : Up (asksB es) N lv) {c c' : CT} (P : PotT es N lv L c) (h : RchT es c c') : PotT es N lv L c' := by
  induction h with
  | refl => exact P
  | snoc h e ih => exact pot_step po cl up ih
/-- no run goes deeper than the level -/
theorem run_below {es : List TEr} {hd : Str → Option Nat} (E : TEsOk es hd) {N : List Str} {lv : Str → Nat} (cl : Cl (asksB es) N) (up : Up (asksB es) N lv) {m : Nat} {e : TEr} {ns : List Int} {c : CT} (he : e ∈ es) (hf : e.1 ∈ N) (h : RunEnd es m e.1 ns c) : c.deepest ≤ (lv e.1 : Int) := by
  have po : ∀ e ∈ es, postsOk e.2.2 := fun e he => posts_rP (E.er e he).ok
  obtain ⟨hr, hfin⟩ := h
  by_cases ha : (ct0 m).asked = (ct0 m).most
  · have eS : askT es (ct0 m) e.1 ns 0 = { ct0 m with fin := .long } := by
      unfold askT
      rw [if_pos ha]
    rw [eS] at hr
    rw [hr.stuck (fun z => nomatch z)]
    show (0 : Int) ≤ _
    omega
  · obtain ⟨e', h1, _⟩ := E.found (E.er e he).hf
    exact (pot_reach po cl up (pot_ask0 (c := ct0 m) (ns := ns) (h := 0) po (show (0 : Int) ≤ _ by omega) (fun k r hr => by cases hr) ha h1 hf (Nat.zero_le _) rfl (by omega : 0 + lv e.1 ≤ lv e.1)) hr).d
end KB

set_option pp.maxSteps 400
namespace KB
open PySem L2 HT LamX NdefX

/-! ### webs -/
abbrev kwS : Key := Sum.inr "some"
abbrev kwM : Key := Sum.inr "many"
def knW (sl : Addr) (m : Int) : List (Key × V) := [(kwS, .ref sl), (kwM, .int m)]
def sg (m : Nat) : Str := ⟨#[97 + m]⟩
theorem isW_p : ∀ m < 26, isW (("p" : Str) ++ sg m) = true ∧ isW (("w" : Str) ++ sg m) = true := by decide +kernel
theorem len_p : ∀ m < 26, (sg m).length ≤ 10 := by decide +kernel
def ButK (tp kd : Addr) (H H' : Hp) : Prop := ∀ b o, b ≠ tp → b ≠ kd → H b = some o → H' b = some o
theorem ButK.refl (tp kd : Addr) (H : Hp) : ButK tp kd H H := fun _ _ _ _ h => h
theorem ButK.trans {tp kd : Addr} {H H1 H2 : Hp} (a : ButK tp kd H H1) (b : ButK tp kd H1 H2) : ButK tp kd H H2 := fun x o n m h => b x o n m (a x o n m h)
theorem But1.two {tp kd : Addr} {H H' : Hp} (a : But1 tp H H') : ButK tp kd H H' := fun x o n _ h => a x o n h
theorem butK_same {tp kd : Addr} {H H' : Hp} (e : Same H H') : ButK tp kd H H' := fun b o _ _ h => e b o h
structure GW (H : Hp) (tp kd sl : Addr) (hF : Str → Option Nat) (ss : List Str) (m : Nat) : Prop where
  t : Tp H tp
  k : H kd = some (.dK (knW sl (m : Int)))
  s : Wls H sl ss
  f : ∀ f ∈ ss, hF f = some 0
  n : ss.length ≤ 100
section
variable {H H' : Hp} {tp kd sl : Addr} {hF : Str → Option Nat} {ss : List Str} {m m' : Nat}
theorem GW.nkt (g : GW H tp kd sl hF ss m) : kd ≠ tp := by
  obtain ⟨z, hz⟩ := g.t
  exact ne_of g.k hz (fun y => nomatch y)
theorem GW.nsk (g : GW H tp kd sl hF ss m) : sl ≠ kd := fun z => by
  have h := g.s.1
  rw [z, g.k] at h
  cases h
theorem GW.one (g : GW H tp kd sl hF ss m) (b : But1 tp H H') (t : Tp H' tp) : GW H' tp kd sl hF ss m := ⟨t, b _ _ g.nkt g.k, g.s.but b g.t, g.f, g.n⟩
theorem GW.same (g : GW H tp kd sl hF ss m) (e : Same H H') : GW H' tp kd sl hF ss m := g.one (but_same e) (g.t.same e)
theorem GW.tk (g : GW H tp kd sl hF ss m) (b : ButK tp kd H H') : TK H H' := fun a xs h => by
  obtain ⟨z, hz⟩ := g.t
  exact b a _ (ne_of h hz (fun y => nomatch y)) (fun e => by rw [e, g.k] at h; cases h) h
theorem gMany {H : Hp} {kd sl : Addr} {m : Int} (h : H kd = some (.dK (knW sl m))) : DGet H kd (.str "many") (some (.int m)) := DGet.k (k := kwM) h
theorem gSome {H : Hp} {kd sl : Addr} {m : Int} (h : H kd = some (.dK (knW sl m))) : DGet H kd (.str "some") (some (.ref sl)) := DGet.k (k := kwS) h
theorem Hls.two {hl : Addr} {hs : List Str} (g : GW H tp kd sl hF ss m) (b : ButK tp kd H H') (h : Hls H hl hs) (n : hl ≠ tp) : Hls H' hl hs := b _ _ n (fun e => by
  have h' : H hl = _ := h
  rw [e, g.k] at h'
  cases h') h
end
theorem gds_num {H : Hp} {a : Addr} {z : Int} (h : H a = some (.tup [.str "number", .int z])) (o : 0 ≤ z ∧ z < 1000) (hd : Str → Option Nat) (xs : List Str) : GdS H a 3 2 hd xs (mkL (.num z) []) :=
  ⟨(gd_num ⟨rfl, h⟩ o).le (by decide) (by decide), simple_mkL rfl (fun _ z => nomatch z)⟩
section
variable {P : Program} {w : World} {K : PySem.W.Frag} {mg : Str → Option Value} {base : Heap}
/-! ### _law_web_part -/
def spWebP : Nat → Sp
  | 0 => fun _ _ _ _ => False
  | n + 1 => fun vs H Q _ => ∃ (tp kd sl hl : Addr) (hF : Str → Option Nat) (ss hs : List Str) (m room : Nat), vs = [.ref tp, .ref kd, .ref hl, .int (room : Int)] ∧ GW H tp kd sl hF ss m ∧ (∀ f ∈ ss, isW f = true) ∧ Hls H hl hs ∧ hs ≠ [] ∧ hs.length + room ≤ 100 ∧ hl ≠ tp ∧ 1 ≤ room ∧ room ≤ 2 ^ n ∧ m + room ≤ 26 ∧
    ∀ a p H' m', ButK tp kd H H' → GW H' tp kd sl hF ss m' → m ≤ m' → m' + 1 ≤ m + room → PAt H' p a → (∀ xs, okP hF p xs hs) → pcnt p + 1 ≤ 2 * room → Q (.ref a) H'
abbrev s_law_web_part : Stmt := top 64
theorem scLweb_part : FnScope ["tape", "known", "hands", "room", "way", "hand", "one", "sign"] ["tape", "known", "hands", "room"] (defScope s_law_web_part) := ⟨rfl, rfl, rfl, by decide +kernel, rfl, by decide +kernel, by decide +kernel⟩
theorem ok_webp (T : Txt K mg) (n : Nat) {f fg : Addr} {fd gd : FuncData} (F : Fun K "_law_web_part" "_law_web_part" s_law_web_part f fd) (G_law_digit : FnOk P w K mg base CX0 1 fg gd ["tape", "many"] spDig) (R_law_digit : Ref K mg "_law_digit" fg gd ["tape", "many"])
    (G_law_web_part : FnOk P w K mg base CX0 (n + 1) f fd ["tape", "known", "hands", "room"] (spWebP n)) (R_law_web_part : Ref K mg "_law_web_part" f fd ["tape", "known", "hands", "room"]) : FnOk P w K mg base CX0 (n + 2) f fd ["tape", "known", "hands", "room"] (spWebP (n + 1)) := by
  refine F.ok scLweb_part (fun vs H Q E h => ?_) (fun cdv A outer s H vs Q E hr h => ?_)
  · obtain ⟨tp, kd, sl, hl, hF, ss, hs, m, room, rfl, _⟩ := h
    rfl
  obtain ⟨tp, kd, sl, hl, hF, ss, hs, m, room, rfl, g, hsw, hh, hne, hlen, hnt, hr1, hr2, hm, q⟩ := h
  refine ⟨_, (pss_cons (ps_set (i := 4) scLweb_part.nd rfl (Or.inl rfl) (pe_call G_law_digit (hr.mono (by omega)) rfl R_law_digit.m R_law_digit.k R_law_digit.b .nil pass0 (pa_cons (pv 0) (pa_cons pe_int pa_nil))))
    (pss_cons (ps_if (PW.pt (pw_or (pt_cmpR op_lt (pv 3) pe_int (nomark _)) (pw_or1 (pt_cmpR op_eq (pv 4) pe_int (nomark _))))) (pss_cons (ps_set (i := 5) scLweb_part.nd rfl (Or.inl rfl) (pe_ix ix_list (pv 2) (pe_call G_law_digit (hr.mono (by omega)) rfl R_law_digit.m R_law_digit.k R_law_digit.b .nil pass0 (pa_cons (pv 0) (pa_cons (pe_callB call_len_seq (by rfl) T.m_len PySem.boot_len (pa_cons (pv 2) pa_nil)) pa_nil))) (fun _ _ => rfl)))
    (pss_cons (ps_if (PW.pt (pw_or (pt_cmpR (op_eqD hr.units) (pe_dget (hu_of hr) (pv 1) pe_str (fun _ _ => rfl)) (pe_lst pa_nil) (nomark _)) (pw_or1 (pt_cmpR op_eq (pe_call G_law_digit (hr.mono (by omega)) rfl R_law_digit.m R_law_digit.k R_law_digit.b .nil pass0 (pa_cons (pv 0) (pa_cons pe_int pa_nil))) pe_int (nomark _))))) (pss_one (ps_ret (pe_tup (pa_cons pe_str (pa_cons (pv 5) (pa_cons (pe_tup (pa_cons pe_str (pa_cons pe_int pa_nil))) pa_nil)))))) pss_nil)
    (pss_one (ps_ret (pe_tup (pa_cons pe_str (pa_cons (pe_ix ix_list (pe_dget (hu_of hr) (pv 1) pe_str (fun _ _ => rfl)) (pe_call G_law_digit (hr.mono (by omega)) rfl R_law_digit.m R_law_digit.k R_law_digit.b .nil pass0 (pa_cons (pv 0) (pa_cons (pe_callB call_len_seq (by rfl) T.m_len PySem.boot_len (pa_cons (pe_dget (hu_of hr) (pv 1) pe_str (fun _ _ => rfl)) pa_nil)) pa_nil))) (fun _ _ => rfl)) (pa_cons (pe_tup pa_nil) (pa_cons (pv 5) pa_nil))))))))) pss_nil)
    (pss_cons (ps_if (pt_cmpR op_lt (pv 4) pe_int (nomark _)) (pss_cons (ps_set (i := 6) scLweb_part.nd rfl (Or.inl rfl) (pe_call G_law_web_part (hr.mono (by omega)) rfl R_law_web_part.m R_law_web_part.k R_law_web_part.b .nil pass0 (pa_cons (pv 0) (pa_cons (pv 1) (pa_cons (pv 2) (pa_cons (pe_op op_fdivN (pv 3) pe_int) pa_nil))))))
    (pss_one (ps_ret (pe_tup (pa_cons pe_str (pa_cons (pe_tup (pa_cons pe_str (pa_cons (pe_op op_sub (pv 4) pe_int) pa_nil))) (pa_cons (pv 6) (pa_cons (pe_call G_law_web_part (hr.mono (by omega)) rfl R_law_web_part.m R_law_web_part.k R_law_web_part.b .nil pass0 (pa_cons (pv 0) (pa_cons (pv 1) (pa_cons (pv 2) (pa_cons (pe_op op_fdivN (pv 3) pe_int) pa_nil))))) pa_nil)))))))) pss_nil)
    (pss_cons (ps_set (i := 7) scLweb_part.nd rfl (Or.inl rfl) (pe_ix ix_str pe_str (pe_dget (hu_of hr) (pv 1) pe_str (fun _ _ => rfl)) (fun _ _ => rfl)))
    (pss_cons (ps_dput (hu_of hr) (pv 1) pe_str (pe_op op_add (pe_dget (hu_of hr) (pv 1) pe_str (fun _ _ => rfl)) pe_int) rfl)
    (pss_cons (ps_set (i := 6) scLweb_part.nd rfl (Or.inl rfl) (pe_call G_law_web_part (hr.mono (by omega)) rfl R_law_web_part.m R_law_web_part.k R_law_web_part.b .nil pass0 (pa_cons (pv 0) (pa_cons (pv 1) (pa_cons (pv 2) (pa_cons (pe_op op_fdivN (pv 3) pe_int) pa_nil))))))
    (pss_one (ps_ret (pe_tup (pa_cons pe_str (pa_cons (pe_op op_add_str pe_str (pv 7)) (pa_cons (pe_op op_add_str pe_str (pv 7)) (pa_cons (pv 6) (pa_cons (pe_call G_law_web_part (hr.mono (by omega)) rfl R_law_web_part.m R_law_web_part.k R_law_web_part.b .nil pass0 (pa_cons (pv 0) (pa_cons (pv 1) (pa_cons (pe_op op_cat (pv 2) (pe_lst (pa_cons (pe_op op_add_str pe_str (pv 7)) pa_nil))) (pa_cons (pe_op op_fdivN (pv 3) pe_int) pa_nil))))) pa_nil)))))))))))))), ?_⟩
  have nkt := g.nkt
  have hsl : (hs.map V.str).length = hs.length := List.length_map ..
  have hspos : 0 < hs.length := List.length_pos_iff.mpr hne
  refine ⟨_, rfl, tp, 6, rfl, g.t, by decide, by decide, fun r H1 r0 r1 b1 t1 => ?_⟩
  have g1 := g.one b1 t1
  have hh1 : Hls H1 hl hs := b1 _ _ hnt hh
  refine ⟨_, rfl, _, _, rfl, rfl, _, rfl, ?_⟩
  refine ite2 (fun c => iteT ?_) (fun c => ?_)
  · refine ⟨_, rfl, _, rfl, _, rfl, hl, _, rfl, .inl (SqL.of hh1), tp, _, rfl, t1, by rw [hsl]; omega, by rw [hsl]; omega, fun r2 H2 r20 r21 b2 t2 => ?_⟩
    obtain ⟨v, hv, hvm⟩ := at_some (xs := hs.map V.str) r20 r21
    obtain ⟨j, hj, rfl⟩ := List.mem_map.mp hvm
    have g2 := g1.one b2 t2
    refine ⟨hl, _, _, _, rfl, rfl, SqL.of (b2 _ _ hnt hh1), hv, ?_⟩
    refine ⟨_, rfl, kd, _, rfl, gSome g2.k, sz (by show 0 ≤ 100000; decide), fun p0 hp0 => ?_⟩
    have s3 := same_new hp0 (.lst [])
    have g3 := g2.same s3
    refine ⟨.list (ss.map PyData.str), .list [], .lst (SqL.of g3.s.1) (dp_strs ss), .lst (SqL.of upd_same) .nil, shaped_strs hsw, rfl, _, rfl, ?_⟩
    rw [eqv_nil]
    have b03 : ButK tp kd H (upd H2 p0 (.lst [])) := (b1.two.trans b2.two).trans (butK_same s3)
    generalize upd H2 p0 (.lst []) = H3 at g3 b03 ⊢
    have giveW : ∀ H4, But1 tp H3 H4 → GW H4 tp kd sl hF ss m → ∀ t5, H4 t5 = none → ∀ p6, (upd H4 t5 (.tup [V.str "number", .int 1])) p6 = none → Q (.ref p6) (upd (upd H4 t5 (.tup [V.str "number", .int 1])) p6 (.tup [V.str "give", .str j, .ref t5])) := fun H4 b4 g4 t5 ht5 p6 hp6 => by
      have s5 := same_new ht5 (.tup [V.str "number", .int 1])
      have s6 := same_new hp6 (.tup [V.str "give", .str j, .ref t5])
      have h5 : (upd H4 t5 (.tup [V.str "number", .int 1])) t5 = some (.tup [V.str "number", .int 1]) := upd_same
      exact q p6 (.give j (mkL (.num 1) [])) _ m ((b03.trans b4.two).trans (butK_same (s5.trans s6))) (g4.same (s5.trans s6)) (Nat.le_refl _) (by omega) ⟨t5, upd_same, (gds_num h5 (by decide) hF []).g.at_.tk (tk_same s6)⟩ (fun xs => ⟨hj, (gds_num h5 (by decide) hF xs).sm⟩) (by show 1 + 1 ≤ 2 * room; omega)
    by_cases hss : ss = []
    · refine itT (by rw [hss]; rfl) (iteT ⟨_, rfl, sz (by show 2 ≤ 100000; decide), fun t5 ht5 => ⟨sz (by show 3 ≤ 100000; decide), fun p6 hp6 => giveW H3 (But1.refl _ _) g3 t5 ht5 p6 hp6⟩⟩)
    · have hssp : 0 < ss.length := List.length_pos_iff.mpr hss
      have hssl : (ss.map V.str).length = ss.length := List.length_map ..
      have hssn := g3.n
      refine itF (by cases ss with | nil => exact absurd rfl hss | cons _ _ => rfl) ⟨_, rfl, tp, 5, rfl, g3.t, by decide, by decide, fun r4 H4 r40 r41 b4 t4 => ⟨rfl, _, rfl, ?_⟩⟩
      have g4 := g3.one b4 t4
      refine ite2 (fun c4 => ⟨_, rfl, sz (by show 2 ≤ 100000; decide), fun t5 ht5 => ⟨sz (by show 3 ≤ 100000; decide), fun p6 hp6 => giveW H4 b4 g4 t5 ht5 p6 hp6⟩⟩) (fun c4 => ?_)
      refine ⟨_, rfl, kd, _, rfl, gSome g4.k, _, rfl, _, rfl, kd, _, rfl, gSome g4.k, sl, _, rfl, .inl (SqL.of g4.s.1), tp, _, rfl, t4, by rw [hssl]; omega, by rw [hssl]; omega, fun r5 H5 r50 r51 b5 t5 => ?_⟩
      obtain ⟨v5, hv5, hvm5⟩ := at_some (xs := ss.map V.str) r50 r51
      obtain ⟨fn, hfn, rfl⟩ := List.mem_map.mp hvm5
      have g5 := g4.one b5 t5
      refine ⟨sl, _, _, _, rfl, rfl, SqL.of g5.s.1, hv5, sz (by show 0 ≤ 100000; decide), fun t6 ht6 => ⟨_, rfl, sz (by show 4 ≤ 100000; decide), fun p7 hp7 => ?_⟩⟩
      have s6 := same_new ht6 (.tup [])
      have s7 := same_new hp7 (.tup [V.str "ask", .str fn, .ref t6, .str j])
      exact q p7 (.ask fn [] j) _ m ((b03.trans (b4.two.trans b5.two)).trans (butK_same (s6.trans s7))) (g5.same (s6.trans s7)) (Nat.le_refl _) (by omega) ⟨t6, [], upd_same, s7 _ _ upd_same, trivial⟩ (fun xs => ⟨hj, hsw fn hfn, g.f fn hfn, Nat.zero_le _, fun _ z => nomatch z⟩) (by show 1 + 1 ≤ 2 * room; omega)
  have hroom : 2 ≤ room := by
    have : ¬ (room : Int) < 2 := fun z => c (decide_eq_true z)
    omega
  refine ⟨_, rfl, rfl, _, rfl, ?_⟩
  refine ite2 (fun c2 => ?_) (fun c2 => ?_)
  · refine ⟨_, rfl, _, rfl, _, rfl, hl, _, rfl, .inl (SqL.of hh1), tp, _, rfl, t1, by rw [hsl]; omega, by rw [hsl]; omega, fun r2 H2 r20 r21 b2 t2 => ?_⟩
    obtain ⟨v, hv, hvm⟩ := at_some (xs := hs.map V.str) r20 r21
    obtain ⟨j, hj, rfl⟩ := List.mem_map.mp hvm
    have g2 := g1.one b2 t2
    refine ⟨hl, _, _, _, rfl, rfl, SqL.of (b2 _ _ hnt hh1), hv, ?_⟩
    refine ⟨_, rfl, kd, _, rfl, gSome g2.k, sz (by show 0 ≤ 100000; decide), fun p0 hp0 => ?_⟩
    have s3 := same_new hp0 (.lst [])
    have g3 := g2.same s3
    refine ⟨.list (ss.map PyData.str), .list [], .lst (SqL.of g3.s.1) (dp_strs ss), .lst (SqL.of upd_same) .nil, shaped_strs hsw, rfl, _, rfl, ?_⟩
    rw [eqv_nil]
    have b03 : ButK tp kd H (upd H2 p0 (.lst [])) := (b1.two.trans b2.two).trans (butK_same s3)
    generalize upd H2 p0 (.lst []) = H3 at g3 b03 ⊢
    have giveW : ∀ H4, But1 tp H3 H4 → GW H4 tp kd sl hF ss m → ∀ t5, H4 t5 = none → ∀ p6, (upd H4 t5 (.tup [V.str "number", .int 1])) p6 = none → Q (.ref p6) (upd (upd H4 t5 (.tup [V.str "number", .int 1])) p6 (.tup [V.str "give", .str j, .ref t5])) := fun H4 b4 g4 t5 ht5 p6 hp6 => by
      have s5 := same_new ht5 (.tup [V.str "number", .int 1])
      have s6 := same_new hp6 (.tup [V.str "give", .str j, .ref t5])
      have h5 : (upd H4 t5 (.tup [V.str "number", .int 1])) t5 = some (.tup [V.str "number", .int 1]) := upd_same
      exact q p6 (.give j (mkL (.num 1) [])) _ m ((b03.trans b4.two).trans (butK_same (s5.trans s6))) (g4.same (s5.trans s6)) (Nat.le_refl _) (by omega) ⟨t5, upd_same, (gds_num h5 (by decide) hF []).g.at_.tk (tk_same s6)⟩ (fun xs => ⟨hj, (gds_num h5 (by decide) hF xs).sm⟩) (by show 1 + 1 ≤ 2 * room; omega)
    by_cases hss : ss = []
    · refine itT (by rw [hss]; rfl) (iteT ⟨_, rfl, sz (by show 2 ≤ 100000; decide), fun t5 ht5 => ⟨sz (by show 3 ≤ 100000; decide), fun p6 hp6 => giveW H3 (But1.refl _ _) g3 t5 ht5 p6 hp6⟩⟩)
    · have hssp : 0 < ss.length := List.length_pos_iff.mpr hss
      have hssl : (ss.map V.str).length = ss.length := List.length_map ..
      have hssn := g3.n
      refine itF (by cases ss with | nil => exact absurd rfl hss | cons _ _ => rfl) ⟨_, rfl, tp, 5, rfl, g3.t, by decide, by decide, fun r4 H4 r40 r41 b4 t4 => ⟨rfl, _, rfl, ?_⟩⟩
      have g4 := g3.one b4 t4
      refine ite2 (fun c4 => ⟨_, rfl, sz (by show 2 ≤ 100000; decide), fun t5 ht5 => ⟨sz (by show 3 ≤ 100000; decide), fun p6 hp6 => giveW H4 b4 g4 t5 ht5 p6 hp6⟩⟩) (fun c4 => ?_)
      refine ⟨_, rfl, kd, _, rfl, gSome g4.k, _, rfl, _, rfl, kd, _, rfl, gSome g4.k, sl, _, rfl, .inl (SqL.of g4.s.1), tp, _, rfl, t4, by rw [hssl]; omega, by rw [hssl]; omega, fun r5 H5 r50 r51 b5 t5 => ?_⟩
      obtain ⟨v5, hv5, hvm5⟩ := at_some (xs := ss.map V.str) r50 r51
      obtain ⟨fn, hfn, rfl⟩ := List.mem_map.mp hvm5
      have g5 := g4.one b5 t5
      refine ⟨sl, _, _, _, rfl, rfl, SqL.of g5.s.1, hv5, sz (by show 0 ≤ 100000; decide), fun t6 ht6 => ⟨_, rfl, sz (by show 4 ≤ 100000; decide), fun p7 hp7 => ?_⟩⟩
      have s6 := same_new ht6 (.tup [])
      have s7 := same_new hp7 (.tup [V.str "ask", .str fn, .ref t6, .str j])
      exact q p7 (.ask fn [] j) _ m ((b03.trans (b4.two.trans b5.two)).trans (butK_same (s6.trans s7))) (g5.same (s6.trans s7)) (Nat.le_refl _) (by omega) ⟨t6, [], upd_same, s7 _ _ upd_same, trivial⟩ (fun xs => ⟨hj, hsw fn hfn, g.f fn hfn, Nat.zero_le _, fun _ z => nomatch z⟩) (by show 1 + 1 ≤ 2 * room; omega)
  cases n with
  | zero => exact absurd hr2 (by show ¬ room ≤ 1; omega)
  | succ n =>
  have hhalf : room / 2 ≤ 2 ^ n := by
    have : room ≤ 2 ^ n * 2 := by rw [← Nat.pow_succ]; exact hr2
    omega
  have hfd : Int.fdiv (room : Int) 2 = ((room / 2 : Nat) : Int) := by
    rw [Int.fdiv_eq_ediv_of_nonneg _ (by decide)]
    omega
  have h0 : H1 kd = _ := g1.k
  have way : r ≠ 0 := fun z => c2 (decide_eq_true (by rw [z]))
  refine ⟨_, rfl, _, _, rfl, rfl, _, rfl, ?_⟩
  refine ite2 (fun c3 => ?_) (fun c3 => ?_)
  · -- if
    have hr3 : r < 3 := of_decide_eq_true c3
    refine ⟨_, rfl, _, rfl, _, rfl, _, rfl, _, _, rfl, rfl, ⟨by decide, by decide⟩, tp, kd, sl, hl, hF, ss, hs, m, room / 2, by show [_, _, _, V.int (Int.fdiv (room : Int) 2)] = _; rw [hfd], g1, hsw, hh1, hne, by omega, hnt, by omega, hhalf, by omega, fun a3 p3 H3 m3 b3 g3 l3 u3 at3 ok3 cn3 => ?_⟩
    have hh3 := Hls.two g1 b3 hh1 hnt
    refine ⟨_, rfl, _, _, rfl, rfl, sz (by show 2 ≤ 100000; decide), fun t4 ht4 => ?_⟩
    have s4 := same_new ht4 (.tup [V.str "number", .int (r - 1)])
    have h4 : (upd H3 t4 (.tup [V.str "number", .int (r - 1)])) t4 = some (.tup [V.str "number", .int (r - 1)]) := upd_same
    have g4 := g3.same s4
    have hh4 : Hls _ hl hs := s4 _ _ hh3
    refine ⟨_, rfl, _, rfl, _, rfl, _, rfl, _, rfl, _, _, rfl, rfl, ⟨by decide, by decide⟩, tp, kd, sl, hl, hF, ss, hs, m3, room / 2, by show [_, _, _, V.int (Int.fdiv (room : Int) 2)] = _; rw [hfd], g4, hsw, hh4, hne, by omega, hnt, by omega, hhalf, by omega, fun a5 p5 H5 m5 b5 g5 l5 u5 at5 ok5 cn5 => ?_⟩
    have tk45 := g4.tk b5
    refine ⟨sz (by show 4 ≤ 100000; decide), fun p6 hp6 => ?_⟩
    have s6 := same_new hp6 (.tup [V.str "if", .ref t4, .ref a3, .ref a5])
    have tk6 := tk_same s6
    refine q p6 (.iff (mkL (.num (r - 1)) []) p3 p5) _ m5 (((b1.two.trans b3).trans (butK_same s4)).trans (b5.trans (butK_same s6))) (g5.same s6) (by omega) (by omega) ⟨t4, a3, a5, upd_same, (gds_num h4 (by omega) hF []).g.at_.tk (tk45.trans tk6), ((at3.tk (tk_same s4)).tk tk45).tk tk6, at5.tk tk6⟩ (fun xs => ⟨(gds_num h4 (by omega) hF xs).sm, ok3 xs, ok5 xs⟩) ?_
    show 1 + pcnt p3 + pcnt p5 + 1 ≤ 2 * room
    omega
  · -- post
    refine ⟨_, rfl, kd, _, rfl, gMany h0, lettersS, _, _, rfl, rfl, (by decide +kernel), letters_at (by omega) (by omega), ?_⟩
    refine ⟨_, rfl, kd, _, rfl, gMany h0, _, _, rfl, rfl, _, rfl, kd, _, rfl, DPut.k (k := kwM) h0 (Nat.lt_of_lt_of_le (by show 2 < 1000; decide : _ < 1000) (by decide)), ?_⟩
    have esg : (⟨#[97 + (m : Int).toNat]⟩ : Str) = sg m := by rw [Int.toNat_natCast]; rfl
    rw [esg]
    have b4 : ButK tp kd H1 (upd H1 kd (.dK (putK (knW sl (m : Int)) kwM (.int ((m : Int) + 1))))) := fun b o _ n h => by rw [upd_ne n]; exact h
    have g4 : GW (upd H1 kd (.dK (putK (knW sl (m : Int)) kwM (.int ((m : Int) + 1))))) tp kd sl hF ss (m + 1) := by
      obtain ⟨z, hz⟩ := g1.t
      exact ⟨⟨z, by rw [upd_ne nkt.symm]; exact hz⟩, by rw [upd_same]; rfl, ⟨by rw [upd_ne g1.nsk]; exact g1.s.1, g1.s.2⟩, g1.f, g1.n⟩
    have hh4 := Hls.two g1 b4 hh1 hnt
    have tkA := g1.tk b4
    generalize upd H1 kd (.dK (putK (knW sl (m : Int)) kwM (.int ((m : Int) + 1)))) = H4 at b4 g4 hh4 tkA ⊢
    obtain ⟨iwp, iww⟩ := isW_p m (by omega)
    have hlp := len_p m (by omega)
    refine ⟨_, rfl, _, rfl, _, rfl, _, rfl, _, _, rfl, rfl, ⟨by decide, by decide⟩, tp, kd, sl, hl, hF, ss, hs, m + 1, room / 2, by show [_, _, _, V.int (Int.fdiv (room : Int) 2)] = _; rw [hfd], g4, hsw, hh4, hne, by omega, hnt, by omega, hhalf, by omega, fun a5 p5 H5 m5 b5 g5 l5 u5 at5 ok5 cn5 => ?_⟩
    have hh5 := Hls.two g4 b5 hh4 hnt
    refine ⟨_, rfl, _, _, rfl, rfl, sz (by show 1 + (sg m).length ≤ 100000; omega), _, rfl, _, _, rfl, rfl, sz (by show 1 + (sg m).length ≤ 100000; omega), _, rfl, _, rfl, _, rfl, _, rfl, _, rfl, _, _, rfl, rfl, sz (by show 1 + (sg m).length ≤ 100000; omega), sz (by show 1 ≤ 100000; decide), fun l6 hl6 => ?_⟩
    have s6 := same_new hl6 (.lst [V.str ("p" ++ sg m)])
    have h6 : (upd H5 l6 (.lst [V.str ("p" ++ sg m)])) l6 = some (.lst [V.str ("p" ++ sg m)]) := upd_same
    refine ⟨hl, l6, _, _, rfl, rfl, s6 _ _ hh5, h6, sz (by rw [List.length_map, List.length_singleton]; omega), fun l7 hl7 => ?_⟩
    have s7 := same_new hl7 (.lst (hs.map V.str ++ [V.str ("p" ++ sg m)]))
    have s67 := s6.trans s7
    have g7 := g5.same s67
    have hh7 : Hls (upd (upd H5 l6 (.lst [V.str ("p" ++ sg m)])) l7 (.lst (hs.map V.str ++ [V.str ("p" ++ sg m)]))) l7 (hs ++ ["p" ++ sg m]) := by
      show _ = _
      rw [upd_same, List.map_append]
      rfl
    have n7 : l7 ≠ tp := by
      obtain ⟨z, hz⟩ := (g5.same s6).t
      exact (ne_of_none hz hl7).symm
    generalize upd (upd H5 l6 (.lst [V.str ("p" ++ sg m)])) l7 (.lst (hs.map V.str ++ [V.str ("p" ++ sg m)])) = H7 at s67 g7 hh7
    refine ⟨_, rfl, _, _, rfl, rfl, ⟨by decide, by decide⟩, tp, kd, sl, l7, hF, ss, hs ++ ["p" ++ sg m], m5, room / 2, by show [_, _, _, V.int (Int.fdiv (room : Int) 2)] = _; rw [hfd], g7, hsw, hh7, by simp, by rw [List.length_append, List.length_singleton]; omega, n7, by omega, hhalf, by omega, fun a8 p8 H8 m8 b8 g8 l8 u8 at8 ok8 cn8 => ?_⟩
    have tk8 := g7.tk b8
    refine ⟨sz (by show 5 ≤ 100000; decide), fun p9 hp9 => ?_⟩
    have s9 := same_new hp9 (.tup [V.str "post", .str ("p" ++ sg m), .str ("w" ++ sg m), .ref a5, .ref a8])
    have tk9 := tk_same s9
    refine q p9 (.post ("p" ++ sg m) ("w" ++ sg m) p5 p8) _ m8 (((b1.two.trans b4).trans (b5.trans (butK_same s67))).trans (b8.trans (butK_same s9))) (g8.same s9) (by omega) (by omega) ⟨a5, a8, upd_same, ((at5.tk (tk_same s67)).tk tk8).tk tk9, at8.tk tk9⟩ (fun xs => ⟨iwp, iww, ok5 _, ok8 _⟩) ?_
    show 1 + pcnt p5 + pcnt p8 + 1 ≤ 2 * room
    omega
end
end KB

set_option pp.maxSteps 400
namespace KB
open PySem L2 HT LamX NdefX

/-! ### books of waits -/
structure WB (hd : Str → Option Nat) (es : List TEr) : Prop where
  rt : ∀ e ∈ es, RTE hd e
  dom : ∀ f n, hd f = some n → f ∈ es.map (·.1)
  nd : (es.map (·.1)).Nodup
  l1 : 1 ≤ es.length
  l6 : es.length ≤ 6
  kp : ∀ e ∈ es, kP e.2.2
  cn : ∀ e ∈ es, pcnt e.2.2 ≤ 31
  n4 : ∀ e ∈ es, e.2.1.length ≤ 4
theorem home_ok : ∀ j ∈ (["home"] : List Str), PySem.PyData.strOk j = true := fun j hj => by
  rw [List.mem_singleton.mp hj]
  decide +kernel
theorem GdTB.wb {es : List TEr} (g : GdTB es) : ∃ hd, WB hd es := by
  obtain ⟨hd, h1, h2⟩ := g.er
  exact ⟨hd, fun e he => (h1 e he).rt, h2, g.nd, g.len.1, g.len.2, fun e he => okP_kP home_ok (h1 e he).ok, fun e he => Nat.le_trans (h1 e he).cn (by decide), fun e he => (h1 e he).n4⟩
theorem WB.tes {hd : Str → Option Nat} {es : List TEr} (w : WB hd es) : TEsOk es hd := ⟨w.rt, w.dom⟩
theorem WB.nc {hd : Str → Option Nat} {es : List TEr} (w : WB hd es) : ∀ e ∈ es, kP e.2.2 ∧ ncnt e.2.2 ≤ 1000 := fun e he => ⟨w.kp e he, by
  have := ncnt_le (w.kp e he)
  have := w.cn e he
  omega⟩
theorem WB.al {hd : Str → Option Nat} {es : List TEr} (w : WB hd es) : (asksB es).length ≤ 300 := by
  have : ∀ l : List TEr, (∀ e ∈ l, pcnt e.2.2 ≤ 31) → (asksB l).length ≤ 31 * l.length := by
    intro l
    induction l with
    | nil => exact fun _ => Nat.zero_le _
    | cons e r ih =>
      intro h
      have h1 := ih fun x hx => h x (List.mem_cons_of_mem _ hx)
      have h2 := h e List.mem_cons_self
      have h3 : (asksE e).length ≤ pcnt e.2.2 := by
        rw [asksE_same, ← allP_len]
        exact List.length_filterMap_le _ _
      have e1 : asksB (e :: r) = asksE e ++ asksB r := rfl
      rw [e1, List.length_append, List.length_cons]
      omega
  have h1 := this es w.cn
  have := w.l6
  omega
section
variable {P : Program} {w : World} {K : PySem.W.Frag} {mg : Str → Option Value} {base : Heap}
theorem all_webp (T : Txt K mg) {f fg : Addr} {fd gd : FuncData} (F : Fun K "_law_web_part" "_law_web_part" s_law_web_part f fd) (G_law_digit : FnOk P w K mg base CX0 1 fg gd ["tape", "many"] spDig) (R_law_digit : Ref K mg "_law_digit" fg gd ["tape", "many"])
    (R_law_web_part : Ref K mg "_law_web_part" f fd ["tape", "known", "hands", "room"]) : ∀ n : Nat, FnOk P w K mg base CX0 (n + 1) f fd ["tape", "known", "hands", "room"] (spWebP n)
  | 0 => no_sp
  | n + 1 => ok_webp T n F G_law_digit R_law_digit (all_webp T F G_law_digit R_law_digit R_law_web_part n) R_law_web_part
/-! ### _law_web -/
def spWeb (K : PySem.W.Frag) : Sp := fun vs H Q _ => ∃ (sc : Addr) (ns : List Int) (start : Int), vs = [.ref sc, .int start] ∧ SqL K H sc (ns.map V.int) ∧ 0 ≤ start ∧ start ≤ 100 ∧
  ∀ (p : Addr) (es : List TEr) (us : List V) (H' : Hp) (hd : Str → Option Nat), Same H H' → TBkAt H' es us p → WB hd es → Q (.ref p) H'
abbrev s_law_web : Stmt := top 65
theorem scLweb : FnScope ["script", "start", "head", "errands", "found", "k", "tape", "some", "known"] ["script", "start"] (defScope s_law_web) := ⟨rfl, rfl, rfl, by decide +kernel, rfl, by decide +kernel, by decide +kernel⟩
theorem ok_web (T : Txt K mg) {f fg ft fw fb : Addr} {fd gd td wd bd : FuncData} (F : Fun K "_law_web" "_law_web" s_law_web f fd) (G_law_digit : FnOk P w K mg base CX0 1 fg gd ["tape", "many"] spDig) (R_law_digit : Ref K mg "_law_digit" fg gd ["tape", "many"])
    (G_law_tape : FnOk P w K mg base CX0 2 ft td ["script", "k"] (spTape K)) (R_law_tape : Ref K mg "_law_tape" ft td ["script", "k"]) (G_law_words : FnOk P w K mg base CX0 2 fw wd ["tape", "many"] spWords) (R_law_words : Ref K mg "_law_words" fw wd ["tape", "many"])
    (G_law_web_part : FnOk P w K mg base CX0 6 fb bd ["tape", "known", "hands", "room"] (spWebP 5)) (R_law_web_part : Ref K mg "_law_web_part" fb bd ["tape", "known", "hands", "room"]) : FnOk P w K mg base CX0 7 f fd ["script", "start"] (spWeb K) := by
  refine F.ok scLweb (fun vs H Q E h => ?_) (fun cdv A outer s H vs Q E hr h => ?_)
  · obtain ⟨sc, ns, start, rfl, _⟩ := h
    rfl
  obtain ⟨sc, ns, start, rfl, hS, hs0, hs1, q⟩ := h
  refine ⟨_, (pss_cons (ps_set (i := 2) scLweb.nd rfl (Or.inl rfl) (pe_call G_law_tape (hr.mono (by omega)) rfl R_law_tape.m R_law_tape.k R_law_tape.b .nil pass0 (pa_cons (pv 0) (pa_cons (pv 1) pa_nil))))
    (pss_cons (ps_set (i := 3) scLweb.nd rfl (Or.inl rfl) (pe_call G_law_words (hr.mono (by omega)) rfl R_law_words.m R_law_words.k R_law_words.b .nil pass0 (pa_cons (pv 2) (pa_cons (pe_op op_add pe_int (pe_call G_law_digit (hr.mono (by omega)) rfl R_law_digit.m R_law_digit.k R_law_digit.b .nil pass0 (pa_cons (pv 2) (pa_cons pe_int pa_nil)))) pa_nil))))
    (pss_cons (ps_set (i := 4) scLweb.nd rfl (Or.inl rfl) (pe_lst pa_nil))
    (pss_cons (ps_for PassesOwn.never rfl (pi_range1 rfl T.m_range (pa_cons (pe_callB call_len_seq (by rfl) T.m_len PySem.boot_len (pa_cons (pv 3) pa_nil)) pa_nil)) (pg_name (i := 5) scLweb.nd rfl (Or.inl rfl)) (pss_cons (ps_set (i := 6) scLweb.nd rfl (Or.inl rfl) (pe_call G_law_tape (hr.mono (by omega)) rfl R_law_tape.m R_law_tape.k R_law_tape.b .nil pass0 (pa_cons (pv 0) (pa_cons (pe_op op_add (pe_op op_add (pv 1) pe_int) (pv 5)) pa_nil))))
    (pss_cons (ps_set (i := 7) scLweb.nd rfl (Or.inl rfl) (pe_op op_cat (pe_slice sl_list (pv 3) (po_some (pe_op op_add (pv 5) pe_int)) po_none) (pe_ix ix_list (pe_lst (pa_cons (pe_lst pa_nil) (pa_cons (pe_lst pa_nil) (pa_cons (pe_lst pa_nil) (pa_cons (pe_slice sl_list (pv 3) (po_some (pv 5)) (po_some (pe_op op_add (pv 5) pe_int))) (pa_cons (pv 3) pa_nil)))))) (pe_call G_law_digit (hr.mono (by omega)) rfl R_law_digit.m R_law_digit.k R_law_digit.b .nil pass0 (pa_cons (pv 2) (pa_cons pe_int pa_nil))) (fun _ _ => rfl))))
    (pss_cons (ps_set (i := 8) scLweb.nd rfl (Or.inl rfl) (pe_disp (pps_cons pe_str (pv 7) (pps_cons pe_str pe_int pps_nil)) (by rfl) (by rfl) (fun z => by cases z) (by decide)))
    (pss_one (ps_expr (pe_bm PySem.F.plainAttrs_list PySem.F.slot_list_append PySem.F.type_list_append mt_append (pv 4) (pa_cons (pe_tup (pa_cons (pe_ix ix_list (pv 3) (pv 5) (fun _ _ => rfl)) (pa_cons (pe_tup pa_nil) (pa_cons (pe_call G_law_web_part (hr.mono (by omega)) rfl R_law_web_part.m R_law_web_part.k R_law_web_part.b .nil pass0 (pa_cons (pv 6) (pa_cons (pv 8) (pa_cons (pe_lst (pa_cons pe_str pa_nil)) (pa_cons (pe_ix ix_list (pe_lst (pa_cons pe_int (pa_cons pe_int (pa_cons pe_int (pa_cons pe_int pa_nil))))) (pe_call G_law_digit (hr.mono (by omega)) rfl R_law_digit.m R_law_digit.k R_law_digit.b .nil pass0 (pa_cons (pv 2) (pa_cons pe_int pa_nil))) (fun _ _ => rfl)) pa_nil))))) pa_nil)))) pa_nil))))))))
    (pss_one (ps_ret (pe_callTy call_tuple_of (by rfl) T.m_tuple (by decide +kernel) (pa_cons (pv 4) pa_nil)))))))), ?_⟩
  refine ⟨_, rfl, _, rfl, sc, ns, start, rfl, hS, hs0, by omega, fun hp z0 hhp => ?_⟩
  have s1 := same_new hhp (.lst [.int z0])
  have t1 : Tp (upd H hp (.lst [.int z0])) hp := ⟨z0, upd_same⟩
  generalize upd H hp (.lst [.int z0]) = H1 at s1 t1
  refine ⟨_, rfl, _, rfl, hp, 6, rfl, t1, by decide, by decide, fun r0 H2 r00 r01 b2 t2 => ⟨_, _, rfl, rfl, hp, _, rfl, t2, by omega, by omega, fun el fs H3 b3 t3 hel w3 hl3 hnd3 => ?_⟩⟩
  have hfl6 : fs.length ≤ 6 := by omega
  have hfl1 : 1 ≤ fs.length := by omega
  have s3 : Same H H3 := fun b o hb => b3 _ _ (ne_of_none hb hhp) (b2 _ _ (ne_of_none hb hhp) (s1 _ _ hb))
  have net : el ≠ hp := wls_tp w3.1 t3
  -- found
  refine ⟨sz (by show 0 ≤ 100000; decide), fun fl hflN => ?_⟩
  have s4 := same_new hflN (.lst [])
  have hflH : H fl = none := by
    cases e : H fl with
    | none => rfl
    | some o => rw [s3 _ _ e] at hflN; cases hflN
  have nlp : fl ≠ hp := by
    obtain ⟨z, hz⟩ := t3
    exact (ne_of_none hz hflN).symm
  have nle : fl ≠ el := fun z => by rw [z, w3.1] at hflN; cases hflN
  refine ⟨_, rfl, el, _, rfl, .inl (SqL.of (s4 _ _ w3.1)), _, rfl, by omega, by rw [List.length_map]; omega, ?_⟩
  have hnl : (((fs.map V.str).length : Nat) : Int).toNat = fs.length := by
    rw [Int.toNat_natCast, List.length_map]
  refine for_range (lo := 0) (n := (((fs.map V.str).length : Nat) : Int).toNat) (fun i σ H' => ∃ (o5 o6 o7 o8 : Option V) (vs : List V) (es : List TEr), σ = [some (.ref sc), some (.int start), some (.ref hp), some (.ref el), some (.ref fl), o5, o6, o7, o8] ∧
    Same H H' ∧ Tp H' hp ∧ H' el = some (.lst (fs.map V.str)) ∧ H' fl = some (.lst vs) ∧ All2 (TErV H') es vs ∧ es.length = i ∧ es.map (·.1) = fs.take i ∧ ∀ e ∈ es, e.2.1 = [] ∧ okP (fun f => if f ∈ fs then some 0 else none) e.2.2 [] ["home"] ∧ pcnt e.2.2 ≤ 31) ?_ ?_ ?_
  · exact ⟨_, _, _, _, [], [], rfl, s3.trans s4, t3.same s4, s4 _ _ w3.1, upd_same, trivial, rfl, rfl, fun _ z => nomatch z⟩
  · rintro i σ H5 hi ⟨o5, o6, o7, o8, vs, es, rfl, sA, tA, elA, hfA, kA, hel2, hnm, hgd⟩
    rw [hnl] at hi
    have hfi : fs[i]? = some fs[i] := List.getElem?_eq_getElem hi
    have hfm := List.getElem_mem hi
    have hfe : fs[i]? = some fs[i] := hfi
    generalize hfn : fs[i] = fn at hfi hfm
    have ei : (0 : Int) + (i : Nat) = ((i : Nat) : Int) := by omega
    have hat : atI (fs.map V.str) ((0 : Int) + (i : Nat)) = some (V.str fn) := by
      rw [ei]
      exact atI_nat (by rw [List.getElem?_map, hfi]; rfl)
    -- tape
    refine ⟨_, rfl, _, rfl, _, _, rfl, rfl, _, rfl, _, _, rfl, rfl, sc, ns, _, rfl, sA.seq hS, by omega, by omega, fun tp z htp => ?_⟩
    have sB := same_new htp (.lst [.int z])
    have tB : Tp (upd H5 tp (.lst [.int z])) tp := ⟨z, upd_same⟩
    have nth : tp ≠ hp := by
      obtain ⟨z, hz⟩ := tA
      exact (ne_of_none hz htp).symm
    have elB := sB _ _ elA
    have hpB := tA.same sB
    have ntf : fl ≠ tp := ne_of_none hfA htp
    generalize upd H5 tp (.lst [.int z]) = H6 at sB tB elB hpB
    -- some
    have sub1 : ∀ (a b : Option Int), ∃ zs : List Str, cutV (fs.map V.str) a b = zs.map V.str ∧ (∀ f ∈ zs, f ∈ fs) ∧ zs.length ≤ 6 := fun a b => by
      refine ⟨List.take (sIx (fs.map V.str).length (fs.map V.str).length b - sIx (fs.map V.str).length 0 a) (List.drop (sIx (fs.map V.str).length 0 a) fs), ?_, fun f hf => List.mem_of_mem_drop (List.mem_of_mem_take hf), ?_⟩
      · rw [List.map_take, List.map_drop]
        rfl
      · rw [List.length_take, List.length_drop]
        omega
    obtain ⟨z1, ez1, hz1, lz1⟩ := sub1 (some ((0 : Int) + (i : Nat) + 1)) none
    obtain ⟨z2, ez2, hz2, lz2⟩ := sub1 (some ((0 : Int) + (i : Nat))) (some ((0 : Int) + (i : Nat) + 1))
    refine ⟨_, rfl, _, rfl, _, _, rfl, rfl, _, rfl, el, _, rfl, SqL.of elB, fun p1 hp1 => ?_⟩
    rw [ez1]
    have sC := same_new hp1 (.lst (z1.map V.str))
    have h1C : (upd H6 p1 (.lst (z1.map V.str))) p1 = some (.lst (z1.map V.str)) := upd_same
    generalize upd H6 p1 (.lst (z1.map V.str)) = H7 at sC h1C
    refine ⟨sz (by show 0 ≤ 100000; decide), fun e1 he1 => ⟨sz (by show 0 ≤ 100000; decide), fun e2 he2 => ⟨sz (by show 0 ≤ 100000; decide), fun e3 he3 => ?_⟩⟩⟩
    have sD := (same_new he1 (.lst [])).trans ((same_new he2 (.lst [])).trans (same_new he3 (.lst [])))
    have d1 : (upd (upd (upd H7 e1 (.lst [])) e2 (.lst [])) e3 (.lst [])) e1 = some (.lst []) := (same_new he3 (.lst [])) _ _ ((same_new he2 (.lst [])) _ _ upd_same)
    have d2 : (upd (upd (upd H7 e1 (.lst [])) e2 (.lst [])) e3 (.lst [])) e2 = some (.lst []) := (same_new he3 (.lst [])) _ _ upd_same
    have d3 : (upd (upd (upd H7 e1 (.lst [])) e2 (.lst [])) e3 (.lst [])) e3 = some (.lst []) := upd_same
    generalize upd (upd (upd H7 e1 (.lst [])) e2 (.lst [])) e3 (.lst []) = H8 at sD d1 d2 d3
    have elD := sD _ _ (sC _ _ elB)
    refine ⟨_, rfl, _, rfl, _, rfl, _, rfl, _, _, rfl, rfl, _, rfl, el, _, rfl, SqL.of elD, fun p4 hp4 => ?_⟩
    rw [ez2]
    have sE := same_new hp4 (.lst (z2.map V.str))
    have h4E : (upd H8 p4 (.lst (z2.map V.str))) p4 = some (.lst (z2.map V.str)) := upd_same
    generalize upd H8 p4 (.lst (z2.map V.str)) = H9 at sE h4E
    refine ⟨_, rfl, sz (by show 5 ≤ 100000; decide), fun ll hll => ?_⟩
    have sF := same_new hll (.lst [V.ref e1, .ref e2, .ref e3, .ref p4, .ref el])
    have hllF : (upd H9 ll (.lst [V.ref e1, .ref e2, .ref e3, .ref p4, .ref el])) ll = some (.lst [V.ref e1, .ref e2, .ref e3, .ref p4, .ref el]) := upd_same
    generalize upd H9 ll (.lst [V.ref e1, .ref e2, .ref e3, .ref p4, .ref el]) = HA at sF hllF
    have s6A := sC.trans (sD.trans (sE.trans sF))
    have hpA := hpB.same s6A
    have nlh : ll ≠ hp := by
      obtain ⟨z, hz⟩ := (hpB.same (sC.trans (sD.trans sE)))
      exact (ne_of_none hz hll).symm
    refine ⟨_, rfl, hp, 5, rfl, hpA, by decide, by decide, fun r5 HB r50 r51 bB tB2 => ?_⟩
    obtain ⟨v, hv, hvm⟩ := at_some (xs := [V.ref e1, .ref e2, .ref e3, .ref p4, .ref el]) r50 r51
    have hz : ∃ (b : Addr) (zs : List Str), v = .ref b ∧ HB b = some (.lst (zs.map V.str)) ∧ (∀ f ∈ zs, f ∈ fs) ∧ zs.length ≤ 6 := by
      have nb : ∀ {b : Addr} {zs : List Str}, HA b = some (.lst (zs.map V.str)) → HB b = some (.lst (zs.map V.str)) := fun h => bB _ _ (wls_tp h hpA) h
      simp only [List.mem_cons, List.not_mem_nil, or_false] at hvm
      rcases hvm with z | z | z | z | z
      · exact ⟨e1, [], z, nb (zs := []) (sF _ _ (sE _ _ d1)), (fun _ y => nomatch y), Nat.zero_le _⟩
      · exact ⟨e2, [], z, nb (zs := []) (sF _ _ (sE _ _ d2)), (fun _ y => nomatch y), Nat.zero_le _⟩
      · exact ⟨e3, [], z, nb (zs := []) (sF _ _ (sE _ _ d3)), (fun _ y => nomatch y), Nat.zero_le _⟩
      · exact ⟨p4, z2, z, nb (sF _ _ h4E), hz2, lz2⟩
      · exact ⟨el, fs, z, nb (sF _ _ (sE _ _ elD)), fun _ y => y, hfl6⟩
    obtain ⟨b, zs, rfl, hbB, hzs, lzs⟩ := hz
    refine ⟨ll, _, _, _, rfl, rfl, SqL.of (bB _ _ nlh hllF), hv, ?_⟩
    have h1B : HB p1 = some (.lst (z1.map V.str)) := bB _ _ (wls_tp (sF _ _ (sE _ _ (sD _ _ h1C))) hpA) (sF _ _ (sE _ _ (sD _ _ h1C)))
    refine ⟨p1, b, _, _, rfl, rfl, h1B, hbB, sz (by rw [List.length_map, List.length_map]; omega), fun sl hsl => ?_⟩
    have sG := same_new hsl (.lst (z1.map V.str ++ zs.map V.str))
    have hslG : (upd HB sl (.lst (z1.map V.str ++ zs.map V.str))) sl = some (.lst ((z1 ++ zs).map V.str)) := by rw [upd_same, List.map_append]
    have tG := tB2.same sG
    have f5 : ∀ x o, x ≠ hp → H5 x = some o → (upd HB sl (.lst (z1.map V.str ++ zs.map V.str))) x = some o := fun x o n hx => sG _ _ (bB _ _ n (s6A _ _ (sB _ _ hx)))
    have ttG : Tp (upd HB sl (.lst (z1.map V.str ++ zs.map V.str))) tp := by
      obtain ⟨y, hy⟩ := tB
      exact ⟨y, sG _ _ (bB _ _ nth (s6A _ _ hy))⟩
    generalize upd HB sl (.lst (z1.map V.str ++ zs.map V.str)) = HG at sG hslG tG f5 ttG
    -- known
    intro kd hkd
    refine ⟨_, rfl, upd_same, knW sl 0, rfl, by show 2 ≤ 15; decide, ?_⟩
    rw [show mergeK [] (knW sl 0) = knW sl 0 from rfl]
    have sK0 := same_new hkd (.dK [])
    have sK : Same HG (upd (upd HG kd (.dK [])) kd (.dK (knW sl 0))) := same_mut sK0 hkd
    have hkK : (upd (upd HG kd (.dK [])) kd (.dK (knW sl 0))) kd = some (.dK (knW sl 0)) := upd_same
    have hkd5 : H5 kd = none := by
      cases e : H5 kd with
      | none => rfl
      | some o =>
        exfalso
        by_cases c : kd = hp
        · obtain ⟨y, hy⟩ := tG
          rw [c, hy] at hkd
          cases hkd
        · rw [f5 _ _ c e] at hkd
          cases hkd
    generalize upd (upd HG kd (.dK [])) kd (.dK (knW sl 0)) = HK at sK hkK
    have fK : ∀ x o, x ≠ hp → H5 x = some o → HK x = some o := fun x o n hx => sK _ _ (f5 x o n hx)
    have elK : HK el = some (.lst (fs.map V.str)) := fK _ _ net elA
    have flK : HK fl = some (.lst vs) := fK _ _ nlp hfA
    refine ⟨_, rfl, .inl ⟨rfl, _, SqL.of flK⟩, _, rfl, _, rfl, el, _, _, _, rfl, rfl, SqL.of elK, hat, sz (by show 0 ≤ 100000; decide), fun t0 ht0 => ?_⟩
    have sL := same_new ht0 (.tup [])
    refine ⟨_, rfl, _, rfl, sz (by show 1 ≤ 100000; decide), fun hl hhl => ?_⟩
    have sM := same_new hhl (.lst [.str "home"])
    refine ⟨sz (by show 4 ≤ 100000; decide), fun l4 hl4 => ?_⟩
    have sN := same_new hl4 (.lst [.int 1, .int 4, .int 8, .int 16])
    have h4N : (upd (upd (upd HK t0 (.tup [])) hl (.lst [.str "home"])) l4 (.lst [.int 1, .int 4, .int 8, .int 16])) l4 = some (.lst [.int 1, .int 4, .int 8, .int 16]) := upd_same
    have hlN : (upd (upd (upd HK t0 (.tup [])) hl (.lst [.str "home"])) l4 (.lst [.int 1, .int 4, .int 8, .int 16])) hl = some (.lst [.str "home"]) := sN _ _ upd_same
    have ht0N : (upd (upd (upd HK t0 (.tup [])) hl (.lst [.str "home"])) l4 (.lst [.int 1, .int 4, .int 8, .int 16])) t0 = some (.tup []) := sN _ _ (sM _ _ upd_same)
    have sLN := sL.trans (sM.trans sN)
    have hpK := tG.same sK
    have n4h : l4 ≠ hp := by
      obtain ⟨y, hy⟩ := hpK.same (sL.trans sM)
      exact (ne_of_none hy hl4).symm
    have nhh : hl ≠ hp := by
      obtain ⟨y, hy⟩ := hpK.same sL
      exact (ne_of_none hy hhl).symm
    have ttK := ttG.same sK
    have nht : hl ≠ tp := by
      obtain ⟨y, hy⟩ := ttK.same sL
      exact (ne_of_none hy hhl).symm
    have nt0 : t0 ≠ hp := by
      obtain ⟨y, hy⟩ := hpK
      exact (ne_of_none hy ht0).symm
    generalize upd (upd (upd HK t0 (.tup [])) hl (.lst [.str "home"])) l4 (.lst [.int 1, .int 4, .int 8, .int 16]) = HN at sLN h4N hlN ht0N
    refine ⟨_, rfl, hp, 4, rfl, hpK.same sLN, by decide, by decide, fun r7 HO r70 r71 bO tO => ?_⟩
    have hre : ∃ room : Nat, atI [V.int 1, .int 4, .int 8, .int 16] r7 = some (.int (room : Int)) ∧ 1 ≤ room ∧ room ≤ 16 := by
      obtain ⟨v, hv, hm⟩ := at_some (xs := [V.int 1, .int 4, .int 8, .int 16]) r70 r71
      simp only [List.mem_cons, List.not_mem_nil, or_false] at hm
      rcases hm with z | z | z | z <;> subst z
      · exact ⟨1, hv, by decide, by decide⟩
      · exact ⟨4, hv, by decide, by decide⟩
      · exact ⟨8, hv, by decide, by decide⟩
      · exact ⟨16, hv, by decide, by decide⟩
    obtain ⟨room, hra, hr1, hr16⟩ := hre
    refine ⟨l4, _, _, _, rfl, rfl, SqL.of (bO _ _ n4h h4N), hra, ?_⟩
    have ttO : Tp HO tp := by
      obtain ⟨y, hy⟩ := ttK.same sLN
      exact ⟨y, bO _ _ nth hy⟩
    have nkh : kd ≠ hp := by
      obtain ⟨y, hy⟩ := hpK
      exact ne_of hkK hy (fun y => nomatch y)
    have hkO : HO kd = some (.dK (knW sl 0)) := bO _ _ nkh (sLN _ _ hkK)
    have hslK : HK sl = some (.lst ((z1 ++ zs).map V.str)) := sK _ _ hslG
    have nsh : sl ≠ hp := wls_tp hslK hpK
    have hslO : HO sl = some (.lst ((z1 ++ zs).map V.str)) := bO _ _ nsh (sLN _ _ hslK)
    have hss : ∀ f ∈ z1 ++ zs, f ∈ fs := fun f hf => by
      rcases List.mem_append.mp hf with y | y
      · exact hz1 f y
      · exact hzs f y
    have gO : GW HO tp kd sl (fun f => if f ∈ fs then some 0 else none) (z1 ++ zs) 0 := ⟨ttO, hkO, ⟨hslO, fun f hf => w3.2 f (hss f hf)⟩, fun f hf => if_pos (hss f hf), by rw [List.length_append]; omega⟩
    have hlO : Hls HO hl ["home"] := bO _ _ nhh hlN
    refine ⟨tp, kd, sl, hl, (fun f => if f ∈ fs then some 0 else none), z1 ++ zs, ["home"], 0, room, rfl, gO, fun f hf => w3.2 f (hss f hf), hlO, by simp, by show 1 + room ≤ 100; omega, nht, hr1, by show room ≤ 16; exact hr16, by omega, fun a pp HP m' bP gP lP uP atP okP' cnP => ?_⟩
    refine ⟨sz (by show 3 ≤ 100000; decide), fun ep hep => ?_⟩
    have sQ := same_new hep (.tup [.str fn, .ref t0, .ref a])
    have keep : ∀ x o, x ≠ hp → H5 x = some o → (upd HP ep (.tup [.str fn, .ref t0, .ref a])) x = some o := fun x o n hx => by
      refine sQ _ _ (bP _ _ (fun z => ?_) (fun z => ?_) (bO _ _ n (sLN _ _ (fK x o n hx))))
      · rw [z, htp] at hx; cases hx
      · rw [z, hkd5] at hx; cases hx
    have hfQ := keep _ _ nlp hfA
    have hvl := kA.len
    have tkQ : TK H5 (upd HP ep (.tup [.str fn, .ref t0, .ref a])) := fun x xs hx => keep x _ (by
      obtain ⟨y, hy⟩ := tA
      exact ne_of hx hy (fun z => nomatch z)) hx
    have ht0Q : (upd HP ep (.tup [.str fn, .ref t0, .ref a])) t0 = some (.tup []) := sQ _ _ (gO.tk bP _ _ (bO _ _ nt0 ht0N))
    have tkP := tk_put (o := .lst (vs ++ [.ref ep])) hfQ
    have nhpP : kd ≠ hp := nkh
    have hpP : Tp HP hp := by
      obtain ⟨y, hy⟩ := tO
      exact ⟨y, bP _ _ nth.symm nkh.symm hy⟩
    refine ⟨fl, _, _, rfl, rfl, hfQ, Nat.lt_of_le_of_lt (m := 1000) (by omega) (by decide), ?_⟩
    have sX : Same H (upd HP ep (.tup [.str fn, .ref t0, .ref a])) := fun x o hx => keep x o (ne_of_none hx hhp) (sA _ _ hx)
    refine ⟨_, _, _, _, vs ++ [.ref ep], es ++ [(fn, [], pp)], rfl, same_mut sX hflH, ?_, ?_, upd_same, ?_, ?_, ?_, ?_⟩
    · obtain ⟨y, hy⟩ := hpP
      exact ⟨y, by rw [upd_ne nlp.symm]; exact sQ _ _ hy⟩
    · rw [upd_ne nle.symm]; exact keep _ _ net elA
    · refine (kA.imp fun _ _ z => (z.tk tkQ).tk tkP).app ⟨⟨ep, t0, a, rfl, tkP _ _ upd_same, tkP _ _ ht0Q, (atP.tk (tk_same sQ)).tk tkP⟩, trivial⟩
    · rw [List.length_append, hel2]
      rfl
    · rw [List.map_append, hnm, List.take_succ_eq_append_getElem hi, hfn]
      rfl
    · intro e he
      rcases List.mem_append.mp he with z | z
      · exact hgd e z
      · rw [List.mem_singleton.mp z]
        exact ⟨rfl, okP' [], by show pcnt pp ≤ 31; omega⟩
  · rintro σ H5 ⟨o5, o6, o7, o8, vs, es, rfl, sA, tA, elA, hfA, kA, hel2, hnm, hgd⟩
    rw [hnl] at hel2 hnm
    rw [List.take_length] at hnm
    refine ⟨_, rfl, fl, _, rfl, .inl ⟨SqL.of hfA, fun p hp9 => ?_⟩⟩
    have sK := same_new hp9 (.tup vs)
    refine q p es vs _ (fun f => if f ∈ fs then some 0 else none) (sA.trans sK) ⟨upd_same, kA.imp fun _ _ z => z.tk (tk_same sK)⟩ ⟨fun e he => ?_, fun f n hf => ?_, by rw [hnm]; exact hnd3, by omega, by omega, fun e he => okP_kP home_ok (hgd e he).2.1, fun e he => (hgd e he).2.2, fun e he => by rw [(hgd e he).1]; exact Nat.zero_le _⟩
    · obtain ⟨h1, h2, h3⟩ := hgd e he
      have hin : e.1 ∈ fs := by rw [← hnm]; exact List.mem_map.mpr ⟨e, he, rfl⟩
      refine ⟨w3.2 _ hin, (by rw [h1]; exact fun _ z => nomatch z), (by rw [h1]; exact Nat.zero_le _), (by rw [h1]; exact rP_of h2), by omega, ?_, (by rw [h1]; exact List.nodup_nil)⟩
      rw [h1]
      exact if_pos hin
    · rw [hnm]
      by_cases c : f ∈ fs
      · exact c
      · have hf' : (if f ∈ fs then some 0 else none) = some n := hf
        rw [if_neg c] at hf'
        cases hf'
/-! ### _law_waits_book -/
def spWaits (K : PySem.W.Frag) : Sp := fun vs H Q _ => ∃ (sc tp : Addr) (ns : List Int) (H0 : Hp), vs = [.ref sc, .ref tp] ∧ SqL K H0 sc (ns.map V.int) ∧ H0 tp = none ∧ Same H0 H ∧ Tp H tp ∧
  ∀ (p : Addr) (es : List TEr) (us : List V) (H' : Hp) (hd : Str → Option Nat), Same H0 H' → TBkAt H' es us p → WB hd es → Q (.ref p) H'
abbrev s_law_waits_book : Stmt := top 68
theorem scLwaits_book : FnScope ["script", "tape", "way"] ["script", "tape"] (defScope s_law_waits_book) := ⟨rfl, rfl, rfl, by decide +kernel, rfl, by decide +kernel, by decide +kernel⟩
theorem ok_waits {f fg ft fw : Addr} {fd gd td wd : FuncData} (F : Fun K "_law_waits_book" "_law_waits_book" s_law_waits_book f fd) (G_law_digit : FnOk P w K mg base CX0 1 fg gd ["tape", "many"] spDig) (R_law_digit : Ref K mg "_law_digit" fg gd ["tape", "many"])
    (G_law_turned_book : FnOk P w K mg base CX0 17 ft td ["script", "start", "straight"] (spTBook K)) (R_law_turned_book : Ref K mg "_law_turned_book" ft td ["script", "start", "straight"])
    (G_law_web : FnOk P w K mg base CX0 7 fw wd ["script", "start"] (spWeb K)) (R_law_web : Ref K mg "_law_web" fw wd ["script", "start"]) : FnOk P w K mg base CX0 18 f fd ["script", "tape"] (spWaits K) := by
  refine F.ok scLwaits_book (fun vs H Q E h => ?_) (fun cdv A outer s H vs Q E hr h => ?_)
  · obtain ⟨sc, tp, ns, H0, rfl, _⟩ := h
    rfl
  obtain ⟨sc, tp, ns, H0, rfl, hS, h0, s0, ht, q⟩ := h
  refine ⟨_, (pss_cons (ps_set (i := 2) scLwaits_book.nd rfl (Or.inl rfl) (pe_call G_law_digit (hr.mono (by omega)) rfl R_law_digit.m R_law_digit.k R_law_digit.b .nil pass0 (pa_cons (pv 1) (pa_cons pe_int pa_nil))))
    (pss_cons (ps_if (pt_cmpR op_lt (pv 2) pe_int (nomark _)) (pss_one (ps_ret (pe_call G_law_turned_book (hr.mono (by omega)) rfl R_law_turned_book.m R_law_turned_book.k R_law_turned_book.b .nil pass0 (pa_cons (pv 0) (pa_cons pe_int (pa_cons (pe_cmpR op_eq (pv 2) pe_int (nomark _)) pa_nil)))))) pss_nil)
    (pss_one (ps_ret (pe_call G_law_web (hr.mono (by omega)) rfl R_law_web.m R_law_web.k R_law_web.b .nil pass0 (pa_cons (pv 0) (pa_cons pe_int pa_nil))))))), ?_⟩
  refine ⟨_, rfl, tp, 5, rfl, ht, by decide, by decide, fun r H1 r0 r1 b1 t1 => ?_⟩
  have s01 : Same H0 H1 := fun b o hb => b1 _ _ (ne_of_none hb h0) (s0 _ _ hb)
  have hS1 : SqL K H1 sc (ns.map V.int) := s01.seq hS
  refine ⟨_, rfl, _, _, rfl, rfl, _, rfl, ?_⟩
  refine ite2 (fun c => ?_) (fun c => ?_)
  · refine ⟨_, rfl, _, rfl, rfl, sc, ns, 1, _, rfl, hS1, by decide, by decide, fun p es us H3 s3 hB hG => ?_⟩
    obtain ⟨hd, hw⟩ := hG.wb
    exact q p es us H3 hd (s01.trans s3) hB hw
  · exact ⟨_, rfl, sc, ns, 1, rfl, hS1, by decide, by decide, fun p es us H3 hd s3 hB hw => q p es us H3 hd (s01.trans s3) hB hw⟩
end
end KB

set_option pp.maxSteps 400
namespace KB
open PySem L2 HT LamX NdefX

/-! ### asks as the law keeps them -/
def AtV (H : Hp) (a : Ak) (v : V) : Prop := ∃ t q, v = .ref t ∧ H t = some (.tup [.ref q, .str a.2.1, .int (a.2.2 : Int)]) ∧ PlAt H a.1 q
theorem AtV.tk {H H' : Hp} (k : TK H H') {a : Ak} {v : V} (h : AtV H a v) : AtV H' a v := let ⟨t, q, e, h1, h2⟩ := h; ⟨t, q, e, k _ _ h1, k _ _ h2⟩
def LaE (H : Hp) (e : TEr) (kv : L2.Key × V) : Prop := kv.1 = .inr e.1 ∧ ∃ l vs, kv.2 = .ref l ∧ H l = some (.lst vs) ∧ All2 (AtV H) (asksE e) vs
def LaL (H : Hp) : List TEr → List (L2.Key × V) → Prop
  | [], [] => True
  | x :: xs, kv :: kvs => LaE H x kv ∧ LaL H xs kvs
  | _, _ => False
theorem LaL.mono {H H' : Hp} (k : ∀ l vs, H l = some (.lst vs) → H' l = some (.lst vs)) (t : TK H H') : ∀ {es : List TEr} {kvs : List (L2.Key × V)}, LaL H es kvs → LaL H' es kvs
  | [], [], _ => trivial
  | _ :: _, _ :: _, ⟨⟨e, l, vs, h1, h2, h3⟩, r⟩ => ⟨⟨e, l, vs, h1, k _ _ h2, h3.imp fun _ _ z => z.tk t⟩, r.mono k t⟩
  | [], _ :: _, h => h.elim
  | _ :: _, [], h => h.elim
theorem LaL.app {H : Hp} {e : TEr} {kv : L2.Key × V} (s : LaE H e kv) : ∀ {es : List TEr} {kvs : List (L2.Key × V)}, LaL H es kvs → LaL H (es ++ [e]) (kvs ++ [kv])
  | [], [], _ => ⟨s, trivial⟩
  | _ :: _, _ :: _, ⟨y, r⟩ => ⟨y, r.app s⟩
  | [], _ :: _, h => h.elim
  | _ :: _, [], h => h.elim
theorem LaL.keys {H : Hp} : ∀ {es : List TEr} {kvs : List (L2.Key × V)}, LaL H es kvs → kvs.map (·.1) = es.map fun x => (.inr x.1 : L2.Key)
  | [], [], _ => rfl
  | _ :: _, _ :: _, ⟨y, r⟩ => by rw [List.map_cons, List.map_cons, y.1, r.keys]
  | [], _ :: _, h => h.elim
  | _ :: _, [], h => h.elim
theorem LaL.len {H : Hp} {es : List TEr} {kvs : List (L2.Key × V)} (h : LaL H es kvs) : kvs.length = es.length := by
  have := congrArg List.length h.keys
  rwa [List.length_map, List.length_map] at this
theorem LaL.there {H : Hp} : ∀ {es : List TEr} {kvs : List (L2.Key × V)}, LaL H es kvs → ∀ {e : TEr}, (es.map (·.1)).Nodup → e ∈ es → ∃ kv, valV kvs (.inr e.1) = some kv.2 ∧ LaE H e kv
  | [], [], _, _, _, h => nomatch h
  | x :: es, kv :: kvs, ⟨y, r⟩, e, nd, h => by
    obtain ⟨n1, n2⟩ := List.nodup_cons.mp nd
    rcases List.mem_cons.mp h with z | z
    · refine ⟨kv, ?_, by rw [z]; exact y⟩
      unfold valV
      rw [List.find?_cons_of_pos (by exact decide_eq_true (by rw [y.1, z]))]
      rfl
    · obtain ⟨kv', a, b⟩ := r.there n2 z
      refine ⟨kv', ?_, b⟩
      unfold valV at a ⊢
      rw [List.find?_cons_of_neg]
      · exact a
      · intro c
        have e1 : kv.1 = .inr e.1 := of_decide_eq_true c
        rw [y.1] at e1
        exact n1 (List.mem_map.mpr ⟨e, z, (Sum.inr.inj e1).symm⟩)
  | [], _ :: _, h, _, _, _ => h.elim
  | _ :: _, [], h, _, _, _ => h.elim
theorem valV_snoc {kvs : List (L2.Key × V)} {k : L2.Key} {v : V} (h : k ∉ kvs.map (·.1)) : valV (kvs ++ [(k, v)]) k = some v := by
  unfold valV
  rw [List.find?_append, List.find?_eq_none.mpr fun x hx => ?_]
  · rw [Option.none_or, List.find?_cons_of_pos (by exact decide_eq_true rfl)]
    rfl
  · intro e
    exact h (List.mem_map.mpr ⟨x, hx, of_decide_eq_true e⟩)
def pdPl (p : Pl) : PyData := .tuple (.str p.1 :: p.2.map PyData.int)
theorem dp_intsW {K : PySem.W.Frag} {H : Hp} : ∀ ks : List Int, DpAll K H (ks.map V.int) (ks.map PyData.int)
  | [] => .nil
  | k :: ks => .cons (.int k) (dp_intsW ks)
theorem dp_pl {K : PySem.W.Frag} {H : Hp} {p : Pl} {q : Addr} (h : PlAt H p q) : Dp K H (.ref q) (pdPl p) := .tup (SqT.of h) (.cons (.str _) (dp_intsW _))
theorem lay_ints : ∀ ks : List Int, PySem.PyData.canLayAll0 (ks.map PyData.int) = true
  | [] => rfl
  | k :: ks => by
    show (true && PySem.PyData.canLayAll0 (ks.map PyData.int)) = true
    rw [lay_ints ks]
    rfl
theorem depth_ints : ∀ ks : List Int, PySem.PyData.depthAll (ks.map PyData.int) = 0
  | [] => rfl
  | x :: r => by
    show max (PySem.PyData.depth (.int x)) (PySem.PyData.depthAll (r.map PyData.int)) = 0
    rw [depth_ints r]
    rfl
theorem lay_pl {p : Pl} (h : isW p.1 = true) : (pdPl p).canLay0 = true := by
  show (PySem.PyData.strOk p.1 && PySem.PyData.canLayAll0 (p.2.map PyData.int)) = true
  rw [isW_ok h, lay_ints]
  rfl
theorem depth_pl (p : Pl) : (pdPl p).depth = 1 := by
  show max (PySem.PyData.depth (.str p.1)) (PySem.PyData.depthAll (p.2.map PyData.int)) + 1 = 1
  rw [depth_ints]
  rfl
theorem shaped_pl {p : Pl} (h : isW p.1 = true) : SeqAt.shaped (pdPl p) = true := shaped_of (lay_pl h) (by rw [depth_pl]; decide)
theorem eqv_ints : ∀ a b : List Int, PySem.PyData.eqvAll (a.map PyData.int) (b.map PyData.int) = decide (a = b)
  | [], [] => rfl
  | [], _ :: _ => rfl
  | _ :: _, [] => rfl
  | x :: a, y :: b => by
    show (PyData.eqv (.int x) (.int y) && PySem.PyData.eqvAll (a.map PyData.int) (b.map PyData.int)) = _
    rw [eqv_ints a b]
    show (decide (x = y) && decide (a = b)) = _
    by_cases c : x = y
    · by_cases d : a = b
      · rw [decide_eq_true c, decide_eq_true d, decide_eq_true (by rw [c, d])]; rfl
      · rw [decide_eq_true c, decide_eq_false d, decide_eq_false (fun z => d (List.cons.inj z).2)]; rfl
    · rw [decide_eq_false c, decide_eq_false (fun z => c (List.cons.inj z).1)]; rfl
theorem eqv_pl (p q : Pl) : PyData.eqv (pdPl p) (pdPl q) = decide (p = q) := by
  show (PyData.eqv (.str p.1) (.str q.1) && PySem.PyData.eqvAll (p.2.map PyData.int) (q.2.map PyData.int)) = _
  rw [eqv_ints]
  show (decide (p.1 = q.1) && decide (p.2 = q.2)) = _
  by_cases c : p.1 = q.1
  · by_cases d : p.2 = q.2
    · rw [decide_eq_true c, decide_eq_true d, decide_eq_true (Prod.ext c d)]; rfl
    · rw [decide_eq_true c, decide_eq_false d, decide_eq_false (fun z => d (by rw [z]))]; rfl
  · rw [decide_eq_false c, decide_eq_false (fun z : p = q => c (congrArg Prod.fst z)), Bool.false_and]
theorem filter_one : ∀ {as : List Ak} {a : Ak}, (as.map (·.1)).Nodup → a ∈ as → as.filter (fun x => decide (x.1 = a.1)) = [a]
  | [], _, _, h => nomatch h
  | x :: as, a, nd, h => by
    obtain ⟨n1, n2⟩ := List.nodup_cons.mp nd
    rcases List.mem_cons.mp h with z | z
    · subst z
      rw [List.filter_cons_of_pos (by exact decide_eq_true rfl), List.filter_eq_nil_iff.mpr]
      intro y hy c
      exact n1 (List.mem_map.mpr ⟨y, hy, of_decide_eq_true c⟩)
    · rw [List.filter_cons_of_neg, filter_one n2 z]
      intro c
      have e : x.1 = a.1 := of_decide_eq_true c
      exact n1 (List.mem_map.mpr ⟨a, z, e.symm⟩)
theorem Row.head {A : List Ak} {f g : Str} {a : Ak} {r : List Ak} (h : Row A f (a :: r) g) : a.1.1 = f ∧ a ∈ A ∧ Row A a.2.1 r g := by
  cases h with
  | cons m k => exact ⟨rfl, m, k⟩
theorem asksB_er {es : List TEr} {a : Ak} (h : a ∈ asksB es) : ∃ e ∈ es, a ∈ asksE e ∧ e.1 = a.1.1 := by
  obtain ⟨l, hl, hb2⟩ := List.mem_flatten.mp h
  obtain ⟨e2, he2, rfl⟩ := List.mem_map.mp hl
  exact ⟨e2, he2, hb2, (asksE_nm hb2).1.symm⟩
section
variable {P : Program} {w : World} {K : PySem.W.Frag} {mg : Str → Option Value} {base : Heap}
/-! ### _law_asks -/
def spLAsks : Sp := fun vs H Q _ => ∃ (p : Addr) (es : List TEr) (us : List V), vs = [.ref p] ∧ TBkAt H es us p ∧ es.length ≤ 6 ∧ (es.map (·.1)).Nodup ∧ (∀ e ∈ es, pcnt e.2.2 ≤ 31) ∧
  ∀ D H' kvs, H D = none → Same H H' → H' D = some (.dK kvs) → LaL H' es kvs → Q (.ref D) H'
abbrev s_law_asks : Stmt := top 66
theorem scLasks : FnScope ["turned", "found", "name", "names", "body", "place", "part"] ["turned"] (defScope s_law_asks) := ⟨rfl, rfl, rfl, by decide +kernel, rfl, by decide +kernel, by decide +kernel⟩
theorem ok_lasks (T : Txt K mg) {f f1 : Addr} {fd d1 : FuncData} (F : Fun K "_law_asks" "_law_asks" s_law_asks f fd)
    (G_law_all : FnOk P w K mg base CX0 32 f1 d1 ["part", "place"] (spLAll 31)) (R_law_all : Ref K mg "_law_all" f1 d1 ["part", "place"]) : FnOk P w K mg base CX0 33 f fd ["turned"] spLAsks := by
  refine F.ok scLasks (fun vs H Q E h => ?_) (fun cdv A outer s H vs Q E hr h => ?_)
  · obtain ⟨p, es, us, rfl, _⟩ := h
    rfl
  obtain ⟨p, es, us, rfl, hB, hl6, hnd, hcn, q⟩ := h
  refine ⟨_, (pss_cons (ps_set (i := 1) scLasks.nd rfl (Or.inl rfl) pe_dnewK)
    (pss_cons (ps_for PassesOwn.never rfl (pi_tup (pv 0)) (pg_tup rfl (pgs_cons (pg_name (i := 2) scLasks.nd rfl (Or.inl rfl)) (pgs_cons (pg_name (i := 3) scLasks.nd rfl (Or.inl rfl)) (pgs_cons (pg_name (i := 4) scLasks.nd rfl (Or.inl rfl)) pgs_nil)))) (pss_cons (ps_dput (hu_of hr) (pv 1) (pv 2) (pe_lst pa_nil) rfl)
    (pss_one (ps_for PassesOwn.never rfl (pi_list (pe_call G_law_all (hr.mono (by omega)) rfl R_law_all.m R_law_all.k R_law_all.b .nil pass0 (pa_cons (pv 4) (pa_cons (pe_tup (pa_cons (pv 2) pa_nil)) pa_nil)))) (pg_tup rfl (pgs_cons (pg_name (i := 5) scLasks.nd rfl (Or.inl rfl)) (pgs_cons (pg_name (i := 6) scLasks.nd rfl (Or.inl rfl)) pgs_nil))) (pss_one (ps_if (pt_cmpR op_eq (pe_ix ix_tup (pv 6) pe_int (fun _ _ => rfl)) pe_str (nomark _)) (pss_one (ps_expr (pe_bm PySem.F.plainAttrs_list PySem.F.slot_list_append PySem.F.type_list_append mt_append (pe_dget (hu_of hr) (pv 1) (pv 2) (fun _ _ => rfl)) (pa_cons (pe_tup (pa_cons (pv 5) (pa_cons (pe_ix ix_tup (pv 6) pe_int (fun _ _ => rfl)) (pa_cons (pe_callTy call_int1 (by rfl) T.m_int (by decide +kernel) (pa_cons (pe_cmpR op_ne (pe_ix ix_tup (pv 6) pe_int (fun _ _ => rfl)) pe_str (nomark _)) pa_nil)) pa_nil)))) pa_nil)))) pss_nil))))))
    (pss_one (ps_ret (pv 1))))), ?_⟩
  refine fun D hD => ?_
  have s0 := same_new hD (.dK [])
  refine ⟨_, rfl, p, rfl, ⟨_, SqT.of (s0 _ _ hB.1)⟩, for_tup (xs := us) (fun i σ H' => ∃ (o2 o3 o4 o5 o6 : Option V) (kvs : List (L2.Key × V)), σ = [some (.ref p), some (.ref D), o2, o3, o4, o5, o6] ∧ Same H H' ∧ H' D = some (.dK kvs) ∧ LaL H' (es.take i) kvs) ⟨_, _, _, _, _, [], rfl, s0, upd_same, by rw [List.take_zero]; exact trivial⟩ ?_ ?_ ?_⟩
  · rintro i σ H' _ ⟨o2, o3, o4, o5, o6, kvs, rfl, s1, _⟩
    exact SqT.of (s1 _ _ hB.1)
  · rintro i x σ H1 hx ⟨o2, o3, o4, o5, o6, kvs, rfl, s1, h1, k1⟩
    obtain ⟨e, he, qa, r, b, rfl, g1, g2, g3⟩ := hB.2.get hx
    have hem := mem_of_get he
    obtain ⟨hi, hei⟩ := List.getElem?_eq_some_iff.mp he
    refine ⟨qa, _, rfl, SqT.of (s1 _ _ g1), rfl, _, _, rfl, _, _, rfl, _, _, rfl, rfl, ?_⟩
    refine ⟨sz (by show 0 ≤ 100000; decide), fun nl hnl => ?_⟩
    have sN := same_new hnl (.lst [])
    have hk6 := k1.len
    rw [List.length_take] at hk6
    have nD : nl ≠ D := fun z => by rw [z, h1] at hnl; cases hnl
    have hnew : (.inr e.1 : L2.Key) ∉ kvs.map (·.1) := by
      rw [k1.keys]
      intro z
      obtain ⟨y, hy, ey⟩ := List.mem_map.mp z
      have ey' : y.1 = e.1 := Sum.inr.inj ey
      obtain ⟨k, hk, e3⟩ := List.getElem_of_mem hy
      rw [List.getElem_take] at e3
      rw [List.length_take] at hk
      refine List.pairwise_iff_getElem.mp hnd k i (by rw [List.length_map]; omega) (by rw [List.length_map]; exact hi) (by omega) ?_
      rw [List.getElem_map, List.getElem_map, e3, hei, ey']
    refine ⟨_, rfl, _, rfl, D, _, rfl, DPut.k (k := .inr e.1) (sN _ _ h1) (Nat.lt_of_le_of_lt (m := 6) (by omega) (by decide)), ?_⟩
    rw [putK_new hnew]
    have hN2 : (upd (upd H1 nl (.lst [])) D (.dK (kvs ++ [((.inr e.1 : L2.Key), .ref nl)]))) nl = some (.lst []) := by rw [upd_ne nD]; exact upd_same
    have hD2 : (upd (upd H1 nl (.lst [])) D (.dK (kvs ++ [((.inr e.1 : L2.Key), .ref nl)]))) D = some (.dK (kvs ++ [((.inr e.1 : L2.Key), .ref nl)])) := upd_same
    have f2 : ∀ y o, y ≠ D → H1 y = some o → (upd (upd H1 nl (.lst [])) D (.dK (kvs ++ [((.inr e.1 : L2.Key), .ref nl)]))) y = some o := fun y o n h => by rw [upd_ne n]; exact sN _ _ h
    generalize upd (upd H1 nl (.lst [])) D (.dK (kvs ++ [((.inr e.1 : L2.Key), .ref nl)])) = H2 at hN2 hD2 f2
    have tk12 : TK H1 H2 := fun y xs h => f2 y _ (fun z => by rw [z, h1] at h; cases h) h
    refine ⟨_, rfl, _, rfl, sz (by show 1 ≤ 100000; decide), fun pl hpl => ?_⟩
    have s3 := same_new hpl (.tup [.str e.1])
    refine ⟨b, pl, e.2.2, [.str e.1], rfl, ((g3.tk (tk_same s1)).tk tk12).tk (tk_same s3), hcn e hem, Nat.le_trans (hcn e hem) (by decide), upd_same, by show 1 + 30 ≤ 2000; decide, fun L H4 its hL s4 h4 k4 => ?_⟩
    have s34 := s3.trans s4
    have hN4 := s34 _ _ hN2
    have hD4 := s34 _ _ hD2
    have nLn : L ≠ nl := fun z => by rw [z, s3 _ _ hN2] at hL; cases hL
    have hal : its.length = pcnt e.2.2 := k4.len.trans (allP_len _)
    have hpc := hcn e hem
    refine ⟨L, rfl, ⟨_, SqL.of h4⟩, for_list (K := K) (a := L) (xs := its) (fun j σ H' => ∃ (o5 o6 : Option V) (vs : List V), σ = [some (.ref p), some (.ref D), some (.str e.1), some (.ref r), some (.ref b), o5, o6] ∧ (∀ y o, y ≠ nl → H4 y = some o → H' y = some o) ∧ H' nl = some (.lst vs) ∧ All2 (AtV H') (((allP e.2.2).take j).filterMap (akP e.1)) vs ∧ vs.length ≤ j) ⟨_, _, [], rfl, fun _ _ _ h => h, hN4, by rw [List.take_zero]; exact trivial, Nat.le_refl _⟩ ?_ ?_ ?_⟩
    · rintro j σ H' _ ⟨o5, o6, vs, rfl, b5, _⟩
      exact SqL.of (b5 _ _ nLn h4)
    · rintro j x σ H5 hx ⟨o5, o6, vs, rfl, b5, h5, k5, l5⟩
      obtain ⟨en, hen, q2, r2, b2, rfl, e1, e2, e3⟩ := k4.get hx
      obtain ⟨hj, hj2⟩ := List.getElem?_eq_some_iff.mp hen
      rw [allP_len] at hj
      have tk5 : TK H4 H5 := fun y xs h => b5 y _ (fun z => by rw [z, hN4] at h; cases h) h
      have e1' := tk5 _ _ e1
      have e2' : H5 r2 = some (.tup (.str e.1 :: en.1.map V.int)) := tk5 _ _ e2
      have e3' := PAt.tk tk5 e3
      refine ⟨q2, _, rfl, SqT.of e1', rfl, _, _, rfl, _, _, rfl, rfl, ?_⟩
      have step : ((allP e.2.2).take (j + 1)).filterMap (akP e.1) = ((allP e.2.2).take j).filterMap (akP e.1) ++ [en].filterMap (akP e.1) := by
        rw [List.take_succ_eq_append_getElem (by rw [allP_len]; exact hj), hj2, List.filterMap_append]
      obtain ⟨rr, hh⟩ := e3'.head
      refine ⟨_, rfl, b2, _, _, _, rfl, rfl, SqT.of hh, at0, rfl, _, rfl, ?_⟩
      refine ite2 (fun c => ?_) (fun c => ?_)
      · obtain ⟨g, ts, jj, hn⟩ := hsP_ask (V.str.inj (of_decide_eq_true c))
        obtain ⟨ks, nd⟩ := en
        dsimp only at hn e2' e3'
        subst hn
        obtain ⟨tb, tvs, t1, t2, t3⟩ : PAt H5 (.ask g ts jj) b2 := e3'
        have hak : [((ks, Pt.ask g ts jj) : List Int × Pt)].filterMap (akP e.1) = [((e.1, ks), g, if jj = "home" then 0 else 1)] := rfl
        rw [hak] at step
        have hD5 := b5 _ _ nD.symm hD4
        refine ⟨_, rfl, _, rfl, D, .ref nl, rfl, by rw [← valV_snoc (v := .ref nl) hnew]; exact DGet.k (k := .inr e.1) hD5, .inl ⟨rfl, _, SqL.of h5⟩, _, rfl, _, rfl, b2, _, _, _, rfl, rfl, SqT.of t1, at1, _, rfl, b2, _, _, _, rfl, rfl, SqT.of t1, at3, rfl, .inr ⟨_, rfl, ?_⟩⟩
        refine ⟨sz (by show 3 ≤ 100000; decide), fun tt htt => ?_⟩
        have ew : (if (!decide (V.str jj = V.str "home")) = true then (1 : Int) else 0) = ((if jj = "home" then 0 else 1 : Nat) : Int) := by
          by_cases z : jj = "home"
          · rw [if_pos z, decide_eq_true (by rw [z])]; rfl
          · rw [if_neg z, decide_eq_false (fun y => z (V.str.inj y))]; rfl
        have s6 := same_new htt (.tup [.ref r2, .str g, .int (if (!decide (V.str jj = V.str "home")) = true then (1 : Int) else 0)])
        have h6 := s6 _ _ h5
        refine ⟨nl, _, _, rfl, rfl, h6, Nat.lt_of_le_of_lt (m := 100) (by omega) (by decide), _, _, vs ++ [.ref tt], rfl, fun y o n h => ?_, upd_same, ?_, by rw [List.length_append, List.length_singleton]; omega⟩
        · rw [upd_ne n]
          exact s6 _ _ (b5 y o n h)
        · rw [step]
          refine (k5.imp fun _ _ z => (z.tk (tk_same s6)).tk (tk_put h6)).app ⟨⟨tt, r2, rfl, ?_, tk_put h6 _ _ (s6 _ _ e2')⟩, trivial⟩
          refine (tk_put h6 _ _ upd_same).trans ?_
          rw [ew]
      · refine ⟨_, _, vs, rfl, b5, h5, ?_, by omega⟩
        rw [step]
        have : akP e.1 en = none := by
          obtain ⟨ks, nd⟩ := en
          cases nd with
          | ask g ts jj =>
            obtain ⟨tb, tvs, t1, _⟩ : PAt H5 (.ask g ts jj) b2 := e3'
            rw [t1] at hh
            cases hh
            exact absurd (decide_eq_true rfl) c
          | _ => rfl
        rw [show [en].filterMap (akP e.1) = [] by rw [List.filterMap_cons, this]; rfl, List.append_nil]
        exact k5
    · rintro σ H5 ⟨o5, o6, vs, rfl, b5, h5, k5, l5⟩
      rw [hal, ← allP_len, List.take_length, ← asksE_same] at k5
      have l15 : ∀ l vs', H1 l = some (.lst vs') → H5 l = some (.lst vs') := fun l vs' h => b5 _ _ (fun z => by rw [z, hnl] at h; cases h) (s34 _ _ (f2 _ _ (fun z => by rw [z, h1] at h; cases h) h))
      have t15 : TK H1 H5 := fun l vs' h => b5 _ _ (fun z => by rw [z, hnl] at h; cases h) (s34 _ _ (f2 _ _ (fun z => by rw [z, h1] at h; cases h) h))
      have hnlH : H nl = none := by
        cases ee : H nl with
        | none => rfl
        | some o => rw [s1 _ _ ee] at hnl; cases hnl
      refine ⟨_, _, _, _, _, kvs ++ [((.inr e.1 : L2.Key), .ref nl)], rfl, fun y o hy => b5 _ _ (ne_of_none hy hnlH) (s34 _ _ (f2 _ _ (ne_of_none hy hD) (s1 _ _ hy))), b5 _ _ nD.symm hD4, ?_⟩
      rw [List.take_succ_eq_append_getElem hi, hei]
      exact (k1.mono l15 t15).app ⟨rfl, nl, vs, rfl, h5, k5⟩
  · rintro σ H1 ⟨o2, o3, o4, o5, o6, kvs, rfl, s1, h1, k1⟩
    rw [hB.2.len, List.take_length] at k1
    exact ⟨_, rfl, q D H1 kvs hD s1 h1 k1⟩
/-! ### _law_row_end -/
abbrev s_law_row_end : Stmt := top 67
theorem scLrow_end : FnScope ["asks", "f", "row", "weight", "place", "some", "ask"] ["asks", "f", "row"] (defScope s_law_row_end) := ⟨rfl, rfl, rfl, by decide +kernel, rfl, by decide +kernel, by decide +kernel⟩
def spRowEnd : Sp := fun vs H Q _ => ∃ (D L : Addr) (es : List TEr) (kvs : List (L2.Key × V)) (f g : Str) (r : List Ak) (vs' : List V), vs = [.ref D, .str f, .ref L] ∧ H D = some (.dK kvs) ∧ LaL H es kvs ∧ (es.map (·.1)).Nodup ∧ (∀ e ∈ es, isW e.1 = true ∧ (asksE e).length ≤ 300) ∧ (∀ a ∈ asksB es, isW a.2.1 = true) ∧ H L = some (.lst vs') ∧ All2 (PlcV H) (r.map (·.1)) vs' ∧ Row (asksB es) f r g ∧
  ∀ t H', Same H H' → H' t = some (.tup [.str g, .int (wtR r : Int)]) → Q (.ref t) H'
theorem ok_rowend {f : Addr} {fd : FuncData} (F : Fun K "_law_row_end" "_law_row_end" s_law_row_end f fd) : FnOk P w K mg base CX0 1 f fd ["asks", "f", "row"] spRowEnd := by
  refine F.ok scLrow_end (fun vs H Q E h => ?_) (fun cdv A outer s H vs Q E hr h => ?_)
  · obtain ⟨D, L, es, kvs, f, g, r, vs', rfl, _⟩ := h
    rfl
  obtain ⟨D, L, es, kvs, f, g, r, vs', rfl, hD, hk, hnd, hw, hwa, hL, hv, hrow, q⟩ := h
  refine ⟨_, (pss_cons (ps_set (i := 3) scLrow_end.nd rfl (Or.inl rfl) pe_int)
    (pss_cons (ps_for PassesOwn.never rfl (pi_list (pv 2)) (pg_name (i := 4) scLrow_end.nd rfl (Or.inr rfl)) (pss_cons (ps_setLc (i := 5) (own := [("ask", 6)]) (g := gName 6) (tt := tTest (tOp (rEqD K) (tOp (rIxT K) (tVar 6) (tC (.int 0))) (tVar 4))) (te := tVar 6) (by rfl) scLrow_end.nd rfl rfl (sw_true rfl rfl rfl (by decide +kernel)) (pi_list (pe_dget (hu_of hr) (pv 0) (pv 1) (fun _ _ => rfl))) (blkOk_by (own := [("ask", 6)]) (N := ["asks", "f", "row", "weight", "place", "some", "ask"]) (sc := defScope s_law_row_end) (by decide +kernel)) (fun _ _ _ _ _ => (pg_name (i := 6) scLrow_end.nd rfl (Or.inl rfl))) (fun _ _ _ _ _ => (pts_one (pt_cmpR (op_eqD hr.units) (pe_ix ix_tup (pv 6) pe_int (fun _ _ => rfl)) (pv 4) (nomark _)))) (fun _ _ _ _ _ => (pv 6)))
    (pss_cons (ps_if (pt_cmpR (op_eqD hr.units) (pv 5) (pe_lst pa_nil) (nomark _)) (pss_one (ps_ret (pe_tup (pa_cons pe_non (pa_cons pe_int pa_nil))))) pss_nil)
    (pss_cons (ps_set (i := 1) scLrow_end.nd rfl (Or.inl rfl) (pe_ix ix_tup (pe_ix ix_list (pv 5) pe_int (fun _ _ => rfl)) pe_int (fun _ _ => rfl)))
    (pss_one (ps_set (i := 3) scLrow_end.nd rfl (Or.inl rfl) (pe_op op_add (pv 3) (pe_ix ix_tup (pe_ix ix_list (pv 5) pe_int (fun _ _ => rfl)) pe_int (fun _ _ => rfl)))))))))
    (pss_one (ps_ret (pe_tup (pa_cons (pv 1) (pa_cons (pv 3) pa_nil))))))), ?_⟩
  refine ⟨_, rfl, L, rfl, ⟨_, SqL.of hL⟩, for_list (K := K) (a := L) (xs := vs') (fun i σ H' => ∃ (f' : Str) (o4 o5 o6 : Option V), σ = [some (.ref D), some (.str f'), some (.ref L), some (.int (wtR (r.take i) : Int)), o4, o5, o6] ∧ Same H H' ∧ Row (asksB es) f' (r.drop i) g) ⟨f, _, _, _, rfl, Same.refl _, hrow⟩ ?_ ?_ ?_⟩
  · rintro i σ H' _ ⟨f', o4, o5, o6, rfl, s1, _⟩
    exact SqL.of (s1 _ _ hL)
  · rintro i x σ H1 hx ⟨f', o4, o5, o6, rfl, s1, hrow1⟩
    obtain ⟨pl, hpl, qb, rfl, hq⟩ := hv.get hx
    rw [List.getElem?_map] at hpl
    obtain ⟨a, ha, rfl⟩ := Option.map_eq_some_iff.mp hpl
    obtain ⟨hi, hai⟩ := List.getElem?_eq_some_iff.mp ha
    rw [List.drop_eq_getElem_cons hi, hai] at hrow1
    obtain ⟨ef, ham, hrow2⟩ := hrow1.head
    obtain ⟨e, he, hae, hen⟩ := asksB_er ham
    obtain ⟨kv, hval, hk1, l, vl, hkv2, hl, hla⟩ := (hk.mono (fun l vs h => s1 _ _ h) (tk_same s1)).there hnd he
    have hen' : e.1 = f' := hen.trans ef
    rw [hen', hkv2] at hval
    have hD1 := s1 _ _ hD
    obtain ⟨hwe, hle⟩ := hw e he
    have hvll := hla.len
    refine ⟨_, rfl, _, rfl, D, .ref l, rfl, by rw [← hval]; exact DGet.k (k := .inr f') hD1, l, rfl, ⟨_, SqL.of hl⟩, fun D2 hD2 => lc_list (K := K) (a := l) (xs := vl) (fun j H' => ∃ vs2, Same H1 H' ∧ H' D2 = some (.lst vs2) ∧ All2 (AtV H') (((asksE e).take j).filter fun x => decide (x.1 = a.1)) vs2 ∧ vs2.length ≤ j) ⟨[], same_new hD2 _, upd_same, by rw [List.take_zero]; exact trivial, Nat.le_refl _⟩ ?_ ?_ ?_⟩
    · rintro j H' _ ⟨vs2, s2, _⟩
      exact SqL.of (s2 _ _ hl)
    · rintro j x H2 hx2 ⟨vs2, s2, h2, k2, l2⟩
      obtain ⟨b, hb, hbv⟩ := hla.get hx2
      obtain ⟨hj, hbj⟩ := List.getElem?_eq_some_iff.mp hb
      obtain ⟨tb, qc, rfl, hb1, hb2⟩ := hbv.tk (tk_same s2)
      have hbw : isW b.1.1 = true := by rw [(asksE_nm (mem_of_get hb)).1]; exact hwe
      have haw : isW a.1.1 = true := by rw [← hen]; exact hwe
      refine ⟨rfl, ?_⟩
      refine ⟨_, rfl, tb, _, _, _, rfl, rfl, SqT.of hb1, at0, _, rfl, pdPl b.1, pdPl a.1, dp_pl hb2, dp_pl (s2 _ _ (s1 _ _ hq)), shaped_pl hbw, shaped_pl haw, _, rfl, ?_⟩
      rw [eqv_pl, List.take_succ_eq_append_getElem hj, hbj, List.filter_append]
      by_cases c : b.1 = a.1
      · refine itT (decide_eq_true c) ⟨_, rfl, vs2, h2, Nat.lt_of_le_of_lt (m := 300) (by omega) (by decide), vs2 ++ [.ref tb], same_mut s2 hD2, upd_same, ?_, by rw [List.length_append, List.length_singleton]; omega⟩
        rw [show [b].filter (fun x => decide (x.1 = a.1)) = [b] from List.filter_cons_of_pos (by exact decide_eq_true c)]
        exact (k2.imp fun _ _ z => z.tk (tk_put h2)).app ⟨⟨tb, qc, rfl, tk_put h2 _ _ hb1, tk_put h2 _ _ hb2⟩, trivial⟩
      · refine itF (decide_eq_false c) ⟨vs2, s2, h2, ?_, by omega⟩
        rw [show [b].filter (fun x => decide (x.1 = a.1)) = [] from List.filter_cons_of_neg (by show ¬ decide _ = true; rw [decide_eq_false c]; exact Bool.false_ne_true), List.append_nil]
        exact k2
    · rintro H2 ⟨vs2, s2, h2, k2, _⟩
      rw [hvll, List.take_length, filter_one (asksE_nd e) hae] at k2
      obtain ⟨v2, vr, rfl⟩ : ∃ v vr, vs2 = v :: vr := by
        cases vs2 with
        | nil => exact k2.elim
        | cons v vr => exact ⟨v, vr, rfl⟩
      obtain ⟨⟨tt, qd, rfl, ht1, ht2⟩, hvr⟩ := k2
      cases vr with
      | cons _ _ => exact hvr.elim
      | nil =>
      have haw : isW a.1.1 = true := by rw [← hen]; exact hwe
      refine ⟨_, rfl, sz (by show 0 ≤ 100000; decide), fun p0 hp0 => ?_⟩
      have s3 := same_new hp0 (.lst [])
      have dpt : Dp K (upd H2 p0 (.lst [])) (.ref D2) (.list [.tuple [pdPl a.1, .str a.2.1, .int (a.2.2 : Int)]]) := .lst (SqL.of (s3 _ _ h2)) (.cons (.tup (SqT.of (s3 _ _ ht1)) (.cons (dp_pl (s3 _ _ ht2)) (.cons (.str _) (.cons (.int _) .nil)))) .nil)
      have shp : SeqAt.shaped (.list [.tuple [pdPl a.1, .str a.2.1, .int (a.2.2 : Int)]]) = true := by
        refine shaped_of ?_ ?_
        · show (((pdPl a.1).canLay0 && (PySem.PyData.strOk a.2.1 && true)) && true) = true
          rw [lay_pl haw, isW_ok (hwa a ham)]
          rfl
        · show max (max (pdPl a.1).depth 0 + 1) 0 + 1 ≤ 64
          rw [depth_pl]
          decide
      refine ⟨_, _, dpt, .lst (SqL.of upd_same) .nil, shp, rfl, _, rfl, itF rfl ?_⟩
      have h3 := s3 _ _ h2
      have ht3 := s3 _ _ ht1
      refine ⟨_, rfl, D2, _, _, _, rfl, rfl, SqL.of h3, at0, tt, _, _, _, rfl, rfl, SqT.of ht3, at1, ?_⟩
      refine ⟨_, rfl, _, rfl, D2, _, _, _, rfl, rfl, SqL.of h3, at0, tt, _, _, _, rfl, rfl, SqT.of ht3, at2, _, _, rfl, rfl, ?_⟩
      have ew : ((wtR (r.take (i + 1)) : Nat) : Int) = (wtR (r.take i) : Int) + (a.2.2 : Int) := by
        rw [List.take_succ_eq_append_getElem hi, hai, wtR_app]
        show (((wtR (r.take i) + (a.2.2 + 0) : Nat)) : Int) = _
        omega
      refine ⟨a.2.1, some (.ref qb), some (.ref D2), o6, ?_, (s1.trans s2).trans s3, hrow2⟩
      rw [ew]
      rfl
  · rintro σ H1 ⟨f', o4, o5, o6, rfl, s1, hrow1⟩
    have hlen := hv.len
    rw [List.length_map] at hlen
    rw [hlen, List.drop_length] at hrow1
    rw [hlen, List.take_length]
    have efg : f' = g := by
      cases hrow1
      rfl
    refine ⟨_, rfl, _, rfl, sz (by show 2 ≤ 100000; decide), fun t ht => ?_⟩
    have s2 := same_new ht (.tup [.str f', .int (wtR r : Int)])
    exact q t _ (s1.trans s2) (by rw [upd_same, efg])
end
end KB

set_option pp.maxSteps 400
namespace KB
open PySem L2 HT LamX NdefX

theorem tabs_but {T : List (Addr × Str)} {H H' : Hp} {tp : Addr} (t : Tabs T H) (h : Tp H tp) (b : But1 tp H H') : Tabs T H' := fun p hp => by
  obtain ⟨z, hz⟩ := h
  obtain ⟨ps, h1, h2, h3⟩ := t p hp
  refine ⟨ps, b _ _ (ne_of h1 hz (fun z => nomatch z)) h1, h2, fun pos cv hc => ?_⟩
  obtain ⟨c, e1, e2⟩ := h3 pos cv hc
  exact ⟨c, e1, b _ _ (ne_of e2 hz (fun z => by unfold CodeO at z; cases z)) e2⟩
theorem ix_but {CR tp : Addr} {H H1 H2 : Hp} (h0 : H tp = none) (s : Ix CR H H1) (b : But1 tp H1 H2) (t : Tp H2 tp) : Ix CR H H2 :=
  ⟨fun a o ha n m => b a o (ne_of_none ha h0) (s.1 a o ha n m), fun a ha => s.2 a (by
    cases e : H1 a with
    | none => rfl
    | some o =>
      exfalso
      by_cases c : a = tp
      · obtain ⟨z, hz⟩ := t
        rw [c, hz] at ha
        cases ha
      · rw [b a o c e] at ha
        cases ha)⟩
theorem rP_asks {hd : Str → Option Nat} : ∀ {p : Pt} {xs js : List Str}, rP hd p xs js → ∀ x ∈ allP p, ∀ g ts j, x.2 = .ask g ts j → isW g = true
  | .give _ _, _, _, _, x, hx, g, ts, j, e => by
    rw [List.mem_singleton.mp hx] at e
    cases e
  | .ask f ts0 j0, _, _, h, x, hx, g, ts, j, e => by
    rw [List.mem_singleton.mp hx] at e
    cases e
    exact h.2.1
  | .tell _ _ p, _, _, h, x, hx, g, ts, j, e => by
    rcases List.mem_cons.mp hx with z | z
    · rw [z] at e; cases e
    · rw [List.append_nil] at z
      obtain ⟨y, hy, rfl⟩ := List.mem_map.mp z
      exact rP_asks (p := p) h.2.2 y hy g ts j e
  | .lett _ _ p, _, _, h, x, hx, g, ts, j, e => by
    rcases List.mem_cons.mp hx with z | z
    · rw [z] at e; cases e
    · rw [List.append_nil] at z
      obtain ⟨y, hy, rfl⟩ := List.mem_map.mp z
      exact rP_asks (p := p) h.2.2 y hy g ts j e
  | .iff _ p q, _, _, h, x, hx, g, ts, j, e => by
    rcases List.mem_cons.mp hx with z | z
    · rw [z] at e; cases e
    · rw [List.append_nil] at z
      rcases List.mem_append.mp z with z | z
      · obtain ⟨y, hy, rfl⟩ := List.mem_map.mp z
        exact rP_asks (p := p) h.2.1 y hy g ts j e
      · obtain ⟨y, hy, rfl⟩ := List.mem_map.mp z
        exact rP_asks (p := q) h.2.2 y hy g ts j e
  | .post _ _ p q, _, _, h, x, hx, g, ts, j, e => by
    rcases List.mem_cons.mp hx with z | z
    · rw [z] at e; cases e
    · rw [List.append_nil] at z
      rcases List.mem_append.mp z with z | z
      · obtain ⟨y, hy, rfl⟩ := List.mem_map.mp z
        exact rP_asks (p := p) h.2.2.1 y hy g ts j e
      · obtain ⟨y, hy, rfl⟩ := List.mem_map.mp z
        exact rP_asks (p := q) h.2.2.2 y hy g ts j e
theorem WB.as {hd : Str → Option Nat} {es : List TEr} (w : WB hd es) : ∀ a ∈ asksB es, isW a.2.1 = true := fun a ha => by
  obtain ⟨e, he, hae, _⟩ := asksB_er ha
  rw [asksE_same] at hae
  obtain ⟨x, hx, hh⟩ := List.mem_filterMap.mp hae
  obtain ⟨ks, p⟩ := x
  cases p with
  | ask g ts j =>
    have : some (((e.1, ks), g, if j = "home" then 0 else 1) : Ak) = some a := hh
    cases this
    exact rP_asks (w.rt e he).ok _ hx g ts j rfl
  | _ => cases hh
theorem WB.ws {hd : Str → Option Nat} {es : List TEr} (w : WB hd es) : ∀ e ∈ es, isW e.1 = true ∧ (asksE e).length ≤ 300 := fun e he => ⟨(w.rt e he).w, by
  have h3 : (asksE e).length ≤ pcnt e.2.2 := by
    rw [asksE_same, ← allP_len]
    exact List.length_filterMap_le _ _
  have := w.cn e he
  omega⟩
theorem LaL.ix {CR : Addr} {H H' : Hp} (s : Ix CR H H') {es : List TEr} {kvs : List (L2.Key × V)} (h : LaL H es kvs) : LaL H' es kvs := h.mono (fun _ _ z => s.l z) s.tk
section
variable {P : Program} {w : World} {K : PySem.W.Frag} {mg : Str → Option Value} {base : Heap} {CR : Addr}
def spLawT (K : PySem.W.Frag) (TT : List (Addr × Str)) : Sp := fun vs H Q _ => ∃ (a : Addr) (ns : List Int), vs = [.ref a] ∧ SqL K H a (ns.map V.int) ∧ ns.length ≤ 63 ∧ Tabs TT H ∧ ∀ H', Q (.bl true) H'
abbrev slaw : Stmt := top 69
theorem sclaw : FnScope ["script", "turned", "asks", "tape", "name", "names", "body", "numbers", "most", "word", "row", "more", "weight"] ["script"] (defScope slaw) := ⟨rfl, rfl, rfl, by decide +kernel, rfl, by decide +kernel, by decide +kernel⟩
theorem ok_law (T : Txt K mg) {TT : List (Addr × Str)} {f f1 f2 f3 f4 f5 f6 f7 f8 f9 : Addr} {fd d1 d2 d3 d4 d5 d6 d7 d8 d9 : FuncData} (F : Fun K "law" "law" slaw f fd)
    (G_law_waits_book : FnOk P w K mg base CX0 18 f1 d1 ["script", "tape"] (spWaits K)) (R_law_waits_book : Ref K mg "_law_waits_book" f1 d1 ["script", "tape"])
    (G_law_tape : FnOk P w K mg base CX0 2 f2 d2 ["script", "k"] (spTape K)) (R_law_tape : Ref K mg "_law_tape" f2 d2 ["script", "k"]) (G_law_digit : FnOk P w K mg base CX0 1 f3 d3 ["tape", "many"] spDig) (R_law_digit : Ref K mg "_law_digit" f3 d3 ["tape", "many"])
    (G_law_numbers : FnOk P w K mg base CX0 2 f4 d4 ["tape", "many"] spNums) (R_law_numbers : Ref K mg "_law_numbers" f4 d4 ["tape", "many"])
    (Grun_turned : FnOk P w K mg base (L2.CX P w) 17 f5 d5 ["turned", "f", "numbers", "most"] (spRunTd CR TT)) (Rrun_turned : Ref K mg "run_turned" f5 d5 ["turned", "f", "numbers", "most"])
    (G_law_turned_run : FnOk P w K mg base CX0 66 f6 d6 ["turned", "f", "numbers", "most"] spLRunT) (R_law_turned_run : Ref K mg "_law_turned_run" f6 d6 ["turned", "f", "numbers", "most"])
    (Gmost_waiting : FnOk P w K mg base CX0 5 f7 d7 ["turned", "f"] spMW) (Rmost_waiting : Ref K mg "most_waiting" f7 d7 ["turned", "f"])
    (G_law_asks : FnOk P w K mg base CX0 33 f8 d8 ["turned"] spLAsks) (R_law_asks : Ref K mg "_law_asks" f8 d8 ["turned"])
    (G_law_row_end : FnOk P w K mg base CX0 1 f9 d9 ["asks", "f", "row"] spRowEnd) (R_law_row_end : Ref K mg "_law_row_end" f9 d9 ["asks", "f", "row"]) : FnOk P w K mg base CX0 70 f fd ["script"] (spLawT K TT) := by
  refine F.ok sclaw (fun vs H Q E h => ?_) (fun cdv A outer s H vs Q E hr h => ?_)
  · obtain ⟨a, ns, rfl, _⟩ := h
    rfl
  obtain ⟨sc, ns, rfl, hS, hn63, hT, q⟩ := h
  refine ⟨_, (pss_cons (ps_set (i := 1) sclaw.nd rfl (Or.inl rfl) (pe_call G_law_waits_book (hr.mono (by omega)) rfl R_law_waits_book.m R_law_waits_book.k R_law_waits_book.b .nil pass0 (pa_cons (pv 0) (pa_cons (pe_call G_law_tape (hr.mono (by omega)) rfl R_law_tape.m R_law_tape.k R_law_tape.b .nil pass0 (pa_cons (pv 0) (pa_cons pe_int pa_nil))) pa_nil))))
    (pss_cons (ps_set (i := 2) sclaw.nd rfl (Or.inl rfl) (pe_call G_law_asks (hr.mono (by omega)) rfl R_law_asks.m R_law_asks.k R_law_asks.b .nil pass0 (pa_cons (pv 1) pa_nil)))
    (pss_cons (ps_set (i := 3) sclaw.nd rfl (Or.inl rfl) (pe_call G_law_tape (hr.mono (by omega)) rfl R_law_tape.m R_law_tape.k R_law_tape.b .nil pass0 (pa_cons (pv 0) (pa_cons pe_int pa_nil))))
    (pss_cons (ps_for PassesOwn.never rfl (pi_tup (pv 1)) (pg_tup rfl (pgs_cons (pg_name (i := 4) sclaw.nd rfl (Or.inl rfl)) (pgs_cons (pg_name (i := 5) sclaw.nd rfl (Or.inl rfl)) (pgs_cons (pg_name (i := 6) sclaw.nd rfl (Or.inl rfl)) pgs_nil)))) (pss_cons (ps_set (i := 7) sclaw.nd rfl (Or.inl rfl) (pe_call G_law_numbers (hr.mono (by omega)) rfl R_law_numbers.m R_law_numbers.k R_law_numbers.b .nil pass0 (pa_cons (pv 3) (pa_cons (pe_callB call_len_seq (by rfl) T.m_len PySem.boot_len (pa_cons (pv 5) pa_nil)) pa_nil))))
    (pss_cons (ps_set (i := 8) sclaw.nd rfl (Or.inl rfl) (pe_ix ix_list (pe_lst (pa_cons pe_int (pa_cons pe_int (pa_cons pe_int (pa_cons pe_int pa_nil))))) (pe_call G_law_digit (hr.mono (by omega)) rfl R_law_digit.m R_law_digit.k R_law_digit.b .nil pass0 (pa_cons (pv 3) (pa_cons pe_int pa_nil))) (fun _ _ => rfl)))
    (pss_cons (ps_asg (pe_call Gmost_waiting (hr.mono (by omega)) rfl Rmost_waiting.m Rmost_waiting.k Rmost_waiting.b .nil pass0 (pa_cons (pv 1) (pa_cons (pv 4) pa_nil))) (pg_tup rfl (pgs_cons (pg_name (i := 9) sclaw.nd rfl (Or.inl rfl)) (pgs_cons (pg_name (i := 10) sclaw.nd rfl (Or.inl rfl)) (pgs_cons (pg_name (i := 11) sclaw.nd rfl (Or.inl rfl)) pgs_nil)))))
    (pss_one (ps_if (pt_cmpR op_eq (pv 9) pe_str (nomark _)) (pss_cons (ps_set (i := 12) sclaw.nd rfl (Or.inl rfl) (pe_ix ix_tup (pe_call G_law_row_end (hr.mono (by omega)) rfl R_law_row_end.m R_law_row_end.k R_law_row_end.b .nil pass0 (pa_cons (pv 2) (pa_cons (pv 4) (pa_cons (pv 10) pa_nil)))) pe_int (fun _ _ => rfl)))
    (pss_cons (ps_if (pt_cmpR op_gt (pe_ix ix_tup (pe_call G_law_turned_run (hr.mono (by omega)) rfl R_law_turned_run.m R_law_turned_run.k R_law_turned_run.b .nil pass0 (pa_cons (pv 1) (pa_cons (pv 4) (pa_cons (pv 7) (pa_cons (pv 8) pa_nil))))) pe_int (fun _ _ => rfl)) (pv 12) (nomark _)) (pss_one (ps_ret pe_bl)) pss_nil)
    (pss_one (ps_if (pt_cmpR op_gt (pe_ix ix_tup (pe_call Grun_turned (hr.mono (by omega)) rfl Rrun_turned.m Rrun_turned.k Rrun_turned.b .nil passX (pa_cons (pv 1) (pa_cons (pv 4) (pa_cons (pv 7) (pa_cons (pv 8) pa_nil))))) pe_int (fun _ _ => rfl)) (pv 12) (nomark _)) (pss_one (ps_ret pe_bl)) pss_nil)))) pss_nil))))))
    (pss_one (ps_ret pe_bl)))))), ?_⟩
  refine ⟨_, rfl, _, rfl, sc, ns, 0, rfl, hS, by decide, by decide, fun tp0 z0 htp0 => ⟨sc, tp0, ns, H, rfl, hS, htp0, same_new htp0 _, ⟨z0, upd_same⟩, fun p es us H1 hd s1 hB hW => ?_⟩⟩
  have tabs1 := tabs_new hT s1
  have E0 := hW.tes
  refine ⟨_, rfl, p, es, us, rfl, hB, hW.l6, hW.nd, hW.cn, fun D H2 kvs hD s2 h2 k2 => ?_⟩
  have tabs2 := tabs_new tabs1 s2
  have hB2 : TBkAt H2 es us p := ⟨s2 _ _ hB.1, hB.2.imp fun _ _ z => z.tk (tk_same s2)⟩
  refine ⟨_, rfl, sc, ns, 7, rfl, (s1.trans s2).seq hS, by decide, by decide, fun tp z htp => ?_⟩
  have s3 := same_new htp (.lst [.int z])
  have t3 : Tp (upd H2 tp (.lst [.int z])) tp := ⟨z, upd_same⟩
  have x3 : Ix CR H2 (upd H2 tp (.lst [.int z])) := ix_same s3
  have tabs3 := tabs_new tabs2 s3
  generalize upd H2 tp (.lst [.int z]) = H3 at x3 t3 tabs3
  refine ⟨_, rfl, p, rfl, ⟨_, SqT.of (x3.t hB2.1)⟩, for_tup (xs := us) (fun i σ H' => ∃ (o4 o5 o6 o7 o8 o9 o10 o11 o12 : Option V), σ = [some (.ref sc), some (.ref p), some (.ref D), some (.ref tp), o4, o5, o6, o7, o8, o9, o10, o11, o12] ∧ Ix CR H2 H' ∧ Tp H' tp ∧ Tabs TT H') ⟨_, _, _, _, _, _, _, _, _, rfl, x3, t3, tabs3⟩ ?_ ?_ ?_⟩
  · rintro i σ H' _ ⟨o4, o5, o6, o7, o8, o9, o10, o11, o12, rfl, x, _⟩
    exact SqT.of (x.t hB2.1)
  · rintro i x σ H4 hx ⟨o4, o5, o6, o7, o8, o9, o10, o11, o12, rfl, x4, t4, tabs4⟩
    obtain ⟨e, he0, qa, ra, ba, rfl, g1, g2, g3⟩ := hB2.2.get hx
    have he := mem_of_get he0
    have h4 := hW.n4 e he
    refine ⟨qa, _, rfl, SqT.of (x4.t g1), rfl, _, _, rfl, _, _, rfl, _, _, rfl, rfl, ?_⟩
    have e4 : (e.2.1.map V.str).length = e.2.1.length := List.length_map ..
    refine ⟨_, rfl, _, rfl, ra, _, rfl, .inr (SqT.of (x4.t g2)), tp, (e.2.1.map V.str).length, rfl, t4, by omega, fun nb H5 ks hnb b5 t5 h5 hl5 hz5 => ?_⟩
    have x5 : Ix CR H2 H5 := ix_but htp x4 b5 t5
    have tabs5 := tabs_but tabs4 t4 b5
    have hkl : e.2.1.length = ks.length := by omega
    have nbt : nb ≠ tp := by
      obtain ⟨y, hy⟩ := t4
      exact (ne_of_none hy hnb).symm
    -- most
    refine ⟨sz (by show 4 ≤ 100000; decide), fun p6 hp6 => ?_⟩
    have s6 := same_new hp6 (.lst [.int 200, .int 0, .int 2, .int 20])
    have h66 : (upd H5 p6 (.lst [.int 200, .int 0, .int 2, .int 20])) p6 = some (.lst [.int 200, .int 0, .int 2, .int 20]) := upd_same
    have t6 := t5.same s6
    have x6 : Ix CR H2 (upd H5 p6 (.lst [.int 200, .int 0, .int 2, .int 20])) := x5.trans (ix_same s6)
    have tabs6 := tabs_new tabs5 s6
    have h56 := s6 _ _ h5
    have n6 : p6 ≠ tp := by
      obtain ⟨y, hy⟩ := t5
      exact (ne_of_none hy hp6).symm
    generalize upd H5 p6 (.lst [.int 200, .int 0, .int 2, .int 20]) = H6 at h66 t6 x6 tabs6 h56
    refine ⟨_, rfl, tp, 4, rfl, t6, by decide, by decide, fun r7 H7 r70 r71 b7 t7 => ?_⟩
    have hre : ∃ m : Nat, atI [V.int 200, .int 0, .int 2, .int 20] r7 = some (.int (m : Int)) ∧ m ≤ 200 := by
      obtain ⟨v, hv, hm⟩ := at_some (xs := [V.int 200, .int 0, .int 2, .int 20]) r70 r71
      simp only [List.mem_cons, List.not_mem_nil, or_false] at hm
      rcases hm with z | z | z | z <;> subst z
      · exact ⟨200, hv, by decide⟩
      · exact ⟨0, hv, by decide⟩
      · exact ⟨2, hv, by decide⟩
      · exact ⟨20, hv, by decide⟩
    obtain ⟨m, hma, hm⟩ := hre
    refine ⟨p6, _, _, _, rfl, rfl, SqL.of (b7 _ _ n6 h66), hma, ?_⟩
    have x7 : Ix CR H2 H7 := ix_but htp x6 b7 t7
    have tabs7 := tabs_but tabs6 t6 b7
    have h57 := b7 _ _ nbt h56
    have hB7 := TBkAt.ix x7 hB2
    refine ⟨_, rfl, _, rfl, p, es, us, e.1, rfl, hB7, hW.l6, hW.nc, hW.nd, ⟨e, he, rfl⟩, hW.al, fun H8 t x y s8 ht => ?_, fun H8 t L Dl N lv r vs g s8 ht hL hv hrow hwt hf hcl hup => ?_⟩
    · refine ⟨t, _, rfl, SqT.of ht, rfl, _, _, rfl, _, _, rfl, _, _, rfl, rfl, ?_⟩
      refine ⟨_, rfl, rfl, _, rfl, itF rfl ⟨_, _, _, _, _, _, _, _, _, rfl, x7.trans (ix_same s8), t7.same s8, tabs_new tabs7 s8⟩⟩
    · refine ⟨t, _, rfl, SqT.of ht, rfl, _, _, rfl, _, _, rfl, _, _, rfl, rfl, ?_⟩
      refine ⟨_, rfl, rfl, _, rfl, itT rfl ?_⟩
      have x8 := x7.trans (ix_same (CR := CR) s8)
      have tabs8 := tabs_new tabs7 s8
      refine ⟨_, rfl, _, rfl, _, rfl, D, L, es, kvs, e.1, g, r, vs, rfl, x8.d h2, k2.ix x8, hW.nd, hW.ws, hW.as, hL, hv, hrow, fun t9 H9 s9 h9 => ⟨t9, _, _, _, rfl, rfl, SqT.of h9, at1, ?_⟩⟩
      have x9 := x8.trans (ix_same (CR := CR) s9)
      have tabs9 := tabs_new tabs8 s9
      have s79 := s8.trans s9
      have h59 := s79 _ _ h57
      refine ⟨_, rfl, _, rfl, _, rfl, _, rfl, p, nb, es, us, hd, e, ks, m, rfl, TBkAt.ix x9 hB2, hW.nd, hW.l6, E0, he, hkl, h59, by omega, by omega, fun HA qA tlA tvA evA a sA hqA htlA hteA hfeA hlA hrA => ⟨qA, _, _, _, rfl, rfl, SqT.of hqA, at2, _, rfl, _, _, rfl, rfl, _, rfl, ?_⟩⟩
      have da := run_below E0 hcl hup he hf hrA
      refine itF (decide_eq_false (by rw [hwt]; omega)) ?_
      have tabsA := tabs_new tabs9 sA
      have xA := x9.trans (ix_same (CR := CR) sA)
      refine ⟨_, rfl, _, rfl, _, rfl, _, rfl, p, nb, es, us, hd, e, ks, m, rfl, TBkAt.ix xA hB2, hW.nd, hW.l6, E0, he, hkl, sA _ _ h59, by omega, by omega, tabsA, fun HC qC tlC tvC evC c xC tabsC hqC ntC htlC hteC hfeC hlC hrC => ⟨qC, _, _, _, rfl, rfl, SqT.of hqC, at2, _, rfl, _, _, rfl, rfl, _, rfl, ?_⟩⟩
      have dc := run_below E0 hcl hup he hf hrC
      refine itF (decide_eq_false (by rw [hwt]; omega)) ?_
      have tA : Tp HA tp := (t7.same s79).same sA
      have tC : Tp HC tp := by
        obtain ⟨y, hy⟩ := tA
        exact ⟨y, xC.l hy⟩
      exact ⟨_, _, _, _, _, _, _, _, _, rfl, xA.trans xC, tC, tabsC⟩
  · rintro σ H4 ⟨o4, o5, o6, o7, o8, o9, o10, o11, o12, rfl, x4, t4, tabs4⟩
    exact q _
end
end KB

namespace KB
open PySem L2 HT LamX NdefX

theorem okg {P : Program} {w : World} {K : PySem.W.Frag} {mg : Str → Option Value} {base : Heap} {CX : CXT} {k : Nat} {f : Addr} {fd : FuncData} {ps : List Str} {sp : Sp}
    (h : FnOk P w K mg base CX k f fd ps sp) : FnG P w K mg base CX k f fd ps sp :=
  ⟨h.len, fun A o s H as us vs Q E _ r e b v z => h.run A o s H as us vs Q E r e b v z⟩
end KB

namespace KB
open PySem L2 HT

/-! ### del xs[a:] -/
theorem filt_take {α : Type} (sel : Nat → Bool) (a : Nat) : ∀ (xs : List α) (j : Nat), (∀ k, j ≤ k → k < j + xs.length → sel k = decide (a ≤ k)) →
    (xs.zipIdx j).filterMap (fun p => if sel p.2 = true then none else some p.1) = xs.take (a - j)
  | [], _, _ => by simp
  | x :: r, j, h => by
    have h0 := h j (Nat.le_refl _) (by rw [List.length_cons]; omega)
    have ih := filt_take sel a r (j + 1) fun k h1 h2 => h k (by omega) (by rw [List.length_cons]; omega)
    rw [List.zipIdx_cons, List.filterMap_cons]
    by_cases c : a ≤ j
    · rw [decide_eq_true c] at h0
      simp only [h0, if_true]
      rw [ih]
      have e1 : a - j = 0 := by omega
      have e2 : a - (j + 1) = 0 := by omega
      rw [e1, e2]
      rfl
    · rw [decide_eq_false c] at h0
      simp only [h0]
      rw [ih]
      have e1 : a - j = (a - (j + 1)) + 1 := by omega
      rw [e1]
      rfl
theorem bounds_from {a n : Nat} (h : a ≤ n) : sliceBounds (some (a : Int)) none none n = ((a : Int), (n : Int), 1) := by
  simp only [sliceBounds, Option.getD_none]
  have h1 : ¬ ((a : Int) < 0) := by omega
  simp only [h1, if_false, show (1 : Int) > 0 by decide, if_true]
  congr 1
  omega
section
variable {prog : Program} {w : World} {A : Around} {E : Value → Shared → Prop} {s : Shared}
theorem delItem_from {l sl : Addr} {items : Array Value} {n : Nat} {vl : Value} {a : Nat} {Q : Unit → Shared → Prop}
    (e : s.heap.get? l = some { cls := .type "list", data := .seq items n }) (hs : s.heap.IsSliceOf sl vl .none .none) (pl : IsPart vl (some (a : Int))) (ha : a ≤ items.size)
    (hsz : items.size ≤ sizeLine) (h : ∀ g : Array Value → Array Value, g items = (items.toList.take a).toArray → Q () { s with heap := s.heap.update l (Obj.mapSeq g) }) :
    wpAny (model prog w) A (delItem (.ref l) (.ref sl)) Q E s := by
  have hl : s.heap.IsList l items := PySem.IsL.isList e
  obtain ⟨os, hos, hcs, hds⟩ := id hs
  have hTs : s.TypeIs (.ref sl) "slice" := ⟨os, hos, hcs⟩
  have hstep : ¬ ((rawPart none == rawInt 0) = true) := Bool.false_ne_true
  refine wpAny_delItem_slot hl.typeIs (by decide) F.slot_list_delitem (wpAny_call_entry F.slot_list_delitem hl.typeIs F.entry_list_delitem ?_ (F.args_list_delitem_2 _ _))
  show wpAny _ _ (Builtin.List.listSubscript? (.ref sl) >>= _) _ _ s
  refine wpAny_bind ?_
  unfold Builtin.List.listSubscript?
  refine wpAny_bind (wpAny_specialOf hTs slice_no_index ?_)
  simp only [Option.isNone_none, if_true]
  refine wpAny_pure ?_
  show wpAny _ _ (typeOf (.ref sl) >>= _) _ _ s
  refine wpAny_bind (wpAny_typeOf hTs ?_)
  first
    | rw [if_neg (by decide)]
    | refine PySem.W.KFB.if_not (by decide) ?_
  rw [listSliceParts_eq]
  refine wpAny_bind (wpAny_bind (wpAny_field hos hds (x := .none) rfl (wpAny_bind (wpAny_listPart .none ?_))))
  rw [if_neg hstep]
  refine wpAny_bind (wpAny_field hos hds (x := vl) rfl (wpAny_bind (wpAny_listPart pl ?_)))
  refine wpAny_bind (wpAny_field hos hds (x := .none) rfl (wpAny_bind (wpAny_listPart .none (wpAny_pure ?_))))
  unfold Builtin.List.listItems
  refine wpAny_bind (wpAny_bind (wpAny_seqItems e rfl (wpAny_pure ?_)))
  refine wpAny_bind (wpAny_of_eq ((sliceIndices_raw (some (a : Int)) none none items.size (by simp)).trans (congrArg (pure : Int × Int × Int → Sem (Int × Int × Int)) (bounds_from ha))) ?_)
  refine wpAny_bind (wpAny_rule ?_)
  show wpAny _ _ (updateSeq l _ >>= _) _ _ s
  have hsel : ∀ (sel : Nat → Bool), (∀ k : Nat, sel k = (((a : Int) ≤ (k : Int)) && ((k : Int) < (items.size : Int)) && (((k : Int) - (a : Int)) % 1 == 0))) →
      (List.filterMap (fun p => if sel p.2 = true then none else some p.1) items.toList.zipIdx).toArray = (items.toList.take a).toArray := by
    intro sel hk
    congr 1
    refine filt_take sel a items.toList 0 fun k _ h2 => ?_
    rw [hk k]
    have h3 : (k : Int) < (items.size : Int) := by
      rw [Array.length_toList] at h2
      omega
    have h4 : (((k : Int) - (a : Int)) % 1 == 0) = true := by
      rw [Int.emod_one]
      rfl
    rw [h4, decide_eq_true h3, Bool.and_true, Bool.and_true]
    by_cases c : a ≤ k
    · rw [decide_eq_true c, decide_eq_true (by omega)]
    · rw [decide_eq_false c, decide_eq_false (by omega)]
  refine wpAny_bind (wpAny_updateSeq (hz := hsz) (_hz' := ?sz) e rfl ?_)
  case sz =>
    refine Nat.le_trans (Nat.le_of_eq (congrArg Array.size (hsel _ fun k => rfl))) ?_
    rw [List.size_toArray, List.length_take]
    omega
  refine wpAny_bind (wpAny_letGo ?_)
  exact wpAny_pure ⟨.none, rfl, h _ (hsel _ fun k => rfl)⟩
end
section
variable {X : Cx} {pos : Pos}
/-- del xs[a:] -/
def tDelFrom (to ti : TE) : TS := fun D σ H => to σ H fun x H1 => tPart ti σ H1 fun o H2 => ∃ (l : Addr) (xs : List V) (a : Nat), x = .ref l ∧ o = some (a : Int) ∧ H2 l = some (.lst xs) ∧ a ≤ xs.length ∧ D.nx σ (upd H2 l (.lst (xs.take a)))
theorem ps_delFrom {o lo : Expr} {to ti : TE} {spos tpos : Pos} (ho : PE X o to) (hi : PE X lo ti) : PS X (.Delete [.Subscript o (.Slice (some lo) none none spos) tpos] pos) (tDelFrom to ti) := by
  refine ⟨fun pins s σ H D I h => ?_⟩
  refine wpAny_Delete (wpAny_deleteEach_cons (wpAny_delete_Subscript (thn (ho.run pins s σ H _ I h) fun u s1 ⟨x, H1, I1, rx, q1⟩ => ?_)))
  refine wpAny_Slice (thn ((po_some hi).run pins s1 σ H1 _ I1 q1) fun vl s2 ⟨l', H2, I2, pl, q2⟩ => thn (po_none.run pins s2 σ H2 (fun o H3 => o = none ∧ H3 = H2) I2 ⟨rfl, rfl⟩) fun vu s3 ⟨u', H3, I3, pu, eu, eH⟩ => ?_)
  subst eu eH
  rw [evalPart_none]
  refine wpAny_pure ?_
  obtain ⟨l, xs, a, ex, eo, hH, ha, q⟩ := q2
  subst ex eo
  cases (show u = Value.ref l from rx)
  have hvu : vu = Value.none := by
    cases pu
    rfl
  subst hvu
  have I4 : Inv X pins σ H3 { s3 with heap := s3.heap.push { cls := .type "slice", data := .fields #[vl, .none, .none] } } := I3.kept (t' := s3.toks) fun b ob q => Heap.get?_push_of_some _ q
  obtain ⟨z, its, n, r, hl, e⟩ := I4.lstM hH
  refine delItem_from (a := a) e (Heap.IsSliceOf.new ..) pl (by rw [List.size_toArray, ← hl]; exact ha) (by rw [List.size_toArray, ← hl]; exact z) fun g hg => ?_
  refine wpAny_deleteEach_nil ⟨σ, _, I4.lset (its' := its.take a) (t' := s3.toks) hH e hg (r.take a) ?_, q⟩
  rw [List.length_take]
  omega
end
end KB

namespace KB
open PySem L2 HT

section
variable {P : Program} {w : World} {K : PySem.W.Frag} {mg : Str → Option Value} {base : Heap}
/-! ### last_taken -/
def spLast : Sp := fun vs H Q _ => ∃ (gl : Addr) (xs : List V) (n : Nat), vs = [.ref gl, .int (n : Int)] ∧ H gl = some (.lst xs) ∧ n ≤ xs.length ∧
  ∀ H2 v, Same H H2 → H2 v = some (.tup (xs.drop (xs.length - n))) → Q (.ref v) (upd H2 gl (.lst (xs.take (xs.length - n))))
abbrev slast_taken : Stmt := top 7
theorem sclast_taken : FnScope ["got", "many", "first", "taken"] ["got", "many"] (defScope slast_taken) := ⟨rfl, rfl, rfl, by decide +kernel, rfl, by decide +kernel, by decide +kernel⟩
theorem ok_last (T : Txt K mg) {f : Addr} {fd : FuncData} (F : Fun K "last_taken" "last_taken" slast_taken f fd) : FnOk P w K mg base CX0 1 f fd ["got", "many"] spLast := by
  refine F.ok sclast_taken (fun vs H Q E h => ?_) (fun cdv A outer s H vs Q E hr h => ?_)
  · obtain ⟨gl, xs, n, rfl, _⟩ := h
    rfl
  obtain ⟨gl, xs, n, rfl, hg, hn, q⟩ := h
  refine ⟨_, pss_cons (ps_set (i := 2) sclast_taken.nd rfl (Or.inl rfl) (pe_op op_sub (pe_callB call_len_seq (by rfl) T.m_len PySem.boot_len (pa_cons (pv 0) pa_nil)) (pv 1)))
    (pss_cons (ps_set (i := 3) sclast_taken.nd rfl (Or.inl rfl) (pe_callTy call_tuple_of (by rfl) T.m_tuple (by decide +kernel) (pa_cons (pe_slice sl_list (pv 0) (po_some (pv 2)) po_none) pa_nil)))
    (pss_cons (ps_delFrom (pv 0) (pv 2)) (pss_one (ps_ret (pv 3))))), ?_⟩
  refine ⟨_, rfl, gl, _, rfl, .inl (SqL.of hg), _, rfl, _, _, rfl, rfl, ?_⟩
  have efirst : (xs.length : Int) - (n : Int) = ((xs.length - n : Nat) : Int) := by omega
  refine ⟨_, rfl, _, rfl, _, rfl, gl, _, rfl, SqL.of hg, fun u hu => ⟨u, _, rfl, .inl ⟨SqL.of upd_same, fun v hv => ?_⟩⟩⟩
  have ecut : cutV xs (some ((xs.length : Int) - (n : Int))) none = xs.drop (xs.length - n) := by
    rw [efirst, cut_from (by omega) (by omega), Int.toNat_natCast]
  have sA := (same_new hu (.lst (cutV xs (some ((xs.length : Int) - (n : Int))) none))).trans (same_new hv (.tup (cutV xs (some ((xs.length : Int) - (n : Int))) none)))
  have hv2 : upd (upd H u (.lst (cutV xs (some ((xs.length : Int) - (n : Int))) none))) v (.tup (cutV xs (some ((xs.length : Int) - (n : Int))) none)) v = some (.tup (xs.drop (xs.length - n))) := by
    rw [upd_same, ecut]
  exact ⟨_, rfl, _, rfl, _, rfl, gl, xs, xs.length - n, rfl, congrArg some efirst, sA _ _ hg, Nat.sub_le _ _, _, rfl, q _ _ sA hv2⟩
end
end KB

namespace KB
open PySem PySem.Spec PyProof.Rows L2 LamX NdefX

/-! ### a def whose code object is known -/
theorem funC_mk {K : PySem.W.Frag} {x qual : Str} {st : Stmt} {f c : Addr} {oc : Value} {od an : Option Addr} {osl : Array (Option Value)} {kV doc pm ct : Value} (l : K.lookup f = some ⟨oc, od, .func (PySem.W.fnOf x qual (defArgs st) (defBody st) (defScope st) .none kV doc pm an (.ref c) ct), osl⟩) (h : PySem.W.codeIn K (.ref c) qual = true) :
    FunC K x qual st f (PySem.W.fnOf x qual (defArgs st) (defBody st) (defScope st) .none kV doc pm an (.ref c) ct) c := ⟨⟨oc, od, kV, doc, pm, an, ct, osl, rfl, l, h⟩⟩
section
variable {P : Program} {w : World} {K : PySem.W.Frag} {mg : Str → Option Value} {base : Heap}
end
end KB

namespace KB
open PySem L2 HT

theorem All2.drop {α : Type} {S : α → V → Prop} : ∀ {as : List α} {vs : List V} (n : Nat), All2 S as vs → All2 S (as.drop n) (vs.drop n)
  | _, _, 0, h => h
  | [], [], _ + 1, _ => trivial
  | a :: as, v :: vs, n + 1, h => All2.drop n h.2
  | [], _ :: _, _ + 1, h => h.elim
  | _ :: _, [], _ + 1, h => h.elim
/-! ### remade as a machine of data -/
section
variable {N B : Type} (R : Tre N) (g : N → List B → B) (F : N → B)
def rmX : List (N × Bool) → List B → List B
  | [], G => G
  | (n, false) :: r, G => rmX r (G ++ [F n])
  | (n, true) :: r, G => rmX r (G.take (G.length - (R.kids n).length) ++ [g n (G.drop (G.length - (R.kids n).length))])
def rmV : List (N × Bool) → Nat → Prop
  | [], m => m = 1
  | (n, false) :: r, m => rmV r (m + 1)
  | (n, true) :: r, m => (R.kids n).length ≤ m ∧ rmV r (m - (R.kids n).length + 1)
def rmW : List (N × Bool) → Nat
  | [] => 0
  | (n, false) :: r => 2 * R.sz n + rmW r
  | (n, true) :: r => 1 + rmW r
def kidsF (ks : List N) : List (N × Bool) := ks.map fun n => (n, false)
theorem rmX_kids (r : List (N × Bool)) : ∀ (ks : List N) (G : List B), rmX R g F (kidsF ks ++ r) G = rmX R g F r (G ++ ks.map F)
  | [], G => by
    show rmX R g F r G = rmX R g F r (G ++ [])
    rw [List.append_nil]
  | k :: ks, G => by
    show rmX R g F (kidsF ks ++ r) (G ++ [F k]) = _
    rw [rmX_kids r ks, List.append_assoc]
    rfl
theorem rmV_kids (r : List (N × Bool)) : ∀ (ks : List N) (m : Nat), rmV R r (m + ks.length) → rmV R (kidsF ks ++ r) m
  | [], m, h => h
  | k :: ks, m, h => by
    show rmV R (kidsF ks ++ r) (m + 1)
    refine rmV_kids r ks (m + 1) ?_
    have e : m + 1 + ks.length = m + (k :: ks).length := by rw [List.length_cons]; omega
    rw [e]
    exact h
theorem rmW_kids (r : List (N × Bool)) : ∀ ks : List N, rmW R (kidsF ks ++ r) = 2 * R.szs ks + rmW R r
  | [] => (Nat.zero_add _).symm
  | k :: ks => by
    show 2 * R.sz k + rmW R (kidsF ks ++ r) = _
    rw [rmW_kids r ks, R.szs_cons]
    omega
theorem rmW_len : ∀ r : List (N × Bool), r.length ≤ rmW R r
  | [] => Nat.le_refl _
  | (n, false) :: r => by
    have := rmW_len r
    have := R.pos n
    show r.length + 1 ≤ 2 * R.sz n + rmW R r
    omega
  | (n, true) :: r => by
    have := rmW_len r
    show r.length + 1 ≤ 1 + rmW R r
    omega
theorem rmX_open (hF : ∀ n, F n = g n ((R.kids n).map F)) (n : N) (r : List (N × Bool)) (G : List B) : rmX R g F (kidsF (R.kids n) ++ (n, true) :: r) G = rmX R g F ((n, false) :: r) G := by
  rw [rmX_kids]
  show rmX R g F r ((G ++ (R.kids n).map F).take ((G ++ (R.kids n).map F).length - (R.kids n).length) ++ [g n ((G ++ (R.kids n).map F).drop ((G ++ (R.kids n).map F).length - (R.kids n).length))]) = rmX R g F r (G ++ [F n])
  have e : (G ++ (R.kids n).map F).length - (R.kids n).length = G.length := by
    rw [List.length_append, List.length_map]
    omega
  rw [e, List.take_left, List.drop_left, ← hF]
theorem rmV_open {n : N} {r : List (N × Bool)} {m : Nat} (h : rmV R ((n, false) :: r) m) : rmV R (kidsF (R.kids n) ++ (n, true) :: r) m := by
  refine rmV_kids R _ _ _ ⟨Nat.le_add_left _ _, ?_⟩
  rw [Nat.add_sub_cancel]
  exact h
end
section
variable {P : Program} {w : World} {K : PySem.W.Frag} {mg : Str → Option Value} {base : Heap} {N B : Type}
abbrev sremade : Stmt := top 6
theorem scremade : FnScope ["body", "parts", "made", "got", "waiting", "part", "are_parts_done", "own", "one"] ["body", "parts", "made"] (defScope sremade) := ⟨rfl, rfl, rfl, by decide +kernel, rfl, by decide +kernel, by decide +kernel⟩
def RemX (R : Tre N) (S : Hp → B → V → Prop) (g : N → List B → B) (F : N → B) (J : Hp → Prop) (H : Hp) (a gp gm fl wl : Addr) (n : N) (m : Nat) (σ : St) (H' : Hp) : Prop :=
  ∃ o5 o6 o7 o8 rs gs es bs, σ = [some (.ref a), some (.ref gp), some (.ref gm), some (.ref fl), some (.ref wl), o5, o6, o7, o8] ∧ Sx H H' ∧ J H' ∧ H' fl = some (.lst gs) ∧ All2 (S H') bs gs ∧ H' wl = some (.lst (List.reverse rs)) ∧ All2 (WtV R H') es rs ∧
  m = rmW R es ∧ bs.length + rmW R es ≤ 2 * R.sz n ∧ rmV R es bs.length ∧ rmX R g F es bs = [F n]
theorem body_remade (R : Tre N) (S : Hp → B → V → Prop) (g : N → List B → B) (Fv : N → B) (hF : ∀ n, Fv n = g n ((R.kids n).map Fv)) (tS : ∀ {H H' : Hp} {b : B} {v : V}, TK H H' → S H b v → S H' b v) {J : Hp → Prop} (jx : Jx J) (T : Txt K mg) {k1 : Nat} {f gp gm f3 : Addr} {gd d3 : FuncData} {x : Str}
    (GKIDS : FnOk P w K mg base CX0 k1 gp gd [x] (spKids R)) (kk : PySem.W.keepIn K (.ref gp) = true) (bb : Binds K gd [x] []) (Glast_taken : FnOk P w K mg base CX0 1 f3 d3 ["got", "many"] spLast) (Rlast_taken : Ref K mg "last_taken" f3 d3 ["got", "many"])
    {kn : Hp → Prop} {sl : List V → Hp → VK → Prop} (kp : ∀ H1 H2, Sx H1 H2 → kn H1 → kn H2) {cdv : Value} {A : Around} {outer : List PySem.Env} {s : Shared} {H : Hp} {vs : List V} {Q : VK} {E : XK} (hr : Room (k1 + 1) (A.deeper (PyProof.Rows.envOfC "remade" (defScope sremade) s.heap.objs.size f cdv)))
    (hcall : ∀ {t : TA} {e : Expr} {es : List Expr} {p pos : Pos}, PA (cxOf CX0 P w K mg base ["body", "parts", "made", "got", "waiting", "part", "are_parts_done", "own", "one"] "remade" (defScope sremade) f cdv A outer s H E).nox (e :: es) t →
      starEach (e :: es) (cxOf CX0 P w K mg base ["body", "parts", "made", "got", "waiting", "part", "are_parts_done", "own", "one"] "remade" (defScope sremade) f cdv A outer s H E).nox.env = (false, eval e (cxOf CX0 P w K mg base ["body", "parts", "made", "got", "waiting", "part", "are_parts_done", "own", "one"] "remade" (defScope sremade) f cdv A outer s H E).nox.env) :: starEach es (cxOf CX0 P w K mg base ["body", "parts", "made", "got", "waiting", "part", "are_parts_done", "own", "one"] "remade" (defScope sremade) f cdv A outer s H E).nox.env →
      (backTo pos (starEach es (cxOf CX0 P w K mg base ["body", "parts", "made", "got", "waiting", "part", "are_parts_done", "own", "one"] "remade" (defScope sremade) f cdv A outer s H E).nox.env)).any (·.1) = false →
      PE (cxOf CX0 P w K mg base ["body", "parts", "made", "got", "waiting", "part", "are_parts_done", "own", "one"] "remade" (defScope sremade) f cdv A outer s H E).nox (.Call (.Name "made" p) (e :: es) [] pos) (tCallM 2 gm kn sl t))
    (h : spRemX R S g Fv J gp gm kn sl vs H Q E0) : ∃ t, PSs (cxOf CX0 P w K mg base ["body", "parts", "made", "got", "waiting", "part", "are_parts_done", "own", "one"] "remade" (defScope sremade) f cdv A outer s H E).nox (defBody sremade) t ∧ t { nx := fun _ H' => Q .non H', rt := Q } (start ["body", "parts", "made", "got", "waiting", "part", "are_parts_done", "own", "one"] vs) H := by
  obtain ⟨n, a, rfl, hkn, hJ, hA, hz, hM, q⟩ := h
  refine ⟨_, (pss_cons (ps_set (i := 3) scremade.nd rfl (Or.inl rfl) (pe_lst pa_nil))
    (pss_cons (ps_set (i := 4) scremade.nd rfl (Or.inl rfl) (pe_lst (pa_cons (pe_tup (pa_cons (pv 0) (pa_cons pe_bl pa_nil))) pa_nil)))
    (pss_cons (ps_while PassesOwn.never (pt_truth (pv 4) (by intro _; rfl)) (pss_cons (ps_asg (pe_bm0 PySem.F.plainAttrs_list PySem.F.slot_list_pop PySem.F.type_list_pop mt_pop (pv 4)) (pg_tup rfl (pgs_cons (pg_name (i := 5) scremade.nd rfl (Or.inl rfl)) (pgs_cons (pg_name (i := 6) scremade.nd rfl (Or.inl rfl)) pgs_nil))))
    (pss_cons (ps_set (i := 7) scremade.nd rfl (Or.inl rfl) (pe_callL (i := 1) GKIDS (hr.mono (by omega)) rfl (.inl rfl) kk bb .nil pass0 (pa_cons (pv 5) pa_nil)))
    (pss_one (ps_if (pt_val (pv 6)) (pss_one (ps_expr (pe_bm PySem.F.plainAttrs_list PySem.F.slot_list_append PySem.F.type_list_append mt_append (pv 3) (pa_cons (hcall (pa_cons (pv 5) (pa_cons (pe_call Glast_taken (hr.mono (by omega)) rfl Rlast_taken.m Rlast_taken.k Rlast_taken.b .nil pass0 (pa_cons (pv 3) (pa_cons (pe_callB call_len_seq (by rfl) T.m_len PySem.boot_len (pa_cons (pv 7) pa_nil)) pa_nil))) pa_nil)) (by rfl) (by rfl)) pa_nil)))) (pss_cons (ps_expr (pe_bm PySem.F.plainAttrs_list PySem.F.slot_list_append PySem.F.type_list_append mt_append (pv 4) (pa_cons (pe_tup (pa_cons (pv 5) (pa_cons pe_bl pa_nil))) pa_nil)))
    (pss_one (ps_expr (pe_bm PySem.F.plainAttrs_list PySem.F.slot_list_extend PySem.F.type_list_extend mt_extend (pv 4) (pa_cons (pe_lc (own := [("one", 8)]) (g := gName 8) (by rfl) scremade.nd (pi_tup (pe_revT (pv 7) (po_some (pe_un un_neg pe_int)))) (blkOk_by (own := [("one", 8)]) (N := ["body", "parts", "made", "got", "waiting", "part", "are_parts_done", "own", "one"]) (sc := defScope sremade) (by decide +kernel)) (fun _ _ _ _ _ => (pg_name (i := 8) scremade.nd rfl (Or.inl rfl))) (fun _ _ _ _ _ => pts_nil) (fun _ _ _ _ _ => (pe_tup (pa_cons (pv 8) (pa_cons pe_bl pa_nil))))) pa_nil))))))))))
    (pss_one (ps_ret (pe_bm0 PySem.F.plainAttrs_list PySem.F.slot_list_pop PySem.F.type_list_pop mt_pop (pv 3))))))), ?_⟩
  refine ⟨sz (by show 0 ≤ 100000; decide), fun fl hfl => ?_⟩
  have s0 := same_new hfl (.lst [])
  have f0 : upd H fl (.lst []) fl = some (.lst []) := upd_same
  refine ⟨_, rfl, sz (by show 2 ≤ 100000; decide), fun p0 hp0 => ?_⟩
  have s1 := same_new hp0 (.tup [.ref a, .bl false])
  refine ⟨sz (by show 1 ≤ 100000; decide), fun wl hwl => ?_⟩
  have s2 := same_new hwl (.lst [.ref p0])
  have s12 := s1.trans s2
  have hwf : fl ≠ wl := ne_of_none (s1 _ _ f0) hwl
  have sA := s0.trans s12
  have hpos := R.pos n
  refine ⟨RemX R S g Fv J H a gp gm fl wl n, ⟨_, none, none, none, none, [.ref p0], [], [(n, false)], [], rfl, sx_same sA, jx.sm sA hJ, s12 _ _ f0, trivial, upd_same, ⟨⟨p0, a, rfl, s2 _ _ upd_same, R.tk (tk_same sA) hA⟩, trivial⟩, rfl, ?_, rfl, rfl⟩, ?_⟩
  · show 0 + (2 * R.sz n + 0) ≤ 2 * R.sz n
    omega
  have hw0 : H wl = none := (s0.trans s1).free hwl
  clear s0 f0 s1 hp0 hwl s2 s12 sA
  rintro m σ H1 ⟨o5, o6, o7, o8, rs, gs, es, bs, rfl, s1, j1, h1, k1, h2, k2, rfl, hm, hv, hx⟩
  refine ⟨_, rfl, _, .inl ⟨_, SqL.of h2, rfl⟩, ?_⟩
  cases rs with
  | nil =>
    cases es with
    | cons _ _ => exact k2.elim
    | nil =>
      have e : bs = [Fv n] := hx
      subst e
      match gs, k1 with
      | [v], ⟨hv1, _⟩ =>
        refine itF rfl ⟨_, rfl, .inl ⟨rfl, _, SqL.of h1⟩, fl, _, v, rfl, rfl, h1, rfl, ?_⟩
        exact q _ _ (sx_mut s1 hfl _) (jx.mu h1 j1) (tS (tk_put h1) hv1)
  | cons r rs =>
    cases es with
    | nil => exact k2.elim
    | cons e1 es =>
      obtain ⟨n1, b1⟩ := e1
      obtain ⟨⟨qa, b, rfl, g1, g2⟩, k3⟩ := k2
      refine itT (by simp) ⟨fun σ' H' => ∃ m', m' < rmW R ((n1, b1) :: es) ∧ RemX R S g Fv J H a gp gm fl wl n m' σ' H', fun _ _ z => z, ?_⟩
      refine ⟨_, rfl, .inl ⟨rfl, _, SqL.of h2⟩, wl, _, .ref qa, rfl, rfl, h2, by simp, ?_⟩
      have eD : ((V.ref qa :: rs).reverse).dropLast = rs.reverse := by rw [List.reverse_cons, List.dropLast_concat]
      rw [eD]
      have tk2 : TK H1 (upd H1 wl (.lst rs.reverse)) := tk_put h2
      have s2 : Sx H (upd H1 wl (.lst rs.reverse)) := sx_mut s1 hw0 _
      have j2 : J (upd H1 wl (.lst rs.reverse)) := jx.mu h2 j1
      have w2 : upd H1 wl (.lst rs.reverse) wl = some (.lst rs.reverse) := upd_same
      have f2 : upd H1 wl (.lst rs.reverse) fl = some (.lst gs) := by
        rw [upd_ne hwf]
        exact h1
      have k4 := k1.imp fun _ _ z => tS tk2 z
      have k5 := k3.imp fun _ _ z => WtV.tk tk2 z
      have g4 := tk2 _ _ g1
      have g6 := R.tk tk2 g2
      clear tk2
      generalize upd H1 wl (.lst rs.reverse) = H2 at s2 j2 w2 f2 k4 k5 g4 g6
      refine ⟨qa, _, rfl, SqT.of g4, rfl, _, _, rfl, _, _, rfl, rfl, ?_⟩
      refine ⟨rfl, _, rfl, n1, b, rfl, g6, fun pp H3 us s3 h3 k6 => ?_⟩
      have hus := k6.len
      have sH3 := s2.trans (sx_same s3)
      have j3 := jx.sm s3 j2
      have w3 := s3 _ _ w2
      have f3 := s3 _ _ f2
      have A3 := R.tk (tk_same s3) g6
      have k7 := k4.imp fun _ _ z => tS (tk_same s3) z
      have k8 := k5.imp fun _ _ z => WtV.tk (tk_same s3) z
      have hgs := k7.len
      have hrs := k8.len
      have hel := rmW_len R es
      have hnk := R.len_szs (R.kids n1)
      have hsz : R.sz n1 = 1 + R.szs (R.kids n1) := R.szk n1
      refine ⟨_, rfl, _, rfl, ?_⟩
      cases b1 with
      | true =>
        obtain ⟨hv1, hv2⟩ : (R.kids n1).length ≤ bs.length ∧ rmV R es (bs.length - (R.kids n1).length + 1) := hv
        have hW : rmW R ((n1, true) :: es) = 1 + rmW R es := rfl
        refine itT rfl ⟨_, rfl, .inl ⟨rfl, _, SqL.of f3⟩, ⟨rfl, kp _ _ sH3 hkn⟩, _, rfl, _, rfl, _, rfl, pp, _, rfl, .inr (SqT.of h3), fl, gs, us.length, rfl, f3, by omega, fun H4 v4 s4 h4 => ?_⟩
        have f4 := s4 _ _ f3
        have tk4 : TK H4 (upd H4 fl (.lst (gs.take (gs.length - us.length)))) := tk_put f4
        have k9 := ((k7.drop (gs.length - us.length)).imp fun _ _ z => tS (tk_same s4) z).imp fun _ _ z => tS tk4 z
        have sM := sx_mut (sH3.trans (sx_same s4)) hfl (.lst (gs.take (gs.length - us.length)))
        have jM := jx.mu (o := .lst (gs.take (gs.length - us.length))) f4 (jx.sm s4 j3)
        refine ⟨kp _ _ sM hkn, hM _ n1 b v4 (bs.drop (gs.length - us.length)) (gs.drop (gs.length - us.length)) _ sM (kp _ _ sM hkn) jM (R.tk ((tk_same s4).trans tk4) A3) (tk4 _ _ h4) k9 ?_ fun v5 H5 s5 j5 hv5 => ?_⟩
        · rw [List.length_drop]
          omega
        have f5 := s5.l (upd_same (H := H4) (a := fl) (o := .lst (gs.take (gs.length - us.length))))
        refine ⟨fl, _, _, rfl, rfl, f5, Nat.lt_of_le_of_lt (m := 20000) (by rw [List.length_take]; omega) (by decide), ?_⟩
        have tk6 : TK H5 (upd H5 fl (.lst (gs.take (gs.length - us.length) ++ [v5]))) := tk_put f5
        have tkA : TK H3 (upd H5 fl (.lst (gs.take (gs.length - us.length) ++ [v5]))) := (tk_same s4).trans (tk4.trans (s5.tk.trans tk6))
        refine ⟨rmW R es, by rw [hW]; omega, _, _, _, _, rs, gs.take (gs.length - us.length) ++ [v5], es, bs.take (gs.length - us.length) ++ [g n1 (bs.drop (gs.length - us.length))], rfl, ?_, jx.mu f5 j5, upd_same, ?_, ?_, k8.imp fun _ _ z => WtV.tk tkA z, rfl, ?_, ?_, ?_⟩
        · exact sx_mut (sM.trans s5) hfl _
        · exact ((k7.take _).imp fun _ _ z => tS tkA z).app ⟨tS tk6 hv5, trivial⟩
        · rw [upd_ne (Ne.symm hwf)]
          refine s5.l ?_
          rw [upd_ne (Ne.symm hwf)]
          exact s4 _ _ w3
        · rw [List.length_append, List.length_take, List.length_singleton]
          rw [hW] at hm
          omega
        · rw [List.length_append, List.length_take, List.length_singleton]
          have e : min (gs.length - us.length) bs.length + 1 = bs.length - (R.kids n1).length + 1 := by omega
          rw [e]
          exact hv2
        · have e : gs.length - us.length = bs.length - (R.kids n1).length := by omega
          rw [e]
          exact hx
      | false =>
        have hW : rmW R ((n1, false) :: es) = 2 * R.sz n1 + rmW R es := rfl
        refine itF rfl ⟨_, rfl, .inl ⟨rfl, _, SqL.of w3⟩, _, rfl, sz (by show 2 ≤ 100000; decide), fun p3 hp3 => ?_⟩
        have t3 := same_new hp3 (.tup [.ref b, .bl true])
        have w4 := t3 _ _ w3
        refine ⟨wl, _, _, rfl, rfl, w4, Nat.lt_of_le_of_lt (m := 20000) (by rw [List.length_reverse]; omega) (by decide), ?_⟩
        have tk4 := (tk_same t3).trans (tk_put (o := .lst (rs.reverse ++ [.ref p3])) w4)
        have s4 : Sx H (upd (upd H3 p3 (.tup [.ref b, .bl true])) wl (.lst (rs.reverse ++ [.ref p3]))) := sx_mut (sH3.trans (sx_same t3)) hw0 _
        have j4 : J (upd (upd H3 p3 (.tup [.ref b, .bl true])) wl (.lst (rs.reverse ++ [.ref p3]))) := jx.mu w4 (jx.sm t3 j3)
        have w5 : upd (upd H3 p3 (.tup [.ref b, .bl true])) wl (.lst (rs.reverse ++ [.ref p3])) wl = some (.lst (rs.reverse ++ [.ref p3])) := upd_same
        have f5 : upd (upd H3 p3 (.tup [.ref b, .bl true])) wl (.lst (rs.reverse ++ [.ref p3])) fl = some (.lst gs) := by
          rw [upd_ne hwf]
          exact t3 _ _ f3
        have g5 : upd (upd H3 p3 (.tup [.ref b, .bl true])) wl (.lst (rs.reverse ++ [.ref p3])) p3 = some (.tup [.ref b, .bl true]) := tk_put w4 _ _ upd_same
        have A5 := R.tk tk4 A3
        have k9 := k7.imp fun _ _ z => tS tk4 z
        have k10 := k8.imp fun _ _ z => WtV.tk tk4 z
        have k11 := k6.imp fun _ _ z => Tre.V.tk tk4 z
        have h5 := tk4 _ _ h3
        clear tk4
        generalize upd (upd H3 p3 (.tup [.ref b, .bl true])) wl (.lst (rs.reverse ++ [.ref p3])) = H4 at s4 j4 w5 f5 g5 A5 k9 k10 k11 h5
        refine ⟨_, rfl, .inl ⟨rfl, _, SqL.of w5⟩, _, rfl, 1, rfl, -1, rfl, rfl, pp, _, rfl, SqT.of h5, fun p6 hp6 => ?_⟩
        have s6 := same_new hp6 (.tup us.reverse)
        have h6 : upd H4 p6 (.tup us.reverse) p6 = some (.tup us.reverse) := upd_same
        have k12 := (k11.imp fun _ _ z => Tre.V.tk (tk_same s6) z).rev
        generalize upd H4 p6 (.tup us.reverse) = H5 at s6 h6 k12
        refine ⟨p6, rfl, ⟨_, SqT.of h6⟩, fun D hD => lc_tup (K := K) (a := p6) (xs := us.reverse) (fun i H' => Same H5 H' ∧ ∃ acc, H' D = some (.lst acc) ∧ All2 (WtV R H') (kidsF ((R.kids n1).reverse.take i)) acc) ⟨same_new hD _, [], upd_same, by rw [List.take_zero]; trivial⟩ ?_ ?_ ?_⟩
        · rintro i H' _ ⟨z, _⟩
          exact SqT.of (z _ _ h6)
        · rintro i x H6 hx6 ⟨s7, acc, h7, k13⟩
          obtain ⟨nk, hnk6, bk, rfl, hbk⟩ := k12.get hx6
          obtain ⟨hj, hj2⟩ := List.getElem?_eq_some_iff.mp hnk6
          have hle := k13.len
          unfold kidsF at hle
          rw [List.length_map, List.length_take] at hle
          rw [List.length_reverse] at hj
          refine ⟨rfl, ?_⟩
          dsimp only [tYes]
          refine iteT ⟨_, rfl, sz (by show 2 ≤ 100000; decide), fun p8 hp8 => ?_⟩
          have s8 := same_new hp8 (.tup [.ref bk, .bl false])
          have h8 := s8 _ _ h7
          have tk8 := (tk_same s8).trans (tk_put (o := .lst (acc ++ [.ref p8])) h8)
          refine ⟨acc, h8, Nat.lt_of_le_of_lt (m := 20000) (by omega) (by decide), same_mut (s7.trans s8) hD, _, upd_same, ?_⟩
          have eT : kidsF ((R.kids n1).reverse.take (i + 1)) = kidsF ((R.kids n1).reverse.take i) ++ [(nk, false)] := by
            unfold kidsF
            rw [List.take_succ_eq_append_getElem (by rw [List.length_reverse]; exact hj), List.map_append, hj2]
            rfl
          rw [eT]
          exact (k13.imp fun _ _ z => WtV.tk tk8 z).app ⟨⟨p8, bk, rfl, tk_put (o := .lst (acc ++ [.ref p8])) h8 _ _ upd_same, R.tk tk8 (R.tk (tk_same s7) hbk)⟩, trivial⟩
        · rintro H6 ⟨s7, acc, h7, k13⟩
          have eR : us.reverse.length = (R.kids n1).reverse.length := by rw [List.length_reverse, List.length_reverse]; exact hus
          rw [eR, List.take_length] at k13
          have hac := k13.len
          unfold kidsF at hac
          rw [List.length_map, List.length_reverse] at hac
          have s67 := s6.trans s7
          have w7 := s67 _ _ w5
          refine ⟨wl, D, _, _, rfl, rfl, w7, h7, sz (by rw [List.length_append, List.length_reverse, List.length_singleton]; omega), ?_⟩
          have tk9 := tk_put (o := .lst (rs.reverse ++ [.ref p3] ++ acc)) w7
          have tkB := (tk_same s67).trans tk9
          refine ⟨rmW R (kidsF (R.kids n1) ++ (n1, true) :: es), ?_, _, _, _, _, acc.reverse ++ .ref p3 :: rs, gs, kidsF (R.kids n1) ++ (n1, true) :: es, bs, rfl, sx_mut (s4.trans (sx_same s67)) hw0 _, jx.mu w7 (jx.sm s67 j4), ?_, k9.imp fun _ _ z => tS tkB z, ?_, ?_, rfl, ?_, rmV_open R hv, ?_⟩
          · rw [rmW_kids, hW]
            show 2 * R.szs (R.kids n1) + (1 + rmW R es) < _
            omega
          · rw [upd_ne hwf]
            exact s67 _ _ f5
          · rw [upd_same, List.reverse_append, List.reverse_cons, List.reverse_reverse]
          · refine All2.app ?_ ⟨⟨p3, b, rfl, tkB _ _ g5, R.tk tkB A5⟩, k10.imp fun _ _ z => WtV.tk tkB z⟩
            have z := k13.rev
            unfold kidsF at z ⊢
            rw [← List.map_reverse, List.reverse_reverse] at z
            exact z.imp fun _ _ y => WtV.tk tk9 y
          · rw [rmW_kids]
            rw [hW] at hm
            show bs.length + (2 * R.szs (R.kids n1) + (1 + rmW R es)) ≤ _
            omega
          · rw [rmX_open R g Fv hF]
            exact hx
/-- remade, a lambda making each thing -/
theorem okL_remade (R : Tre N) (S : Hp → B → V → Prop) (g : N → List B → B) (Fv : N → B) (hF : ∀ n, Fv n = g n ((R.kids n).map Fv)) (tS : ∀ {H H' : Hp} {b : B} {v : V}, TK H H' → S H b v → S H' b v) {J : Hp → Prop} (jx : Jx J) (T : Txt K mg) {kl k1 : Nat} {f gp f3 : Addr} {fd gd d3 : FuncData} {x : Str} (F : Fun K "remade" "remade" sremade f fd)
    (GKIDS : FnOk P w K mg base CX0 k1 gp gd [x] (spKids R)) (kk : PySem.W.keepIn K (.ref gp) = true) (bb : Binds K gd [x] []) (Glast_taken : FnOk P w K mg base CX0 1 f3 d3 ["got", "many"] spLast) (Rlast_taken : Ref K mg "last_taken" f3 d3 ["got", "many"]) :
    FnL P w K mg base kl (k1 + 2) f fd ["body", "parts", "made"] (spRemX R S g Fv J gp) := by
  refine okL F scremade (fun fl kn sl vs H Q E h => ?_) (fun cdv A outer s H vs Q fl kn sl hr L h => ?_)
  · obtain ⟨n, a, rfl, _⟩ := h
    rfl
  exact body_remade R S g Fv hF tS jx T GKIDS kk bb Glast_taken Rlast_taken L.kp (hr.mono (by omega)) (fun ha he hp => pe_callM L (hr.mono (by omega)) rfl (.inl rfl) ha (by decide) (by decide) he hp) h
end
end KB

namespace KB
open PySem L2
theorem all_mk {l : PySem.W.OpenLaw} {w : World} {K : PySem.W.Frag} {h : Heap} {mg : Str → Option Value} {fa : Addr} (X : K.In h) (G : h.Ns mainGlobals mg) (hfa : mg "law" = some (.ref fa))
    {ca1 pt1 ca2 pt2 f1 f2 f3 f4 f5 f6 f7 f8 f9 f10 f11 f12 f13 f14 f15 f16 f17 f18 f19 f20 f21 f22 f23 f24 f25 f26 f27 f28 f29 f30 f31 f32 f33 f34 f35 f36 f37 f38 f39 f40 f41 f42 f43 f44 f45 f46 f47 f48 f49 f50 f51 m1 m2 m3 m4 m5 m6 m7 CH CR CN CM tuSIMPLE_HEADS : Addr}
    {od1 an1 od2 an2 od3 an3 od4 an4 od5 an5 od6 an6 od7 an7 od8 an8 od9 an9 od10 an10 od11 an11 od12 an12 od13 an13 od14 an14 od15 an15 od16 an16 od17 an17 od18 an18 od19 an19 od20 an20 od21 an21 od22 an22 od23 an23 od24 an24 od25 an25 od26 an26 od27 an27 od28 an28 od29 an29 od30 an30 od31 an31 od32 an32 od33 an33 od34 an34 od35 an35 od36 an36 od37 an37 od38 an38 od39 an39 od40 an40 od41 an41 od42 an42 od43 an43 od44 an44 od45 an45 od46 an46 od47 an47 od48 an48 od49 an49 od50 an50 od51 an51 mod1 man1 mod2 man2 mod3 man3 mod4 man4 mod5 man5 mod6 man6 mod7 man7 : Option Addr}
    {sl1 sl2 sl3 sl4 sl5 sl6 sl7 sl8 sl9 sl10 sl11 sl12 sl13 sl14 sl15 sl16 sl17 sl18 sl19 sl20 sl21 sl22 sl23 sl24 sl25 sl26 sl27 sl28 sl29 sl30 sl31 sl32 sl33 sl34 sl35 sl36 sl37 sl38 sl39 sl40 sl41 sl42 sl43 sl44 sl45 sl46 sl47 sl48 sl49 sl50 sl51 msl1 msl2 msl3 msl4 msl5 msl6 msl7 : Array (Option Value)}
    {oc1 kV1 dc1 pm1 cd1 ct1 oc2 kV2 dc2 pm2 cd2 ct2 oc3 kV3 dc3 pm3 cd3 ct3 oc4 kV4 dc4 pm4 cd4 ct4 oc5 kV5 dc5 pm5 cd5 ct5 oc6 kV6 dc6 pm6 cd6 ct6 oc7 kV7 dc7 pm7 cd7 ct7 oc8 kV8 dc8 pm8 cd8 ct8 oc9 kV9 dc9 pm9 cd9 ct9 oc10 kV10 dc10 pm10 cd10 ct10 oc11 kV11 dc11 pm11 cd11 ct11 oc12 kV12 dc12 pm12 cd12 ct12 oc13 kV13 dc13 pm13 cd13 ct13 oc14 kV14 dc14 pm14 cd14 ct14 oc15 kV15 dc15 pm15 cd15 ct15 oc16 kV16 dc16 pm16 cd16 ct16 oc17 kV17 dc17 pm17 cd17 ct17 oc18 kV18 dc18 pm18 cd18 ct18 oc19 kV19 dc19 pm19 cd19 ct19 oc20 kV20 dc20 pm20 cd20 ct20 oc21 kV21 dc21 pm21 cd21 ct21 oc22 kV22 dc22 pm22 ct22 oc23 kV23 dc23 pm23 cd23 ct23 oc24 kV24 dc24 pm24 cd24 ct24 oc25 kV25 dc25 pm25 cd25 ct25 oc26 kV26 dc26 pm26 cd26 ct26 oc27 kV27 dc27 pm27 cd27 ct27 oc28 kV28 dc28 pm28 cd28 ct28 oc29 kV29 dc29 pm29 cd29 ct29 oc30 kV30 dc30 pm30 cd30 ct30 oc31 kV31 dc31 pm31 cd31 ct31 oc32 kV32 dc32 pm32 cd32 ct32 oc33 kV33 dc33 pm33 cd33 ct33 oc34 kV34 dc34 pm34 cd34 ct34 oc35 kV35 dc35 pm35 cd35 ct35 oc36 kV36 dc36 pm36 cd36 ct36 oc37 kV37 dc37 pm37 cd37 ct37 oc38 kV38 dc38 pm38 cd38 ct38 oc39 kV39 dc39 pm39 cd39 ct39 oc40 kV40 dc40 pm40 cd40 ct40 oc41 kV41 dc41 pm41 cd41 ct41 oc42 kV42 dc42 pm42 cd42 ct42 oc43 kV43 dc43 pm43 cd43 ct43 oc44 kV44 dc44 pm44 cd44 ct44 oc45 kV45 dc45 pm45 cd45 ct45 oc46 kV46 dc46 pm46 cd46 ct46 oc47 kV47 dc47 pm47 cd47 ct47 oc48 kV48 dc48 pm48 cd48 ct48 oc49 kV49 dc49 pm49 cd49 ct49 oc50 kV50 dc50 pm50 cd50 ct50 oc51 kV51 dc51 pm51 cd51 ct51 moc1 mkV1 mdc1 mpm1 mcd1 mct1 moc2 mkV2 mdc2 mpm2 mcd2 mct2 moc3 mkV3 mdc3 mpm3 mcd3 mct3 moc4 mkV4 mdc4 mpm4 mcd4 mct4 moc5 mkV5 mdc5 mpm5 mct5 moc6 mkV6 mdc6 mpm6 mcd6 mct6 moc7 mkV7 mdc7 mpm7 mcd7 mct7 : Value}
    (a1 : PySem.W.nsIn K mainGlobals "placed" = some (some (.ref f1)))
    (l1 : K.lookup f1 = some ⟨oc1, od1, .func (PySem.W.fnOf "placed" "placed" (defArgs splaced) (defBody splaced) (defScope splaced) .none kV1 dc1 pm1 an1 cd1 ct1), sl1⟩)
    (c1 : PySem.W.codeIn K cd1 "placed" = true)
    (k1 : PySem.W.keepIn K (.ref f1) = true)
    (a2 : PySem.W.nsIn K mainGlobals "remade" = some (some (.ref f2)))
    (l2 : K.lookup f2 = some ⟨oc2, od2, .func (PySem.W.fnOf "remade" "remade" (defArgs sremade) (defBody sremade) (defScope sremade) .none kV2 dc2 pm2 an2 cd2 ct2), sl2⟩)
    (c2 : PySem.W.codeIn K cd2 "remade" = true)
    (k2 : PySem.W.keepIn K (.ref f2) = true)
    (a3 : PySem.W.nsIn K mainGlobals "last_taken" = some (some (.ref f3)))
    (l3 : K.lookup f3 = some ⟨oc3, od3, .func (PySem.W.fnOf "last_taken" "last_taken" (defArgs slast_taken) (defBody slast_taken) (defScope slast_taken) .none kV3 dc3 pm3 an3 cd3 ct3), sl3⟩)
    (c3 : PySem.W.codeIn K cd3 "last_taken" = true)
    (k3 : PySem.W.keepIn K (.ref f3) = true)
    (a4 : PySem.W.nsIn K mainGlobals "is_whole" = some (some (.ref f4)))
    (l4 : K.lookup f4 = some ⟨oc4, od4, .func (PySem.W.fnOf "is_whole" "is_whole" (defArgs sis_whole) (defBody sis_whole) (defScope sis_whole) .none kV4 dc4 pm4 an4 cd4 ct4), sl4⟩)
    (c4 : PySem.W.codeIn K cd4 "is_whole" = true)
    (k4 : PySem.W.keepIn K (.ref f4) = true)
    (a5 : PySem.W.nsIn K mainGlobals "parts_of" = some (some (.ref f5)))
    (l5 : K.lookup f5 = some ⟨oc5, od5, .func (PySem.W.fnOf "parts_of" "parts_of" (defArgs sparts_of) (defBody sparts_of) (defScope sparts_of) .none kV5 dc5 pm5 an5 cd5 ct5), sl5⟩)
    (c5 : PySem.W.codeIn K cd5 "parts_of" = true)
    (k5 : PySem.W.keepIn K (.ref f5) = true)
    (a6 : PySem.W.nsIn K mainGlobals "errand_named" = some (some (.ref f6)))
    (l6 : K.lookup f6 = some ⟨oc6, od6, .func (PySem.W.fnOf "errand_named" "errand_named" (defArgs serrand_named) (defBody serrand_named) (defScope serrand_named) .none kV6 dc6 pm6 an6 cd6 ct6), sl6⟩)
    (c6 : PySem.W.codeIn K cd6 "errand_named" = true)
    (k6 : PySem.W.keepIn K (.ref f6) = true)
    (a7 : PySem.W.nsIn K mainGlobals "need_errand" = some (some (.ref f7)))
    (l7 : K.lookup f7 = some ⟨oc7, od7, .func (PySem.W.fnOf "need_errand" "need_errand" (defArgs sneed_errand) (defBody sneed_errand) (defScope sneed_errand) .none kV7 dc7 pm7 an7 cd7 ct7), sl7⟩)
    (c7 : PySem.W.codeIn K cd7 "need_errand" = true)
    (k7 : PySem.W.keepIn K (.ref f7) = true)
    (a8 : PySem.W.nsIn K mainGlobals "need_asking" = some (some (.ref f8)))
    (l8 : K.lookup f8 = some ⟨oc8, od8, .func (PySem.W.fnOf "need_asking" "need_asking" (defArgs sneed_asking) (defBody sneed_asking) (defScope sneed_asking) .none kV8 dc8 pm8 an8 cd8 ct8), sl8⟩)
    (c8 : PySem.W.codeIn K cd8 "need_asking" = true)
    (k8 : PySem.W.keepIn K (.ref f8) = true)
    (a9 : PySem.W.nsIn K mainGlobals "need_most" = some (some (.ref f9)))
    (l9 : K.lookup f9 = some ⟨oc9, od9, .func (PySem.W.fnOf "need_most" "need_most" (defArgs sneed_most) (defBody sneed_most) (defScope sneed_most) .none kV9 dc9 pm9 an9 cd9 ct9), sl9⟩)
    (c9 : PySem.W.codeIn K cd9 "need_most" = true)
    (k9 : PySem.W.keepIn K (.ref f9) = true)
    (a10 : PySem.W.nsIn K mainGlobals "terms_in" = some (some (.ref f10)))
    (l10 : K.lookup f10 = some ⟨oc10, od10, .func (PySem.W.fnOf "terms_in" "terms_in" (defArgs sterms_in) (defBody sterms_in) (defScope sterms_in) .none kV10 dc10 pm10 an10 cd10 ct10), sl10⟩)
    (c10 : PySem.W.codeIn K cd10 "terms_in" = true)
    (k10 : PySem.W.keepIn K (.ref f10) = true)
    (a11 : PySem.W.nsIn K mainGlobals "rest_of" = some (some (.ref f11)))
    (l11 : K.lookup f11 = some ⟨oc11, od11, .func (PySem.W.fnOf "rest_of" "rest_of" (defArgs srest_of) (defBody srest_of) (defScope srest_of) .none kV11 dc11 pm11 an11 cd11 ct11), sl11⟩)
    (c11 : PySem.W.codeIn K cd11 "rest_of" = true)
    (k11 : PySem.W.keepIn K (.ref f11) = true)
    (a12 : PySem.W.nsIn K mainGlobals "turned_parts" = some (some (.ref f12)))
    (l12 : K.lookup f12 = some ⟨oc12, od12, .func (PySem.W.fnOf "turned_parts" "turned_parts" (defArgs sturned_parts) (defBody sturned_parts) (defScope sturned_parts) .none kV12 dc12 pm12 an12 cd12 ct12), sl12⟩)
    (c12 : PySem.W.codeIn K cd12 "turned_parts" = true)
    (k12 : PySem.W.keepIn K (.ref f12) = true)
    (a13 : PySem.W.nsIn K mainGlobals "hand_of" = some (some (.ref f13)))
    (l13 : K.lookup f13 = some ⟨oc13, od13, .func (PySem.W.fnOf "hand_of" "hand_of" (defArgs shand_of) (defBody shand_of) (defScope shand_of) .none kV13 dc13 pm13 an13 cd13 ct13), sl13⟩)
    (c13 : PySem.W.codeIn K cd13 "hand_of" = true)
    (k13 : PySem.W.keepIn K (.ref f13) = true)
    (a14 : PySem.W.nsIn K mainGlobals "most_waiting" = some (some (.ref f14)))
    (l14 : K.lookup f14 = some ⟨oc14, od14, .func (PySem.W.fnOf "most_waiting" "most_waiting" (defArgs smost_waiting) (defBody smost_waiting) (defScope smost_waiting) .none kV14 dc14 pm14 an14 cd14 ct14), sl14⟩)
    (c14 : PySem.W.codeIn K cd14 "most_waiting" = true)
    (k14 : PySem.W.keepIn K (.ref f14) = true)
    (a15 : PySem.W.nsIn K mainGlobals "asks_placed" = some (some (.ref f15)))
    (l15 : K.lookup f15 = some ⟨oc15, od15, .func (PySem.W.fnOf "asks_placed" "asks_placed" (defArgs sasks_placed) (defBody sasks_placed) (defScope sasks_placed) .none kV15 dc15 pm15 an15 cd15 ct15), sl15⟩)
    (c15 : PySem.W.codeIn K cd15 "asks_placed" = true)
    (k15 : PySem.W.keepIn K (.ref f15) = true)
    (a16 : PySem.W.nsIn K mainGlobals "rows_from" = some (some (.ref f16)))
    (l16 : K.lookup f16 = some ⟨oc16, od16, .func (PySem.W.fnOf "rows_from" "rows_from" (defArgs srows_from) (defBody srows_from) (defScope srows_from) .none kV16 dc16 pm16 an16 cd16 ct16), sl16⟩)
    (c16 : PySem.W.codeIn K cd16 "rows_from" = true)
    (k16 : PySem.W.keepIn K (.ref f16) = true)
    (a17 : PySem.W.nsIn K mainGlobals "least_levels" = some (some (.ref f17)))
    (l17 : K.lookup f17 = some ⟨oc17, od17, .func (PySem.W.fnOf "least_levels" "least_levels" (defArgs sleast_levels) (defBody sleast_levels) (defScope sleast_levels) .none kV17 dc17 pm17 an17 cd17 ct17), sl17⟩)
    (c17 : PySem.W.codeIn K cd17 "least_levels" = true)
    (k17 : PySem.W.keepIn K (.ref f17) = true)
    (a18 : PySem.W.nsIn K mainGlobals "greatest_row" = some (some (.ref f18)))
    (l18 : K.lookup f18 = some ⟨oc18, od18, .func (PySem.W.fnOf "greatest_row" "greatest_row" (defArgs sgreatest_row) (defBody sgreatest_row) (defScope sgreatest_row) .none kV18 dc18 pm18 an18 cd18 ct18), sl18⟩)
    (c18 : PySem.W.codeIn K cd18 "greatest_row" = true)
    (k18 : PySem.W.keepIn K (.ref f18) = true)
    (a19 : PySem.W.nsIn K mainGlobals "step_down" = some (some (.ref f19)))
    (l19 : K.lookup f19 = some ⟨oc19, od19, .func (PySem.W.fnOf "step_down" "step_down" (defArgs sstep_down) (defBody sstep_down) (defScope sstep_down) .none kV19 dc19 pm19 an19 cd19 ct19), sl19⟩)
    (c19 : PySem.W.codeIn K cd19 "step_down" = true)
    (k19 : PySem.W.keepIn K (.ref f19) = true)
    (a20 : PySem.W.nsIn K mainGlobals "is_step_to" = some (some (.ref f20)))
    (l20 : K.lookup f20 = some ⟨oc20, od20, .func (PySem.W.fnOf "is_step_to" "is_step_to" (defArgs sis_step_to) (defBody sis_step_to) (defScope sis_step_to) .none kV20 dc20 pm20 an20 cd20 ct20), sl20⟩)
    (c20 : PySem.W.codeIn K cd20 "is_step_to" = true)
    (k20 : PySem.W.keepIn K (.ref f20) = true)
    (a21 : PySem.W.nsIn K mainGlobals "combined" = some (some (.ref f21)))
    (l21 : K.lookup f21 = some ⟨oc21, od21, .func (PySem.W.fnOf "combined" "combined" (defArgs scombined) (defBody scombined) (defScope scombined) .none kV21 dc21 pm21 an21 cd21 ct21), sl21⟩)
    (c21 : PySem.W.codeIn K cd21 "combined" = true)
    (k21 : PySem.W.keepIn K (.ref f21) = true)
    (a22 : PySem.W.nsIn K mainGlobals "number_of" = some (some (.ref f22)))
    (l22 : K.lookup f22 = some ⟨oc22, od22, .func (PySem.W.fnOf "number_of" "number_of" (defArgs snumber_of) (defBody snumber_of) (defScope snumber_of) .none kV22 dc22 pm22 an22 (.ref ca1) ct22), sl22⟩)
    (c22 : PySem.W.codeIn K (.ref ca1) "number_of" = true)
    (k22 : PySem.W.keepIn K (.ref f22) = true)
    (a23 : PySem.W.nsIn K mainGlobals "number_by_parts" = some (some (.ref f23)))
    (l23 : K.lookup f23 = some ⟨oc23, od23, .func (PySem.W.fnOf "number_by_parts" "number_by_parts" (defArgs snumber_by_parts) (defBody snumber_by_parts) (defScope snumber_by_parts) .none kV23 dc23 pm23 an23 cd23 ct23), sl23⟩)
    (c23 : PySem.W.codeIn K cd23 "number_by_parts" = true)
    (k23 : PySem.W.keepIn K (.ref f23) = true)
    (a24 : PySem.W.nsIn K mainGlobals "passed" = some (some (.ref f24)))
    (l24 : K.lookup f24 = some ⟨oc24, od24, .func (PySem.W.fnOf "passed" "passed" (defArgs spassed) (defBody spassed) (defScope spassed) .none kV24 dc24 pm24 an24 cd24 ct24), sl24⟩)
    (c24 : PySem.W.codeIn K cd24 "passed" = true)
    (k24 : PySem.W.keepIn K (.ref f24) = true)
    (a25 : PySem.W.nsIn K mainGlobals "run_turned" = some (some (.ref f25)))
    (l25 : K.lookup f25 = some ⟨oc25, od25, .func (PySem.W.fnOf "run_turned" "run_turned" (defArgs srun_turned) (defBody srun_turned) (defScope srun_turned) .none kV25 dc25 pm25 an25 cd25 ct25), sl25⟩)
    (c25 : PySem.W.codeIn K cd25 "run_turned" = true)
    (k25 : PySem.W.keepIn K (.ref f25) = true)
    (a26 : PySem.W.nsIn K mainGlobals "_law_cell_at" = some (some (.ref f26)))
    (l26 : K.lookup f26 = some ⟨oc26, od26, .func (PySem.W.fnOf "_law_cell_at" "_law_cell_at" (defArgs s_law_cell_at) (defBody s_law_cell_at) (defScope s_law_cell_at) .none kV26 dc26 pm26 an26 cd26 ct26), sl26⟩)
    (c26 : PySem.W.codeIn K cd26 "_law_cell_at" = true)
    (k26 : PySem.W.keepIn K (.ref f26) = true)
    (a27 : PySem.W.nsIn K mainGlobals "_law_tape" = some (some (.ref f27)))
    (l27 : K.lookup f27 = some ⟨oc27, od27, .func (PySem.W.fnOf "_law_tape" "_law_tape" (defArgs s_law_tape) (defBody s_law_tape) (defScope s_law_tape) .none kV27 dc27 pm27 an27 cd27 ct27), sl27⟩)
    (c27 : PySem.W.codeIn K cd27 "_law_tape" = true)
    (k27 : PySem.W.keepIn K (.ref f27) = true)
    (a28 : PySem.W.nsIn K mainGlobals "_law_digit" = some (some (.ref f28)))
    (l28 : K.lookup f28 = some ⟨oc28, od28, .func (PySem.W.fnOf "_law_digit" "_law_digit" (defArgs s_law_digit) (defBody s_law_digit) (defScope s_law_digit) .none kV28 dc28 pm28 an28 cd28 ct28), sl28⟩)
    (c28 : PySem.W.codeIn K cd28 "_law_digit" = true)
    (k28 : PySem.W.keepIn K (.ref f28) = true)
    (a29 : PySem.W.nsIn K mainGlobals "_law_words" = some (some (.ref f29)))
    (l29 : K.lookup f29 = some ⟨oc29, od29, .func (PySem.W.fnOf "_law_words" "_law_words" (defArgs s_law_words) (defBody s_law_words) (defScope s_law_words) .none kV29 dc29 pm29 an29 cd29 ct29), sl29⟩)
    (c29 : PySem.W.codeIn K cd29 "_law_words" = true)
    (k29 : PySem.W.keepIn K (.ref f29) = true)
    (a30 : PySem.W.nsIn K mainGlobals "_law_number" = some (some (.ref f30)))
    (l30 : K.lookup f30 = some ⟨oc30, od30, .func (PySem.W.fnOf "_law_number" "_law_number" (defArgs s_law_number) (defBody s_law_number) (defScope s_law_number) .none kV30 dc30 pm30 an30 cd30 ct30), sl30⟩)
    (c30 : PySem.W.codeIn K cd30 "_law_number" = true)
    (k30 : PySem.W.keepIn K (.ref f30) = true)
    (a31 : PySem.W.nsIn K mainGlobals "_law_leaf" = some (some (.ref f31)))
    (l31 : K.lookup f31 = some ⟨oc31, od31, .func (PySem.W.fnOf "_law_leaf" "_law_leaf" (defArgs s_law_leaf) (defBody s_law_leaf) (defScope s_law_leaf) .none kV31 dc31 pm31 an31 cd31 ct31), sl31⟩)
    (c31 : PySem.W.codeIn K cd31 "_law_leaf" = true)
    (k31 : PySem.W.keepIn K (.ref f31) = true)
    (a32 : PySem.W.nsIn K mainGlobals "_law_shares" = some (some (.ref f32)))
    (l32 : K.lookup f32 = some ⟨oc32, od32, .func (PySem.W.fnOf "_law_shares" "_law_shares" (defArgs s_law_shares) (defBody s_law_shares) (defScope s_law_shares) .none kV32 dc32 pm32 an32 cd32 ct32), sl32⟩)
    (c32 : PySem.W.codeIn K cd32 "_law_shares" = true)
    (k32 : PySem.W.keepIn K (.ref f32) = true)
    (a33 : PySem.W.nsIn K mainGlobals "_law_less_one" = some (some (.ref f33)))
    (l33 : K.lookup f33 = some ⟨oc33, od33, .func (PySem.W.fnOf "_law_less_one" "_law_less_one" (defArgs s_law_less_one) (defBody s_law_less_one) (defScope s_law_less_one) .none kV33 dc33 pm33 an33 cd33 ct33), sl33⟩)
    (c33 : PySem.W.codeIn K cd33 "_law_less_one" = true)
    (k33 : PySem.W.keepIn K (.ref f33) = true)
    (a34 : PySem.W.nsIn K mainGlobals "_law_numbers" = some (some (.ref f34)))
    (l34 : K.lookup f34 = some ⟨oc34, od34, .func (PySem.W.fnOf "_law_numbers" "_law_numbers" (defArgs s_law_numbers) (defBody s_law_numbers) (defScope s_law_numbers) .none kV34 dc34 pm34 an34 cd34 ct34), sl34⟩)
    (c34 : PySem.W.codeIn K cd34 "_law_numbers" = true)
    (k34 : PySem.W.keepIn K (.ref f34) = true)
    (a35 : PySem.W.nsIn K mainGlobals "_law_value" = some (some (.ref f35)))
    (l35 : K.lookup f35 = some ⟨oc35, od35, .func (PySem.W.fnOf "_law_value" "_law_value" (defArgs s_law_value) (defBody s_law_value) (defScope s_law_value) .none kV35 dc35 pm35 an35 cd35 ct35), sl35⟩)
    (c35 : PySem.W.codeIn K cd35 "_law_value" = true)
    (k35 : PySem.W.keepIn K (.ref f35) = true)
    (a36 : PySem.W.nsIn K mainGlobals "_law_turned_run" = some (some (.ref f36)))
    (l36 : K.lookup f36 = some ⟨oc36, od36, .func (PySem.W.fnOf "_law_turned_run" "_law_turned_run" (defArgs s_law_turned_run) (defBody s_law_turned_run) (defScope s_law_turned_run) .none kV36 dc36 pm36 an36 cd36 ct36), sl36⟩)
    (c36 : PySem.W.codeIn K cd36 "_law_turned_run" = true)
    (k36 : PySem.W.keepIn K (.ref f36) = true)
    (a37 : PySem.W.nsIn K mainGlobals "_law_along" = some (some (.ref f37)))
    (l37 : K.lookup f37 = some ⟨oc37, od37, .func (PySem.W.fnOf "_law_along" "_law_along" (defArgs s_law_along) (defBody s_law_along) (defScope s_law_along) .none kV37 dc37 pm37 an37 cd37 ct37), sl37⟩)
    (c37 : PySem.W.codeIn K cd37 "_law_along" = true)
    (k37 : PySem.W.keepIn K (.ref f37) = true)
    (a38 : PySem.W.nsIn K mainGlobals "_law_simple" = some (some (.ref f38)))
    (l38 : K.lookup f38 = some ⟨oc38, od38, .func (PySem.W.fnOf "_law_simple" "_law_simple" (defArgs s_law_simple) (defBody s_law_simple) (defScope s_law_simple) .none kV38 dc38 pm38 an38 cd38 ct38), sl38⟩)
    (c38 : PySem.W.codeIn K cd38 "_law_simple" = true)
    (k38 : PySem.W.keepIn K (.ref f38) = true)
    (a39 : PySem.W.nsIn K mainGlobals "_law_some_hand" = some (some (.ref f39)))
    (l39 : K.lookup f39 = some ⟨oc39, od39, .func (PySem.W.fnOf "_law_some_hand" "_law_some_hand" (defArgs s_law_some_hand) (defBody s_law_some_hand) (defScope s_law_some_hand) .none kV39 dc39 pm39 an39 cd39 ct39), sl39⟩)
    (c39 : PySem.W.codeIn K cd39 "_law_some_hand" = true)
    (k39 : PySem.W.keepIn K (.ref f39) = true)
    (a40 : PySem.W.nsIn K mainGlobals "_law_end" = some (some (.ref f40)))
    (l40 : K.lookup f40 = some ⟨oc40, od40, .func (PySem.W.fnOf "_law_end" "_law_end" (defArgs s_law_end) (defBody s_law_end) (defScope s_law_end) .none kV40 dc40 pm40 an40 cd40 ct40), sl40⟩)
    (c40 : PySem.W.codeIn K cd40 "_law_end" = true)
    (k40 : PySem.W.keepIn K (.ref f40) = true)
    (a41 : PySem.W.nsIn K mainGlobals "_law_part" = some (some (.ref f41)))
    (l41 : K.lookup f41 = some ⟨oc41, od41, .func (PySem.W.fnOf "_law_part" "_law_part" (defArgs s_law_part) (defBody s_law_part) (defScope s_law_part) .none kV41 dc41 pm41 an41 cd41 ct41), sl41⟩)
    (c41 : PySem.W.codeIn K cd41 "_law_part" = true)
    (k41 : PySem.W.keepIn K (.ref f41) = true)
    (a42 : PySem.W.nsIn K mainGlobals "_law_turned_body" = some (some (.ref f42)))
    (l42 : K.lookup f42 = some ⟨oc42, od42, .func (PySem.W.fnOf "_law_turned_body" "_law_turned_body" (defArgs s_law_turned_body) (defBody s_law_turned_body) (defScope s_law_turned_body) .none kV42 dc42 pm42 an42 cd42 ct42), sl42⟩)
    (c42 : PySem.W.codeIn K cd42 "_law_turned_body" = true)
    (k42 : PySem.W.keepIn K (.ref f42) = true)
    (a43 : PySem.W.nsIn K mainGlobals "_law_turned_book" = some (some (.ref f43)))
    (l43 : K.lookup f43 = some ⟨oc43, od43, .func (PySem.W.fnOf "_law_turned_book" "_law_turned_book" (defArgs s_law_turned_book) (defBody s_law_turned_book) (defScope s_law_turned_book) .none kV43 dc43 pm43 an43 cd43 ct43), sl43⟩)
    (c43 : PySem.W.codeIn K cd43 "_law_turned_book" = true)
    (k43 : PySem.W.keepIn K (.ref f43) = true)
    (a44 : PySem.W.nsIn K mainGlobals "_law_kids" = some (some (.ref f44)))
    (l44 : K.lookup f44 = some ⟨oc44, od44, .func (PySem.W.fnOf "_law_kids" "_law_kids" (defArgs s_law_kids) (defBody s_law_kids) (defScope s_law_kids) .none kV44 dc44 pm44 an44 cd44 ct44), sl44⟩)
    (c44 : PySem.W.codeIn K cd44 "_law_kids" = true)
    (k44 : PySem.W.keepIn K (.ref f44) = true)
    (a45 : PySem.W.nsIn K mainGlobals "_law_all" = some (some (.ref f45)))
    (l45 : K.lookup f45 = some ⟨oc45, od45, .func (PySem.W.fnOf "_law_all" "_law_all" (defArgs s_law_all) (defBody s_law_all) (defScope s_law_all) .none kV45 dc45 pm45 an45 cd45 ct45), sl45⟩)
    (c45 : PySem.W.codeIn K cd45 "_law_all" = true)
    (k45 : PySem.W.keepIn K (.ref f45) = true)
    (a46 : PySem.W.nsIn K mainGlobals "_law_web_part" = some (some (.ref f46)))
    (l46 : K.lookup f46 = some ⟨oc46, od46, .func (PySem.W.fnOf "_law_web_part" "_law_web_part" (defArgs s_law_web_part) (defBody s_law_web_part) (defScope s_law_web_part) .none kV46 dc46 pm46 an46 cd46 ct46), sl46⟩)
    (c46 : PySem.W.codeIn K cd46 "_law_web_part" = true)
    (k46 : PySem.W.keepIn K (.ref f46) = true)
    (a47 : PySem.W.nsIn K mainGlobals "_law_web" = some (some (.ref f47)))
    (l47 : K.lookup f47 = some ⟨oc47, od47, .func (PySem.W.fnOf "_law_web" "_law_web" (defArgs s_law_web) (defBody s_law_web) (defScope s_law_web) .none kV47 dc47 pm47 an47 cd47 ct47), sl47⟩)
    (c47 : PySem.W.codeIn K cd47 "_law_web" = true)
    (k47 : PySem.W.keepIn K (.ref f47) = true)
    (a48 : PySem.W.nsIn K mainGlobals "_law_asks" = some (some (.ref f48)))
    (l48 : K.lookup f48 = some ⟨oc48, od48, .func (PySem.W.fnOf "_law_asks" "_law_asks" (defArgs s_law_asks) (defBody s_law_asks) (defScope s_law_asks) .none kV48 dc48 pm48 an48 cd48 ct48), sl48⟩)
    (c48 : PySem.W.codeIn K cd48 "_law_asks" = true)
    (k48 : PySem.W.keepIn K (.ref f48) = true)
    (a49 : PySem.W.nsIn K mainGlobals "_law_row_end" = some (some (.ref f49)))
    (l49 : K.lookup f49 = some ⟨oc49, od49, .func (PySem.W.fnOf "_law_row_end" "_law_row_end" (defArgs s_law_row_end) (defBody s_law_row_end) (defScope s_law_row_end) .none kV49 dc49 pm49 an49 cd49 ct49), sl49⟩)
    (c49 : PySem.W.codeIn K cd49 "_law_row_end" = true)
    (k49 : PySem.W.keepIn K (.ref f49) = true)
    (a50 : PySem.W.nsIn K mainGlobals "_law_waits_book" = some (some (.ref f50)))
    (l50 : K.lookup f50 = some ⟨oc50, od50, .func (PySem.W.fnOf "_law_waits_book" "_law_waits_book" (defArgs s_law_waits_book) (defBody s_law_waits_book) (defScope s_law_waits_book) .none kV50 dc50 pm50 an50 cd50 ct50), sl50⟩)
    (c50 : PySem.W.codeIn K cd50 "_law_waits_book" = true)
    (k50 : PySem.W.keepIn K (.ref f50) = true)
    (a51 : PySem.W.nsIn K mainGlobals "law" = some (some (.ref f51)))
    (l51 : K.lookup f51 = some ⟨oc51, od51, .func (PySem.W.fnOf "law" "law" (defArgs slaw) (defBody slaw) (defScope slaw) .none kV51 dc51 pm51 an51 cd51 ct51), sl51⟩)
    (c51 : PySem.W.codeIn K cd51 "law" = true)
    (k51 : PySem.W.keepIn K (.ref f51) = true)
    (gCH : PySem.W.nsIn K mainGlobals "HandOn" = some (some (.ref CH)))
    (gCR : PySem.W.nsIn K mainGlobals "TurnedRunning" = some (some (.ref CR)))
    (ma1 : PySem.W.findIn K (.ref CH) "__init__" = some (some (.ref m1)))
    (mi1 : PySem.W.isFn K (.ref m1) = true)
    (ml1 : K.lookup m1 = some ⟨moc1, mod1, .func (PySem.W.fnOf "__init__" "HandOn.__init__" (defArgs sHonI) (defBody sHonI) (defScope sHonI) .none mkV1 mdc1 mpm1 man1 mcd1 mct1), msl1⟩)
    (mc1 : PySem.W.codeIn K mcd1 "HandOn.__init__" = true)
    (mk1 : PySem.W.keepIn K (.ref m1) = true)
    (ma2 : PySem.W.findIn K (.ref CR) "__init__" = some (some (.ref m2)))
    (mi2 : PySem.W.isFn K (.ref m2) = true)
    (ml2 : K.lookup m2 = some ⟨moc2, mod2, .func (PySem.W.fnOf "__init__" "TurnedRunning.__init__" (defArgs sTRun0) (defBody sTRun0) (defScope sTRun0) .none mkV2 mdc2 mpm2 man2 mcd2 mct2), msl2⟩)
    (mc2 : PySem.W.codeIn K mcd2 "TurnedRunning.__init__" = true)
    (mk2 : PySem.W.keepIn K (.ref m2) = true)
    (ma3 : PySem.W.findIn K (.ref CR) "go" = some (some (.ref m3)))
    (mi3 : PySem.W.isFn K (.ref m3) = true)
    (ml3 : K.lookup m3 = some ⟨moc3, mod3, .func (PySem.W.fnOf "go" "TurnedRunning.go" (defArgs sGoT) (defBody sGoT) (defScope sGoT) .none mkV3 mdc3 mpm3 man3 mcd3 mct3), msl3⟩)
    (mc3 : PySem.W.codeIn K mcd3 "TurnedRunning.go" = true)
    (mk3 : PySem.W.keepIn K (.ref m3) = true)
    (ma4 : PySem.W.findIn K (.ref CR) "ask" = some (some (.ref m4)))
    (mi4 : PySem.W.isFn K (.ref m4) = true)
    (ml4 : K.lookup m4 = some ⟨moc4, mod4, .func (PySem.W.fnOf "ask" "TurnedRunning.ask" (defArgs sAskT) (defBody sAskT) (defScope sAskT) .none mkV4 mdc4 mpm4 man4 mcd4 mct4), msl4⟩)
    (mc4 : PySem.W.codeIn K mcd4 "TurnedRunning.ask" = true)
    (mk4 : PySem.W.keepIn K (.ref m4) = true)
    (ma5 : PySem.W.findIn K (.ref CR) "pass_part" = some (some (.ref m5)))
    (mi5 : PySem.W.isFn K (.ref m5) = true)
    (ml5 : K.lookup m5 = some ⟨moc5, mod5, .func (PySem.W.fnOf "pass_part" "TurnedRunning.pass_part" (defArgs sPassP) (defBody sPassP) (defScope sPassP) .none mkV5 mdc5 mpm5 man5 (.ref ca2) mct5), msl5⟩)
    (mc5 : PySem.W.codeIn K (.ref ca2) "TurnedRunning.pass_part" = true)
    (mk5 : PySem.W.keepIn K (.ref m5) = true)
    (ma6 : PySem.W.findIn K (.ref CR) "give" = some (some (.ref m6)))
    (mi6 : PySem.W.isFn K (.ref m6) = true)
    (ml6 : K.lookup m6 = some ⟨moc6, mod6, .func (PySem.W.fnOf "give" "TurnedRunning.give" (defArgs sGive) (defBody sGive) (defScope sGive) .none mkV6 mdc6 mpm6 man6 mcd6 mct6), msl6⟩)
    (mc6 : PySem.W.codeIn K mcd6 "TurnedRunning.give" = true)
    (mk6 : PySem.W.keepIn K (.ref m6) = true)
    (ma7 : PySem.W.findIn K (.ref CR) "make" = some (some (.ref m7)))
    (mi7 : PySem.W.isFn K (.ref m7) = true)
    (ml7 : K.lookup m7 = some ⟨moc7, mod7, .func (PySem.W.fnOf "make" "TurnedRunning.make" (defArgs sMake) (defBody sMake) (defScope sMake) .none mkV7 mdc7 mpm7 man7 mcd7 mct7), msl7⟩)
    (mc7 : PySem.W.codeIn K mcd7 "TurnedRunning.make" = true)
    (mk7 : PySem.W.keepIn K (.ref m7) = true)
    (pgCH : PySem.W.plainGet K CH Str.empty = true)
    (hdCH : PySem.W.hasDictIn K CH = true)
    (poCH : PySem.W.plainOver K CH = true)
    (saCH : PySem.W.findIn K (.ref CH) "__setattr__" = some (some (.builtin "object.__setattr__")))
    (msCH : PySem.W.makesIn K CH = true)
    (kcCH : PySem.W.keepIn K (.ref CH) = true)
    (nCHpost : PySem.W.findIn K (.ref CH) "post" = some none)
    (nCHwords : PySem.W.findIn K (.ref CH) "words" = some none)
    (nCHhands : PySem.W.findIn K (.ref CH) "hands" = some none)
    (nCHheight : PySem.W.findIn K (.ref CH) "height" = some none)
    (pgCR : PySem.W.plainGet K CR Str.empty = true)
    (hdCR : PySem.W.hasDictIn K CR = true)
    (poCR : PySem.W.plainOver K CR = true)
    (saCR : PySem.W.findIn K (.ref CR) "__setattr__" = some (some (.builtin "object.__setattr__")))
    (msCR : PySem.W.makesIn K CR = true)
    (kcCR : PySem.W.keepIn K (.ref CR) = true)
    (nCRerrands : PySem.W.findIn K (.ref CR) "errands" = some none)
    (nCRmost : PySem.W.findIn K (.ref CR) "most" = some none)
    (nCRtrail : PySem.W.findIn K (.ref CR) "trail" = some none)
    (nCRend : PySem.W.findIn K (.ref CR) "end" = some none)
    (nCRdeepest : PySem.W.findIn K (.ref CR) "deepest" = some none)
    (nCRmade : PySem.W.findIn K (.ref CR) "made" = some none)
    (nCRasked : PySem.W.findIn K (.ref CR) "asked" = some none)
    (nCRpart : PySem.W.findIn K (.ref CR) "part" = some none)
    (nCRwords : PySem.W.findIn K (.ref CR) "words" = some none)
    (nCRhands : PySem.W.findIn K (.ref CR) "hands" = some none)
    (gCN : PySem.W.nsIn K mainGlobals "NoAsking" = some (some (.ref CN)))
    (xCN : PySem.W.excIn K CN [.type "ValueError", .type "Exception", .type "BaseException", .type "object"] "ValueError.__new__" = true)
    (kCN : PySem.W.keepIn K (.ref CN) = true)
    (bCN : PySem.W.subIn K (.ref CN) (.type "BaseException") = some true)
    (tCN : PySem.W.typeIn K (.ref CN) = some (.type "type"))
    (gCM : PySem.W.nsIn K mainGlobals "NoMost" = some (some (.ref CM)))
    (xCM : PySem.W.excIn K CM [.type "ValueError", .type "Exception", .type "BaseException", .type "object"] "ValueError.__new__" = true)
    (kCM : PySem.W.keepIn K (.ref CM) = true)
    (bCM : PySem.W.subIn K (.ref CM) (.type "BaseException") = some true)
    (tCM : PySem.W.typeIn K (.ref CM) = some (.type "type"))
    (hne : CH ≠ CR)
    (z_len : PySem.W.nsIn K mainGlobals "len" = some none)
    (z_isinstance : PySem.W.nsIn K mainGlobals "isinstance" = some none)
    (z_int : PySem.W.nsIn K mainGlobals "int" = some none)
    (z_tuple : PySem.W.nsIn K mainGlobals "tuple" = some none)
    (z_list : PySem.W.nsIn K mainGlobals "list" = some none)
    (z_str : PySem.W.nsIn K mainGlobals "str" = some none)
    (z_bool : PySem.W.nsIn K mainGlobals "bool" = some none)
    (z_max : PySem.W.nsIn K mainGlobals "max" = some none)
    (z_all : PySem.W.nsIn K mainGlobals "all" = some none)
    (z_dict : PySem.W.nsIn K mainGlobals "dict" = some none)
    (z_range : PySem.W.nsIn K mainGlobals "range" = some none)
    (z_enumerate : PySem.W.nsIn K mainGlobals "enumerate" = some none)
    (z_reversed : PySem.W.nsIn K mainGlobals "reversed" = some none)
    (z_min : PySem.W.nsIn K mainGlobals "min" = some none)
    (z_zip : PySem.W.nsIn K mainGlobals "zip" = some none)
    {tNUMBERS : Tok}
    (qNUMBERS : PySem.W.nsIn K mainGlobals "NUMBERS" = some (some (.int 1000 tNUMBERS)))
    {tMOST_ASKS : Tok}
    (qMOST_ASKS : PySem.W.nsIn K mainGlobals "MOST_ASKS" = some (some (.int 3000 tMOST_ASKS)))
    {tHOME : Tok}
    (qHOME : PySem.W.nsIn K mainGlobals "HOME" = some (some (.str "home" tHOME)))
    (taSIMPLE_HEADS : PySem.W.nsIn K mainGlobals "SIMPLE_HEADS" = some (some (.ref tuSIMPLE_HEADS)))
    {tdSIMPLE_HEADS : Option Addr} {tnSIMPLE_HEADS : Nat} {tsSIMPLE_HEADS : Array (Option Value)} {tvSIMPLE_HEADS : Array Value}
    (tlSIMPLE_HEADS : K.lookup tuSIMPLE_HEADS = some ⟨.type "tuple", tdSIMPLE_HEADS, .seq tvSIMPLE_HEADS tnSIMPLE_HEADS, tsSIMPLE_HEADS⟩)
    (twSIMPLE_HEADS : Vals heads tvSIMPLE_HEADS.toList)
    (nTab1 : K.lookup pt1 = none)
    (hCode1 : PySem.W.codeHdIn K ca1 pt1 = true)
    (nTab2 : K.lookup pt2 = none)
    (hCode2 : PySem.W.codeHdIn K ca2 pt2 = true)
    (hpt : pt1 ≠ pt2)
    : (∀ p ∈ [(ca1, pt1), (ca2, pt2)], K.lookup p.2 = none) ∧ (∀ p ∈ [(ca1, pt1), (ca2, pt2)], PySem.W.CodeHd h p.1 p.2) ∧ ∃ fd : FuncData, (∀ (s : Shared) (v : Value), BindsTo s fd ⟨[v], []⟩ [("script", v)]) ∧ ∀ base : Heap, K.In base → base.Ns mainGlobals mg → (∀ p ∈ [(ca1, pt1), (ca2, pt2)], LamX.TabB base mg p.1 p.2) → FnG l.prog w K mg base CX0 70 fa fd ["script"] (spLawT K [(pt1, ("number_of.<locals>.<lambda>" : Str)), (pt2, ("TurnedRunning.pass_part.<locals>.<lambda>" : Str))]) := by
  have e := hfa.symm.trans (PySem.W.mg_of X G a51)
  cases e
  have T : Txt K mg := ⟨PySem.W.mg_none_of X G z_len, PySem.W.mg_none_of X G z_isinstance, PySem.W.mg_none_of X G z_int, PySem.W.mg_none_of X G z_tuple, PySem.W.mg_none_of X G z_list, PySem.W.mg_none_of X G z_str, PySem.W.mg_none_of X G z_bool, PySem.W.mg_none_of X G z_max, PySem.W.mg_none_of X G z_all, PySem.W.mg_none_of X G z_dict, PySem.W.mg_none_of X G z_range, PySem.W.mg_none_of X G z_enumerate, PySem.W.mg_none_of X G z_reversed⟩
  have hSIMPLE_HEADS : ∃ a, mg "SIMPLE_HEADS" = some (.ref a) ∧ ∀ H, SqT K H a heads := ⟨tuSIMPLE_HEADS, PySem.W.mg_of X G taSIMPLE_HEADS, fun H => .inr ⟨_, tvSIMPLE_HEADS, tnSIMPLE_HEADS, tlSIMPLE_HEADS, rfl, rfl, by
    have e9 := twSIMPLE_HEADS.length
    have e10 : heads.length = 4 := rfl
    rw [e10] at e9
    have e8 : tvSIMPLE_HEADS.size = 4 := by
      rw [← Array.length_toList]
      exact e9.symm
    rw [e8]
    decide, twSIMPLE_HEADS⟩⟩
  have XCN : XcT K mg "NoAsking" CN := ⟨PySem.W.mg_of X G gCN, xCN, kCN, bCN, tCN⟩
  have XCM : XcT K mg "NoMost" CM := ⟨PySem.W.mg_of X G gCM, xCM, kCM, bCM, tCM⟩
  have XU : TxU K mg CH CR := ⟨hne, ⟨pgCH, hdCH, poCH, saCH⟩, nCHpost, nCHwords, nCHhands, nCHheight, ⟨pgCR, hdCR, poCR, saCR⟩, nCRerrands, nCRmost, nCRtrail, nCRend, nCRdeepest, nCRmade, nCRasked, nCRpart, nCRwords, nCRhands, PySem.W.mg_of X G gCH, PySem.W.mg_of X G gCR, PySem.W.mg_none_of X G z_zip⟩
  have XT : TxT K mg := ⟨⟨_, PySem.W.mg_of X G qNUMBERS⟩, ⟨_, PySem.W.mg_of X G qHOME⟩⟩
  have F1 := fun_mk (st := splaced) l1 c1 k1
  have R1 : Ref K mg "placed" f1 _ ["name", "body", "parts"] := ⟨PySem.W.mg_of X G a1, k1, F1.binds (ps := ["name", "body", "parts"]) fun _ _ _ _ _ _ us hl => match us, hl with | [_, _, _], _ => rfl⟩
  have F2 := fun_mk (st := sremade) l2 c2 k2
  have R2 : Ref K mg "remade" f2 _ ["body", "parts", "made"] := ⟨PySem.W.mg_of X G a2, k2, F2.binds (ps := ["body", "parts", "made"]) fun _ _ _ _ _ _ us hl => match us, hl with | [_, _, _], _ => rfl⟩
  have F3 := fun_mk (st := slast_taken) l3 c3 k3
  have R3 : Ref K mg "last_taken" f3 _ ["got", "many"] := ⟨PySem.W.mg_of X G a3, k3, F3.binds (ps := ["got", "many"]) fun _ _ _ _ _ _ us hl => match us, hl with | [_, _], _ => rfl⟩
  have F4 := fun_mk (st := sis_whole) l4 c4 k4
  have R4 : Ref K mg "is_whole" f4 _ ["thing"] := ⟨PySem.W.mg_of X G a4, k4, F4.binds (ps := ["thing"]) fun _ _ _ _ _ _ us hl => match us, hl with | [_], _ => rfl⟩
  have F5 := fun_mk (st := sparts_of) l5 c5 k5
  have R5 : Ref K mg "parts_of" f5 _ ["term"] := ⟨PySem.W.mg_of X G a5, k5, F5.binds (ps := ["term"]) fun _ _ _ _ _ _ us hl => match us, hl with | [_], _ => rfl⟩
  have F6 := fun_mk (st := serrand_named) l6 c6 k6
  have R6 : Ref K mg "errand_named" f6 _ ["book", "f"] := ⟨PySem.W.mg_of X G a6, k6, F6.binds (ps := ["book", "f"]) fun _ _ _ _ _ _ us hl => match us, hl with | [_, _], _ => rfl⟩
  have F7 := fun_mk (st := sneed_errand) l7 c7 k7
  have R7 : Ref K mg "need_errand" f7 _ ["book", "f"] := ⟨PySem.W.mg_of X G a7, k7, F7.binds (ps := ["book", "f"]) fun _ _ _ _ _ _ us hl => match us, hl with | [_, _], _ => rfl⟩
  have F8 := fun_mk (st := sneed_asking) l8 c8 k8
  have R8 : Ref K mg "need_asking" f8 _ ["book", "f", "numbers"] := ⟨PySem.W.mg_of X G a8, k8, F8.binds (ps := ["book", "f", "numbers"]) fun _ _ _ _ _ _ us hl => match us, hl with | [_, _, _], _ => rfl⟩
  have F9 := fun_mk (st := sneed_most) l9 c9 k9
  have R9 : Ref K mg "need_most" f9 _ ["most", "least", "greatest"] := ⟨PySem.W.mg_of X G a9, k9, F9.binds (ps := ["most", "least", "greatest"]) fun _ _ _ _ _ _ us hl => match us, hl with | [_, _, _], _ => rfl⟩
  have F10 := fun_mk (st := sterms_in) l10 c10 k10
  have R10 : Ref K mg "terms_in" f10 _ ["part"] := ⟨PySem.W.mg_of X G a10, k10, F10.binds (ps := ["part"]) fun _ _ _ _ _ _ us hl => match us, hl with | [_], _ => rfl⟩
  have F11 := fun_mk (st := srest_of) l11 c11 k11
  have R11 : Ref K mg "rest_of" f11 _ ["part"] := ⟨PySem.W.mg_of X G a11, k11, F11.binds (ps := ["part"]) fun _ _ _ _ _ _ us hl => match us, hl with | [_], _ => rfl⟩
  have F12 := fun_mk (st := sturned_parts) l12 c12 k12
  have R12 : Ref K mg "turned_parts" f12 _ ["part"] := ⟨PySem.W.mg_of X G a12, k12, F12.binds (ps := ["part"]) fun _ _ _ _ _ _ us hl => match us, hl with | [_], _ => rfl⟩
  have F13 := fun_mk (st := shand_of) l13 c13 k13
  have R13 : Ref K mg "hand_of" f13 _ ["part"] := ⟨PySem.W.mg_of X G a13, k13, F13.binds (ps := ["part"]) fun _ _ _ _ _ _ us hl => match us, hl with | [_], _ => rfl⟩
  have F14 := fun_mk (st := smost_waiting) l14 c14 k14
  have R14 : Ref K mg "most_waiting" f14 _ ["turned", "f"] := ⟨PySem.W.mg_of X G a14, k14, F14.binds (ps := ["turned", "f"]) fun _ _ _ _ _ _ us hl => match us, hl with | [_, _], _ => rfl⟩
  have F15 := fun_mk (st := sasks_placed) l15 c15 k15
  have R15 : Ref K mg "asks_placed" f15 _ ["turned"] := ⟨PySem.W.mg_of X G a15, k15, F15.binds (ps := ["turned"]) fun _ _ _ _ _ _ us hl => match us, hl with | [_], _ => rfl⟩
  have F16 := fun_mk (st := srows_from) l16 c16 k16
  have R16 : Ref K mg "rows_from" f16 _ ["f", "asks"] := ⟨PySem.W.mg_of X G a16, k16, F16.binds (ps := ["f", "asks"]) fun _ _ _ _ _ _ us hl => match us, hl with | [_, _], _ => rfl⟩
  have F17 := fun_mk (st := sleast_levels) l17 c17 k17
  have R17 : Ref K mg "least_levels" f17 _ ["asks", "names"] := ⟨PySem.W.mg_of X G a17, k17, F17.binds (ps := ["asks", "names"]) fun _ _ _ _ _ _ us hl => match us, hl with | [_, _], _ => rfl⟩
  have F18 := fun_mk (st := sgreatest_row) l18 c18 k18
  have R18 : Ref K mg "greatest_row" f18 _ ["f", "asks", "levels"] := ⟨PySem.W.mg_of X G a18, k18, F18.binds (ps := ["f", "asks", "levels"]) fun _ _ _ _ _ _ us hl => match us, hl with | [_, _, _], _ => rfl⟩
  have F19 := fun_mk (st := sstep_down) l19 c19 k19
  have R19 : Ref K mg "step_down" f19 _ ["f", "asks", "levels"] := ⟨PySem.W.mg_of X G a19, k19, F19.binds (ps := ["f", "asks", "levels"]) fun _ _ _ _ _ _ us hl => match us, hl with | [_, _, _], _ => rfl⟩
  have F20 := fun_mk (st := sis_step_to) l20 c20 k20
  have R20 : Ref K mg "is_step_to" f20 _ ["level", "ask", "levels"] := ⟨PySem.W.mg_of X G a20, k20, F20.binds (ps := ["level", "ask", "levels"]) fun _ _ _ _ _ _ us hl => match us, hl with | [_, _, _], _ => rfl⟩
  have F21 := fun_mk (st := scombined) l21 c21 k21
  have R21 : Ref K mg "combined" f21 _ ["head", "first", "second"] := ⟨PySem.W.mg_of X G a21, k21, F21.binds (ps := ["head", "first", "second"]) fun _ _ _ _ _ _ us hl => match us, hl with | [_, _, _], _ => rfl⟩
  have F22 := fun_mk (st := snumber_of) l22 c22 k22
  have R22 : Ref K mg "number_of" f22 _ ["term", "words"] := ⟨PySem.W.mg_of X G a22, k22, F22.binds (ps := ["term", "words"]) fun _ _ _ _ _ _ us hl => match us, hl with | [_, _], _ => rfl⟩
  have F23 := fun_mk (st := snumber_by_parts) l23 c23 k23
  have R23 : Ref K mg "number_by_parts" f23 _ ["term", "told", "words"] := ⟨PySem.W.mg_of X G a23, k23, F23.binds (ps := ["term", "told", "words"]) fun _ _ _ _ _ _ us hl => match us, hl with | [_, _, _], _ => rfl⟩
  have F24 := fun_mk (st := spassed) l24 c24 k24
  have R24 : Ref K mg "passed" f24 _ ["part", "words", "hands", "made"] := ⟨PySem.W.mg_of X G a24, k24, F24.binds (ps := ["part", "words", "hands", "made"]) fun _ _ _ _ _ _ us hl => match us, hl with | [_, _, _, _], _ => rfl⟩
  have F25 := fun_mk (st := srun_turned) l25 c25 k25
  have R25 : Ref K mg "run_turned" f25 _ ["turned", "f", "numbers", "most"] := ⟨PySem.W.mg_of X G a25, k25, F25.binds (ps := ["turned", "f", "numbers", "most"]) fun _ _ _ _ _ _ us hl => match us, hl with | [_, _, _, _], _ => rfl⟩
  have F26 := fun_mk (st := s_law_cell_at) l26 c26 k26
  have R26 : Ref K mg "_law_cell_at" f26 _ ["script", "k"] := ⟨PySem.W.mg_of X G a26, k26, F26.binds (ps := ["script", "k"]) fun _ _ _ _ _ _ us hl => match us, hl with | [_, _], _ => rfl⟩
  have F27 := fun_mk (st := s_law_tape) l27 c27 k27
  have R27 : Ref K mg "_law_tape" f27 _ ["script", "k"] := ⟨PySem.W.mg_of X G a27, k27, F27.binds (ps := ["script", "k"]) fun _ _ _ _ _ _ us hl => match us, hl with | [_, _], _ => rfl⟩
  have F28 := fun_mk (st := s_law_digit) l28 c28 k28
  have R28 : Ref K mg "_law_digit" f28 _ ["tape", "many"] := ⟨PySem.W.mg_of X G a28, k28, F28.binds (ps := ["tape", "many"]) fun _ _ _ _ _ _ us hl => match us, hl with | [_, _], _ => rfl⟩
  have F29 := fun_mk (st := s_law_words) l29 c29 k29
  have R29 : Ref K mg "_law_words" f29 _ ["tape", "many"] := ⟨PySem.W.mg_of X G a29, k29, F29.binds (ps := ["tape", "many"]) fun _ _ _ _ _ _ us hl => match us, hl with | [_, _], _ => rfl⟩
  have F30 := fun_mk (st := s_law_number) l30 c30 k30
  have R30 : Ref K mg "_law_number" f30 _ ["tape"] := ⟨PySem.W.mg_of X G a30, k30, F30.binds (ps := ["tape"]) fun _ _ _ _ _ _ us hl => match us, hl with | [_], _ => rfl⟩
  have F31 := fun_mk (st := s_law_leaf) l31 c31 k31
  have R31 : Ref K mg "_law_leaf" f31 _ ["tape", "known", "around"] := ⟨PySem.W.mg_of X G a31, k31, F31.binds (ps := ["tape", "known", "around"]) fun _ _ _ _ _ _ us hl => match us, hl with | [_, _, _], _ => rfl⟩
  have F32 := fun_mk (st := s_law_shares) l32 c32 k32
  have R32 : Ref K mg "_law_shares" f32 _ ["tape", "room", "many"] := ⟨PySem.W.mg_of X G a32, k32, F32.binds (ps := ["tape", "room", "many"]) fun _ _ _ _ _ _ us hl => match us, hl with | [_, _, _], _ => rfl⟩
  have F33 := fun_mk (st := s_law_less_one) l33 c33 k33
  have R33 : Ref K mg "_law_less_one" f33 _ ["around"] := ⟨PySem.W.mg_of X G a33, k33, F33.binds (ps := ["around"]) fun _ _ _ _ _ _ us hl => match us, hl with | [_], _ => rfl⟩
  have F34 := fun_mk (st := s_law_numbers) l34 c34 k34
  have R34 : Ref K mg "_law_numbers" f34 _ ["tape", "many"] := ⟨PySem.W.mg_of X G a34, k34, F34.binds (ps := ["tape", "many"]) fun _ _ _ _ _ _ us hl => match us, hl with | [_, _], _ => rfl⟩
  have F35 := fun_mk (st := s_law_value) l35 c35 k35
  have R35 : Ref K mg "_law_value" f35 _ ["term", "names"] := ⟨PySem.W.mg_of X G a35, k35, F35.binds (ps := ["term", "names"]) fun _ _ _ _ _ _ us hl => match us, hl with | [_, _], _ => rfl⟩
  have F36 := fun_mk (st := s_law_turned_run) l36 c36 k36
  have R36 : Ref K mg "_law_turned_run" f36 _ ["turned", "f", "numbers", "most"] := ⟨PySem.W.mg_of X G a36, k36, F36.binds (ps := ["turned", "f", "numbers", "most"]) fun _ _ _ _ _ _ us hl => match us, hl with | [_, _, _, _], _ => rfl⟩
  have F37 := fun_mk (st := s_law_along) l37 c37 k37
  have R37 : Ref K mg "_law_along" f37 _ ["now", "part", "names", "hands"] := ⟨PySem.W.mg_of X G a37, k37, F37.binds (ps := ["now", "part", "names", "hands"]) fun _ _ _ _ _ _ us hl => match us, hl with | [_, _, _, _], _ => rfl⟩
  have F38 := fun_mk (st := s_law_simple) l38 c38 k38
  have R38 : Ref K mg "_law_simple" f38 _ ["tape", "around", "deep"] := ⟨PySem.W.mg_of X G a38, k38, F38.binds (ps := ["tape", "around", "deep"]) fun _ _ _ _ _ _ us hl => match us, hl with | [_, _, _], _ => rfl⟩
  have F39 := fun_mk (st := s_law_some_hand) l39 c39 k39
  have R39 : Ref K mg "_law_some_hand" f39 _ ["tape", "known", "hands"] := ⟨PySem.W.mg_of X G a39, k39, F39.binds (ps := ["tape", "known", "hands"]) fun _ _ _ _ _ _ us hl => match us, hl with | [_, _, _], _ => rfl⟩
  have F40 := fun_mk (st := s_law_end) l40 c40 k40
  have R40 : Ref K mg "_law_end" f40 _ ["tape", "known", "around", "hands"] := ⟨PySem.W.mg_of X G a40, k40, F40.binds (ps := ["tape", "known", "around", "hands"]) fun _ _ _ _ _ _ us hl => match us, hl with | [_, _, _, _], _ => rfl⟩
  have F41 := fun_mk (st := s_law_part) l41 c41 k41
  have R41 : Ref K mg "_law_part" f41 _ ["tape", "known", "around", "hands", "room", "deep"] := ⟨PySem.W.mg_of X G a41, k41, F41.binds (ps := ["tape", "known", "around", "hands", "room", "deep"]) fun _ _ _ _ _ _ us hl => match us, hl with | [_, _, _, _, _, _], _ => rfl⟩
  have F42 := fun_mk (st := s_law_turned_body) l42 c42 k42
  have R42 : Ref K mg "_law_turned_body" f42 _ ["tape", "known", "names"] := ⟨PySem.W.mg_of X G a42, k42, F42.binds (ps := ["tape", "known", "names"]) fun _ _ _ _ _ _ us hl => match us, hl with | [_, _, _], _ => rfl⟩
  have F43 := fun_mk (st := s_law_turned_book) l43 c43 k43
  have R43 : Ref K mg "_law_turned_book" f43 _ ["script", "start", "straight"] := ⟨PySem.W.mg_of X G a43, k43, F43.binds (ps := ["script", "start", "straight"]) fun _ _ _ _ _ _ us hl => match us, hl with | [_, _, _], _ => rfl⟩
  have F44 := fun_mk (st := s_law_kids) l44 c44 k44
  have R44 : Ref K mg "_law_kids" f44 _ ["part"] := ⟨PySem.W.mg_of X G a44, k44, F44.binds (ps := ["part"]) fun _ _ _ _ _ _ us hl => match us, hl with | [_], _ => rfl⟩
  have F45 := fun_mk (st := s_law_all) l45 c45 k45
  have R45 : Ref K mg "_law_all" f45 _ ["part", "place"] := ⟨PySem.W.mg_of X G a45, k45, F45.binds (ps := ["part", "place"]) fun _ _ _ _ _ _ us hl => match us, hl with | [_, _], _ => rfl⟩
  have F46 := fun_mk (st := s_law_web_part) l46 c46 k46
  have R46 : Ref K mg "_law_web_part" f46 _ ["tape", "known", "hands", "room"] := ⟨PySem.W.mg_of X G a46, k46, F46.binds (ps := ["tape", "known", "hands", "room"]) fun _ _ _ _ _ _ us hl => match us, hl with | [_, _, _, _], _ => rfl⟩
  have F47 := fun_mk (st := s_law_web) l47 c47 k47
  have R47 : Ref K mg "_law_web" f47 _ ["script", "start"] := ⟨PySem.W.mg_of X G a47, k47, F47.binds (ps := ["script", "start"]) fun _ _ _ _ _ _ us hl => match us, hl with | [_, _], _ => rfl⟩
  have F48 := fun_mk (st := s_law_asks) l48 c48 k48
  have R48 : Ref K mg "_law_asks" f48 _ ["turned"] := ⟨PySem.W.mg_of X G a48, k48, F48.binds (ps := ["turned"]) fun _ _ _ _ _ _ us hl => match us, hl with | [_], _ => rfl⟩
  have F49 := fun_mk (st := s_law_row_end) l49 c49 k49
  have R49 : Ref K mg "_law_row_end" f49 _ ["asks", "f", "row"] := ⟨PySem.W.mg_of X G a49, k49, F49.binds (ps := ["asks", "f", "row"]) fun _ _ _ _ _ _ us hl => match us, hl with | [_, _, _], _ => rfl⟩
  have F50 := fun_mk (st := s_law_waits_book) l50 c50 k50
  have R50 : Ref K mg "_law_waits_book" f50 _ ["script", "tape"] := ⟨PySem.W.mg_of X G a50, k50, F50.binds (ps := ["script", "tape"]) fun _ _ _ _ _ _ us hl => match us, hl with | [_, _], _ => rfl⟩
  have F51 := fun_mk (st := slaw) l51 c51 k51
  have MF1 := fun_mk (st := sHonI) ml1 mc1 mk1
  have Mb1 := MF1.binds (ps := ["self", "post", "words", "hands", "height"]) fun _ _ _ _ _ _ us hl => match us, hl with | [_, _, _, _, _], _ => rfl
  have MF2 := fun_mk (st := sTRun0) ml2 mc2 mk2
  have Mb2 := MF2.binds (ps := ["self", "turned", "most"]) fun _ _ _ _ _ _ us hl => match us, hl with | [_, _, _], _ => rfl
  have MF3 := fun_mk (st := sGoT) ml3 mc3 mk3
  have Mb3 := MF3.binds (ps := ["self"]) fun _ _ _ _ _ _ us hl => match us, hl with | [_], _ => rfl
  have MF4 := fun_mk (st := sAskT) ml4 mc4 mk4
  have Mb4 := MF4.binds (ps := ["self", "f", "numbers", "home"]) fun _ _ _ _ _ _ us hl => match us, hl with | [_, _, _, _], _ => rfl
  have MF5 := fun_mk (st := sPassP) ml5 mc5 mk5
  have Mb5 := MF5.binds (ps := ["self"]) fun _ _ _ _ _ _ us hl => match us, hl with | [_], _ => rfl
  have MF6 := fun_mk (st := sGive) ml6 mc6 mk6
  have Mb6 := MF6.binds (ps := ["self", "hand", "number"]) fun _ _ _ _ _ _ us hl => match us, hl with | [_, _, _], _ => rfl
  have MF7 := fun_mk (st := sMake) ml7 mc7 mk7
  have Mb7 := MF7.binds (ps := ["self", "post", "words", "hands"]) fun _ _ _ _ _ _ us hl => match us, hl with | [_, _, _, _], _ => rfl
  have FC1 := funC_mk (st := snumber_of) l22 c22
  have FC2 := funC_mk (st := sPassP) ml5 mc5
  refine ⟨two_mem nTab1 nTab2, two_mem (PySem.W.codeHd_of_K X hCode1) (PySem.W.codeHd_of_K X hCode2), ?_⟩
  refine ⟨PySem.W.fnOf "law" "law" (defArgs slaw) (defBody slaw) (defScope slaw) .none kV51 dc51 pm51 an51 cd51 ct51, fun s v => .of_eq rfl, fun base _ _ TBs => ?_⟩
  have TB1 := TBs (ca1, pt1) List.mem_cons_self
  have TB2 := TBs (ca2, pt2) (List.mem_cons_of_mem _ List.mem_cons_self)
  have G_law_cell_at := ok_cell (P := l.prog) (w := w) (mg := mg) (base := base) T F26
  have G_law_tape := ok_tape (P := l.prog) (w := w) (mg := mg) (base := base) T F27 G_law_cell_at R26
  have G_law_digit := ok_dig (P := l.prog) (w := w) (mg := mg) (base := base) F28
  have G_law_words := ok_words (P := l.prog) (w := w) (mg := mg) (base := base) T F29 G_law_digit R28
  have G_law_number := ok_num (P := l.prog) (w := w) (mg := mg) (base := base) F30 G_law_digit R28
  have G_law_leaf := ok_leaf (P := l.prog) (w := w) (mg := mg) (base := base) T F31 G_law_digit R28 G_law_number R30
  have G_law_shares := ok_shares (P := l.prog) (w := w) (mg := mg) (base := base) T F32 G_law_digit R28
  have G_law_less_one := ok_less (P := l.prog) (w := w) (mg := mg) (base := base) F33
  have G_law_simple := all_simple (P := l.prog) (w := w) (mg := mg) (base := base) T F38 G_law_digit R28 G_law_leaf R31 R38
  have G_law_some_hand := ok_hand (P := l.prog) (w := w) (mg := mg) (base := base) T F39 G_law_digit R28
  have G_law_end := ok_end (P := l.prog) (w := w) (mg := mg) (base := base) T F40 G_law_digit R28 G_law_some_hand R39 G_law_less_one R33 G_law_simple R38
  have G_law_part := all_part (P := l.prog) (w := w) (mg := mg) (base := base) T F41 G_law_digit R28 G_law_some_hand R39 G_law_end R40 G_law_simple R38 G_law_shares R32 R41 8
  have G_law_turned_body := ok_tbody (P := l.prog) (w := w) (mg := mg) (base := base) T F42 G_law_digit R28 G_law_part R41
  have G_law_turned_book := ok_tbook (P := l.prog) (w := w) (mg := mg) (base := base) T F43 G_law_digit R28 G_law_tape R27 G_law_words R29 G_law_turned_body R42
  have Gparts_of := ok_parts (P := l.prog) (w := w) (mg := mg) (base := base) F5
  have Gterms_in := ok_tin (P := l.prog) (w := w) (mg := mg) (base := base) F10
  have Ghand_of := ok_handof (P := l.prog) (w := w) (mg := mg) (base := base) F13
  have Glast_taken := ok_last (P := l.prog) (w := w) (mg := mg) (base := base) T F3
  have Gcombined := ok_combined (P := l.prog) (w := w) (mg := mg) (base := base) XT F21
  have Gnumber_by_parts := ok_nbp (P := l.prog) (w := w) (mg := mg) (base := base) F23 Gcombined R21
  have Grem : ∀ env : KB.Env, _ := fun env => okL_remade (P := l.prog) (w := w) (mg := mg) (base := base) (kl := 3) (TrV env) SInt (fun t bs => evH env (hdT t) bs) (evS env) (evS_eq env) (fun k z => z) (tabs_jx [(pt1, ("number_of.<locals>.<lambda>" : Str)), (pt2, ("TurnedRunning.pass_part.<locals>.<lambda>" : Str))]) T F2 (kids_p (env := env) Gparts_of) R5.k R5.b Glast_taken R3
  have Gnumber_of := ok_nof (P := l.prog) (w := w) (mg := mg) (base := base) T TB1 List.mem_cons_self (two_1 hpt) FC1 Grem R2 R5 Gnumber_by_parts R23
  have Gpas : ∀ (p dx : Addr) (r : TV), _ := fun p dx r => ok_passed (P := l.prog) (w := w) (mg := mg) (base := base) (MT XU.ne) (jt_jx (CR := CR) (p := p) (dx := dx) (r := r)) T F24 Gnumber_of R22 Gterms_in R10 Ghand_of R13
  have GHandOn___init__ := ok_honI (P := l.prog) (w := w) (mg := mg) (base := base) XU MF1
  have GTurnedRunning_make := ok_make (P := l.prog) (w := w) (mg := mg) (base := base) XU XT MF7 ⟨msCH, ma1, mi1, kcCH⟩ GHandOn___init__ Mb1
  have GTurnedRunning_ask := ok_askT (P := l.prog) (w := w) (mg := mg) (base := base) T XU XT MF4 (TT := [(pt1, ("number_of.<locals>.<lambda>" : Str)), (pt2, ("TurnedRunning.pass_part.<locals>.<lambda>" : Str))])
  have GTurnedRunning_give := ok_give (P := l.prog) (w := w) (mg := mg) (base := base) XU MF6 (TT := [(pt1, ("number_of.<locals>.<lambda>" : Str)), (pt2, ("TurnedRunning.pass_part.<locals>.<lambda>" : Str))])
  have GTurnedRunning_pass_part := ok_passP (P := l.prog) (w := w) (mg := mg) (base := base) T XU TB2 (List.mem_cons_of_mem _ List.mem_cons_self) (two_2 hpt) FC2 Gpas R24 GTurnedRunning_make Mb7 ⟨ma7, mi7, mk7⟩ GTurnedRunning_ask Mb4 ⟨ma4, mi4, mk4⟩ GTurnedRunning_give Mb6 ⟨ma6, mi6, mk6⟩
  have GTurnedRunning_go := ok_goT (P := l.prog) (w := w) (mg := mg) (base := base) XU MF3 GTurnedRunning_pass_part Mb5 ⟨ma5, mi5, mk5⟩
  have GTurnedRunning___init__ := ok_trun0 (P := l.prog) (w := w) (mg := mg) (base := base) XU MF2 (TT := [(pt1, ("number_of.<locals>.<lambda>" : Str)), (pt2, ("TurnedRunning.pass_part.<locals>.<lambda>" : Str))])
  have Gis_whole := ok_whole (P := l.prog) (w := w) (mg := mg) (base := base) T F4
  have Gerrand_named := ok_nam (P := l.prog) (w := w) (mg := mg) (base := base) F6
  have Gneed_errand := ok_needE (P := l.prog) (w := w) (mg := mg) (base := base) XCN F7 Gerrand_named R6
  have Gneed_asking := ok_need (P := l.prog) (w := w) (mg := mg) (base := base) T XCN F8 Gneed_errand R7 Gerrand_named R6 Gis_whole R4
  have Gneed_most := ok_most (P := l.prog) (w := w) (mg := mg) (base := base) XCM F9 Gis_whole R4
  have Grun_turned := ok_runT (P := l.prog) (w := w) (mg := mg) (base := base) XU ⟨_, PySem.W.mg_of X G qMOST_ASKS⟩ F25 Gneed_asking R8 Gneed_most R9 ⟨msCR, ma2, mi2, kcCR⟩ GTurnedRunning___init__ Mb2 ⟨msCH, ma1, mi1, kcCH⟩ GHandOn___init__ Mb1 GTurnedRunning_ask Mb4 ⟨ma4, mi4, mk4⟩ GTurnedRunning_go Mb3 ⟨ma3, mi3, mk3⟩
  have G_law_numbers := ok_nums (P := l.prog) (w := w) (mg := mg) (base := base) T F34 G_law_digit R28
  have G_law_value := all_value (P := l.prog) (w := w) (mg := mg) (base := base) T F35 R35 64
  have G_law_along := ok_along (P := l.prog) (w := w) (mg := mg) (base := base) T F37 G_law_value R35
  have G_law_turned_run := ok_lrunT (P := l.prog) (w := w) (mg := mg) (base := base) T F36 G_law_along R37
  have Grest_of := ok_rest (P := l.prog) (w := w) (mg := mg) (base := base) F11
  have Gturned_parts := ok_tparts (P := l.prog) (w := w) (mg := mg) (base := base) hSIMPLE_HEADS F12 Gparts_of R5 Gterms_in R10 Grest_of R11
  have Gplaced := ok_placed (P := l.prog) (w := w) (mg := mg) (base := base) TrN T F1 Gturned_parts R12.k R12.b
  have Gasks_placed := ok_asks (P := l.prog) (w := w) (mg := mg) (base := base) (PySem.W.mg_of X G qHOME) ⟨_, rfl⟩ F15 Gplaced R1 R12
  have Grows_from := ok_rows (P := l.prog) (w := w) (mg := mg) (base := base) F16
  have GrowsZ := ok_rowsZ (P := l.prog) (w := w) (mg := mg) (base := base) F16
  have Gleast_levels := ok_least (P := l.prog) (w := w) (mg := mg) (base := base) F17
  have Gis_step_to := ok_step (P := l.prog) (w := w) (mg := mg) (base := base) F20
  have Gstep_down := ok_down (P := l.prog) (w := w) (mg := mg) (base := base) F19 Grows_from R16 Gis_step_to R20
  have Ggreatest_row := ok_great (P := l.prog) (w := w) (mg := mg) (base := base) F18 Gstep_down R19
  have Gmost_waiting := ok_mw (P := l.prog) (w := w) (mg := mg) (base := base) F14 Gneed_errand R7 Gasks_placed R15 Grows_from GrowsZ R16 Gleast_levels R17 Ggreatest_row R18 T
  have G_law_web_part := all_webp (P := l.prog) (w := w) (mg := mg) (base := base) T F46 G_law_digit R28 R46 5
  have G_law_web := ok_web (P := l.prog) (w := w) (mg := mg) (base := base) T F47 G_law_digit R28 G_law_tape R27 G_law_words R29 G_law_web_part R46
  have G_law_waits_book := ok_waits (P := l.prog) (w := w) (mg := mg) (base := base) F50 G_law_digit R28 G_law_turned_book R43 G_law_web R47
  have G_law_kids := ok_lkids (P := l.prog) (w := w) (mg := mg) (base := base) F44
  have G_law_all := all_lall (P := l.prog) (w := w) (mg := mg) (base := base) F45 G_law_kids R44 R45 31
  have G_law_asks := ok_lasks (P := l.prog) (w := w) (mg := mg) (base := base) T F48 G_law_all R45
  have G_law_row_end := ok_rowend (P := l.prog) (w := w) (mg := mg) (base := base) F49
  exact okg (ok_law T F51 G_law_waits_book R50 G_law_tape R27 G_law_digit R28 G_law_numbers R34 Grun_turned R25 G_law_turned_run R36 Gmost_waiting R14 G_law_asks R48 G_law_row_end R49)
theorem walkT {l : PySem.W.OpenLaw} {q : Program} {loose : List Str} {XP : (Str → Option Value) → Heap → Prop} {YP : World → Heap → Prop} {d : DefRec} {K : Params → PySem.W.Frag} (hn : l.most = some 63) (hdf : d.params.defaults = [])
    (hY : ∀ (w : World) (h : Heap), YP w h → (K w.params).In h)
    (F : ∀ (w : World) (mg : Str → Option Value) (fa : Addr) (h : Heap), YP w h → (K w.params).In h → h.Ns mainGlobals mg → mg d.name = some (.ref fa) → ∃ ca1 pt1 ca2 pt2 : Addr, (h.get? pt1 = some { cls := .none, data := .fields #[] } ∧ h.get? pt2 = some { cls := .none, data := .fields #[] }) ∧
      (∀ p ∈ [(ca1, pt1), (ca2, pt2)], (K w.params).lookup p.2 = none) ∧ (∀ p ∈ [(ca1, pt1), (ca2, pt2)], PySem.W.CodeHd h p.1 p.2) ∧ ∃ fd : FuncData, (∀ (s : Shared) (u : Value), BindsTo s fd ⟨[u], []⟩ [("script", u)]) ∧ ∀ base : Heap, (K w.params).In base → base.Ns mainGlobals mg → (∀ p ∈ [(ca1, pt1), (ca2, pt2)], LamX.TabB base mg p.1 p.2) → FnG l.prog w (K w.params) mg base CX0 70 fa fd ["script"] (spLawT (K w.params) [(pt1, ("number_of.<locals>.<lambda>" : Str)), (pt2, ("TurnedRunning.pass_part.<locals>.<lambda>" : Str))])) :
    PySem.W.WalkO q loose XP YP l.row.toRowW d [] (fun f vs => PySem.call f vs) := by
  refine walk_GT (n := 63) (k := 70) (x := "script") hn (by decide) hdf ⟨rfl, by decide, by decide⟩ hY fun w mg fa h Y KX G hmg => ?_
  obtain ⟨ca1, pt1, ca2, pt2, hT, hN, hC, fd, hb, hF⟩ := F w mg fa h Y KX G hmg
  refine ⟨fd, [(ca1, pt1), (ca2, pt2)], spLawT (K w.params) [(pt1, ("number_of.<locals>.<lambda>" : Str)), (pt2, ("TurnedRunning.pass_part.<locals>.<lambda>" : Str))], two_mem hT.1 hT.2, hN, hC, hb, fun H a ns hl hS hL => ⟨a, ns, rfl, hL, hl, ?_, fun _ => rfl⟩, fun base hK hG hTB => hF base hK hG hTB⟩
  exact two_mem (LamX.TabS.nil (hS _ List.mem_cons_self)) (LamX.TabS.nil (hS _ (List.mem_cons_of_mem _ List.mem_cons_self)))
end KB

open PySem PySem.W PyProof.Rows in
set_option maxRecDepth 100000 in
set_option maxHeartbeats 0 in
theorem PySem.Challenge.cw_whatnext_k57_whole_never_above_the_most_holds : PySem.Challenge.rw_whatnext_k57_whole_never_above_the_most.Holds := by
  w_on; o_law; k_head; (case hw => w_witness2)
  k_fill
  refine KB.walkT (l := PySem.Challenge.rw_whatnext_k57_whole_never_above_the_most) rfl rfl (fun w h Y => PySem.W.km_in_of Y) ?F
  case F =>
    intro w mg fa h Y KX G hmg
    km_tabs Y
    refine' ⟨_, _, _, _, ⟨hT8 _ List.mem_cons_self, hT8 _ (List.mem_cons_of_mem _ List.mem_cons_self)⟩, KB.all_mk KX G hmg ?a1 ?l1 ?c1 ?k1 ?a2 ?l2 ?c2 ?k2 ?a3 ?l3 ?c3 ?k3 ?a4 ?l4 ?c4 ?k4 ?a5 ?l5 ?c5 ?k5 ?a6 ?l6 ?c6 ?k6 ?a7 ?l7 ?c7 ?k7 ?a8 ?l8 ?c8 ?k8 ?a9 ?l9 ?c9 ?k9 ?a10 ?l10 ?c10 ?k10 ?a11 ?l11 ?c11 ?k11 ?a12 ?l12 ?c12 ?k12 ?a13 ?l13 ?c13 ?k13 ?a14 ?l14 ?c14 ?k14 ?a15 ?l15 ?c15 ?k15 ?a16 ?l16 ?c16 ?k16 ?a17 ?l17 ?c17 ?k17 ?a18 ?l18 ?c18 ?k18 ?a19 ?l19 ?c19 ?k19 ?a20 ?l20 ?c20 ?k20 ?a21 ?l21 ?c21 ?k21 ?a22 ?l22 ?c22 ?k22 ?a23 ?l23 ?c23 ?k23 ?a24 ?l24 ?c24 ?k24 ?a25 ?l25 ?c25 ?k25 ?a26 ?l26 ?c26 ?k26 ?a27 ?l27 ?c27 ?k27 ?a28 ?l28 ?c28 ?k28 ?a29 ?l29 ?c29 ?k29 ?a30 ?l30 ?c30 ?k30 ?a31 ?l31 ?c31 ?k31 ?a32 ?l32 ?c32 ?k32 ?a33 ?l33 ?c33 ?k33 ?a34 ?l34 ?c34 ?k34 ?a35 ?l35 ?c35 ?k35 ?a36 ?l36 ?c36 ?k36 ?a37 ?l37 ?c37 ?k37 ?a38 ?l38 ?c38 ?k38 ?a39 ?l39 ?c39 ?k39 ?a40 ?l40 ?c40 ?k40 ?a41 ?l41 ?c41 ?k41 ?a42 ?l42 ?c42 ?k42 ?a43 ?l43 ?c43 ?k43 ?a44 ?l44 ?c44 ?k44 ?a45 ?l45 ?c45 ?k45 ?a46 ?l46 ?c46 ?k46 ?a47 ?l47 ?c47 ?k47 ?a48 ?l48 ?c48 ?k48 ?a49 ?l49 ?c49 ?k49 ?a50 ?l50 ?c50 ?k50 ?a51 ?l51 ?c51 ?k51 ?gCH ?gCR ?ma1 ?mi1 ?ml1 ?mc1 ?mk1 ?ma2 ?mi2 ?ml2 ?mc2 ?mk2 ?ma3 ?mi3 ?ml3 ?mc3 ?mk3 ?ma4 ?mi4 ?ml4 ?mc4 ?mk4 ?ma5 ?mi5 ?ml5 ?mc5 ?mk5 ?ma6 ?mi6 ?ml6 ?mc6 ?mk6 ?ma7 ?mi7 ?ml7 ?mc7 ?mk7 ?pgCH ?hdCH ?poCH ?saCH ?msCH ?kcCH ?nCHpost ?nCHwords ?nCHhands ?nCHheight ?pgCR ?hdCR ?poCR ?saCR ?msCR ?kcCR ?nCRerrands ?nCRmost ?nCRtrail ?nCRend ?nCRdeepest ?nCRmade ?nCRasked ?nCRpart ?nCRwords ?nCRhands ?gCN ?xCN ?kCN ?bCN ?tCN ?gCM ?xCM ?kCM ?bCM ?tCM ?hne ?z_len ?z_isinstance ?z_int ?z_tuple ?z_list ?z_str ?z_bool ?z_max ?z_all ?z_dict ?z_range ?z_enumerate ?z_reversed ?z_min ?z_zip ?qNUMBERS ?qMOST_ASKS ?qHOME ?taSIMPLE_HEADS ?tlSIMPLE_HEADS ?twSIMPLE_HEADS ?nTab1 ?hCode1 ?nTab2 ?hCode2 ?hpt⟩
    (case a1 => k_is)
    (case l1 => k_is)
    (case c1 => k_is)
    (case k1 => k_is)
    (case a2 => k_is)
    (case l2 => k_is)
    (case c2 => k_is)
    (case k2 => k_is)
    (case a3 => k_is)
    (case l3 => k_is)
    (case c3 => k_is)
    (case k3 => k_is)
    (case a4 => k_is)
    (case l4 => k_is)
    (case c4 => k_is)
    (case k4 => k_is)
    (case a5 => k_is)
    (case l5 => k_is)
    (case c5 => k_is)
    (case k5 => k_is)
    (case a6 => k_is)
    (case l6 => k_is)
    (case c6 => k_is)
    (case k6 => k_is)
    (case a7 => k_is)
    (case l7 => k_is)
    (case c7 => k_is)
    (case k7 => k_is)
    (case a8 => k_is)
    (case l8 => k_is)
    (case c8 => k_is)
    (case k8 => k_is)
    (case a9 => k_is)
    (case l9 => k_is)
    (case c9 => k_is)
    (case k9 => k_is)
    (case a10 => k_is)
    (case l10 => k_is)
    (case c10 => k_is)
    (case k10 => k_is)
    (case a11 => k_is)
    (case l11 => k_is)
    (case c11 => k_is)
    (case k11 => k_is)
    (case a12 => k_is)
    (case l12 => k_is)
    (case c12 => k_is)
    (case k12 => k_is)
    (case a13 => k_is)
    (case l13 => k_is)
    (case c13 => k_is)
    (case k13 => k_is)
    (case a14 => k_is)
    (case l14 => k_is)
    (case c14 => k_is)
    (case k14 => k_is)
    (case a15 => k_is)
    (case l15 => k_is)
    (case c15 => k_is)
    (case k15 => k_is)
    (case a16 => k_is)
    (case l16 => k_is)
    (case c16 => k_is)
    (case k16 => k_is)
    (case a17 => k_is)
    (case l17 => k_is)
    (case c17 => k_is)
    (case k17 => k_is)
    (case a18 => k_is)
    (case l18 => k_is)
    (case c18 => k_is)
    (case k18 => k_is)
    (case a19 => k_is)
    (case l19 => k_is)
    (case c19 => k_is)
    (case k19 => k_is)
    (case a20 => k_is)
    (case l20 => k_is)
    (case c20 => k_is)
    (case k20 => k_is)
    (case a21 => k_is)
    (case l21 => k_is)
    (case c21 => k_is)
    (case k21 => k_is)
    (case a22 => k_is)
    (case l22 => k_is)
    (case c22 => k_is)
    (case k22 => k_is)
    (case a23 => k_is)
    (case l23 => k_is)
    (case c23 => k_is)
    (case k23 => k_is)
    (case a24 => k_is)
    (case l24 => k_is)
    (case c24 => k_is)
    (case k24 => k_is)
    (case a25 => k_is)
    (case l25 => k_is)
    (case c25 => k_is)
    (case k25 => k_is)
    (case a26 => k_is)
    (case l26 => k_is)
    (case c26 => k_is)
    (case k26 => k_is)
    (case a27 => k_is)
    (case l27 => k_is)
    (case c27 => k_is)
    (case k27 => k_is)
    (case a28 => k_is)
    (case l28 => k_is)
    (case c28 => k_is)
    (case k28 => k_is)
    (case a29 => k_is)
    (case l29 => k_is)
    (case c29 => k_is)
    (case k29 => k_is)
    (case a30 => k_is)
    (case l30 => k_is)
    (case c30 => k_is)
    (case k30 => k_is)
    (case a31 => k_is)
    (case l31 => k_is)
    (case c31 => k_is)
    (case k31 => k_is)
    (case a32 => k_is)
    (case l32 => k_is)
    (case c32 => k_is)
    (case k32 => k_is)
    (case a33 => k_is)
    (case l33 => k_is)
    (case c33 => k_is)
    (case k33 => k_is)
    (case a34 => k_is)
    (case l34 => k_is)
    (case c34 => k_is)
    (case k34 => k_is)
    (case a35 => k_is)
    (case l35 => k_is)
    (case c35 => k_is)
    (case k35 => k_is)
    (case a36 => k_is)
    (case l36 => k_is)
    (case c36 => k_is)
    (case k36 => k_is)
    (case a37 => k_is)
    (case l37 => k_is)
    (case c37 => k_is)
    (case k37 => k_is)
    (case a38 => k_is)
    (case l38 => k_is)
    (case c38 => k_is)
    (case k38 => k_is)
    (case a39 => k_is)
    (case l39 => k_is)
    (case c39 => k_is)
    (case k39 => k_is)
    (case a40 => k_is)
    (case l40 => k_is)
    (case c40 => k_is)
    (case k40 => k_is)
    (case a41 => k_is)
    (case l41 => k_is)
    (case c41 => k_is)
    (case k41 => k_is)
    (case a42 => k_is)
    (case l42 => k_is)
    (case c42 => k_is)
    (case k42 => k_is)
    (case a43 => k_is)
    (case l43 => k_is)
    (case c43 => k_is)
    (case k43 => k_is)
    (case a44 => k_is)
    (case l44 => k_is)
    (case c44 => k_is)
    (case k44 => k_is)
    (case a45 => k_is)
    (case l45 => k_is)
    (case c45 => k_is)
    (case k45 => k_is)
    (case a46 => k_is)
    (case l46 => k_is)
    (case c46 => k_is)
    (case k46 => k_is)
    (case a47 => k_is)
    (case l47 => k_is)
    (case c47 => k_is)
    (case k47 => k_is)
    (case a48 => k_is)
    (case l48 => k_is)
    (case c48 => k_is)
    (case k48 => k_is)
    (case a49 => k_is)
    (case l49 => k_is)
    (case c49 => k_is)
    (case k49 => k_is)
    (case a50 => k_is)
    (case l50 => k_is)
    (case c50 => k_is)
    (case k50 => k_is)
    (case a51 => k_is)
    (case l51 => k_is)
    (case c51 => k_is)
    (case k51 => k_is)
    (case gCH => k_is)
    (case gCR => k_is)
    (case ma1 => k_is)
    (case mi1 => k_is)
    (case ml1 => k_is)
    (case mc1 => k_is)
    (case mk1 => k_is)
    (case ma2 => k_is)
    (case mi2 => k_is)
    (case ml2 => k_is)
    (case mc2 => k_is)
    (case mk2 => k_is)
    (case ma3 => k_is)
    (case mi3 => k_is)
    (case ml3 => k_is)
    (case mc3 => k_is)
    (case mk3 => k_is)
    (case ma4 => k_is)
    (case mi4 => k_is)
    (case ml4 => k_is)
    (case mc4 => k_is)
    (case mk4 => k_is)
    (case ma5 => k_is)
    (case mi5 => k_is)
    (case ml5 => k_is)
    (case mc5 => k_is)
    (case mk5 => k_is)
    (case ma6 => k_is)
    (case mi6 => k_is)
    (case ml6 => k_is)
    (case mc6 => k_is)
    (case mk6 => k_is)
    (case ma7 => k_is)
    (case mi7 => k_is)
    (case ml7 => k_is)
    (case mc7 => k_is)
    (case mk7 => k_is)
    (case pgCH => k_is)
    (case hdCH => k_is)
    (case poCH => k_is)
    (case saCH => k_is)
    (case msCH => k_is)
    (case kcCH => k_is)
    (case nCHpost => k_is)
    (case nCHwords => k_is)
    (case nCHhands => k_is)
    (case nCHheight => k_is)
    (case pgCR => k_is)
    (case hdCR => k_is)
    (case poCR => k_is)
    (case saCR => k_is)
    (case msCR => k_is)
    (case kcCR => k_is)
    (case nCRerrands => k_is)
    (case nCRmost => k_is)
    (case nCRtrail => k_is)
    (case nCRend => k_is)
    (case nCRdeepest => k_is)
    (case nCRmade => k_is)
    (case nCRasked => k_is)
    (case nCRpart => k_is)
    (case nCRwords => k_is)
    (case nCRhands => k_is)
    (case gCN => k_is)
    (case xCN => k_exc)
    (case kCN => k_is)
    (case bCN => k_is)
    (case tCN => k_is)
    (case gCM => k_is)
    (case xCM => k_exc)
    (case kCM => k_is)
    (case bCM => k_is)
    (case tCM => k_is)
    (case hne => decide)
    (case z_len => k_is)
    (case z_isinstance => k_is)
    (case z_int => k_is)
    (case z_tuple => k_is)
    (case z_list => k_is)
    (case z_str => k_is)
    (case z_bool => k_is)
    (case z_max => k_is)
    (case z_all => k_is)
    (case z_dict => k_is)
    (case z_range => k_is)
    (case z_enumerate => k_is)
    (case z_reversed => k_is)
    (case z_min => k_is)
    (case z_zip => k_is)
    (case qNUMBERS => k_is)
    (case qMOST_ASKS => k_is)
    (case qHOME => k_is)
    (case taSIMPLE_HEADS => k_is)
    (case tlSIMPLE_HEADS => k_is)
    (case twSIMPLE_HEADS => exact .cons ⟨_, rfl⟩ (.cons ⟨_, rfl⟩ (.cons ⟨_, rfl⟩ (.cons ⟨_, rfl⟩ (.nil)))))
    (case nTab1 => kernel_rfl)
    (case hCode1 => kernel_rfl)
    (case nTab2 => kernel_rfl)
    (case hCode2 => kernel_rfl)
    (case hpt => decide)
#print axioms PySem.Challenge.cw_whatnext_k57_whole_never_above_the_most_holds
